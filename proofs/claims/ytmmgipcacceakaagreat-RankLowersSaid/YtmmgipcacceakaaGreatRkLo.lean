/-
  The initial, the tail, the derivative of a polynomial are of lower ranks; what is of a lower class is reduced.
-/
import Derived.Test.YtmmgipcacceakaaGreatGRk1
import Derived.Test.YtmmgipcacceakaaGreatVLow
set_option maxHeartbeats 40000000
set_option maxRecDepth 100000
namespace Go.Proofs.YtmmgipcacceakaaGreat
open Go.RowKit
theorem lower_cls {a p : List Term} (h : clsP a < clsP p) : cmpRk (rkP a) (rkP p) = -1 := by
 rcases cmpRk_is (rkP a) (rkP p) with ⟨_, e⟩ | ⟨h1, _⟩ | ⟨_, h1, _⟩
 ·exact e
 ·rw [lt_iff] at h1; have : clsP p < clsP a ∨ clsP p = clsP a ∧ _ := h1; omega
 ·rw [lt_not] at h1; have : clsP p < clsP a ∨ clsP p = clsP a ∧ _ := h1; omega
theorem lower_of {a p : List Term} (ha : fall a) (hp : 0 < clsP p) (h1 : ∀ u, clsP p < u → degP a u = 0) (h2 : degP a (clsP p) < degP p (clsP p)) : cmpRk (rkP a) (rkP p) = -1 := by
 have hc : clsP a ≤ clsP p := Int.not_lt.1 fun h => by
  have := clsP_here ha (by omega)
  rw [h1 _ h] at this
  omega
 by_cases h : clsP a < clsP p
 ·exact lower_cls h
 ·have e : clsP a = clsP p := by omega
  rcases cmpRk_is (rkP a) (rkP p) with ⟨_, e1⟩ | ⟨h3, _⟩ | ⟨_, h3, _⟩
  ·exact e1
  ·rw [lt_iff] at h3
   have h4 : clsP p < clsP a ∨ clsP p = clsP a ∧ degP p (clsP p) < degP a (clsP a) := h3
   rw [e] at h4
   omega
  ·rw [lt_not] at h3
   have h4 : clsP p < clsP a ∨ clsP p = clsP a ∧ degP p (clsP p) ≤ degP a (clsP a) := h3
   rw [e] at h4
   omega
theorem tail_rk {p : List Term} (hf : fall p) (hc : 0 < clsP p) (hn : tailP p ≠ []) : cmpRk (rkP (tailP p)) (rkP p) = -1 := by
 refine lower_of (tail_fall hf) hc (fun u hu => degP_is (Int.le_refl _) (fun t ht => ?_) (.inl rfl)) (tail_lower hf hn)
 unfold tailP at ht
 have := degP_ge (List.mem_filter.1 ht).1 u
 rw [clsP_above hf hu] at this
 exact this
theorem der_rk {p : List Term} (hf : fall p) (hc : 0 < clsP p) : cmpRk (rkP (derP p (clsP p))) (rkP p) = -1 := by
 have hv := clsP_bd hf; have hm := fall_mays hf
 refine lower_of (der_fall hf _) hc (fun u hu => degP_is (Int.le_refl _) (fun t ht => ?_) (.inl rfl)) ?_
 ·unfold derP at ht
  obtain ⟨s, hs, rfl⟩ := List.mem_map.1 ht; have hsp := (List.mem_filter.1 hs).1
  show expo (subM s.2 (clsP p)) u ≤ 0
  rw [subM_expo (hm s hsp) ⟨by omega, hv.2⟩, if_neg (by omega)]
  have := degP_ge hsp u
  rw [clsP_above hf hu] at this
  omega
 ·rcases degP_at (derP p (clsP p)) (clsP p) with e | ⟨t, ht, e⟩
  ·rw [e]; exact clsP_here hf hc
  ·rw [e]
   unfold derP at ht
   obtain ⟨s, hs, rfl⟩ := List.mem_map.1 ht; have hsp := (List.mem_filter.1 hs).1
   show expo (subM s.2 (clsP p)) (clsP p) < _
   rw [subM_expo (hm s hsp) ⟨by omega, hv.2⟩, if_pos rfl]
   have := degP_ge hsp (clsP p)
   omega
theorem red_self {p : List Term} (hc : 0 < clsP p) : redP p p = false := by
 unfold redP
 rw [if_neg (by omega)]
 exact decide_eq_false (Int.lt_irrefl _)
theorem red_low {a p : List Term} (ha : fall a) (hf : fall p) (hc : 0 < clsP p) (h : clsP a < clsP p) : redP a p = true := by
 unfold redP
 rw [if_neg (by omega), clsP_above ha h]
 exact decide_eq_true (clsP_here hf hc)
end Go.Proofs.YtmmgipcacceakaaGreat
