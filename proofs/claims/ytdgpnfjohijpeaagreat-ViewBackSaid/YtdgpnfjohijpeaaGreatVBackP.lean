/-
  Coefficients built again, the initial and the tail of a polynomial, in plain words.
-/
import Derived.Test.YtdgpnfjohijpeaaGreatVCoefs
import Derived.Test.YtdgpnfjohijpeaaGreatGVR
set_option maxHeartbeats 40000000
set_option maxRecDepth 100000
namespace Go.Proofs.YtdgpnfjohijpeaaGreat
open Go.RowKit
theorem lin_mulr (φ : List (Int × Int) → Int) (c : Int) : ∀ p : List Term, lin (fun m => φ m * c) p = lin φ p * c
 | [] => by simp [lin]
 | t :: r => by
  simp only [lin]
  rw [lin_mulr φ c r]
  grind
theorem lin_add2 (φ ψ : List (Int × Int) → Int) : ∀ p : List Term, lin (fun m => φ m + ψ m) p = lin φ p + lin ψ p
 | [] => by simp [lin]
 | t :: r => by
  simp only [lin]
  rw [lin_add2 φ ψ r]
  grind
def coefL (p : List Term) (v : Int) (d : Nat) : List (List Term) := colJ p v d (d + 1)
theorem coefL_len (p : List Term) (v : Int) (d : Nat) : (coefL p v d).length = d + 1 := by simp [coefL, colJ]
theorem coefL_get {p : List Term} {v : Int} {d i : Nat} (h : i < d + 1) : (coefL p v d).getD i [] = coefP p v (i : Nat) := by
 unfold coefL colJ
 simp [List.getD, h]
theorem coefL_mem {p : List Term} {v : Int} {d : Nat} {q : List Term} (h : q ∈ coefL p v d) : ∃ i : Nat, i < d + 1 ∧ q = coefP p v (i : Nat) := by
 unfold coefL colJ at h
 obtain ⟨i, hi, rfl⟩ := List.mem_map.1 h
 exact ⟨i, List.mem_range.1 hi, if_pos (List.mem_range.1 hi)⟩
theorem back_ev {p : List Term} (hf : fall p) {v : Int} (hv : 1 ≤ v ∧ v ≤ 200) {d : Nat} (hd : d ≤ 10000) (ρ : Nat → Int) : ∀ k, k ≤ d + 1 → ev (bldK v (coefL p v d) k) ρ = lin (fun m => if decide (expo m v < (k : Int)) = true then evM m ρ else 0) p
 | 0, _ => by
  have e : lin (fun m => if decide (expo m v < ((0 : Nat) : Int)) = true then evM m ρ else 0) p = lin (fun _ => 0) p := lin_congr fun t ht => by
   have := (may_bd (fall_may hf t ht) v).1
   rw [if_neg (by simp; omega)]
  rw [e, lin_zero]
  simp [bldK, ev]
 | k + 1, hk => by
  have ih := back_ev hf hv hd ρ k (by omega)
  have hfit : fitT (coefP p v (k : Nat)) [(1, powM v (k : Nat))] := coef_fit hf hv k
  have hpm : mays [((1 : Int), powM v (k : Nat))] := fun s hs => by rw [List.mem_singleton] at hs; subst hs; exact pow_may hv ⟨by omega, by omega⟩
  show ev (bldK v (coefL p v d) k ++ (tryT ((coefL p v d).getD k []) [(1, powM v k)]).1) ρ = _
  rw [coefL_get (by omega), ev_append, ih, tryT_yes hfit, (timesT_spec (fall_mays (coef_fall hf v _)) hpm hfit).2, ← lin_ev (coefP p v _), lin_coef]
  have e1 : ev [((1 : Int), powM v (k : Nat))] ρ = evM (powM v (k : Nat)) ρ := by simp [ev]
  rw [e1, ← lin_mulr, ← lin_add2]
  refine lin_congr fun t ht => ?_
  have hm := fall_may hf t ht
  by_cases h1 : expo t.2 v = (k : Int)
  ·have h2 := evM_out hm hv ρ
   rw [h1] at h2
   rw [if_neg (by simp; omega), if_pos (by simp [h1]), if_pos (by simp; omega), h2]
   grind
  ·have h3 : (expo t.2 v == (k : Int)) = false := by simpa using h1
   rw [h3]
   simp only [Bool.false_eq_true, if_false, Int.zero_mul, Int.add_zero]
   by_cases h4 : expo t.2 v < (k : Int)
   ·rw [if_pos (by simpa using h4), if_pos (by simp; omega)]
   ·rw [if_neg (by simpa using h4), if_neg (by simp; omega)]
theorem back_ok {p : List Term} (hf : fall p) {v : Int} (hv : 1 ≤ v ∧ v ≤ 200) {d : Nat} : bldOk v (coefL p v d) (d + 1) := fun i hi => by
 rw [coefL_get hi]
 exact coef_fit hf hv i
theorem back_built {p : List Term} (hf : fall p) {v : Int} (hv : 1 ≤ v ∧ v ≤ 200) {d : Nat} (hd : degP p v = d) : ofT (bldK v (coefL p v d) (d + 1)) = p := by
 have hd4 : d ≤ 10000 := by have := degP_le (fall_mays hf) v; omega
 have hm : mays (bldK v (coefL p v d) (d + 1)) := bld_mays hv (fun q hq => by obtain ⟨i, _, rfl⟩ := coefL_mem hq; exact coef_fall hf v _) (d + 1) (by rw [coefL_len]; exact Nat.le_refl _) (by omega)
 have h := ofT_spec hm
 refine fall_ext h.1 hf fun ρ => ?_
 rw [h.2, back_ev hf hv hd4 ρ (d + 1) (Nat.le_refl _), ← lin_ev p]
 refine lin_congr fun t ht => ?_
 have := degP_ge ht v
 rw [if_pos (by simp; omega)]
theorem tail_back {p : List Term} (hf : fall p) (hc : 0 < clsP p) : fitT (initP p) (powP (clsP p) (degP p (clsP p))) ∧ addT (timesT (initP p) (powP (clsP p) (degP p (clsP p)))) (tailP p) = p := by
 have hb := clsP_bd hf; have hft := init_fit hf hc
 have hv : 1 ≤ clsP p ∧ clsP p ≤ 200 := by omega
 have hpw := fall_mays (powP_fall hv ⟨degP_zero p (clsP p), degP_le (fall_mays hf) (clsP p)⟩); have h1 := timesT_spec (fall_mays (init_fall hf)) hpw hft; have h2 := subT_spec hf (fall_mays h1.1); have h3 := addT_spec h1.1 (fall_mays (tail_fall hf)); have h4 := tail_sub hf hc; rw [tryT_yes hft] at h4
 refine ⟨hft, fall_ext h3.1 hf fun ρ => ?_⟩
 have h5 := h2.2 ρ; rw [h4] at h5; rw [h3.2, h5]
 omega
theorem init_some {p : List Term} (hf : fall p) (hn : p ≠ []) : 0 < (initP p).length := by
 obtain ⟨t, ht, h1⟩ := degP_att (fall_mays hf) hn (clsP p)
 refine List.length_pos_of_mem (a := (t.1, outM (clsP p) t.2)) ?_
 unfold initP coefP
 exact List.mem_map.2 ⟨t, List.mem_filter.2 ⟨ht, by simpa using h1⟩, rfl⟩
theorem init_lower {p : List Term} (hf : fall p) (hc : 0 < clsP p) : clsP (initP p) < clsP p := by
 have hz : ∀ u, clsP p ≤ u → degP (initP p) u = 0 := fun u hu => degP_is (Int.le_refl _) (fun t ht => by
  unfold initP coefP at ht
  obtain ⟨s, hs, rfl⟩ := List.mem_map.1 ht; have hsp := (List.mem_filter.1 hs).1
  show expo (outM (clsP p) s.2) u ≤ 0
  rw [outM_expo]
  split
  ·exact Int.le_refl _
  ·rename_i hne
   have := degP_ge hsp u
   rw [clsP_above hf (by omega)] at this
   exact this) (.inl rfl)
 refine Classical.byContradiction fun h => ?_
 have h1 := clsP_here (init_fall hf) (by omega)
 rw [hz _ (by omega)] at h1
 omega
theorem tail_lower {p : List Term} (hf : fall p) (hn : tailP p ≠ []) : degP (tailP p) (clsP p) < degP p (clsP p) := by
 obtain ⟨t, ht, h1⟩ := degP_att (fall_mays (tail_fall hf)) hn (clsP p)
 unfold tailP at ht
 have h2 := List.mem_filter.1 ht; have h3 := degP_ge h2.1 (clsP p)
 have h4 : ¬ expo t.2 (clsP p) = degP p (clsP p) := by simpa using h2.2
 omega
theorem Pile.plr {B K : Nat} {w : World} {ao : Option Addr} {n cap : Nat} {X : List (List Value)} {ps : List (List Term)} (h : Pile B K w ao n cap X ps) : Plr w ao n cap (ps.map fun p => p.map rawC) :=
 ⟨X, h.row.gl, Tms.map (fun p : List Term => p.map rawC) (fun _ _ _ ⟨ao, n, cap, h1, h2, _⟩ => ⟨ao, n, cap, h1, h2.pc.raw⟩) h.mem⟩
end Go.Proofs.YtdgpnfjohijpeaaGreat
