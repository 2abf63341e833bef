/-
  Derivatives by two variables hang on no order; the degree and the class of a derivative: in plain words.
-/
import Derived.Test.YtmaanhmdgmjhdaaGV
set_option maxRecDepth 8192
namespace Go.Proofs.Ytmaanhmdgmjhdaa
open Go.RowKit
def dG (v : Int) (t : Term) : Option Term := if 0 < expo t.2 v then some (derT v t) else none
theorem der_fm (v : Int) : ∀ p : List Term, derP p v = p.filterMap (dG v)
  | [] => rfl
  | t :: r => by
    have ih := der_fm v r
    unfold derP at ih ⊢
    by_cases h : 0 < expo t.2 v
    · rw [List.filter_cons_of_pos (by simpa using h), List.map_cons, ih, List.filterMap_cons_some (b := derT v t) (by unfold dG; rw [if_pos h])]
    · rw [List.filter_cons_of_neg (by simpa using h), ih, List.filterMap_cons_none (by unfold dG; rw [if_neg h])]
theorem filterMap_congr' {α β : Type} {f g : α → Option β} : ∀ {l : List α}, (∀ x ∈ l, f x = g x) → l.filterMap f = l.filterMap g
  | [], _ => rfl
  | x :: r, h => by
    have ih := filterMap_congr' (l := r) (fun y hy => h y (by simp [hy]))
    have hx := h x (by simp)
    cases hf : f x with
    | none => rw [List.filterMap_cons_none hf, List.filterMap_cons_none (hx ▸ hf), ih]
    | some b => rw [List.filterMap_cons_some hf, List.filterMap_cons_some (hx ▸ hf), ih]
theorem sub_sub {m : List (Int × Int)} (hm : mayM 0 m = true) {v u : Int} (hne : u ≠ v) (hv : 0 < expo m v) (hu : 0 < expo m u) : subM (subM m v) u = subM (subM m u) v := by
  have v1 := var_of hm hv
  have u1 := var_of hm hu
  have mv := (subM_may hm v1).2 hv
  have mu := (subM_may hm u1).2 hu
  have evu : expo (subM m v) u = expo m u := by rw [subM_expo hm v1, if_neg hne]; omega
  have euv : expo (subM m u) v = expo m v := by rw [subM_expo hm u1, if_neg (fun e => hne e.symm)]; omega
  refine mono_ext ((subM_may mv u1).2 (by omega)) ((subM_may mu v1).2 (by omega)) fun x => ?_
  rw [subM_expo mv u1, subM_expo mu v1, subM_expo hm v1, subM_expo hm u1]
  omega
theorem der_comm {p : List Term} (h : mays p) (v u : Int) : derP (derP p v) u = derP (derP p u) v := by
  by_cases hne : u = v
  · rw [hne]
  rw [der_fm u, der_fm v p, der_fm v (derP p u), der_fm u p, List.filterMap_filterMap, List.filterMap_filterMap]
  refine filterMap_congr' fun t ht => ?_
  have hm := h t ht
  unfold dG
  by_cases hv : 0 < expo t.2 v
  · have v1 := var_of hm hv
    have e1 : expo (subM t.2 v) u = expo t.2 u := by rw [subM_expo hm v1, if_neg hne]; omega
    by_cases hu : 0 < expo t.2 u
    · have u1 := var_of hm hu
      have e2 : expo (subM t.2 u) v = expo t.2 v := by rw [subM_expo hm u1, if_neg (fun e => hne e.symm)]; omega
      rw [if_pos hv, if_pos hu]
      show (if 0 < expo (subM t.2 v) u then some (derT u (derT v t)) else none) = if 0 < expo (subM t.2 u) v then some (derT v (derT u t)) else none
      rw [e1, e2, if_pos hv, if_pos hu]
      unfold derT
      simp only [e1, e2, sub_sub hm hne hv hu]
      rw [Int.mul_assoc, Int.mul_comm (expo t.2 v), ← Int.mul_assoc]
    · rw [if_pos hv, if_neg hu]
      show (if 0 < expo (subM t.2 v) u then some (derT u (derT v t)) else none) = none
      rw [e1, if_neg hu]
  · rw [if_neg hv]
    by_cases hu : 0 < expo t.2 u
    · have u1 := var_of hm hu
      have e2 : expo (subM t.2 u) v = expo t.2 v := by rw [subM_expo hm u1, if_neg (fun e => hne e.symm)]; omega
      rw [if_pos hu]
      show none = if 0 < expo (subM t.2 u) v then some (derT v (derT u t)) else none
      rw [e2, if_neg hv]
    · rw [if_neg hu]; rfl
theorem der_nil {p : List Term} {v : Int} (h : degP p v = 0) : derP p v = [] := by
  have : p.filter (fun t => decide (0 < expo t.2 v)) = [] := List.filter_eq_nil_iff.2 fun t ht => by
    have := degP_ge ht v
    simp
    omega
  rw [derP, this]; rfl
theorem der_deg {p : List Term} (hp : fall p) {v : Int} (h : 0 < degP p v) : derP p v ≠ [] ∧ degP (derP p v) v = degP p v - 1 ∧ clsP (derP p v) ≤ clsP p := by
  have hn : p ≠ [] := fun e => by subst e; exact absurd h (Int.lt_irrefl 0)
  obtain ⟨t, ht, et⟩ := degP_att (fall_mays hp) hn v
  have hm := fall_may hp t ht
  have hv := var_of hm (v := v) (by omega)
  have hmem : derT v t ∈ derP p v := List.mem_map.2 ⟨t, List.mem_filter.2 ⟨ht, by simp; omega⟩, rfl⟩
  have hall : ∀ s ∈ derP p v, ∃ t ∈ p, 0 < expo t.2 v ∧ s = derT v t := fun s hs => by
    obtain ⟨t, ht, rfl⟩ := List.mem_map.1 hs
    exact ⟨t, (List.mem_filter.1 ht).1, by simpa using (List.mem_filter.1 ht).2, rfl⟩
  refine ⟨(fun e => by rw [e] at hmem; cases hmem), degP_is (by omega) (fun s hs => ?_) (.inr ⟨_, hmem, ?_⟩), ?_⟩
  · obtain ⟨t, ht, h0, rfl⟩ := hall s hs
    show expo (subM t.2 v) v ≤ _
    rw [subM_expo (fall_may hp t ht) (var_of (fall_may hp t ht) h0), if_pos rfl]
    have := degP_ge ht v
    omega
  · show expo (subM t.2 v) v = _
    rw [subM_expo hm hv, if_pos rfl]
    omega
  · have hc := clsP_bd hp
    have hd := der_fall hp v
    rcases Int.lt_or_le (clsP p) (clsP (derP p v)) with g | g
    · have h1 := clsP_here hd (by omega)
      have h2 : degP (derP p v) (clsP (derP p v)) = 0 := degP_is (Int.le_refl _) (fun s hs => by
        obtain ⟨t, ht, h0, rfl⟩ := hall s hs
        show expo (subM t.2 v) _ ≤ 0
        rw [subM_expo (fall_may hp t ht) (var_of (fall_may hp t ht) h0)]
        have h3 := cls_above (fall_may hp t ht) (v := clsP (derP p v)) (by have := clsP_ge hp ht; omega)
        split <;> omega) (.inl rfl)
      omega
    · exact g
end Go.Proofs.Ytmaanhmdgmjhdaa
