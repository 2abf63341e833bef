/-
  What the laws over lists of polynomials share.
-/
import Derived.Test.YtmmgipcacceakaaRkL
import Derived.Test.YtmmgipcacceakaaRkD
import Derived.Test.YtmmgipcacceakaaRkSo
set_option maxHeartbeats 40000000
set_option maxRecDepth 100000
namespace Go.Proofs.Ytmmgipcacceakaa
open Go.RowKit
theorem hnd_of [Ol] {w : World} {ao : Option Addr} {n cap : Nat} (h : (∃ f, Plx w ao n f) ∧ (n ≤ 4398046511104 → ∃ ls, Plr w ao n cap ls)) : (∃ f, Plx w ao n f ∧ Grt n f) ∨ ∃ ls, Plr w ao n cap ls ∧ Small15 ls := by
 by_cases hb : n ≤ 4398046511104
 ·obtain ⟨ls, hP⟩ := h.2 hb
  by_cases h2 : Grt n (fun k => ls.getD k [])
  ·exact .inl ⟨_, hP.plx, h2⟩
  ·exact .inr ⟨ls, hP, Small15.of (fun _ _ => rfl) (by rw [hP.len]; exact h2)⟩
 ·obtain ⟨f, hX⟩ := h.1
  exact .inl ⟨f, hX, .inr (by omega)⟩
theorem small_great [Ol] {w : World} {ao : Option Addr} {n cap : Nat} {ls : List (List Raw)} (h : Plr w ao n cap ls) (hs : Small15 ls) : Calls Try.prog 6 #[.slice ao n cap] w (RetB (.bool false) w) :=
 great15_any false h.plx ⟨(fun h => by cases h), fun hg => absurd hg (hs.ngrt h.len)⟩
theorem Small15.lens {ls : List (List Raw)} (h : Small15 ls) : ∀ ps ∈ ls, ps.length ≤ 1000 := fun ps hp => by
 have := (great_facts (h.ok ps hp)).1
 omega
theorem lowL_range (l m : List (Int × Int)) : -1 ≤ lowL l m ∧ lowL l m ≤ 1 := by
 have hc : ∀ a b : Int, -1 ≤ cmpI a b ∧ cmpI a b ≤ 1 := fun a b => by rcases cmpI_is a b with ⟨_, e⟩ | ⟨_, e⟩ | ⟨_, e⟩ <;> omega
 have hd : ∀ l m : List (Int × Int), -1 ≤ difL l m ∧ difL l m ≤ 1 := by
  intro l
  induction l with
  | nil => intro m; show -1 ≤ (0 : Int) ∧ (0 : Int) ≤ 1; omega
  | cons a l ih =>
   intro m
   cases m with
   | nil => show -1 ≤ (0 : Int) ∧ (0 : Int) ≤ 1; omega
   | cons b m =>
    show -1 ≤ (if cmpRk a b = 0 then difL l m else cmpRk a b) ∧ (if cmpRk a b = 0 then difL l m else cmpRk a b) ≤ 1
    split
    ·exact ih m
    ·rcases cmpRk_is a b with ⟨_, e⟩ | ⟨_, e⟩ | ⟨_, _, _, e⟩ <;> omega
 unfold lowL
 split
 ·exact hc _ _
 ·exact hd l m
theorem lowL_cut {ls : List (List Raw)} {j : Nat} (h : (rks ls).length = j + 1) : lowL (rks ls) (rks (ls.take j)) = -1 := by
 have h1 := lowL_less (rks ls) (fun e => by rw [e] at h; cases h)
 rw [h] at h1
 unfold rks at h1 ⊢
 rw [List.map_take]
 exact h1
theorem srt_falls [Ol] {w : World} {ao : Option Addr} {n cap : Nat} {ls : List (List Raw)} (h : Plr w ao n cap ls) : ∀ p ∈ srtP (keepR ls), fall p := fun p hp => by
 have h1 := (isort_perm ltP (keepR ls)).mem_iff.1 hp
 unfold keepR at h1
 obtain ⟨rs, hr, rfl⟩ := List.mem_map.1 (List.mem_filter.1 h1).1
 exact h.falls rs hr
theorem srt_len (ls : List (List Raw)) : (srtP (keepR ls)).length ≤ ls.length := by
 unfold srtP
 rw [isort_len]
 unfold keepR
 exact Nat.le_trans (List.length_filter_le _ _) (by rw [List.length_map]; exact Nat.le_refl _)
theorem pair_le {q : List (List Term)} (h : q.Pairwise (fun a b => ltP b a = false)) {i j : Nat} (hi : i < q.length) (hj : j < q.length) (hij : i < j) : cmpRk (rkP (q.getD i [])) (rkP (q.getD j [])) ≤ 0 := by
 rw [getD_of [] hi, getD_of [] hj]
 exact cmpRk_pos (List.pairwise_iff_getElem.1 h i j hi hj hij)
end Go.Proofs.Ytmmgipcacceakaa
