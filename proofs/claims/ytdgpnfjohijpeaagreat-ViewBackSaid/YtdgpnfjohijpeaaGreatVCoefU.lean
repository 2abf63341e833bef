/-
  The contract of view.Coefficients, whatever comes in.
-/
import Derived.Test.YtdgpnfjohijpeaaGreatVBackP
set_option maxHeartbeats 40000000
set_option maxRecDepth 100000
namespace Go.Proofs.YtdgpnfjohijpeaaGreat
open Go.RowKit
section
variable {K : Nat} {ao : Option Addr} {n cap : Nat} {ps : List Raw} {w : World}
theorem vCoefs_zero (v : Int) (hv : (decide (1 ≤ v) && decide (v ≤ 200)) = true) (hp : Pr w ao n cap ps) (hl : ∀ t ∈ ps, t.1.2.length ≤ K) (hK : K ≤ 1000) (h0 : plnR ps = []) : Calls Tryz.prog 14 #[.slice ao n cap, .int .i64 v] w (RetB (.slice none 0 0) w) := by
 go_enter Tryz.func14, Tryz.ntmps14
 go_wp2_with fail; refine (vorz_pc hp hl hK).mono ?_
 rintro e w1 ⟨bo, m, cb, rfl, hX, hmn, hB⟩; rw [h0] at hX
 obtain rfl : m = 0 := by have := hX.len; simpa using this.symm
 have hd : (((0 : Nat) : Int) == 0) = true := rfl
 clear hX hmn; go_wp2_with fail; refine (isVar_any true v w1 hv).mono ?_; rintro e w2 ⟨rfl, hB2⟩; have HB := Lib.hid (Below.steps hB hB2); clear hB hB2; go_wp2_with fail
 go_ret
 exact ⟨rfl, HB.out⟩
end
def coefU (p : List Term) (v : Int) (d : Nat) : List (List Term) := if p.isEmpty = true then [] else coefL p v d
theorem coefU_cons {p : List Term} (h : p ≠ []) (v : Int) (d : Nat) : coefU p v d = coefL p v d := if_neg (by simpa using h)
theorem coefU_len (p : List Term) (v : Int) (d : Nat) : (coefU p v d).length ≤ d + 1 := by
 unfold coefU
 split
 ·simp
 ·rw [coefL_len]; exact Nat.le_refl _
theorem coefU_mem {p : List Term} {v : Int} {d : Nat} {q : List Term} (h : q ∈ coefU p v d) : ∃ i : Nat, i < d + 1 ∧ q = coefP p v (i : Nat) := by
 unfold coefU at h
 split at h
 ·cases h
 ·exact coefL_mem h
theorem coefU_ok {p : List Term} (hf : fall p) {v : Int} (hv : 1 ≤ v ∧ v ≤ 200) {d : Nat} : bldOk v (coefU p v d) (coefU p v d).length := by
 unfold coefU
 split
 ·intro i hi; simp at hi
 ·rw [coefL_len]; exact back_ok hf hv
theorem coefU_built {p : List Term} (hf : fall p) {v : Int} (hv : 1 ≤ v ∧ v ≤ 200) {d : Nat} (hd : degP p v = d) : ofT (bldK v (coefU p v d) (coefU p v d).length) = p := by
 by_cases h : p = []
 ·subst h; rfl
 ·rw [coefU_cons h, coefL_len]; exact back_built hf hv hd
theorem coefU_limbs {p : List Term} {v : Int} {d K : Nat} (hl : ∀ t ∈ p.map rawC, t.1.2.length ≤ K) : ∀ q ∈ coefU p v d, ∀ t ∈ q.map rawC, t.1.2.length ≤ K := fun q hq t ht => by
 obtain ⟨i, _, rfl⟩ := coefU_mem hq; obtain ⟨s, hs, rfl⟩ := List.mem_map.1 ht
 unfold coefP at hs
 obtain ⟨u, hu, rfl⟩ := List.mem_map.1 hs
 exact hl (rawC u) (List.mem_map.2 ⟨u, (List.mem_filter.1 hu).1, rfl⟩)
def NewPl (w : World) (ls : List (List Term)) (e : Ending) (w' : World) : Prop := ∃ ro rn rc, e = .returned (.slice ro rn rc) ∧ rn = ls.length ∧ Plr w' ro rn rc (ls.map fun p => p.map rawC) ∧ Below w.heap.size w w'
theorem vCoefU_any {K : Nat} {ao : Option Addr} {n cap : Nat} {p : List Term} {w : World} (v : Int) (hv : 1 ≤ v ∧ v ≤ 200) (hp : Pr w ao n cap (p.map rawC)) (hf : fall p) (hl : ∀ t ∈ p.map rawC, t.1.2.length ≤ K) (hn : n ≤ 100000) (hK : K ≤ 1000) (d : Nat) (hd : degP p v = d) :
  Calls Tryz.prog 14 #[.slice ao n cap, .int .i64 v] w (NewPl w (coefU p v d)) := by
 have hpl := pln_raw hf
 by_cases h0 : p = []
 ·subst h0
  refine (vCoefs_zero v (by simp [hv.1, hv.2]) hp hl hK hpl).mono ?_
  rintro e w1 ⟨rfl, hB⟩
  exact ⟨none, 0, 0, rfl, rfl, ⟨[], Gl.zero 1 _, trivial⟩, hB⟩
 ·refine (vCoefs_any v hv hp hl hn hK (by rw [hpl]; exact h0) d (by rw [hpl]; exact hd)).mono ?_
  rintro e w1 ⟨ro, rc, X, rfl, hP, hB⟩; rw [hpl] at hP; rw [coefU_cons h0]
  exact ⟨ro, d + 1, rc, rfl, (coefL_len p v d).symm, hP.plr, hB⟩
end Go.Proofs.YtdgpnfjohijpeaaGreat
