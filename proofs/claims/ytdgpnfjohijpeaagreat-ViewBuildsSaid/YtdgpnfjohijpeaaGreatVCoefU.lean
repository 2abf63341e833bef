/-
  The contract of view.Coefficients, whatever comes in.
-/
import Derived.Test.YtdgpnfjohijpeaaGreatVBackP
set_option maxHeartbeats 40000000
set_option maxRecDepth 100000
namespace Go.Proofs.YtdgpnfjohijpeaaGreat
open Go.RowKit
section
variable {K : Nat} {ao : Option Addr} {n cap : Nat} {ps : List Raw} {w : World}
theorem vCoefs_bad (v : Int) (hv : (decide (1 ≤ v) && decide (v ≤ 200)) = false) (hp : Pr w ao n cap ps) (hl : ∀ t ∈ ps, t.1.2.length ≤ K) (hK : K ≤ 1000) : Calls Tryz.prog 14 #[.slice ao n cap, .int .i64 v] w (RetB (.slice none 0 0) w) := by
 go_enter Tryz.func14, Tryz.ntmps14
 go_wp2_with fail; refine (vorz_pc hp hl hK).mono ?_
 rintro e w1 ⟨bo, m, cb, rfl, hX, hmn, hB⟩; clear hX hmn; go_wp2_with fail; refine (isVar_any false v w1 hv).mono ?_; rintro e w2 ⟨rfl, hB2⟩; have HB := Lib.hid (Below.steps hB hB2); clear hB hB2; go_wp2_with fail
 go_ret
 exact ⟨rfl, HB.out⟩
theorem vCoefs_zero (v : Int) (hv : (decide (1 ≤ v) && decide (v ≤ 200)) = true) (hp : Pr w ao n cap ps) (hl : ∀ t ∈ ps, t.1.2.length ≤ K) (hK : K ≤ 1000) (h0 : plnR ps = []) : Calls Tryz.prog 14 #[.slice ao n cap, .int .i64 v] w (RetB (.slice none 0 0) w) := by
 go_enter Tryz.func14, Tryz.ntmps14
 go_wp2_with fail; refine (vorz_pc hp hl hK).mono ?_
 rintro e w1 ⟨bo, m, cb, rfl, hX, hmn, hB⟩; rw [h0] at hX
 obtain rfl : m = 0 := by have := hX.len; simpa using this.symm
 have hd : (((0 : Nat) : Int) == 0) = true := rfl
 clear hX hmn; go_wp2_with fail; refine (isVar_any true v w1 hv).mono ?_; rintro e w2 ⟨rfl, hB2⟩; have HB := Lib.hid (Below.steps hB hB2); clear hB hB2; go_wp2_with fail
 go_ret
 exact ⟨rfl, HB.out⟩
end
def coefU (p : List Term) (v : Int) (d : Nat) : List (List Term) := if p.isEmpty = true then [] else coefL p v d
theorem coefU_cons {p : List Term} (h : p ≠ []) (v : Int) (d : Nat) : coefU p v d = coefL p v d := if_neg (by simpa using h)
theorem coefU_len (p : List Term) (v : Int) (d : Nat) : (coefU p v d).length ≤ d + 1 := by
 unfold coefU
 split
 ·simp
 ·rw [coefL_len]; exact Nat.le_refl _
theorem coefU_mem {p : List Term} {v : Int} {d : Nat} {q : List Term} (h : q ∈ coefU p v d) : ∃ i : Nat, i < d + 1 ∧ q = coefP p v (i : Nat) := by
 unfold coefU at h
 split at h
 ·cases h
 ·exact coefL_mem h
def NewPl (w : World) (ls : List (List Term)) (e : Ending) (w' : World) : Prop := ∃ ro rn rc, e = .returned (.slice ro rn rc) ∧ rn = ls.length ∧ Plr w' ro rn rc (ls.map fun p => p.map rawC) ∧ Below w.heap.size w w'
end Go.Proofs.YtdgpnfjohijpeaaGreat
