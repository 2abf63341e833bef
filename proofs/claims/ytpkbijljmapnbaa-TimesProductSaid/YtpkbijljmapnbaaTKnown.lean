/-
  The contract of porismlaw02.known: true.
-/
import Derived.Test.YtpkbijljmapnbaaGLaw
import Derived.Test.YtpkbijljmapnbaaGTimes
namespace Go.Proofs.Ytpkbijljmapnbaa
open Go.RowKit

set_option maxHeartbeats 1000000 in
theorem tknown_any (w : World) : Calls Try.prog 7 #[] w fun e w' => e = .returned (.bool true) ∧ Below w.heap.size w w' := by
  have HB0 := Lib.hid (Below.refl w.heap.size w)
  go_enter Try.func7, Try.ntmps7
  go_wp2_with fail
  refine (rows_any _ _ _ _ _ _ [4294967295] [4294967295] _ ((lit_sl w _ 1 _ rfl rfl _ rfl (wf1 (by omega)) (by simp)).alloc _) (lit_sl _ _ 1 _ (by simp) rfl _ rfl (wf1 (by omega)) (by simp)) (by omega) (by omega)).mono ?_
  rintro e w1 ⟨a0, an, ac, rfl, hA, hB1⟩
  rw [limbs_of _ [1, 4294967294] (wf2 (by omega) (by omega)) (by decide) (by decide)] at hA
  have HA := Lib.hid hA.sl
  have HB1 := Lib.hid (Below.steps HB0.out (step_alloc (step_alloc hB1)))
  clear hA hB1 HB0
  go_wp2_with fail
  refine (same_b _ _ _ _ _ _ [1, 4294967294] [1, 4294967294] _ (HA.out.alloc _) (lit_sl w1 _ 2 _ rfl rfl _ rfl (wf2 (by omega) (by omega)) (by simp)) rfl).mono ?_
  rintro e w2 ⟨rfl, hB⟩
  have HB2 := Lib.hid (Below.steps HB1.out (step_alloc hB))
  clear hB HB1 HA
  go_wp2_with fail
  refine (limb_any _ _ _ [0, 1] 7 _ (lit_sl w2 _ 2 _ rfl rfl _ rfl (wf2 (by omega) (by omega)) (by simp)) (by omega) (by omega)).mono ?_
  rintro e w3 ⟨a0, an, ac, rfl, hA, hB⟩
  rw [limbs_of _ [0, 7] (wf2 (by omega) (by omega)) (by decide) (by decide)] at hA
  have HA := Lib.hid hA.sl
  have HB3 := Lib.hid (Below.steps HB2.out (step_alloc hB))
  clear hA hB HB2
  go_wp2_with fail
  refine (same_b _ _ _ _ _ _ [0, 7] [0, 7] _ (HA.out.alloc _) (lit_sl w3 _ 2 _ rfl rfl _ rfl (wf2 (by omega) (by omega)) (by simp)) rfl).mono ?_
  rintro e w4 ⟨rfl, hB⟩
  have HB4 := Lib.hid (Below.steps HB3.out (step_alloc hB))
  clear hB HB3 HA
  go_wp2_with fail
  go_ret
  exact ⟨rfl, HB4.out⟩

end Go.Proofs.Ytpkbijljmapnbaa
