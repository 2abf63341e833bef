/-
  RatioField: too many limbs.
-/
import Derived.Test.YteceomlbnajihaaGreatDoorRatioPre
import Derived.Deep.Cut
import Derived.Deep.CutRange
set_option maxRecDepth 8192
namespace Go.Proofs.YteceomlbnajihaaGreatDoor
open Go.RowKit

set_option maxHeartbeats 1000000 in
set_option maxRecDepth 100000 in
theorem ratioField_long {m0 k0 : Bool} {a0 b0 : Option Addr} {n0 c0 l0 d0 : Nat} {m1 k1 : Bool} {a1 b1 : Option Addr} {n1 c1 l1 d1 : Nat}  {w : World}  (ht : Tab w) (hg : ((decide (8 < n0) || decide (8 < l0)) || (decide (8 < n1) || decide (8 < l1))) = true)  :
    Calls Tryz.prog 3 #[.agg #[.bool m0, .slice a0 n0 c0, .bool k0, .slice b0 l0 d0], .agg #[.bool m1, .slice a1 n1 c1, .bool k1, .slice b1 l1 d1]] w (RetB (.bool true) w) := by
  have HT := Lib.hid ht
  have HG := Lib.hid hg
  clear ht hg
  go_enter Tryz.func3, Tryz.ntmps3
  have S0 := Lib.hid (Sx.start (w := w) (N := []) trivial)
  have S1 := Lib.hid (S0.out.var (w.heap.size) [.bool m0, .slice a0 n0 c0, .bool k0, .slice b0 l0 d0] 26 (by simp))
  clear S0
  have S2 := Lib.hid (S1.out.var (w.heap.size + 1) [.bool m1, .slice a1 n1 c1, .bool k1, .slice b1 l1 d1] 26 (by simp))
  clear S1
  go_upto_region 1 with (fail)
  refine wp_world (fun w1 hW => ?_)
  rw [← hW] at S2
  clear hW
  obtain ⟨c_b2_0, c_b2_1, c_b2_2, c_b2_3⟩ := S2.out.b.t.c4
  obtain ⟨c_b3_0, c_b3_1, c_b3_2, c_b3_3⟩ := S2.out.b.c4
  go_wp2_with fail
  clear c_b2_0 c_b2_1 c_b2_2 c_b2_3 c_b3_0 c_b3_1 c_b3_2 c_b3_3
  have S3 := Lib.hid (S2.out.var (w1.heap.size) [.bool m0, .slice a0 n0 c0, .bool k0, .slice b0 l0 d0, .bool m1, .slice a1 n1 c1, .bool k1, .slice b1 l1 d1] 26 (by simp))
  clear S2
  refine (great6_2 true S3.out.b.1 (HG.out)).mono ?_
  rintro e w2 ⟨rfl, hB⟩
  have S4 := Lib.hid ((S3.out.step hB))
  clear S3 hB
  have S5 := Lib.hid (S4.out.pop)
  clear S4
  go_wp2_with fail
  refine (known6_any _ (HT.out.below S5.out.h)).mono ?_
  rintro e w3 ⟨rfl, hB⟩
  have S6 := Lib.hid ((S5.out.step hB))
  clear S5 hB
  go_wp2_with fail
  go_ret
  exact ⟨rfl, S6.out.h⟩

end Go.Proofs.YteceomlbnajihaaGreatDoor
