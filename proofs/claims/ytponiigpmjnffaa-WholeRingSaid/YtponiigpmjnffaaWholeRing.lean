/-
  The law WholeRing.
-/
import Derived.Test.YtponiigpmjnffaaWholeRingA
import Derived.Test.YtponiigpmjnffaaWholeRingB
import Derived.Test.YtponiigpmjnffaaWholeRingC
import Derived.Deep.Cut
set_option maxRecDepth 8192
namespace Go.Proofs.Ytponiigpmjnffaa
open Go.RowKit

set_option maxHeartbeats 4000000 in
theorem wholeRing_long0 (i : Int)  {m0 : Bool} {a0 : Option Addr} {n0 c0 : Nat} {m1 : Bool} {a1 : Option Addr} {n1 c1 : Nat} {w : World} (l0 : 25 < n0) :
    Calls Try.prog 3 #[.agg #[.bool m0, .slice a0 n0 c0], .agg #[.bool m1, .slice a1 n1 c1], .int .i64 i] w (RetB (.bool true) w) := by
  go_enter Try.func3, Try.ntmps3
  go_upto_region 1 with (fail)
  refine wp_world (fun W hW => ?_)
  have HB0 : Hid (Below w.heap.size w W) := by rw [hW]; exact step_alloc (below_alloc _ _)
  have S0 : Hid (St w W _ _) := Lib.hid (St.mk (Live.add_box (show Box W (w.heap.size) m0 a0 n0 c0 from by rw [hW]; exact (Box.new _ _ _ _ _ _ _ (by simp)).below (below_alloc _ _)) (Live.add_box (show Box W (w.heap.size + 1) m1 a1 n1 c1 from by rw [hW]; exact Box.new _ _ _ _ _ _ _ (by simp)) (Live.nil W))) (Live.nil W) HB0.out)
  clear hW HB0
  obtain ⟨bx_0, bx_1⟩ := S0.out.b.c
  obtain ⟨by_0, by_1⟩ := S0.out.b.t.c
  go_wp2_with fail
  refine (great2_yes0 _ _ _ _ _ _ _ _ W l0).mono ?_
  rintro e w1 ⟨rfl, hB⟩
  have HB1 := Lib.hid (Below.steps S0.out.h (step_alloc hB))
  clear bx_0 bx_1 by_0 by_1
  clear hB S0
  go_wp2_with fail
  refine (known4_any _).mono ?_
  rintro e w2 ⟨rfl, hB⟩
  go_wp2_with fail
  go_ret
  exact ⟨rfl, Below.steps HB1.out hB⟩

set_option maxHeartbeats 4000000 in
theorem wholeRing_long1 (i : Int)  {m0 : Bool} {a0 : Option Addr} {n0 c0 : Nat} {m1 : Bool} {a1 : Option Addr} {n1 c1 : Nat} {w : World} (l0 : n0 ≤ 25) (l1 : 25 < n1) :
    Calls Try.prog 3 #[.agg #[.bool m0, .slice a0 n0 c0], .agg #[.bool m1, .slice a1 n1 c1], .int .i64 i] w (RetB (.bool true) w) := by
  go_enter Try.func3, Try.ntmps3
  go_upto_region 1 with (fail)
  refine wp_world (fun W hW => ?_)
  have HB0 : Hid (Below w.heap.size w W) := by rw [hW]; exact step_alloc (below_alloc _ _)
  have S0 : Hid (St w W _ _) := Lib.hid (St.mk (Live.add_box (show Box W (w.heap.size) m0 a0 n0 c0 from by rw [hW]; exact (Box.new _ _ _ _ _ _ _ (by simp)).below (below_alloc _ _)) (Live.add_box (show Box W (w.heap.size + 1) m1 a1 n1 c1 from by rw [hW]; exact Box.new _ _ _ _ _ _ _ (by simp)) (Live.nil W))) (Live.nil W) HB0.out)
  clear hW HB0
  obtain ⟨bx_0, bx_1⟩ := S0.out.b.c
  obtain ⟨by_0, by_1⟩ := S0.out.b.t.c
  go_wp2_with fail
  refine (great2_yes1 _ _ _ _ _ _ _ _ W l0 l1).mono ?_
  rintro e w1 ⟨rfl, hB⟩
  have HB1 := Lib.hid (Below.steps S0.out.h (step_alloc hB))
  clear bx_0 bx_1 by_0 by_1
  clear hB S0
  go_wp2_with fail
  refine (known4_any _).mono ?_
  rintro e w2 ⟨rfl, hB⟩
  go_wp2_with fail
  go_ret
  exact ⟨rfl, Below.steps HB1.out hB⟩

theorem wholeRing_any (i : Int) {m0 : Bool} {a0 : Option Addr} {n0 c0 : Nat} {m1 : Bool} {a1 : Option Addr} {n1 c1 : Nat} {xs ys : List Nat} {w : World} (s0 : Sl w a0 n0 c0 xs) (s1 : Sl w a1 n1 c1 ys) (hi : -9223372036854775808 ≤ i ∧ i ≤ 9223372036854775807) :
    Calls Try.prog 3 #[.agg #[.bool m0, .slice a0 n0 c0], .agg #[.bool m1, .slice a1 n1 c1], .int .i64 i] w (RetB (.bool true) w) := by
  by_cases l0 : 25 < n0
  · exact wholeRing_long0 i l0
  by_cases l1 : 25 < n1
  · exact wholeRing_long1 i (by omega) l1
  by_cases hf : -9223372036854775808 ≤ zOf m0 (val xs) ∧ zOf m0 (val xs) ≤ 9223372036854775807
  · exact wholeRing_fit i s0 s1 rfl rfl (by omega) (by omega) hi hf
  · by_cases hg : zOf m0 (val xs) < -9223372036854775808
    · exact wholeRing_low i s0 s1 rfl rfl (by omega) (by omega) hi hg
    · exact wholeRing_high i s0 s1 rfl rfl (by omega) (by omega) hi (by omega)

end Go.Proofs.Ytponiigpmjnffaa
