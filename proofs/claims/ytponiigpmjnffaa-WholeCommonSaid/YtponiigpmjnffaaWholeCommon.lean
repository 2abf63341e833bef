/-
  The law WholeCommon.
-/
import Derived.Test.YtponiigpmjnffaaWholeCommonA
import Derived.Test.YtponiigpmjnffaaWholeCommonB
import Derived.Test.YtponiigpmjnffaaWholeCommonC
import Derived.Test.YtponiigpmjnffaaWholeCommonD
import Derived.Deep.Cut
set_option maxRecDepth 8192
namespace Go.Proofs.Ytponiigpmjnffaa
open Go.RowKit

set_option maxHeartbeats 4000000 in
theorem wholeCommon_long0  {m0 : Bool} {a0 : Option Addr} {n0 c0 : Nat} {m1 : Bool} {a1 : Option Addr} {n1 c1 : Nat} {m2 : Bool} {a2 : Option Addr} {n2 c2 : Nat} {w : World} (l0 : 25 < n0) :
    Calls Try.prog 6 #[.agg #[.bool m0, .slice a0 n0 c0], .agg #[.bool m1, .slice a1 n1 c1], .agg #[.bool m2, .slice a2 n2 c2]] w (RetB (.bool true) w) := by
  go_enter Try.func6, Try.ntmps6
  go_upto_region 1 with (fail)
  refine wp_world (fun W hW => ?_)
  have HB0 : Hid (Below w.heap.size w W) := by rw [hW]; exact step_alloc (step_alloc (below_alloc _ _))
  have S0 : Hid (St w W _ _) := Lib.hid (St.mk (Live.add_box (show Box W (w.heap.size) m0 a0 n0 c0 from by rw [hW]; exact ((Box.new _ _ _ _ _ _ _ (by simp)).below (below_alloc _ _)).below (below_alloc _ _)) (Live.add_box (show Box W (w.heap.size + 1) m1 a1 n1 c1 from by rw [hW]; exact (Box.new _ _ _ _ _ _ _ (by simp)).below (below_alloc _ _)) (Live.add_box (show Box W (w.heap.size + 2) m2 a2 n2 c2 from by rw [hW]; exact Box.new _ _ _ _ _ _ _ (by simp)) (Live.nil W)))) (Live.nil W) HB0.out)
  clear hW HB0
  obtain ⟨bx_0, bx_1⟩ := S0.out.b.c
  obtain ⟨by_0, by_1⟩ := S0.out.b.t.c
  obtain ⟨bz_0, bz_1⟩ := S0.out.b.t.t.c
  go_wp2_with fail
  refine (great3_yes0 _ _ _ _ _ _ _ _ _ _ _ _ W l0).mono ?_
  rintro e w1 ⟨rfl, hB⟩
  have HB1 := Lib.hid (Below.steps S0.out.h (step_alloc hB))
  clear bx_0 bx_1 by_0 by_1 bz_0 bz_1
  clear hB S0
  go_wp2_with fail
  refine (known4_any _).mono ?_
  rintro e w2 ⟨rfl, hB⟩
  go_wp2_with fail
  go_ret
  exact ⟨rfl, Below.steps HB1.out hB⟩

set_option maxHeartbeats 4000000 in
theorem wholeCommon_long1  {m0 : Bool} {a0 : Option Addr} {n0 c0 : Nat} {m1 : Bool} {a1 : Option Addr} {n1 c1 : Nat} {m2 : Bool} {a2 : Option Addr} {n2 c2 : Nat} {w : World} (l0 : n0 ≤ 25) (l1 : 25 < n1) :
    Calls Try.prog 6 #[.agg #[.bool m0, .slice a0 n0 c0], .agg #[.bool m1, .slice a1 n1 c1], .agg #[.bool m2, .slice a2 n2 c2]] w (RetB (.bool true) w) := by
  go_enter Try.func6, Try.ntmps6
  go_upto_region 1 with (fail)
  refine wp_world (fun W hW => ?_)
  have HB0 : Hid (Below w.heap.size w W) := by rw [hW]; exact step_alloc (step_alloc (below_alloc _ _))
  have S0 : Hid (St w W _ _) := Lib.hid (St.mk (Live.add_box (show Box W (w.heap.size) m0 a0 n0 c0 from by rw [hW]; exact ((Box.new _ _ _ _ _ _ _ (by simp)).below (below_alloc _ _)).below (below_alloc _ _)) (Live.add_box (show Box W (w.heap.size + 1) m1 a1 n1 c1 from by rw [hW]; exact (Box.new _ _ _ _ _ _ _ (by simp)).below (below_alloc _ _)) (Live.add_box (show Box W (w.heap.size + 2) m2 a2 n2 c2 from by rw [hW]; exact Box.new _ _ _ _ _ _ _ (by simp)) (Live.nil W)))) (Live.nil W) HB0.out)
  clear hW HB0
  obtain ⟨bx_0, bx_1⟩ := S0.out.b.c
  obtain ⟨by_0, by_1⟩ := S0.out.b.t.c
  obtain ⟨bz_0, bz_1⟩ := S0.out.b.t.t.c
  go_wp2_with fail
  refine (great3_yes1 _ _ _ _ _ _ _ _ _ _ _ _ W l0 l1).mono ?_
  rintro e w1 ⟨rfl, hB⟩
  have HB1 := Lib.hid (Below.steps S0.out.h (step_alloc hB))
  clear bx_0 bx_1 by_0 by_1 bz_0 bz_1
  clear hB S0
  go_wp2_with fail
  refine (known4_any _).mono ?_
  rintro e w2 ⟨rfl, hB⟩
  go_wp2_with fail
  go_ret
  exact ⟨rfl, Below.steps HB1.out hB⟩

set_option maxHeartbeats 4000000 in
theorem wholeCommon_long2  {m0 : Bool} {a0 : Option Addr} {n0 c0 : Nat} {m1 : Bool} {a1 : Option Addr} {n1 c1 : Nat} {m2 : Bool} {a2 : Option Addr} {n2 c2 : Nat} {w : World} (l0 : n0 ≤ 25) (l1 : n1 ≤ 25) (l2 : 25 < n2) :
    Calls Try.prog 6 #[.agg #[.bool m0, .slice a0 n0 c0], .agg #[.bool m1, .slice a1 n1 c1], .agg #[.bool m2, .slice a2 n2 c2]] w (RetB (.bool true) w) := by
  go_enter Try.func6, Try.ntmps6
  go_upto_region 1 with (fail)
  refine wp_world (fun W hW => ?_)
  have HB0 : Hid (Below w.heap.size w W) := by rw [hW]; exact step_alloc (step_alloc (below_alloc _ _))
  have S0 : Hid (St w W _ _) := Lib.hid (St.mk (Live.add_box (show Box W (w.heap.size) m0 a0 n0 c0 from by rw [hW]; exact ((Box.new _ _ _ _ _ _ _ (by simp)).below (below_alloc _ _)).below (below_alloc _ _)) (Live.add_box (show Box W (w.heap.size + 1) m1 a1 n1 c1 from by rw [hW]; exact (Box.new _ _ _ _ _ _ _ (by simp)).below (below_alloc _ _)) (Live.add_box (show Box W (w.heap.size + 2) m2 a2 n2 c2 from by rw [hW]; exact Box.new _ _ _ _ _ _ _ (by simp)) (Live.nil W)))) (Live.nil W) HB0.out)
  clear hW HB0
  obtain ⟨bx_0, bx_1⟩ := S0.out.b.c
  obtain ⟨by_0, by_1⟩ := S0.out.b.t.c
  obtain ⟨bz_0, bz_1⟩ := S0.out.b.t.t.c
  go_wp2_with fail
  refine (great3_yes2 _ _ _ _ _ _ _ _ _ _ _ _ W l0 l1 l2).mono ?_
  rintro e w1 ⟨rfl, hB⟩
  have HB1 := Lib.hid (Below.steps S0.out.h (step_alloc hB))
  clear bx_0 bx_1 by_0 by_1 bz_0 bz_1
  clear hB S0
  go_wp2_with fail
  refine (known4_any _).mono ?_
  rintro e w2 ⟨rfl, hB⟩
  go_wp2_with fail
  go_ret
  exact ⟨rfl, Below.steps HB1.out hB⟩

theorem wholeCommon_short {m0 : Bool} {a0 : Option Addr} {n0 c0 : Nat} {m1 : Bool} {a1 : Option Addr} {n1 c1 : Nat} {m2 : Bool} {a2 : Option Addr} {n2 c2 : Nat} {x y z : Int} {w : World} (h0 : Nx w m0 a0 n0 c0 x) (h1 : Nx w m1 a1 n1 c1 y) (h2 : Nx w m2 a2 n2 c2 z) (l0 : n0 ≤ 25) (l1 : n1 ≤ 25) (l2 : n2 ≤ 25) :
    Calls Try.prog 6 #[.agg #[.bool m0, .slice a0 n0 c0], .agg #[.bool m1, .slice a1 n1 c1], .agg #[.bool m2, .slice a2 n2 c2]] w (RetB (.bool true) w) := by
  by_cases hg : ((x.gcd y : Nat) : Int) = 0
  · exact wholeCommon_nil h0 h1 h2 l0 l1 l2 hg
  · rcases Int.lt_trichotomy z 0 with hz | hz | hz
    · exact wholeCommon_neg h0 h1 h2 l0 l1 l2 hg hz
    · exact wholeCommon_zero h0 h1 h2 l0 l1 l2 hg hz
    · exact wholeCommon_pos h0 h1 h2 l0 l1 l2 hg hz

theorem wholeCommon_any  {m0 : Bool} {a0 : Option Addr} {n0 c0 : Nat} {m1 : Bool} {a1 : Option Addr} {n1 c1 : Nat} {m2 : Bool} {a2 : Option Addr} {n2 c2 : Nat} {xs0 xs1 xs2 : List Nat} {w : World} (s0 : Sl w a0 n0 c0 xs0) (s1 : Sl w a1 n1 c1 xs1) (s2 : Sl w a2 n2 c2 xs2) :
    Calls Try.prog 6 #[.agg #[.bool m0, .slice a0 n0 c0], .agg #[.bool m1, .slice a1 n1 c1], .agg #[.bool m2, .slice a2 n2 c2]] w (RetB (.bool true) w) := by
  by_cases l0 : 25 < n0
  · exact wholeCommon_long0 l0
  by_cases l1 : 25 < n1
  · exact wholeCommon_long1 (by omega) l1
  by_cases l2 : 25 < n2
  · exact wholeCommon_long2 (by omega) (by omega) l2
  exact wholeCommon_short ⟨⟨xs0, s0, rfl⟩, by omega⟩ ⟨⟨xs1, s1, rfl⟩, by omega⟩ ⟨⟨xs2, s2, rfl⟩, by omega⟩ (by omega) (by omega) (by omega)

end Go.Proofs.Ytponiigpmjnffaa
