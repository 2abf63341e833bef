/-
  The law WholeDivides.
-/
import Derived.Test.YtponiigpmjnffaaWholeDividesA
import Derived.Test.YtponiigpmjnffaaWholeDividesB
import Derived.Test.YtponiigpmjnffaaWholeDividesC
import Derived.Test.YtponiigpmjnffaaWholeDividesD
import Derived.Test.YtponiigpmjnffaaWholeDividesE
import Derived.Test.YtponiigpmjnffaaWholeDividesF
import Derived.Test.YtponiigpmjnffaaWholeDividesG
import Derived.Test.YtponiigpmjnffaaWholeDividesH
import Derived.Test.YtponiigpmjnffaaWholeDividesI
import Derived.Deep.Cut
set_option maxRecDepth 8192
namespace Go.Proofs.Ytponiigpmjnffaa
open Go.RowKit

set_option maxHeartbeats 4000000 in
theorem wholeDivides_long0 (p : Int)  {m0 : Bool} {a0 : Option Addr} {n0 c0 : Nat} {m1 : Bool} {a1 : Option Addr} {n1 c1 : Nat} {w : World} (l0 : 25 < n0) :
    Calls Try.prog 4 #[.agg #[.bool m0, .slice a0 n0 c0], .agg #[.bool m1, .slice a1 n1 c1], .int .i64 p] w (RetB (.bool true) w) := by
  go_enter Try.func4, Try.ntmps4
  go_upto_region 1 with (fail)
  refine wp_world (fun W hW => ?_)
  have HB0 : Hid (Below w.heap.size w W) := by rw [hW]; exact step_alloc (below_alloc _ _)
  have S0 : Hid (St w W _ _) := Lib.hid (St.mk (Live.add_box (show Box W (w.heap.size) m0 a0 n0 c0 from by rw [hW]; exact (Box.new _ _ _ _ _ _ _ (by simp)).below (below_alloc _ _)) (Live.add_box (show Box W (w.heap.size + 1) m1 a1 n1 c1 from by rw [hW]; exact Box.new _ _ _ _ _ _ _ (by simp)) (Live.nil W))) (Live.nil W) HB0.out)
  clear hW HB0
  obtain ⟨bx_0, bx_1⟩ := S0.out.b.c
  obtain ⟨by_0, by_1⟩ := S0.out.b.t.c
  go_wp2_with fail
  refine (great2_yes0 _ _ _ _ _ _ _ _ W l0).mono ?_
  rintro e w1 ⟨rfl, hB⟩
  have HB1 := Lib.hid (Below.steps S0.out.h (step_alloc hB))
  clear bx_0 bx_1 by_0 by_1
  clear hB S0
  go_wp2_with fail
  refine (known4_any _).mono ?_
  rintro e w2 ⟨rfl, hB⟩
  go_wp2_with fail
  go_ret
  exact ⟨rfl, Below.steps HB1.out hB⟩

set_option maxHeartbeats 4000000 in
theorem wholeDivides_long1 (p : Int)  {m0 : Bool} {a0 : Option Addr} {n0 c0 : Nat} {m1 : Bool} {a1 : Option Addr} {n1 c1 : Nat} {w : World} (l0 : n0 ≤ 25) (l1 : 25 < n1) :
    Calls Try.prog 4 #[.agg #[.bool m0, .slice a0 n0 c0], .agg #[.bool m1, .slice a1 n1 c1], .int .i64 p] w (RetB (.bool true) w) := by
  go_enter Try.func4, Try.ntmps4
  go_upto_region 1 with (fail)
  refine wp_world (fun W hW => ?_)
  have HB0 : Hid (Below w.heap.size w W) := by rw [hW]; exact step_alloc (below_alloc _ _)
  have S0 : Hid (St w W _ _) := Lib.hid (St.mk (Live.add_box (show Box W (w.heap.size) m0 a0 n0 c0 from by rw [hW]; exact (Box.new _ _ _ _ _ _ _ (by simp)).below (below_alloc _ _)) (Live.add_box (show Box W (w.heap.size + 1) m1 a1 n1 c1 from by rw [hW]; exact Box.new _ _ _ _ _ _ _ (by simp)) (Live.nil W))) (Live.nil W) HB0.out)
  clear hW HB0
  obtain ⟨bx_0, bx_1⟩ := S0.out.b.c
  obtain ⟨by_0, by_1⟩ := S0.out.b.t.c
  go_wp2_with fail
  refine (great2_yes1 _ _ _ _ _ _ _ _ W l0 l1).mono ?_
  rintro e w1 ⟨rfl, hB⟩
  have HB1 := Lib.hid (Below.steps S0.out.h (step_alloc hB))
  clear bx_0 bx_1 by_0 by_1
  clear hB S0
  go_wp2_with fail
  refine (known4_any _).mono ?_
  rintro e w2 ⟨rfl, hB⟩
  go_wp2_with fail
  go_ret
  exact ⟨rfl, Below.steps HB1.out hB⟩

set_option maxHeartbeats 4000000 in
theorem wholeDivides_between (p : Int) {m0 : Bool} {a0 : Option Addr} {n0 c0 : Nat} {m1 : Bool} {a1 : Option Addr} {n1 c1 : Nat} {w : World} (l0 : n0 ≤ 25) (l1 : n1 ≤ 25) (hp : 6 < p ∧ p ≤ 1000) :
    Calls Try.prog 4 #[.agg #[.bool m0, .slice a0 n0 c0], .agg #[.bool m1, .slice a1 n1 c1], .int .i64 p] w (RetB (.bool true) w) := by
  have hq1 : decide (6 < p) = true := by simp; omega
  have hq2 : decide (p ≤ 1000) = true := by simp; omega
  go_enter Try.func4, Try.ntmps4
  go_upto_region 1 with (fail)
  refine wp_world (fun W hW => ?_)
  have HB0 : Hid (Below w.heap.size w W) := by rw [hW]; exact step_alloc (below_alloc _ _)
  have S0 : Hid (St w W _ _) := Lib.hid (St.mk (Live.add_box (show Box W (w.heap.size) m0 a0 n0 c0 from by rw [hW]; exact (Box.new _ _ _ _ _ _ _ (by simp)).below (below_alloc _ _)) (Live.add_box (show Box W (w.heap.size + 1) m1 a1 n1 c1 from by rw [hW]; exact Box.new _ _ _ _ _ _ _ (by simp)) (Live.nil W))) (Live.nil W) HB0.out)
  clear hW HB0
  obtain ⟨bx_0, bx_1⟩ := S0.out.b.c
  obtain ⟨by_0, by_1⟩ := S0.out.b.t.c
  go_wp2_with fail
  refine (great2_no _ _ _ _ _ _ _ _ W l0 l1).mono ?_
  rintro e w1 ⟨rfl, hB⟩
  have HB1 := Lib.hid (Below.steps S0.out.h (step_alloc hB))
  clear bx_0 bx_1 by_0 by_1
  clear hB S0
  go_wp2_with fail
  refine (known4_any _).mono ?_
  rintro e w2 ⟨rfl, hB⟩
  go_wp2_with fail
  go_ret
  exact ⟨rfl, Below.steps HB1.out hB⟩

theorem wholeDivides_any (p : Int) {m0 : Bool} {a0 : Option Addr} {n0 c0 : Nat} {m1 : Bool} {a1 : Option Addr} {n1 c1 : Nat} {xs ys : List Nat} {w : World} (s0 : Sl w a0 n0 c0 xs) (s1 : Sl w a1 n1 c1 ys) :
    Calls Try.prog 4 #[.agg #[.bool m0, .slice a0 n0 c0], .agg #[.bool m1, .slice a1 n1 c1], .int .i64 p] w (RetB (.bool true) w) := by
  by_cases l0 : 25 < n0
  · exact wholeDivides_long0 p l0
  by_cases l1 : 25 < n1
  · exact wholeDivides_long1 p (by omega) l1
  by_cases hp : 6 < p ∧ p ≤ 1000
  · exact wholeDivides_between p (by omega) (by omega) hp
  have h0 : Nx w m0 a0 n0 c0 (zOf m0 (val xs)) := ⟨⟨xs, s0, rfl⟩, by omega⟩
  have h1 : Nx w m1 a1 n1 c1 (zOf m1 (val ys)) := ⟨⟨ys, s1, rfl⟩, by omega⟩
  by_cases hd : zOf m1 (val ys) = 0
  · by_cases hn : p < 0
    · exact wholeDivides_neg_zero p h0 h1 (by omega) (by omega) (.inl hn) hn hd
    · by_cases hg : 1000 < p
      · exact wholeDivides_big_zero p h0 h1 (by omega) (by omega) (.inr hg) hg hd
      · obtain ⟨q, rfl⟩ := Int.eq_ofNat_of_zero_le (Int.not_lt.1 hn)
        exact wholeDivides_good_zero q h0 h1 (by omega) (by omega) (by omega) hd
  · by_cases he : (zOf m0 (val xs)).tmod (zOf m1 (val ys)) = 0
    · by_cases hn : p < 0
      · exact wholeDivides_neg_exact p h0 h1 (by omega) (by omega) (.inl hn) hn hd he
      · by_cases hg : 1000 < p
        · exact wholeDivides_big_exact p h0 h1 (by omega) (by omega) (.inr hg) hg hd he
        · obtain ⟨q, rfl⟩ := Int.eq_ofNat_of_zero_le (Int.not_lt.1 hn)
          exact wholeDivides_good_exact q h0 h1 (by omega) (by omega) (by omega) hd he
    · by_cases hn : p < 0
      · exact wholeDivides_neg_rest p h0 h1 (by omega) (by omega) (.inl hn) hn hd he
      · by_cases hg : 1000 < p
        · exact wholeDivides_big_rest p h0 h1 (by omega) (by omega) (.inr hg) hg hd he
        · obtain ⟨q, rfl⟩ := Int.eq_ofNat_of_zero_le (Int.not_lt.1 hn)
          exact wholeDivides_good_rest q h0 h1 (by omega) (by omega) (by omega) hd he

end Go.Proofs.Ytponiigpmjnffaa
