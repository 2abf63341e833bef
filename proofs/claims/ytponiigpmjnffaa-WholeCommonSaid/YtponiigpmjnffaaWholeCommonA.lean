/-
  A walk of the law WholeCommon.
-/
import Derived.Test.YtponiigpmjnffaaWSt
import Derived.Test.YtponiigpmjnffaaWKnown
import Derived.Test.YtponiigpmjnffaaWLaw
import Derived.Test.YtponiigpmjnffaaWAdd
import Derived.Test.YtponiigpmjnffaaWMul
import Derived.Test.YtponiigpmjnffaaWLawPlain
import Derived.Deep.Cut
import Derived.Deep.CutRange
set_option maxRecDepth 8192
namespace Go.Proofs.Ytponiigpmjnffaa
open Go.RowKit

set_option maxHeartbeats 40000000 in
set_option maxRecDepth 100000 in
theorem wholeCommon_nil  {m0 : Bool} {a0 : Option Addr} {n0 c0 : Nat} {m1 : Bool} {a1 : Option Addr} {n1 c1 : Nat} {m2 : Bool} {a2 : Option Addr} {n2 c2 : Nat} {x y z : Int} {w : World} (h0 : Nx w m0 a0 n0 c0 x) (h1 : Nx w m1 a1 n1 c1 y) (h2 : Nx w m2 a2 n2 c2 z) (l0 : n0 ≤ 25) (l1 : n1 ≤ 25) (l2 : n2 ≤ 25) (hg : ((x.gcd y : Nat) : Int) = 0) :
    Calls Try.prog 6 #[.agg #[.bool m0, .slice a0 n0 c0], .agg #[.bool m1, .slice a1 n1 c1], .agg #[.bool m2, .slice a2 n2 c2]] w (RetB (.bool true) w) := by
  have bd_x : Bd (x) 25 := h0.inn.bd l0
  have bd_y : Bd (y) 25 := h1.inn.bd l1
  have bd_z : Bd (z) 25 := h2.inn.bd l2
  have bd_o : Bd ((0 : Int)) 1 := bd_zero
  go_enter Try.func6, Try.ntmps6
  go_upto_region 1 with (fail)
  refine wp_world (fun W hW => ?_)
  have HB0 : Hid (Below w.heap.size w W) := by rw [hW]; exact step_alloc (step_alloc (below_alloc _ _))
  have S0 : Hid (St w W _ _) := Lib.hid (St.mk (Live.add_box (show Box W (w.heap.size) m0 a0 n0 c0 from by rw [hW]; exact ((Box.new _ _ _ _ _ _ _ (by simp)).below (below_alloc _ _)).below (below_alloc _ _)) (Live.add_box (show Box W (w.heap.size + 1) m1 a1 n1 c1 from by rw [hW]; exact (Box.new _ _ _ _ _ _ _ (by simp)).below (below_alloc _ _)) (Live.add_box (show Box W (w.heap.size + 2) m2 a2 n2 c2 from by rw [hW]; exact Box.new _ _ _ _ _ _ _ (by simp)) (Live.nil W)))) (Live.add_num (h0.below HB0.out) (Live.add_num (h1.below HB0.out) (Live.add_num (h2.below HB0.out) (Live.add_can (zero_cx W) (Live.nil W))))) HB0.out)
  clear hW HB0
  obtain ⟨bx_0, bx_1⟩ := S0.out.b.c
  obtain ⟨by_0, by_1⟩ := S0.out.b.t.c
  obtain ⟨bz_0, bz_1⟩ := S0.out.b.t.t.c
  have bd_g : Bd (((x.gcd y : Nat) : Int)) 25 := bd_x.gcd bd_y
  have HG := Lib.hid hg
  clear hg
  go_wp2_with fail
  refine (great3_no _ _ _ _ _ _ _ _ _ _ _ _ W l0 l1 l2).mono ?_
  rintro e w1 ⟨rfl, hB⟩
  have S1 := Lib.hid (S0.out.step (step_alloc hB))
  clear bx_0 bx_1 by_0 by_1 bz_0 bz_1
  clear S0 hB
  obtain ⟨bx_0, bx_1⟩ := S1.out.b.c
  obtain ⟨by_0, by_1⟩ := S1.out.b.t.c
  obtain ⟨bz_0, bz_1⟩ := S1.out.b.t.t.c
  go_wp2_with fail
  refine (wgcd_any S1.out.n.num S1.out.n.t.num).mono ?_
  rintro e w2 ⟨g_m, g_0, g_n, g_c, rfl, hX, hB⟩
  have S2 := Lib.hid ((S1.out.step hB).can (hX.cx bd_g (by omega)))
  clear bx_0 bx_1 by_0 by_1 bz_0 bz_1
  clear S1 hX hB
  obtain ⟨bx_0, bx_1⟩ := S2.out.b.c
  obtain ⟨by_0, by_1⟩ := S2.out.b.t.c
  obtain ⟨bz_0, bz_1⟩ := S2.out.b.t.t.c
  go_upto_region 4 with (fail)
  refine wp_world (fun w3 hW => ?_)
  clear bx_0 bx_1 by_0 by_1 bz_0 bz_1
  have S3 := Lib.hid (S2.out.alloc (w2.heap.size) g_m g_0 g_n g_c 24 (by simp))
  rw [← hW] at S3
  clear hW S2
  obtain ⟨bx_0, bx_1⟩ := S3.out.b.t.c
  obtain ⟨by_0, by_1⟩ := S3.out.b.t.t.c
  obtain ⟨bz_0, bz_1⟩ := S3.out.b.t.t.t.c
  obtain ⟨b_g_0, b_g_1⟩ := S3.out.b.c
  go_wp2_with fail
  have EQ1 := Lib.hid (show (((x.gcd y : Nat) : Int) : Int).sign = 0 from by rw [HG.out]; rfl)
  refine (wsign_is (0) S3.out.n.can.nx EQ1.out).mono ?_
  rintro e w4 ⟨rfl, hB⟩
  have S4 := Lib.hid (S3.out.step hB)
  clear bx_0 bx_1 by_0 by_1 bz_0 bz_1 b_g_0 b_g_1
  clear S3 hB
  obtain ⟨bx_0, bx_1⟩ := S4.out.b.t.c
  obtain ⟨by_0, by_1⟩ := S4.out.b.t.t.c
  obtain ⟨bz_0, bz_1⟩ := S4.out.b.t.t.t.c
  obtain ⟨b_g_0, b_g_1⟩ := S4.out.b.c
  go_wp2_with fail
  have EQ2 := Lib.hid (show (x : Int).sign = 0 from by rw [(zero_gcd HG.out).1]; rfl)
  refine (wsign_is (0) S4.out.n.t.num EQ2.out).mono ?_
  rintro e w5 ⟨rfl, hB⟩
  have S5 := Lib.hid (S4.out.step hB)
  clear bx_0 bx_1 by_0 by_1 bz_0 bz_1 b_g_0 b_g_1
  clear S4 hB
  obtain ⟨bx_0, bx_1⟩ := S5.out.b.t.c
  obtain ⟨by_0, by_1⟩ := S5.out.b.t.t.c
  obtain ⟨bz_0, bz_1⟩ := S5.out.b.t.t.t.c
  obtain ⟨b_g_0, b_g_1⟩ := S5.out.b.c
  go_wp2_with fail
  have EQ3 := Lib.hid (show (y : Int).sign = 0 from by rw [(zero_gcd HG.out).2]; rfl)
  refine (wsign_is (0) S5.out.n.t.t.num EQ3.out).mono ?_
  rintro e w6 ⟨rfl, hB⟩
  have S6 := Lib.hid (S5.out.step hB)
  clear bx_0 bx_1 by_0 by_1 bz_0 bz_1 b_g_0 b_g_1
  clear S5 hB
  obtain ⟨bx_0, bx_1⟩ := S6.out.b.t.c
  obtain ⟨by_0, by_1⟩ := S6.out.b.t.t.c
  obtain ⟨bz_0, bz_1⟩ := S6.out.b.t.t.t.c
  obtain ⟨b_g_0, b_g_1⟩ := S6.out.b.c
  go_wp2_with fail
  refine (known4_any _).mono ?_
  rintro e w7 ⟨rfl, hB⟩
  have S7 := Lib.hid (S6.out.step hB)
  clear bx_0 bx_1 by_0 by_1 bz_0 bz_1 b_g_0 b_g_1
  clear S6 hB
  obtain ⟨bx_0, bx_1⟩ := S7.out.b.t.c
  obtain ⟨by_0, by_1⟩ := S7.out.b.t.t.c
  obtain ⟨bz_0, bz_1⟩ := S7.out.b.t.t.t.c
  obtain ⟨b_g_0, b_g_1⟩ := S7.out.b.c
  go_wp2_with fail
  go_ret
  exact ⟨rfl, S7.out.h⟩

end Go.Proofs.Ytponiigpmjnffaa
