/-
  The walk of the law WholeOrder.
-/
import Derived.Test.YtponiigpmjnffaaWSt
import Derived.Test.YtponiigpmjnffaaWKnown
import Derived.Test.YtponiigpmjnffaaWLaw
import Derived.Test.YtponiigpmjnffaaWAdd
import Derived.Test.YtponiigpmjnffaaWMul
import Derived.Test.YtponiigpmjnffaaWSmall
import Derived.Test.YtponiigpmjnffaaWLawPlain
import Derived.Deep.Cut
set_option maxRecDepth 8192
namespace Go.Proofs.Ytponiigpmjnffaa
open Go.RowKit

set_option maxHeartbeats 40000000 in
set_option maxRecDepth 100000 in
theorem wholeOrder_fit (i : Int)  {m0 : Bool} {a0 : Option Addr} {n0 c0 : Nat} {m1 : Bool} {a1 : Option Addr} {n1 c1 : Nat} {m2 : Bool} {a2 : Option Addr} {n2 c2 : Nat} {x y z : Int} {w : World} (h0 : Nx w m0 a0 n0 c0 x) (h1 : Nx w m1 a1 n1 c1 y) (h2 : Nx w m2 a2 n2 c2 z) (l0 : n0 ≤ 25) (l1 : n1 ≤ 25) (l2 : n2 ≤ 25) (hi : -9223372036854775808 ≤ i ∧ i ≤ 9223372036854775807) (hf : (-9223372036854775808 ≤ x ∧ x ≤ 9223372036854775807)) :
    Calls Try.prog 8 #[.agg #[.bool m0, .slice a0 n0 c0], .agg #[.bool m1, .slice a1 n1 c1], .agg #[.bool m2, .slice a2 n2 c2], .int .i64 i] w (RetB (.bool true) w) := by
  have bd_x : Bd (x) 25 := h0.inn.bd l0
  have bd_y : Bd (y) 25 := h1.inn.bd l1
  have bd_z : Bd (z) 25 := h2.inn.bd l2
  have bd_o : Bd ((0 : Int)) 1 := bd_zero
  go_enter Try.func8, Try.ntmps8
  go_upto_region 1 with (fail)
  refine wp_world (fun W hW => ?_)
  have HB0 : Hid (Below w.heap.size w W) := by rw [hW]; exact step_alloc (step_alloc (below_alloc _ _))
  have S0 : Hid (St w W _ _) := Lib.hid (St.mk (Live.add_box (show Box W (w.heap.size) m0 a0 n0 c0 from by rw [hW]; exact ((Box.new _ _ _ _ _ _ _ (by simp)).below (below_alloc _ _)).below (below_alloc _ _)) (Live.add_box (show Box W (w.heap.size + 1) m1 a1 n1 c1 from by rw [hW]; exact (Box.new _ _ _ _ _ _ _ (by simp)).below (below_alloc _ _)) (Live.add_box (show Box W (w.heap.size + 2) m2 a2 n2 c2 from by rw [hW]; exact Box.new _ _ _ _ _ _ _ (by simp)) (Live.nil W)))) (Live.add_num (h0.below HB0.out) (Live.add_num (h1.below HB0.out) (Live.add_num (h2.below HB0.out) (Live.add_can (zero_cx W) (Live.nil W))))) HB0.out)
  clear hW HB0
  obtain ⟨bx_0, bx_1⟩ := S0.out.b.c
  obtain ⟨by_0, by_1⟩ := S0.out.b.t.c
  obtain ⟨bz_0, bz_1⟩ := S0.out.b.t.t.c
  obtain ⟨c, hc⟩ : ∃ c, cmpZ x y = c := ⟨_, rfl⟩
  obtain ⟨sz, hsz⟩ : ∃ sz, z.sign = sz := ⟨_, rfl⟩
  obtain ⟨sx, hsx⟩ : ∃ sx, x.sign = sx := ⟨_, rfl⟩
  obtain ⟨d, hd⟩ : ∃ d, cmpZ (x * z) (y * z) = d := ⟨_, rfl⟩
  have ew1 : IntKind.i64.wrap (c * sz) = d := by rw [← hc, ← hsz, ← hd]; exact cmp_mul x y z
  have HC := Lib.hid hc
  have HSZ := Lib.hid hsz
  have HSX := Lib.hid hsx
  have HD := Lib.hid hd
  clear hc hsz hsx hd
  have HF := Lib.hid hf
  clear hf
  go_wp2_with fail
  refine (great3_no _ _ _ _ _ _ _ _ _ _ _ _ W l0 l1 l2).mono ?_
  rintro e w1 ⟨rfl, hB⟩
  have S1 := Lib.hid (S0.out.step (step_alloc hB))
  clear bx_0 bx_1 by_0 by_1 bz_0 bz_1
  clear S0 hB
  obtain ⟨bx_0, bx_1⟩ := S1.out.b.c
  obtain ⟨by_0, by_1⟩ := S1.out.b.t.c
  obtain ⟨bz_0, bz_1⟩ := S1.out.b.t.t.c
  go_wp2_with fail
  have EQ1 := Lib.hid (show cmpZ x y = c from HC.out)
  refine (wcmp_is (c) S1.out.n.num S1.out.n.t.num EQ1.out).mono ?_
  rintro e w2 ⟨rfl, hB⟩
  have S2 := Lib.hid (S1.out.step hB)
  clear bx_0 bx_1 by_0 by_1 bz_0 bz_1
  clear S1 hB
  obtain ⟨bx_0, bx_1⟩ := S2.out.b.c
  obtain ⟨by_0, by_1⟩ := S2.out.b.t.c
  obtain ⟨bz_0, bz_1⟩ := S2.out.b.t.t.c
  go_wp2_with fail
  have bd_xz : Bd ((x + z)) 26 := (bd_x.mono (show 25 ≤ 25 by omega)).add (bd_z.mono (show 25 ≤ 25 by omega)) (by omega)
  have bd_yz : Bd ((y + z)) 26 := (bd_y.mono (show 25 ≤ 25 by omega)).add (bd_z.mono (show 25 ≤ 25 by omega)) (by omega)
  have EQ2 := Lib.hid (show cmpZ (x + z) (y + z) = c from by rw [cmp_add]; exact HC.out)
  have bd_ny : Bd ((-y)) 25 := bd_y.neg
  have bd_nx : Bd ((-x)) 25 := bd_x.neg
  have EQ3 := Lib.hid (show cmpZ (-y) (-x) = c from by rw [cmp_neg]; exact HC.out)
  have bd_xy : Bd ((x - y)) 26 := (bd_x.mono (show 25 ≤ 25 by omega)).sub (bd_y.mono (show 25 ≤ 25 by omega)) (by omega)
  have EQ4 := Lib.hid (show ((x - y) : Int).sign = c from HC.out)
  clear bx_0 bx_1 by_0 by_1 bz_0 bz_1
  have S3 := Lib.hid S2.out.drew
  clear S2
  refine wp_region_held_drew (S := fun w' => (w'.cell? ⟨(w.heap.size), 0, none⟩ = some (.bool m0) ∧ w'.cell? ⟨(w.heap.size), 1, none⟩ = some (.slice a0 n0 c0)) ∧ (w'.cell? ⟨(w.heap.size + 1), 0, none⟩ = some (.bool m1) ∧ w'.cell? ⟨(w.heap.size + 1), 1, none⟩ = some (.slice a1 n1 c1)) ∧ (w'.cell? ⟨(w.heap.size + 2), 0, none⟩ = some (.bool m2) ∧ w'.cell? ⟨(w.heap.size + 2), 1, none⟩ = some (.slice a2 n2 c2))) (by kernel_rfl) (⟨S3.out.b.c, S3.out.b.t.c, S3.out.b.t.t.c⟩) (fun hH => ?_)
  refine anyH_world (fun w3 hW => ?_)
  rw [← hW] at S3 hH
  clear hW
  refine step_on 0 rfl (by kernel_rfl) (fun _ _ _ h => h) (by rfl) hH (by intro w hS; go_simp <;> with_reducible rfl) ?_
  try simp only [nrm]
  refine step_on 1 rfl (by kernel_rfl) (fun _ _ _ h => h) (by rfl) hH (by intro w hS; go_simp <;> with_reducible rfl) ?_
  try simp only [nrm]
  refine step_on 2 rfl (by kernel_rfl) (fun _ _ _ h => h) (by rfl) hH (by intro w hS; go_simp <;> with_reducible rfl) ?_
  try simp only [nrm]
  refine step_on 4 rfl (by kernel_rfl) (fun _ _ _ h => h) (by rfl) hH (by intro w hS; go_simp <;> with_reducible rfl) ?_
  try simp only [nrm]
  refine step_on 5 rfl (by kernel_rfl) (fun _ _ _ h => h) (by rfl) hH (by intro w hS; go_simp <;> with_reducible rfl) ?_
  try simp only [nrm]
  refine step_one 3 rfl (by kernel_rfl) (fun K hK => ?_)
  go_simp
  refine (wadd_any S3.out.n.num S3.out.n.t.t.num).mono ?_
  rintro e w4 ⟨xz_m, xz_0, xz_n, xz_c, rfl, hX, hB⟩
  have S4 := Lib.hid ((S3.out.step hB).can (hX.cx bd_xz (by omega)))
  clear S3 hX hB
  go_wp2_with fail
  refine hK.out _ _ ⟨S4.out.b.c, S4.out.b.t.c, S4.out.b.t.t.c⟩ (fun h2 => ?_)
  clear hK K hH
  have hH := h2
  clear h2
  try simp only [nrm]
  refine step_one 6 rfl (by kernel_rfl) (fun K hK => ?_)
  go_simp
  refine (wadd_any S4.out.n.t.t.num S4.out.n.t.t.t.num).mono ?_
  rintro e w5 ⟨yz_m, yz_0, yz_n, yz_c, rfl, hX, hB⟩
  have S5 := Lib.hid ((S4.out.step hB).can (hX.cx bd_yz (by omega)))
  clear S4 hX hB
  go_wp2_with fail
  refine hK.out _ _ ⟨S5.out.b.c, S5.out.b.t.c, S5.out.b.t.t.c⟩ (fun h2 => ?_)
  clear hK K hH
  have hH := h2
  clear h2
  try simp only [nrm]
  refine step_one 7 rfl (by kernel_rfl) (fun K hK => ?_)
  go_simp
  refine (wcmp_is (c) S5.out.n.t.can.nx S5.out.n.can.nx EQ2.out).mono ?_
  rintro e w6 ⟨rfl, hB⟩
  have S6 := Lib.hid (S5.out.step hB)
  clear S5 hB
  go_wp2_with fail
  refine hK.out _ _ ⟨S6.out.b.c, S6.out.b.t.c, S6.out.b.t.t.c⟩ (fun h2 => ?_)
  clear hK K hH
  have hH := h2
  clear h2
  try simp only [nrm]
  refine step_on 8 rfl (by kernel_rfl) (fun _ _ _ h => h) (by rfl) hH (by intro w hS; go_simp <;> with_reducible rfl) ?_
  try simp only [nrm]
  refine step_on 9 rfl (by kernel_rfl) (fun _ _ _ h => h) (by rfl) hH (by intro w hS; go_simp <;> with_reducible rfl) ?_
  try simp only [nrm]
  refine step_on 10 rfl (by kernel_rfl) (fun _ _ _ h => h) (by rfl) hH (by intro w hS; go_simp <;> with_reducible rfl) ?_
  try simp only [nrm]
  refine step_on 11 rfl (by kernel_rfl) (fun _ _ _ h => h) (by rfl) hH (by intro w hS; go_simp <;> with_reducible rfl) ?_
  try simp only [nrm]
  refine step_on 13 rfl (by kernel_rfl) (fun _ _ _ h => h) (by rfl) hH (by intro w hS; go_simp <;> with_reducible rfl) ?_
  try simp only [nrm]
  refine step_one 12 rfl (by kernel_rfl) (fun K hK => ?_)
  go_simp
  refine (wneg_any S6.out.n.t.t.t.num).mono ?_
  rintro e w7 ⟨ny_m, ny_0, ny_n, ny_c, rfl, hX, hB⟩
  have S7 := Lib.hid ((S6.out.step hB).can (hX.cx bd_ny (by omega)))
  clear S6 hX hB
  go_wp2_with fail
  refine hK.out _ _ ⟨S7.out.b.c, S7.out.b.t.c, S7.out.b.t.t.c⟩ (fun h2 => ?_)
  clear hK K hH
  have hH := h2
  clear h2
  try simp only [nrm]
  refine step_one 14 rfl (by kernel_rfl) (fun K hK => ?_)
  go_simp
  refine (wneg_any S7.out.n.t.t.t.num).mono ?_
  rintro e w8 ⟨nx_m, nx_0, nx_n, nx_c, rfl, hX, hB⟩
  have S8 := Lib.hid ((S7.out.step hB).can (hX.cx bd_nx (by omega)))
  clear S7 hX hB
  go_wp2_with fail
  refine hK.out _ _ ⟨S8.out.b.c, S8.out.b.t.c, S8.out.b.t.t.c⟩ (fun h2 => ?_)
  clear hK K hH
  have hH := h2
  clear h2
  try simp only [nrm]
  refine step_one 15 rfl (by kernel_rfl) (fun K hK => ?_)
  go_simp
  refine (wcmp_is (c) S8.out.n.t.can.nx S8.out.n.can.nx EQ3.out).mono ?_
  rintro e w9 ⟨rfl, hB⟩
  have S9 := Lib.hid (S8.out.step hB)
  clear S8 hB
  go_wp2_with fail
  refine hK.out _ _ ⟨S9.out.b.c, S9.out.b.t.c, S9.out.b.t.t.c⟩ (fun h2 => ?_)
  clear hK K hH
  have hH := h2
  clear h2
  try simp only [nrm]
  refine step_on 16 rfl (by kernel_rfl) (fun _ _ _ h => h) (by rfl) hH (by intro w hS; go_simp <;> with_reducible rfl) ?_
  try simp only [nrm]
  refine step_on 17 rfl (by kernel_rfl) (fun _ _ _ h => h) (by rfl) hH (by intro w hS; go_simp <;> with_reducible rfl) ?_
  try simp only [nrm]
  refine step_on 18 rfl (by kernel_rfl) (fun _ _ _ h => h) (by rfl) hH (by intro w hS; go_simp <;> with_reducible rfl) ?_
  try simp only [nrm]
  refine step_on 19 rfl (by kernel_rfl) (fun _ _ _ h => h) (by rfl) hH (by intro w hS; go_simp <;> with_reducible rfl) ?_
  try simp only [nrm]
  refine step_on 20 rfl (by kernel_rfl) (fun _ _ _ h => h) (by rfl) hH (by intro w hS; go_simp <;> with_reducible rfl) ?_
  try simp only [nrm]
  refine step_on 21 rfl (by kernel_rfl) (fun _ _ _ h => h) (by rfl) hH (by intro w hS; go_simp <;> with_reducible rfl) ?_
  try simp only [nrm]
  refine step_one 22 rfl (by kernel_rfl) (fun K hK => ?_)
  go_simp
  refine (wsub_any S9.out.n.t.t.t.t.num S9.out.n.t.t.t.t.t.num).mono ?_
  rintro e w10 ⟨xy_m, xy_0, xy_n, xy_c, rfl, hX, hB⟩
  have S10 := Lib.hid ((S9.out.step hB).can (hX.cx bd_xy (by omega)))
  clear S9 hX hB
  go_wp2_with fail
  refine hK.out _ _ ⟨S10.out.b.c, S10.out.b.t.c, S10.out.b.t.t.c⟩ (fun h2 => ?_)
  clear hK K hH
  have hH := h2
  clear h2
  try simp only [nrm]
  refine step_one 23 rfl (by kernel_rfl) (fun K hK => ?_)
  go_simp
  refine (wsign_is (c) S10.out.n.can.nx EQ4.out).mono ?_
  rintro e w11 ⟨rfl, hB⟩
  have S11 := Lib.hid (S10.out.step hB)
  clear S10 hB
  go_wp2_with fail
  refine hK.out _ _ ⟨S11.out.b.c, S11.out.b.t.c, S11.out.b.t.t.c⟩ (fun h2 => ?_)
  clear hK K hH
  have hH := h2
  clear h2
  try simp only [nrm]
  refine step_on 24 rfl (by kernel_rfl) (fun _ _ _ h => h) (by rfl) hH (by intro w hS; go_simp <;> with_reducible rfl) ?_
  try simp only [nrm]
  refine step_on 25 rfl (by kernel_rfl) (fun _ _ _ h => h) (by rfl) hH (by intro w hS; go_simp <;> with_reducible rfl) ?_
  try simp only [nrm]
  refine wpAnyH_done (by kernel_rfl) ?_ _
  clear hH
  obtain ⟨bx_0, bx_1⟩ := S11.out.b.c
  obtain ⟨by_0, by_1⟩ := S11.out.b.t.c
  obtain ⟨bz_0, bz_1⟩ := S11.out.b.t.t.c
  go_wp2_with fail
  have bd_mxz : Bd ((x * z)) 50 := bd_x.mul bd_z
  have bd_myz : Bd ((y * z)) 50 := bd_y.mul bd_z
  have EQ5 := Lib.hid (show cmpZ (x * z) (y * z) = d from HD.out)
  have EQ6 := Lib.hid (show (z : Int).sign = sz from HSZ.out)
  have EQ7 := Lib.hid (show (x : Int).sign = sx from HSX.out)
  have EQ8 := Lib.hid (show cmpZ x (0 : Int) = sx from by rw [cmp_zero]; exact HSX.out)
  clear bx_0 bx_1 by_0 by_1 bz_0 bz_1
  have S12 := Lib.hid S11.out.drew
  clear S11
  refine wp_region_held_drew (S := fun w' => (w'.cell? ⟨(w.heap.size), 0, none⟩ = some (.bool m0) ∧ w'.cell? ⟨(w.heap.size), 1, none⟩ = some (.slice a0 n0 c0)) ∧ (w'.cell? ⟨(w.heap.size + 1), 0, none⟩ = some (.bool m1) ∧ w'.cell? ⟨(w.heap.size + 1), 1, none⟩ = some (.slice a1 n1 c1)) ∧ (w'.cell? ⟨(w.heap.size + 2), 0, none⟩ = some (.bool m2) ∧ w'.cell? ⟨(w.heap.size + 2), 1, none⟩ = some (.slice a2 n2 c2))) (by kernel_rfl) (⟨S12.out.b.c, S12.out.b.t.c, S12.out.b.t.t.c⟩) (fun hH => ?_)
  refine anyH_world (fun w12 hW => ?_)
  rw [← hW] at S12 hH
  clear hW
  refine step_on 0 rfl (by kernel_rfl) (fun _ _ _ h => h) (by rfl) hH (by intro w hS; go_simp <;> with_reducible rfl) ?_
  try simp only [nrm]
  refine step_on 1 rfl (by kernel_rfl) (fun _ _ _ h => h) (by rfl) hH (by intro w hS; go_simp <;> with_reducible rfl) ?_
  try simp only [nrm]
  refine step_on 3 rfl (by kernel_rfl) (fun _ _ _ h => h) (by rfl) hH (by intro w hS; go_simp <;> with_reducible rfl) ?_
  try simp only [nrm]
  refine step_on 4 rfl (by kernel_rfl) (fun _ _ _ h => h) (by rfl) hH (by intro w hS; go_simp <;> with_reducible rfl) ?_
  try simp only [nrm]
  refine step_on 7 rfl (by kernel_rfl) (fun _ _ _ h => h) (by rfl) hH (by intro w hS; go_simp <;> with_reducible rfl) ?_
  try simp only [nrm]
  refine step_on 8 rfl (by kernel_rfl) (fun _ _ _ h => h) (by rfl) hH (by intro w hS; go_simp <;> with_reducible rfl) ?_
  try simp only [nrm]
  refine step_one 2 rfl (by kernel_rfl) (fun K hK => ?_)
  go_simp
  refine (wmul_any S12.out.n.t.t.t.t.t.num S12.out.n.t.t.t.t.t.t.t.num).mono ?_
  rintro e w13 ⟨mxz_m, mxz_0, mxz_n, mxz_c, rfl, hX, hB⟩
  have S13 := Lib.hid ((S12.out.step hB).can (hX.cx bd_mxz (by omega)))
  clear S12 hX hB
  go_wp2_with fail
  refine hK.out _ _ ⟨S13.out.b.c, S13.out.b.t.c, S13.out.b.t.t.c⟩ (fun h2 => ?_)
  clear hK K hH
  have hH := h2
  clear h2
  try simp only [nrm]
  refine step_one 5 rfl (by kernel_rfl) (fun K hK => ?_)
  go_simp
  refine (wmul_any S13.out.n.t.t.t.t.t.t.t.num S13.out.n.t.t.t.t.t.t.t.t.num).mono ?_
  rintro e w14 ⟨myz_m, myz_0, myz_n, myz_c, rfl, hX, hB⟩
  have S14 := Lib.hid ((S13.out.step hB).can (hX.cx bd_myz (by omega)))
  clear S13 hX hB
  go_wp2_with fail
  refine hK.out _ _ ⟨S14.out.b.c, S14.out.b.t.c, S14.out.b.t.t.c⟩ (fun h2 => ?_)
  clear hK K hH
  have hH := h2
  clear h2
  try simp only [nrm]
  refine step_one 6 rfl (by kernel_rfl) (fun K hK => ?_)
  go_simp
  refine (wcmp_is (d) S14.out.n.t.can.nx S14.out.n.can.nx EQ5.out).mono ?_
  rintro e w15 ⟨rfl, hB⟩
  have S15 := Lib.hid (S14.out.step hB)
  clear S14 hB
  go_wp2_with fail
  refine hK.out _ _ ⟨S15.out.b.c, S15.out.b.t.c, S15.out.b.t.t.c⟩ (fun h2 => ?_)
  clear hK K hH
  have hH := h2
  clear h2
  try simp only [nrm]
  refine step_one 9 rfl (by kernel_rfl) (fun K hK => ?_)
  go_simp
  refine (wsign_is (sz) S15.out.n.t.t.t.t.t.t.t.t.t.num EQ6.out).mono ?_
  rintro e w16 ⟨rfl, hB⟩
  have S16 := Lib.hid (S15.out.step hB)
  clear S15 hB
  go_wp2_with fail
  refine hK.out _ _ ⟨S16.out.b.c, S16.out.b.t.c, S16.out.b.t.t.c⟩ (fun h2 => ?_)
  clear hK K hH
  have hH := h2
  clear h2
  try simp only [nrm]
  refine step_on 10 rfl (by kernel_rfl) (fun _ _ _ h => h) (by rfl) hH (by intro w hS; go_simp <;> with_reducible rfl) ?_
  try simp only [nrm]
  refine step_on 11 rfl (by kernel_rfl) (fun _ _ _ h => h) (by rfl) hH (by intro w hS; go_simp <;> with_reducible rfl) ?_
  try simp only [nrm]
  refine step_on 12 rfl (by kernel_rfl) (fun _ _ _ h => h) (by rfl) hH (by intro w hS; go_simp <;> with_reducible rfl) ?_
  try simp only [nrm]
  refine step_on 13 rfl (by kernel_rfl) (fun _ _ _ h => h) (by rfl) hH (by intro w hS; go_simp <;> with_reducible rfl) ?_
  try simp only [nrm]
  refine step_on 15 rfl (by kernel_rfl) (fun _ _ _ h => h) (by rfl) hH (by intro w hS; go_simp <;> with_reducible rfl) ?_
  try simp only [nrm]
  refine step_on 16 rfl (by kernel_rfl) (fun _ _ _ h => h) (by rfl) hH (by intro w hS; go_simp <;> with_reducible rfl) ?_
  try simp only [nrm]
  refine step_one 14 rfl (by kernel_rfl) (fun K hK => ?_)
  go_simp
  refine (wsign_is (sx) S16.out.n.t.t.t.t.t.t.t.num EQ7.out).mono ?_
  rintro e w17 ⟨rfl, hB⟩
  have S17 := Lib.hid (S16.out.step hB)
  clear S16 hB
  go_wp2_with fail
  refine hK.out _ _ ⟨S17.out.b.c, S17.out.b.t.c, S17.out.b.t.t.c⟩ (fun h2 => ?_)
  clear hK K hH
  have hH := h2
  clear h2
  try simp only [nrm]
  refine step_one 17 rfl (by kernel_rfl) (fun K hK => ?_)
  go_simp
  refine (wcmp_is (sx) S17.out.n.t.t.t.t.t.t.t.num S17.out.n.t.t.t.t.t.t.t.t.t.t.can.nx EQ8.out).mono ?_
  rintro e w18 ⟨rfl, hB⟩
  have S18 := Lib.hid (S17.out.step hB)
  clear S17 hB
  go_wp2_with fail
  refine hK.out _ _ ⟨S18.out.b.c, S18.out.b.t.c, S18.out.b.t.t.c⟩ (fun h2 => ?_)
  clear hK K hH
  have hH := h2
  clear h2
  try simp only [nrm]
  refine step_on 18 rfl (by kernel_rfl) (fun _ _ _ h => h) (by rfl) hH (by intro w hS; go_simp <;> with_reducible rfl) ?_
  try simp only [nrm]
  refine step_on 19 rfl (by kernel_rfl) (fun _ _ _ h => h) (by rfl) hH (by intro w hS; go_simp <;> with_reducible rfl) ?_
  try simp only [nrm]
  refine wpAnyH_done (by kernel_rfl) ?_ _
  clear hH
  obtain ⟨bx_0, bx_1⟩ := S18.out.b.c
  obtain ⟨by_0, by_1⟩ := S18.out.b.t.c
  obtain ⟨bz_0, bz_1⟩ := S18.out.b.t.t.c
  go_wp2_with fail
  clear ew1
  have bd_ni : Bd (i) 2 := bd64 hi
  refine (wof_any (i) _ hi).mono ?_
  rintro e w19 ⟨ni_m, ni_0, ni_n, ni_c, rfl, hX, hB⟩
  have S19 := Lib.hid ((S18.out.step hB).can (hX.cx bd_ni (by omega)))
  clear bx_0 bx_1 by_0 by_1 bz_0 bz_1
  clear S18 hX hB
  obtain ⟨bx_0, bx_1⟩ := S19.out.b.c
  obtain ⟨by_0, by_1⟩ := S19.out.b.t.c
  obtain ⟨bz_0, bz_1⟩ := S19.out.b.t.t.c
  go_wp2_with fail
  refine (wsmall_yes S19.out.n.can.nx hi).mono ?_
  rintro e w20 ⟨rfl, hB⟩
  have S20 := Lib.hid (S19.out.step hB)
  clear bx_0 bx_1 by_0 by_1 bz_0 bz_1
  clear S19 hB
  obtain ⟨bx_0, bx_1⟩ := S20.out.b.c
  obtain ⟨by_0, by_1⟩ := S20.out.b.t.c
  obtain ⟨bz_0, bz_1⟩ := S20.out.b.t.t.c
  go_wp2_with fail
  refine (wsmall_yes S20.out.n.t.t.t.t.t.t.t.t.num HF.out).mono ?_
  rintro e w21 ⟨rfl, hB⟩
  have S21 := Lib.hid (S20.out.step hB)
  clear bx_0 bx_1 by_0 by_1 bz_0 bz_1
  clear S20 hB
  obtain ⟨bx_0, bx_1⟩ := S21.out.b.c
  obtain ⟨by_0, by_1⟩ := S21.out.b.t.c
  obtain ⟨bz_0, bz_1⟩ := S21.out.b.t.t.c
  go_wp2_with fail
  have bd_kx : Bd (x) 2 := bd64 HF.out
  have EQ9 := Lib.hid (show cmpZ x x = 0 from cmpZ_eq rfl)
  clear bx_0 bx_1 by_0 by_1 bz_0 bz_1
  have S22 := Lib.hid S21.out.drew
  clear S21
  refine wp_region_held_drew (S := fun w' => (w'.cell? ⟨(w.heap.size), 0, none⟩ = some (.bool m0) ∧ w'.cell? ⟨(w.heap.size), 1, none⟩ = some (.slice a0 n0 c0))) (by kernel_rfl) (S22.out.b.c) (fun hH => ?_)
  refine anyH_world (fun w22 hW => ?_)
  rw [← hW] at S22 hH
  clear hW
  refine step_on 0 rfl (by kernel_rfl) (fun _ _ _ h => h) (by rfl) hH (by intro w hS; go_simp <;> with_reducible rfl) ?_
  try simp only [nrm]
  refine step_on 1 rfl (by kernel_rfl) (fun _ _ _ h => h) (by rfl) hH (by intro w hS; go_simp <;> with_reducible rfl) ?_
  try simp only [nrm]
  refine step_on 2 rfl (by kernel_rfl) (fun _ _ _ h => h) (by rfl) hH (by intro w hS; go_simp <;> with_reducible rfl) ?_
  try simp only [nrm]
  refine step_on 3 rfl (by kernel_rfl) (fun _ _ _ h => h) (by rfl) hH (by intro w hS; go_simp <;> with_reducible rfl) ?_
  try simp only [nrm]
  refine step_on 4 rfl (by kernel_rfl) (fun _ _ _ h => h) (by rfl) hH (by intro w hS; go_simp <;> with_reducible rfl) ?_
  try simp only [nrm]
  refine step_on 5 rfl (by kernel_rfl) (fun _ _ _ h => h) (by rfl) hH (by intro w hS; go_simp <;> with_reducible rfl) ?_
  try simp only [nrm]
  refine step_on 6 rfl (by kernel_rfl) (fun _ _ _ h => h) (by rfl) hH (by intro w hS; go_simp <;> with_reducible rfl) ?_
  try simp only [nrm]
  refine step_on 7 rfl (by kernel_rfl) (fun _ _ _ h => h) (by rfl) hH (by intro w hS; go_simp <;> with_reducible rfl) ?_
  try simp only [nrm]
  refine step_on 8 rfl (by kernel_rfl) (fun _ _ _ h => h) (by rfl) hH (by intro w hS; go_simp <;> with_reducible rfl) ?_
  try simp only [nrm]
  refine step_on 9 rfl (by kernel_rfl) (fun _ _ _ h => h) (by rfl) hH (by intro w hS; go_simp <;> with_reducible rfl) ?_
  try simp only [nrm]
  refine step_on 10 rfl (by kernel_rfl) (fun _ _ _ h => h) (by rfl) hH (by intro w hS; go_simp <;> with_reducible rfl) ?_
  try simp only [nrm]
  refine step_on 12 rfl (by kernel_rfl) (fun _ _ _ h => h) (by rfl) hH (by intro w hS; go_simp <;> with_reducible rfl) ?_
  try simp only [nrm]
  refine step_one 11 rfl (by kernel_rfl) (fun K hK => ?_)
  go_simp
  refine (wof_any (x) _ HF.out).mono ?_
  rintro e w23 ⟨kx_m, kx_0, kx_n, kx_c, rfl, hX, hB⟩
  have S23 := Lib.hid ((S22.out.step hB).can (hX.cx bd_kx (by omega)))
  clear S22 hX hB
  go_wp2_with fail
  refine hK.out _ _ (S23.out.b.c) (fun h2 => ?_)
  clear hK K hH
  have hH := h2
  clear h2
  try simp only [nrm]
  refine step_one 13 rfl (by kernel_rfl) (fun K hK => ?_)
  go_simp
  refine (wcmp_is (0) S23.out.n.can.nx S23.out.n.t.t.t.t.t.t.t.t.t.num EQ9.out).mono ?_
  rintro e w24 ⟨rfl, hB⟩
  have S24 := Lib.hid (S23.out.step hB)
  clear S23 hB
  go_wp2_with fail
  refine hK.out _ _ (S24.out.b.c) (fun h2 => ?_)
  clear hK K hH
  have hH := h2
  clear h2
  try simp only [nrm]
  refine step_on 14 rfl (by kernel_rfl) (fun _ _ _ h => h) (by rfl) hH (by intro w hS; go_simp <;> with_reducible rfl) ?_
  try simp only [nrm]
  refine step_on 15 rfl (by kernel_rfl) (fun _ _ _ h => h) (by rfl) hH (by intro w hS; go_simp <;> with_reducible rfl) ?_
  try simp only [nrm]
  refine step_on 16 rfl (by kernel_rfl) (fun _ _ _ h => h) (by rfl) hH (by intro w hS; go_simp <;> with_reducible rfl) ?_
  try simp only [nrm]
  refine step_on 17 rfl (by kernel_rfl) (fun _ _ _ h => h) (by rfl) hH (by intro w hS; go_simp <;> with_reducible rfl) ?_
  try simp only [nrm]
  refine step_one 18 rfl (by kernel_rfl) (fun K hK => ?_)
  go_simp
  refine (known4_any _).mono ?_
  rintro e w25 ⟨rfl, hB⟩
  have S25 := Lib.hid (S24.out.step hB)
  clear S24 hB
  go_wp2_with fail
  refine hK.out _ _ (S25.out.b.c) (fun h2 => ?_)
  clear hK K hH
  have hH := h2
  clear h2
  try simp only [nrm]
  refine step_on 19 rfl (by kernel_rfl) (fun _ _ _ h => h) (by rfl) hH (by intro w hS; go_simp <;> with_reducible rfl) ?_
  try simp only [nrm]
  refine step_on 20 rfl (by kernel_rfl) (fun _ _ _ h => h) (by rfl) hH (by intro w hS; go_simp <;> with_reducible rfl) ?_
  try simp only [nrm]
  refine wpAnyH_done (by kernel_rfl) ?_ _
  clear hH
  obtain ⟨bx_0, bx_1⟩ := S25.out.b.c
  obtain ⟨by_0, by_1⟩ := S25.out.b.t.c
  obtain ⟨bz_0, bz_1⟩ := S25.out.b.t.t.c
  go_wp2_with fail
  go_ret
  exact ⟨rfl, S25.out.h⟩

set_option maxHeartbeats 40000000 in
set_option maxRecDepth 100000 in
theorem wholeOrder_no (i : Int)  {m0 : Bool} {a0 : Option Addr} {n0 c0 : Nat} {m1 : Bool} {a1 : Option Addr} {n1 c1 : Nat} {m2 : Bool} {a2 : Option Addr} {n2 c2 : Nat} {x y z : Int} {w : World} (h0 : Nx w m0 a0 n0 c0 x) (h1 : Nx w m1 a1 n1 c1 y) (h2 : Nx w m2 a2 n2 c2 z) (l0 : n0 ≤ 25) (l1 : n1 ≤ 25) (l2 : n2 ≤ 25) (hi : -9223372036854775808 ≤ i ∧ i ≤ 9223372036854775807) (hf : ¬(-9223372036854775808 ≤ x ∧ x ≤ 9223372036854775807)) :
    Calls Try.prog 8 #[.agg #[.bool m0, .slice a0 n0 c0], .agg #[.bool m1, .slice a1 n1 c1], .agg #[.bool m2, .slice a2 n2 c2], .int .i64 i] w (RetB (.bool true) w) := by
  have bd_x : Bd (x) 25 := h0.inn.bd l0
  have bd_y : Bd (y) 25 := h1.inn.bd l1
  have bd_z : Bd (z) 25 := h2.inn.bd l2
  have bd_o : Bd ((0 : Int)) 1 := bd_zero
  go_enter Try.func8, Try.ntmps8
  go_upto_region 1 with (fail)
  refine wp_world (fun W hW => ?_)
  have HB0 : Hid (Below w.heap.size w W) := by rw [hW]; exact step_alloc (step_alloc (below_alloc _ _))
  have S0 : Hid (St w W _ _) := Lib.hid (St.mk (Live.add_box (show Box W (w.heap.size) m0 a0 n0 c0 from by rw [hW]; exact ((Box.new _ _ _ _ _ _ _ (by simp)).below (below_alloc _ _)).below (below_alloc _ _)) (Live.add_box (show Box W (w.heap.size + 1) m1 a1 n1 c1 from by rw [hW]; exact (Box.new _ _ _ _ _ _ _ (by simp)).below (below_alloc _ _)) (Live.add_box (show Box W (w.heap.size + 2) m2 a2 n2 c2 from by rw [hW]; exact Box.new _ _ _ _ _ _ _ (by simp)) (Live.nil W)))) (Live.add_num (h0.below HB0.out) (Live.add_num (h1.below HB0.out) (Live.add_num (h2.below HB0.out) (Live.add_can (zero_cx W) (Live.nil W))))) HB0.out)
  clear hW HB0
  obtain ⟨bx_0, bx_1⟩ := S0.out.b.c
  obtain ⟨by_0, by_1⟩ := S0.out.b.t.c
  obtain ⟨bz_0, bz_1⟩ := S0.out.b.t.t.c
  obtain ⟨c, hc⟩ : ∃ c, cmpZ x y = c := ⟨_, rfl⟩
  obtain ⟨sz, hsz⟩ : ∃ sz, z.sign = sz := ⟨_, rfl⟩
  obtain ⟨sx, hsx⟩ : ∃ sx, x.sign = sx := ⟨_, rfl⟩
  obtain ⟨d, hd⟩ : ∃ d, cmpZ (x * z) (y * z) = d := ⟨_, rfl⟩
  have ew1 : IntKind.i64.wrap (c * sz) = d := by rw [← hc, ← hsz, ← hd]; exact cmp_mul x y z
  have HC := Lib.hid hc
  have HSZ := Lib.hid hsz
  have HSX := Lib.hid hsx
  have HD := Lib.hid hd
  clear hc hsz hsx hd
  have HF := Lib.hid hf
  clear hf
  go_wp2_with fail
  refine (great3_no _ _ _ _ _ _ _ _ _ _ _ _ W l0 l1 l2).mono ?_
  rintro e w1 ⟨rfl, hB⟩
  have S1 := Lib.hid (S0.out.step (step_alloc hB))
  clear bx_0 bx_1 by_0 by_1 bz_0 bz_1
  clear S0 hB
  obtain ⟨bx_0, bx_1⟩ := S1.out.b.c
  obtain ⟨by_0, by_1⟩ := S1.out.b.t.c
  obtain ⟨bz_0, bz_1⟩ := S1.out.b.t.t.c
  go_wp2_with fail
  have EQ1 := Lib.hid (show cmpZ x y = c from HC.out)
  refine (wcmp_is (c) S1.out.n.num S1.out.n.t.num EQ1.out).mono ?_
  rintro e w2 ⟨rfl, hB⟩
  have S2 := Lib.hid (S1.out.step hB)
  clear bx_0 bx_1 by_0 by_1 bz_0 bz_1
  clear S1 hB
  obtain ⟨bx_0, bx_1⟩ := S2.out.b.c
  obtain ⟨by_0, by_1⟩ := S2.out.b.t.c
  obtain ⟨bz_0, bz_1⟩ := S2.out.b.t.t.c
  go_wp2_with fail
  have bd_xz : Bd ((x + z)) 26 := (bd_x.mono (show 25 ≤ 25 by omega)).add (bd_z.mono (show 25 ≤ 25 by omega)) (by omega)
  have bd_yz : Bd ((y + z)) 26 := (bd_y.mono (show 25 ≤ 25 by omega)).add (bd_z.mono (show 25 ≤ 25 by omega)) (by omega)
  have EQ2 := Lib.hid (show cmpZ (x + z) (y + z) = c from by rw [cmp_add]; exact HC.out)
  have bd_ny : Bd ((-y)) 25 := bd_y.neg
  have bd_nx : Bd ((-x)) 25 := bd_x.neg
  have EQ3 := Lib.hid (show cmpZ (-y) (-x) = c from by rw [cmp_neg]; exact HC.out)
  have bd_xy : Bd ((x - y)) 26 := (bd_x.mono (show 25 ≤ 25 by omega)).sub (bd_y.mono (show 25 ≤ 25 by omega)) (by omega)
  have EQ4 := Lib.hid (show ((x - y) : Int).sign = c from HC.out)
  clear bx_0 bx_1 by_0 by_1 bz_0 bz_1
  have S3 := Lib.hid S2.out.drew
  clear S2
  refine wp_region_held_drew (S := fun w' => (w'.cell? ⟨(w.heap.size), 0, none⟩ = some (.bool m0) ∧ w'.cell? ⟨(w.heap.size), 1, none⟩ = some (.slice a0 n0 c0)) ∧ (w'.cell? ⟨(w.heap.size + 1), 0, none⟩ = some (.bool m1) ∧ w'.cell? ⟨(w.heap.size + 1), 1, none⟩ = some (.slice a1 n1 c1)) ∧ (w'.cell? ⟨(w.heap.size + 2), 0, none⟩ = some (.bool m2) ∧ w'.cell? ⟨(w.heap.size + 2), 1, none⟩ = some (.slice a2 n2 c2))) (by kernel_rfl) (⟨S3.out.b.c, S3.out.b.t.c, S3.out.b.t.t.c⟩) (fun hH => ?_)
  refine anyH_world (fun w3 hW => ?_)
  rw [← hW] at S3 hH
  clear hW
  refine step_on 0 rfl (by kernel_rfl) (fun _ _ _ h => h) (by rfl) hH (by intro w hS; go_simp <;> with_reducible rfl) ?_
  try simp only [nrm]
  refine step_on 1 rfl (by kernel_rfl) (fun _ _ _ h => h) (by rfl) hH (by intro w hS; go_simp <;> with_reducible rfl) ?_
  try simp only [nrm]
  refine step_on 2 rfl (by kernel_rfl) (fun _ _ _ h => h) (by rfl) hH (by intro w hS; go_simp <;> with_reducible rfl) ?_
  try simp only [nrm]
  refine step_on 4 rfl (by kernel_rfl) (fun _ _ _ h => h) (by rfl) hH (by intro w hS; go_simp <;> with_reducible rfl) ?_
  try simp only [nrm]
  refine step_on 5 rfl (by kernel_rfl) (fun _ _ _ h => h) (by rfl) hH (by intro w hS; go_simp <;> with_reducible rfl) ?_
  try simp only [nrm]
  refine step_one 3 rfl (by kernel_rfl) (fun K hK => ?_)
  go_simp
  refine (wadd_any S3.out.n.num S3.out.n.t.t.num).mono ?_
  rintro e w4 ⟨xz_m, xz_0, xz_n, xz_c, rfl, hX, hB⟩
  have S4 := Lib.hid ((S3.out.step hB).can (hX.cx bd_xz (by omega)))
  clear S3 hX hB
  go_wp2_with fail
  refine hK.out _ _ ⟨S4.out.b.c, S4.out.b.t.c, S4.out.b.t.t.c⟩ (fun h2 => ?_)
  clear hK K hH
  have hH := h2
  clear h2
  try simp only [nrm]
  refine step_one 6 rfl (by kernel_rfl) (fun K hK => ?_)
  go_simp
  refine (wadd_any S4.out.n.t.t.num S4.out.n.t.t.t.num).mono ?_
  rintro e w5 ⟨yz_m, yz_0, yz_n, yz_c, rfl, hX, hB⟩
  have S5 := Lib.hid ((S4.out.step hB).can (hX.cx bd_yz (by omega)))
  clear S4 hX hB
  go_wp2_with fail
  refine hK.out _ _ ⟨S5.out.b.c, S5.out.b.t.c, S5.out.b.t.t.c⟩ (fun h2 => ?_)
  clear hK K hH
  have hH := h2
  clear h2
  try simp only [nrm]
  refine step_one 7 rfl (by kernel_rfl) (fun K hK => ?_)
  go_simp
  refine (wcmp_is (c) S5.out.n.t.can.nx S5.out.n.can.nx EQ2.out).mono ?_
  rintro e w6 ⟨rfl, hB⟩
  have S6 := Lib.hid (S5.out.step hB)
  clear S5 hB
  go_wp2_with fail
  refine hK.out _ _ ⟨S6.out.b.c, S6.out.b.t.c, S6.out.b.t.t.c⟩ (fun h2 => ?_)
  clear hK K hH
  have hH := h2
  clear h2
  try simp only [nrm]
  refine step_on 8 rfl (by kernel_rfl) (fun _ _ _ h => h) (by rfl) hH (by intro w hS; go_simp <;> with_reducible rfl) ?_
  try simp only [nrm]
  refine step_on 9 rfl (by kernel_rfl) (fun _ _ _ h => h) (by rfl) hH (by intro w hS; go_simp <;> with_reducible rfl) ?_
  try simp only [nrm]
  refine step_on 10 rfl (by kernel_rfl) (fun _ _ _ h => h) (by rfl) hH (by intro w hS; go_simp <;> with_reducible rfl) ?_
  try simp only [nrm]
  refine step_on 11 rfl (by kernel_rfl) (fun _ _ _ h => h) (by rfl) hH (by intro w hS; go_simp <;> with_reducible rfl) ?_
  try simp only [nrm]
  refine step_on 13 rfl (by kernel_rfl) (fun _ _ _ h => h) (by rfl) hH (by intro w hS; go_simp <;> with_reducible rfl) ?_
  try simp only [nrm]
  refine step_one 12 rfl (by kernel_rfl) (fun K hK => ?_)
  go_simp
  refine (wneg_any S6.out.n.t.t.t.num).mono ?_
  rintro e w7 ⟨ny_m, ny_0, ny_n, ny_c, rfl, hX, hB⟩
  have S7 := Lib.hid ((S6.out.step hB).can (hX.cx bd_ny (by omega)))
  clear S6 hX hB
  go_wp2_with fail
  refine hK.out _ _ ⟨S7.out.b.c, S7.out.b.t.c, S7.out.b.t.t.c⟩ (fun h2 => ?_)
  clear hK K hH
  have hH := h2
  clear h2
  try simp only [nrm]
  refine step_one 14 rfl (by kernel_rfl) (fun K hK => ?_)
  go_simp
  refine (wneg_any S7.out.n.t.t.t.num).mono ?_
  rintro e w8 ⟨nx_m, nx_0, nx_n, nx_c, rfl, hX, hB⟩
  have S8 := Lib.hid ((S7.out.step hB).can (hX.cx bd_nx (by omega)))
  clear S7 hX hB
  go_wp2_with fail
  refine hK.out _ _ ⟨S8.out.b.c, S8.out.b.t.c, S8.out.b.t.t.c⟩ (fun h2 => ?_)
  clear hK K hH
  have hH := h2
  clear h2
  try simp only [nrm]
  refine step_one 15 rfl (by kernel_rfl) (fun K hK => ?_)
  go_simp
  refine (wcmp_is (c) S8.out.n.t.can.nx S8.out.n.can.nx EQ3.out).mono ?_
  rintro e w9 ⟨rfl, hB⟩
  have S9 := Lib.hid (S8.out.step hB)
  clear S8 hB
  go_wp2_with fail
  refine hK.out _ _ ⟨S9.out.b.c, S9.out.b.t.c, S9.out.b.t.t.c⟩ (fun h2 => ?_)
  clear hK K hH
  have hH := h2
  clear h2
  try simp only [nrm]
  refine step_on 16 rfl (by kernel_rfl) (fun _ _ _ h => h) (by rfl) hH (by intro w hS; go_simp <;> with_reducible rfl) ?_
  try simp only [nrm]
  refine step_on 17 rfl (by kernel_rfl) (fun _ _ _ h => h) (by rfl) hH (by intro w hS; go_simp <;> with_reducible rfl) ?_
  try simp only [nrm]
  refine step_on 18 rfl (by kernel_rfl) (fun _ _ _ h => h) (by rfl) hH (by intro w hS; go_simp <;> with_reducible rfl) ?_
  try simp only [nrm]
  refine step_on 19 rfl (by kernel_rfl) (fun _ _ _ h => h) (by rfl) hH (by intro w hS; go_simp <;> with_reducible rfl) ?_
  try simp only [nrm]
  refine step_on 20 rfl (by kernel_rfl) (fun _ _ _ h => h) (by rfl) hH (by intro w hS; go_simp <;> with_reducible rfl) ?_
  try simp only [nrm]
  refine step_on 21 rfl (by kernel_rfl) (fun _ _ _ h => h) (by rfl) hH (by intro w hS; go_simp <;> with_reducible rfl) ?_
  try simp only [nrm]
  refine step_one 22 rfl (by kernel_rfl) (fun K hK => ?_)
  go_simp
  refine (wsub_any S9.out.n.t.t.t.t.num S9.out.n.t.t.t.t.t.num).mono ?_
  rintro e w10 ⟨xy_m, xy_0, xy_n, xy_c, rfl, hX, hB⟩
  have S10 := Lib.hid ((S9.out.step hB).can (hX.cx bd_xy (by omega)))
  clear S9 hX hB
  go_wp2_with fail
  refine hK.out _ _ ⟨S10.out.b.c, S10.out.b.t.c, S10.out.b.t.t.c⟩ (fun h2 => ?_)
  clear hK K hH
  have hH := h2
  clear h2
  try simp only [nrm]
  refine step_one 23 rfl (by kernel_rfl) (fun K hK => ?_)
  go_simp
  refine (wsign_is (c) S10.out.n.can.nx EQ4.out).mono ?_
  rintro e w11 ⟨rfl, hB⟩
  have S11 := Lib.hid (S10.out.step hB)
  clear S10 hB
  go_wp2_with fail
  refine hK.out _ _ ⟨S11.out.b.c, S11.out.b.t.c, S11.out.b.t.t.c⟩ (fun h2 => ?_)
  clear hK K hH
  have hH := h2
  clear h2
  try simp only [nrm]
  refine step_on 24 rfl (by kernel_rfl) (fun _ _ _ h => h) (by rfl) hH (by intro w hS; go_simp <;> with_reducible rfl) ?_
  try simp only [nrm]
  refine step_on 25 rfl (by kernel_rfl) (fun _ _ _ h => h) (by rfl) hH (by intro w hS; go_simp <;> with_reducible rfl) ?_
  try simp only [nrm]
  refine wpAnyH_done (by kernel_rfl) ?_ _
  clear hH
  obtain ⟨bx_0, bx_1⟩ := S11.out.b.c
  obtain ⟨by_0, by_1⟩ := S11.out.b.t.c
  obtain ⟨bz_0, bz_1⟩ := S11.out.b.t.t.c
  go_wp2_with fail
  have bd_mxz : Bd ((x * z)) 50 := bd_x.mul bd_z
  have bd_myz : Bd ((y * z)) 50 := bd_y.mul bd_z
  have EQ5 := Lib.hid (show cmpZ (x * z) (y * z) = d from HD.out)
  have EQ6 := Lib.hid (show (z : Int).sign = sz from HSZ.out)
  have EQ7 := Lib.hid (show (x : Int).sign = sx from HSX.out)
  have EQ8 := Lib.hid (show cmpZ x (0 : Int) = sx from by rw [cmp_zero]; exact HSX.out)
  clear bx_0 bx_1 by_0 by_1 bz_0 bz_1
  have S12 := Lib.hid S11.out.drew
  clear S11
  refine wp_region_held_drew (S := fun w' => (w'.cell? ⟨(w.heap.size), 0, none⟩ = some (.bool m0) ∧ w'.cell? ⟨(w.heap.size), 1, none⟩ = some (.slice a0 n0 c0)) ∧ (w'.cell? ⟨(w.heap.size + 1), 0, none⟩ = some (.bool m1) ∧ w'.cell? ⟨(w.heap.size + 1), 1, none⟩ = some (.slice a1 n1 c1)) ∧ (w'.cell? ⟨(w.heap.size + 2), 0, none⟩ = some (.bool m2) ∧ w'.cell? ⟨(w.heap.size + 2), 1, none⟩ = some (.slice a2 n2 c2))) (by kernel_rfl) (⟨S12.out.b.c, S12.out.b.t.c, S12.out.b.t.t.c⟩) (fun hH => ?_)
  refine anyH_world (fun w12 hW => ?_)
  rw [← hW] at S12 hH
  clear hW
  refine step_on 0 rfl (by kernel_rfl) (fun _ _ _ h => h) (by rfl) hH (by intro w hS; go_simp <;> with_reducible rfl) ?_
  try simp only [nrm]
  refine step_on 1 rfl (by kernel_rfl) (fun _ _ _ h => h) (by rfl) hH (by intro w hS; go_simp <;> with_reducible rfl) ?_
  try simp only [nrm]
  refine step_on 3 rfl (by kernel_rfl) (fun _ _ _ h => h) (by rfl) hH (by intro w hS; go_simp <;> with_reducible rfl) ?_
  try simp only [nrm]
  refine step_on 4 rfl (by kernel_rfl) (fun _ _ _ h => h) (by rfl) hH (by intro w hS; go_simp <;> with_reducible rfl) ?_
  try simp only [nrm]
  refine step_on 7 rfl (by kernel_rfl) (fun _ _ _ h => h) (by rfl) hH (by intro w hS; go_simp <;> with_reducible rfl) ?_
  try simp only [nrm]
  refine step_on 8 rfl (by kernel_rfl) (fun _ _ _ h => h) (by rfl) hH (by intro w hS; go_simp <;> with_reducible rfl) ?_
  try simp only [nrm]
  refine step_one 2 rfl (by kernel_rfl) (fun K hK => ?_)
  go_simp
  refine (wmul_any S12.out.n.t.t.t.t.t.num S12.out.n.t.t.t.t.t.t.t.num).mono ?_
  rintro e w13 ⟨mxz_m, mxz_0, mxz_n, mxz_c, rfl, hX, hB⟩
  have S13 := Lib.hid ((S12.out.step hB).can (hX.cx bd_mxz (by omega)))
  clear S12 hX hB
  go_wp2_with fail
  refine hK.out _ _ ⟨S13.out.b.c, S13.out.b.t.c, S13.out.b.t.t.c⟩ (fun h2 => ?_)
  clear hK K hH
  have hH := h2
  clear h2
  try simp only [nrm]
  refine step_one 5 rfl (by kernel_rfl) (fun K hK => ?_)
  go_simp
  refine (wmul_any S13.out.n.t.t.t.t.t.t.t.num S13.out.n.t.t.t.t.t.t.t.t.num).mono ?_
  rintro e w14 ⟨myz_m, myz_0, myz_n, myz_c, rfl, hX, hB⟩
  have S14 := Lib.hid ((S13.out.step hB).can (hX.cx bd_myz (by omega)))
  clear S13 hX hB
  go_wp2_with fail
  refine hK.out _ _ ⟨S14.out.b.c, S14.out.b.t.c, S14.out.b.t.t.c⟩ (fun h2 => ?_)
  clear hK K hH
  have hH := h2
  clear h2
  try simp only [nrm]
  refine step_one 6 rfl (by kernel_rfl) (fun K hK => ?_)
  go_simp
  refine (wcmp_is (d) S14.out.n.t.can.nx S14.out.n.can.nx EQ5.out).mono ?_
  rintro e w15 ⟨rfl, hB⟩
  have S15 := Lib.hid (S14.out.step hB)
  clear S14 hB
  go_wp2_with fail
  refine hK.out _ _ ⟨S15.out.b.c, S15.out.b.t.c, S15.out.b.t.t.c⟩ (fun h2 => ?_)
  clear hK K hH
  have hH := h2
  clear h2
  try simp only [nrm]
  refine step_one 9 rfl (by kernel_rfl) (fun K hK => ?_)
  go_simp
  refine (wsign_is (sz) S15.out.n.t.t.t.t.t.t.t.t.t.num EQ6.out).mono ?_
  rintro e w16 ⟨rfl, hB⟩
  have S16 := Lib.hid (S15.out.step hB)
  clear S15 hB
  go_wp2_with fail
  refine hK.out _ _ ⟨S16.out.b.c, S16.out.b.t.c, S16.out.b.t.t.c⟩ (fun h2 => ?_)
  clear hK K hH
  have hH := h2
  clear h2
  try simp only [nrm]
  refine step_on 10 rfl (by kernel_rfl) (fun _ _ _ h => h) (by rfl) hH (by intro w hS; go_simp <;> with_reducible rfl) ?_
  try simp only [nrm]
  refine step_on 11 rfl (by kernel_rfl) (fun _ _ _ h => h) (by rfl) hH (by intro w hS; go_simp <;> with_reducible rfl) ?_
  try simp only [nrm]
  refine step_on 12 rfl (by kernel_rfl) (fun _ _ _ h => h) (by rfl) hH (by intro w hS; go_simp <;> with_reducible rfl) ?_
  try simp only [nrm]
  refine step_on 13 rfl (by kernel_rfl) (fun _ _ _ h => h) (by rfl) hH (by intro w hS; go_simp <;> with_reducible rfl) ?_
  try simp only [nrm]
  refine step_on 15 rfl (by kernel_rfl) (fun _ _ _ h => h) (by rfl) hH (by intro w hS; go_simp <;> with_reducible rfl) ?_
  try simp only [nrm]
  refine step_on 16 rfl (by kernel_rfl) (fun _ _ _ h => h) (by rfl) hH (by intro w hS; go_simp <;> with_reducible rfl) ?_
  try simp only [nrm]
  refine step_one 14 rfl (by kernel_rfl) (fun K hK => ?_)
  go_simp
  refine (wsign_is (sx) S16.out.n.t.t.t.t.t.t.t.num EQ7.out).mono ?_
  rintro e w17 ⟨rfl, hB⟩
  have S17 := Lib.hid (S16.out.step hB)
  clear S16 hB
  go_wp2_with fail
  refine hK.out _ _ ⟨S17.out.b.c, S17.out.b.t.c, S17.out.b.t.t.c⟩ (fun h2 => ?_)
  clear hK K hH
  have hH := h2
  clear h2
  try simp only [nrm]
  refine step_one 17 rfl (by kernel_rfl) (fun K hK => ?_)
  go_simp
  refine (wcmp_is (sx) S17.out.n.t.t.t.t.t.t.t.num S17.out.n.t.t.t.t.t.t.t.t.t.t.can.nx EQ8.out).mono ?_
  rintro e w18 ⟨rfl, hB⟩
  have S18 := Lib.hid (S17.out.step hB)
  clear S17 hB
  go_wp2_with fail
  refine hK.out _ _ ⟨S18.out.b.c, S18.out.b.t.c, S18.out.b.t.t.c⟩ (fun h2 => ?_)
  clear hK K hH
  have hH := h2
  clear h2
  try simp only [nrm]
  refine step_on 18 rfl (by kernel_rfl) (fun _ _ _ h => h) (by rfl) hH (by intro w hS; go_simp <;> with_reducible rfl) ?_
  try simp only [nrm]
  refine step_on 19 rfl (by kernel_rfl) (fun _ _ _ h => h) (by rfl) hH (by intro w hS; go_simp <;> with_reducible rfl) ?_
  try simp only [nrm]
  refine wpAnyH_done (by kernel_rfl) ?_ _
  clear hH
  obtain ⟨bx_0, bx_1⟩ := S18.out.b.c
  obtain ⟨by_0, by_1⟩ := S18.out.b.t.c
  obtain ⟨bz_0, bz_1⟩ := S18.out.b.t.t.c
  go_wp2_with fail
  clear ew1
  have bd_ni : Bd (i) 2 := bd64 hi
  refine (wof_any (i) _ hi).mono ?_
  rintro e w19 ⟨ni_m, ni_0, ni_n, ni_c, rfl, hX, hB⟩
  have S19 := Lib.hid ((S18.out.step hB).can (hX.cx bd_ni (by omega)))
  clear bx_0 bx_1 by_0 by_1 bz_0 bz_1
  clear S18 hX hB
  obtain ⟨bx_0, bx_1⟩ := S19.out.b.c
  obtain ⟨by_0, by_1⟩ := S19.out.b.t.c
  obtain ⟨bz_0, bz_1⟩ := S19.out.b.t.t.c
  go_wp2_with fail
  refine (wsmall_yes S19.out.n.can.nx hi).mono ?_
  rintro e w20 ⟨rfl, hB⟩
  have S20 := Lib.hid (S19.out.step hB)
  clear bx_0 bx_1 by_0 by_1 bz_0 bz_1
  clear S19 hB
  obtain ⟨bx_0, bx_1⟩ := S20.out.b.c
  obtain ⟨by_0, by_1⟩ := S20.out.b.t.c
  obtain ⟨bz_0, bz_1⟩ := S20.out.b.t.t.c
  go_wp2_with fail
  refine (wsmall_no S20.out.n.t.t.t.t.t.t.t.t.num HF.out).mono ?_
  rintro e w21 ⟨rfl, hB⟩
  have S21 := Lib.hid (S20.out.step hB)
  clear bx_0 bx_1 by_0 by_1 bz_0 bz_1
  clear S20 hB
  obtain ⟨bx_0, bx_1⟩ := S21.out.b.c
  obtain ⟨by_0, by_1⟩ := S21.out.b.t.c
  obtain ⟨bz_0, bz_1⟩ := S21.out.b.t.t.c
  go_wp2_with fail
  clear bx_0 bx_1 by_0 by_1 bz_0 bz_1
  have S22 := Lib.hid S21.out.drew
  clear S21
  refine wp_region_held_drew (S := fun w' => (w'.cell? ⟨(w.heap.size), 0, none⟩ = some (.bool m0) ∧ w'.cell? ⟨(w.heap.size), 1, none⟩ = some (.slice a0 n0 c0))) (by kernel_rfl) (S22.out.b.c) (fun hH => ?_)
  refine anyH_world (fun w22 hW => ?_)
  rw [← hW] at S22 hH
  clear hW
  refine step_on 0 rfl (by kernel_rfl) (fun _ _ _ h => h) (by rfl) hH (by intro w hS; go_simp <;> with_reducible rfl) ?_
  try simp only [nrm]
  refine step_on 1 rfl (by kernel_rfl) (fun _ _ _ h => h) (by rfl) hH (by intro w hS; go_simp <;> with_reducible rfl) ?_
  try simp only [nrm]
  refine step_on 2 rfl (by kernel_rfl) (fun _ _ _ h => h) (by rfl) hH (by intro w hS; go_simp <;> with_reducible rfl) ?_
  try simp only [nrm]
  refine step_on 3 rfl (by kernel_rfl) (fun _ _ _ h => h) (by rfl) hH (by intro w hS; go_simp <;> with_reducible rfl) ?_
  try simp only [nrm]
  refine step_on 4 rfl (by kernel_rfl) (fun _ _ _ h => h) (by rfl) hH (by intro w hS; go_simp <;> with_reducible rfl) ?_
  try simp only [nrm]
  refine step_on 5 rfl (by kernel_rfl) (fun _ _ _ h => h) (by rfl) hH (by intro w hS; go_simp <;> with_reducible rfl) ?_
  try simp only [nrm]
  refine step_on 6 rfl (by kernel_rfl) (fun _ _ _ h => h) (by rfl) hH (by intro w hS; go_simp <;> with_reducible rfl) ?_
  try simp only [nrm]
  refine step_on 7 rfl (by kernel_rfl) (fun _ _ _ h => h) (by rfl) hH (by intro w hS; go_simp <;> with_reducible rfl) ?_
  try simp only [nrm]
  refine step_on 8 rfl (by kernel_rfl) (fun _ _ _ h => h) (by rfl) hH (by intro w hS; go_simp <;> with_reducible rfl) ?_
  try simp only [nrm]
  refine step_on 9 rfl (by kernel_rfl) (fun _ _ _ h => h) (by rfl) hH (by intro w hS; go_simp <;> with_reducible rfl) ?_
  try simp only [nrm]
  refine step_off 10 rfl (by kernel_rfl) (fun _ _ _ h => h) (by rfl) hH ?_
  try simp only [nrm]
  refine step_off 11 rfl (by kernel_rfl) (fun _ _ _ h => h) (by rfl) hH ?_
  try simp only [nrm]
  refine step_off 12 rfl (by kernel_rfl) (fun _ _ _ h => h) (by rfl) hH ?_
  try simp only [nrm]
  refine step_off 13 rfl (by kernel_rfl) (fun _ _ _ h => h) (by rfl) hH ?_
  try simp only [nrm]
  refine step_off 14 rfl (by kernel_rfl) (fun _ _ _ h => h) (by rfl) hH ?_
  try simp only [nrm]
  refine step_on 15 rfl (by kernel_rfl) (fun _ _ _ h => h) (by rfl) hH (by intro w hS; go_simp <;> with_reducible rfl) ?_
  try simp only [nrm]
  refine step_on 16 rfl (by kernel_rfl) (fun _ _ _ h => h) (by rfl) hH (by intro w hS; go_simp <;> with_reducible rfl) ?_
  try simp only [nrm]
  refine step_on 17 rfl (by kernel_rfl) (fun _ _ _ h => h) (by rfl) hH (by intro w hS; go_simp <;> with_reducible rfl) ?_
  try simp only [nrm]
  refine step_one 18 rfl (by kernel_rfl) (fun K hK => ?_)
  go_simp
  refine (known4_any _).mono ?_
  rintro e w23 ⟨rfl, hB⟩
  have S23 := Lib.hid (S22.out.step hB)
  clear S22 hB
  go_wp2_with fail
  refine hK.out _ _ (S23.out.b.c) (fun h2 => ?_)
  clear hK K hH
  have hH := h2
  clear h2
  try simp only [nrm]
  refine step_on 19 rfl (by kernel_rfl) (fun _ _ _ h => h) (by rfl) hH (by intro w hS; go_simp <;> with_reducible rfl) ?_
  try simp only [nrm]
  refine step_on 20 rfl (by kernel_rfl) (fun _ _ _ h => h) (by rfl) hH (by intro w hS; go_simp <;> with_reducible rfl) ?_
  try simp only [nrm]
  refine wpAnyH_done (by kernel_rfl) ?_ _
  clear hH
  obtain ⟨bx_0, bx_1⟩ := S23.out.b.c
  obtain ⟨by_0, by_1⟩ := S23.out.b.t.c
  obtain ⟨bz_0, bz_1⟩ := S23.out.b.t.t.c
  go_wp2_with fail
  go_ret
  exact ⟨rfl, S23.out.h⟩

set_option maxHeartbeats 4000000 in
theorem wholeOrder_long0 (i : Int)  {m0 : Bool} {a0 : Option Addr} {n0 c0 : Nat} {m1 : Bool} {a1 : Option Addr} {n1 c1 : Nat} {m2 : Bool} {a2 : Option Addr} {n2 c2 : Nat} {w : World} (l0 : 25 < n0) :
    Calls Try.prog 8 #[.agg #[.bool m0, .slice a0 n0 c0], .agg #[.bool m1, .slice a1 n1 c1], .agg #[.bool m2, .slice a2 n2 c2], .int .i64 i] w (RetB (.bool true) w) := by
  go_enter Try.func8, Try.ntmps8
  go_upto_region 1 with (fail)
  refine wp_world (fun W hW => ?_)
  have HB0 : Hid (Below w.heap.size w W) := by rw [hW]; exact step_alloc (step_alloc (below_alloc _ _))
  have S0 : Hid (St w W _ _) := Lib.hid (St.mk (Live.add_box (show Box W (w.heap.size) m0 a0 n0 c0 from by rw [hW]; exact ((Box.new _ _ _ _ _ _ _ (by simp)).below (below_alloc _ _)).below (below_alloc _ _)) (Live.add_box (show Box W (w.heap.size + 1) m1 a1 n1 c1 from by rw [hW]; exact (Box.new _ _ _ _ _ _ _ (by simp)).below (below_alloc _ _)) (Live.add_box (show Box W (w.heap.size + 2) m2 a2 n2 c2 from by rw [hW]; exact Box.new _ _ _ _ _ _ _ (by simp)) (Live.nil W)))) (Live.nil W) HB0.out)
  clear hW HB0
  obtain ⟨bx_0, bx_1⟩ := S0.out.b.c
  obtain ⟨by_0, by_1⟩ := S0.out.b.t.c
  obtain ⟨bz_0, bz_1⟩ := S0.out.b.t.t.c
  go_wp2_with fail
  refine (great3_yes0 _ _ _ _ _ _ _ _ _ _ _ _ W l0).mono ?_
  rintro e w1 ⟨rfl, hB⟩
  have HB1 := Lib.hid (Below.steps S0.out.h (step_alloc hB))
  clear bx_0 bx_1 by_0 by_1 bz_0 bz_1
  clear hB S0
  go_wp2_with fail
  refine (known4_any _).mono ?_
  rintro e w2 ⟨rfl, hB⟩
  go_wp2_with fail
  go_ret
  exact ⟨rfl, Below.steps HB1.out hB⟩

set_option maxHeartbeats 4000000 in
theorem wholeOrder_long1 (i : Int)  {m0 : Bool} {a0 : Option Addr} {n0 c0 : Nat} {m1 : Bool} {a1 : Option Addr} {n1 c1 : Nat} {m2 : Bool} {a2 : Option Addr} {n2 c2 : Nat} {w : World} (l0 : n0 ≤ 25) (l1 : 25 < n1) :
    Calls Try.prog 8 #[.agg #[.bool m0, .slice a0 n0 c0], .agg #[.bool m1, .slice a1 n1 c1], .agg #[.bool m2, .slice a2 n2 c2], .int .i64 i] w (RetB (.bool true) w) := by
  go_enter Try.func8, Try.ntmps8
  go_upto_region 1 with (fail)
  refine wp_world (fun W hW => ?_)
  have HB0 : Hid (Below w.heap.size w W) := by rw [hW]; exact step_alloc (step_alloc (below_alloc _ _))
  have S0 : Hid (St w W _ _) := Lib.hid (St.mk (Live.add_box (show Box W (w.heap.size) m0 a0 n0 c0 from by rw [hW]; exact ((Box.new _ _ _ _ _ _ _ (by simp)).below (below_alloc _ _)).below (below_alloc _ _)) (Live.add_box (show Box W (w.heap.size + 1) m1 a1 n1 c1 from by rw [hW]; exact (Box.new _ _ _ _ _ _ _ (by simp)).below (below_alloc _ _)) (Live.add_box (show Box W (w.heap.size + 2) m2 a2 n2 c2 from by rw [hW]; exact Box.new _ _ _ _ _ _ _ (by simp)) (Live.nil W)))) (Live.nil W) HB0.out)
  clear hW HB0
  obtain ⟨bx_0, bx_1⟩ := S0.out.b.c
  obtain ⟨by_0, by_1⟩ := S0.out.b.t.c
  obtain ⟨bz_0, bz_1⟩ := S0.out.b.t.t.c
  go_wp2_with fail
  refine (great3_yes1 _ _ _ _ _ _ _ _ _ _ _ _ W l0 l1).mono ?_
  rintro e w1 ⟨rfl, hB⟩
  have HB1 := Lib.hid (Below.steps S0.out.h (step_alloc hB))
  clear bx_0 bx_1 by_0 by_1 bz_0 bz_1
  clear hB S0
  go_wp2_with fail
  refine (known4_any _).mono ?_
  rintro e w2 ⟨rfl, hB⟩
  go_wp2_with fail
  go_ret
  exact ⟨rfl, Below.steps HB1.out hB⟩

set_option maxHeartbeats 4000000 in
theorem wholeOrder_long2 (i : Int)  {m0 : Bool} {a0 : Option Addr} {n0 c0 : Nat} {m1 : Bool} {a1 : Option Addr} {n1 c1 : Nat} {m2 : Bool} {a2 : Option Addr} {n2 c2 : Nat} {w : World} (l0 : n0 ≤ 25) (l1 : n1 ≤ 25) (l2 : 25 < n2) :
    Calls Try.prog 8 #[.agg #[.bool m0, .slice a0 n0 c0], .agg #[.bool m1, .slice a1 n1 c1], .agg #[.bool m2, .slice a2 n2 c2], .int .i64 i] w (RetB (.bool true) w) := by
  go_enter Try.func8, Try.ntmps8
  go_upto_region 1 with (fail)
  refine wp_world (fun W hW => ?_)
  have HB0 : Hid (Below w.heap.size w W) := by rw [hW]; exact step_alloc (step_alloc (below_alloc _ _))
  have S0 : Hid (St w W _ _) := Lib.hid (St.mk (Live.add_box (show Box W (w.heap.size) m0 a0 n0 c0 from by rw [hW]; exact ((Box.new _ _ _ _ _ _ _ (by simp)).below (below_alloc _ _)).below (below_alloc _ _)) (Live.add_box (show Box W (w.heap.size + 1) m1 a1 n1 c1 from by rw [hW]; exact (Box.new _ _ _ _ _ _ _ (by simp)).below (below_alloc _ _)) (Live.add_box (show Box W (w.heap.size + 2) m2 a2 n2 c2 from by rw [hW]; exact Box.new _ _ _ _ _ _ _ (by simp)) (Live.nil W)))) (Live.nil W) HB0.out)
  clear hW HB0
  obtain ⟨bx_0, bx_1⟩ := S0.out.b.c
  obtain ⟨by_0, by_1⟩ := S0.out.b.t.c
  obtain ⟨bz_0, bz_1⟩ := S0.out.b.t.t.c
  go_wp2_with fail
  refine (great3_yes2 _ _ _ _ _ _ _ _ _ _ _ _ W l0 l1 l2).mono ?_
  rintro e w1 ⟨rfl, hB⟩
  have HB1 := Lib.hid (Below.steps S0.out.h (step_alloc hB))
  clear bx_0 bx_1 by_0 by_1 bz_0 bz_1
  clear hB S0
  go_wp2_with fail
  refine (known4_any _).mono ?_
  rintro e w2 ⟨rfl, hB⟩
  go_wp2_with fail
  go_ret
  exact ⟨rfl, Below.steps HB1.out hB⟩

theorem wholeOrder_short (i : Int) {m0 : Bool} {a0 : Option Addr} {n0 c0 : Nat} {m1 : Bool} {a1 : Option Addr} {n1 c1 : Nat} {m2 : Bool} {a2 : Option Addr} {n2 c2 : Nat} {x y z : Int} {w : World} (h0 : Nx w m0 a0 n0 c0 x) (h1 : Nx w m1 a1 n1 c1 y) (h2 : Nx w m2 a2 n2 c2 z) (l0 : n0 ≤ 25) (l1 : n1 ≤ 25) (l2 : n2 ≤ 25) (hi : -9223372036854775808 ≤ i ∧ i ≤ 9223372036854775807) :
    Calls Try.prog 8 #[.agg #[.bool m0, .slice a0 n0 c0], .agg #[.bool m1, .slice a1 n1 c1], .agg #[.bool m2, .slice a2 n2 c2], .int .i64 i] w (RetB (.bool true) w) := by
  by_cases hf : -9223372036854775808 ≤ x ∧ x ≤ 9223372036854775807
  · exact wholeOrder_fit i h0 h1 h2 l0 l1 l2 hi hf
  · exact wholeOrder_no i h0 h1 h2 l0 l1 l2 hi hf

theorem wholeOrder_any (i : Int)  {m0 : Bool} {a0 : Option Addr} {n0 c0 : Nat} {m1 : Bool} {a1 : Option Addr} {n1 c1 : Nat} {m2 : Bool} {a2 : Option Addr} {n2 c2 : Nat} {xs0 xs1 xs2 : List Nat} {w : World} (s0 : Sl w a0 n0 c0 xs0) (s1 : Sl w a1 n1 c1 xs1) (s2 : Sl w a2 n2 c2 xs2) (hi : -9223372036854775808 ≤ i ∧ i ≤ 9223372036854775807) :
    Calls Try.prog 8 #[.agg #[.bool m0, .slice a0 n0 c0], .agg #[.bool m1, .slice a1 n1 c1], .agg #[.bool m2, .slice a2 n2 c2], .int .i64 i] w (RetB (.bool true) w) := by
  by_cases l0 : 25 < n0
  · exact wholeOrder_long0 i l0
  by_cases l1 : 25 < n1
  · exact wholeOrder_long1 i (by omega) l1
  by_cases l2 : 25 < n2
  · exact wholeOrder_long2 i (by omega) (by omega) l2
  exact wholeOrder_short i ⟨⟨xs0, s0, rfl⟩, by omega⟩ ⟨⟨xs1, s1, rfl⟩, by omega⟩ ⟨⟨xs2, s2, rfl⟩, by omega⟩ (by omega) (by omega) (by omega) hi

end Go.Proofs.Ytponiigpmjnffaa
