/-
  The walk of the law WholePowers.
-/
import Derived.Test.YtponiigpmjnffaaWSt
import Derived.Test.YtponiigpmjnffaaWKnown
import Derived.Test.YtponiigpmjnffaaWLaw
import Derived.Test.YtponiigpmjnffaaWAdd
import Derived.Test.YtponiigpmjnffaaWMul
import Derived.Test.YtponiigpmjnffaaWLawPlain
import Derived.Test.YtponiigpmjnffaaWZPow
import Derived.Deep.Cut
set_option maxRecDepth 8192
namespace Go.Proofs.Ytponiigpmjnffaa
open Go.RowKit

set_option maxHeartbeats 40000000 in
set_option maxRecDepth 100000 in
theorem wholePowers_short (p q : Nat) {m0 : Bool} {a0 : Option Addr} {n0 c0 : Nat} {m1 : Bool} {a1 : Option Addr} {n1 c1 : Nat} {x y : Int} {w : World} (h0 : Nx w m0 a0 n0 c0 x) (h1 : Nx w m1 a1 n1 c1 y) (l0 : n0 ≤ 6) (l1 : n1 ≤ 6) (hp : p ≤ 8) (hq : q ≤ 8) :
    Calls Try.prog 7 #[.agg #[.bool m0, .slice a0 n0 c0], .agg #[.bool m1, .slice a1 n1 c1], .int .u8 (p : Int), .int .u8 (q : Int)] w (RetB (.bool true) w) := by
  have bd_x : Bd (x) 6 := h0.inn.bd l0
  have bd_y : Bd (y) 6 := h1.inn.bd l1
  have hq1 : decide (6 < n0) = false := by simp; omega
  have hq2 : decide (6 < n1) = false := by simp; omega
  have hq3 : decide (8 < ((p : Nat) : Int)) = false := by simp; omega
  have hq4 : decide (8 < ((q : Nat) : Int)) = false := by simp; omega
  go_enter Try.func7, Try.ntmps7
  go_upto_region 1 with (fail)
  refine wp_world (fun W hW => ?_)
  have HB0 : Hid (Below w.heap.size w W) := by rw [hW]; exact step_alloc (below_alloc _ _)
  have S0 : Hid (St w W _ _) := Lib.hid (St.mk (Live.add_box (show Box W (w.heap.size) m0 a0 n0 c0 from by rw [hW]; exact (Box.new _ _ _ _ _ _ _ (by simp)).below (below_alloc _ _)) (Live.add_box (show Box W (w.heap.size + 1) m1 a1 n1 c1 from by rw [hW]; exact Box.new _ _ _ _ _ _ _ (by simp)) (Live.nil W))) (Live.add_num (h0.below HB0.out) (Live.add_num (h1.below HB0.out) (Live.nil W))) HB0.out)
  clear hW HB0
  obtain ⟨bx_0, bx_1⟩ := S0.out.b.c
  obtain ⟨by_0, by_1⟩ := S0.out.b.t.c
  go_wp2_with fail
  have bd_a : Bd ((x ^ (p))) 100 := ((bd_x.pow (p)).mono (by omega))
  refine (wpow_at (p) (by omega) S0.out.n.num (by omega)).mono ?_
  rintro e w1 ⟨a_m, a_0, a_n, a_c, rfl, hX, hB⟩
  have S1 := Lib.hid ((S0.out.step hB).can (hX.cx bd_a (by omega)))
  clear bx_0 bx_1 by_0 by_1
  clear S0 hX hB
  obtain ⟨bx_0, bx_1⟩ := S1.out.b.c
  obtain ⟨by_0, by_1⟩ := S1.out.b.t.c
  go_upto_region 4 with (fail)
  refine wp_world (fun w2 hW => ?_)
  clear bx_0 bx_1 by_0 by_1
  have S2 := Lib.hid (S1.out.alloc (w1.heap.size) a_m a_0 a_n a_c 24 (by simp))
  rw [← hW] at S2
  clear hW S1
  obtain ⟨bx_0, bx_1⟩ := S2.out.b.t.c
  obtain ⟨by_0, by_1⟩ := S2.out.b.t.t.c
  obtain ⟨b_a_0, b_a_1⟩ := S2.out.b.c
  go_wp2_with fail
  have bd_b : Bd ((x ^ (q))) 100 := ((bd_x.pow (q)).mono (by omega))
  refine (wpow_at (q) (by omega) S2.out.n.t.num (by omega)).mono ?_
  rintro e w3 ⟨b_m, b_0, b_n, b_c, rfl, hX, hB⟩
  have S3 := Lib.hid ((S2.out.step hB).can (hX.cx bd_b (by omega)))
  clear bx_0 bx_1 by_0 by_1 b_a_0 b_a_1
  clear S2 hX hB
  obtain ⟨bx_0, bx_1⟩ := S3.out.b.t.c
  obtain ⟨by_0, by_1⟩ := S3.out.b.t.t.c
  obtain ⟨b_a_0, b_a_1⟩ := S3.out.b.c
  go_upto_region 5 with (fail)
  refine wp_world (fun w4 hW => ?_)
  clear bx_0 bx_1 by_0 by_1 b_a_0 b_a_1
  have S4 := Lib.hid (S3.out.alloc (w3.heap.size) b_m b_0 b_n b_c 24 (by simp))
  rw [← hW] at S4
  clear hW S3
  obtain ⟨bx_0, bx_1⟩ := S4.out.b.t.t.c
  obtain ⟨by_0, by_1⟩ := S4.out.b.t.t.t.c
  obtain ⟨b_a_0, b_a_1⟩ := S4.out.b.t.c
  obtain ⟨b_b_0, b_b_1⟩ := S4.out.b.c
  go_wp2_with fail
  have bd_c : Bd ((x ^ (p + q))) 100 := ((bd_x.pow (p + q)).mono (by omega))
  refine (wpow_at (p + q) (by omega) S4.out.n.t.t.num (by omega)).mono ?_
  rintro e w5 ⟨c_m, c_0, c_n, c_c, rfl, hX, hB⟩
  have S5 := Lib.hid ((S4.out.step hB).can (hX.cx bd_c (by omega)))
  clear bx_0 bx_1 by_0 by_1 b_a_0 b_a_1 b_b_0 b_b_1
  clear S4 hX hB
  obtain ⟨bx_0, bx_1⟩ := S5.out.b.t.t.c
  obtain ⟨by_0, by_1⟩ := S5.out.b.t.t.t.c
  obtain ⟨b_a_0, b_a_1⟩ := S5.out.b.t.c
  obtain ⟨b_b_0, b_b_1⟩ := S5.out.b.c
  go_upto_region 6 with (fail)
  refine wp_world (fun w6 hW => ?_)
  clear bx_0 bx_1 by_0 by_1 b_a_0 b_a_1 b_b_0 b_b_1
  have S6 := Lib.hid (S5.out.alloc (w5.heap.size) c_m c_0 c_n c_c 24 (by simp))
  rw [← hW] at S6
  clear hW S5
  obtain ⟨bx_0, bx_1⟩ := S6.out.b.t.t.t.c
  obtain ⟨by_0, by_1⟩ := S6.out.b.t.t.t.t.c
  obtain ⟨b_a_0, b_a_1⟩ := S6.out.b.t.t.c
  obtain ⟨b_b_0, b_b_1⟩ := S6.out.b.t.c
  obtain ⟨b_c_0, b_c_1⟩ := S6.out.b.c
  go_wp2_with fail
  have bd_d : Bd ((y ^ (p))) 100 := ((bd_y.pow (p)).mono (by omega))
  refine (wpow_at (p) (by omega) S6.out.n.t.t.t.t.num (by omega)).mono ?_
  rintro e w7 ⟨d_m, d_0, d_n, d_c, rfl, hX, hB⟩
  have S7 := Lib.hid ((S6.out.step hB).can (hX.cx bd_d (by omega)))
  clear bx_0 bx_1 by_0 by_1 b_a_0 b_a_1 b_b_0 b_b_1 b_c_0 b_c_1
  clear S6 hX hB
  obtain ⟨bx_0, bx_1⟩ := S7.out.b.t.t.t.c
  obtain ⟨by_0, by_1⟩ := S7.out.b.t.t.t.t.c
  obtain ⟨b_a_0, b_a_1⟩ := S7.out.b.t.t.c
  obtain ⟨b_b_0, b_b_1⟩ := S7.out.b.t.c
  obtain ⟨b_c_0, b_c_1⟩ := S7.out.b.c
  go_upto_region 7 with (fail)
  refine wp_world (fun w8 hW => ?_)
  clear bx_0 bx_1 by_0 by_1 b_a_0 b_a_1 b_b_0 b_b_1 b_c_0 b_c_1
  have S8 := Lib.hid (S7.out.alloc (w7.heap.size) d_m d_0 d_n d_c 24 (by simp))
  rw [← hW] at S8
  clear hW S7
  obtain ⟨bx_0, bx_1⟩ := S8.out.b.t.t.t.t.c
  obtain ⟨by_0, by_1⟩ := S8.out.b.t.t.t.t.t.c
  obtain ⟨b_a_0, b_a_1⟩ := S8.out.b.t.t.t.c
  obtain ⟨b_b_0, b_b_1⟩ := S8.out.b.t.t.c
  obtain ⟨b_c_0, b_c_1⟩ := S8.out.b.t.c
  obtain ⟨b_d_0, b_d_1⟩ := S8.out.b.c
  go_wp2_with fail
  have bd_xy : Bd ((x * y)) 12 := bd_x.mul bd_y
  refine (wmul_any S8.out.n.t.t.t.t.num S8.out.n.t.t.t.t.t.num).mono ?_
  rintro e w9 ⟨xy_m, xy_0, xy_n, xy_c, rfl, hX, hB⟩
  have S9 := Lib.hid ((S8.out.step hB).can (hX.cx bd_xy (by omega)))
  clear bx_0 bx_1 by_0 by_1 b_a_0 b_a_1 b_b_0 b_b_1 b_c_0 b_c_1 b_d_0 b_d_1
  clear S8 hX hB
  obtain ⟨bx_0, bx_1⟩ := S9.out.b.t.t.t.t.c
  obtain ⟨by_0, by_1⟩ := S9.out.b.t.t.t.t.t.c
  obtain ⟨b_a_0, b_a_1⟩ := S9.out.b.t.t.t.c
  obtain ⟨b_b_0, b_b_1⟩ := S9.out.b.t.t.c
  obtain ⟨b_c_0, b_c_1⟩ := S9.out.b.t.c
  obtain ⟨b_d_0, b_d_1⟩ := S9.out.b.c
  go_wp2_with fail
  have bd_e : Bd (((x * y) ^ (p))) 100 := ((bd_xy.pow (p)).mono (by omega))
  refine (wpow_at (p) (by omega) S9.out.n.can.nx (by omega)).mono ?_
  rintro e w10 ⟨e_m, e_0, e_n, e_c, rfl, hX, hB⟩
  have S10 := Lib.hid ((S9.out.step hB).can (hX.cx bd_e (by omega)))
  clear bx_0 bx_1 by_0 by_1 b_a_0 b_a_1 b_b_0 b_b_1 b_c_0 b_c_1 b_d_0 b_d_1
  clear S9 hX hB
  obtain ⟨bx_0, bx_1⟩ := S10.out.b.t.t.t.t.c
  obtain ⟨by_0, by_1⟩ := S10.out.b.t.t.t.t.t.c
  obtain ⟨b_a_0, b_a_1⟩ := S10.out.b.t.t.t.c
  obtain ⟨b_b_0, b_b_1⟩ := S10.out.b.t.t.c
  obtain ⟨b_c_0, b_c_1⟩ := S10.out.b.t.c
  obtain ⟨b_d_0, b_d_1⟩ := S10.out.b.c
  go_upto_region 8 with (fail)
  refine wp_world (fun w11 hW => ?_)
  clear bx_0 bx_1 by_0 by_1 b_a_0 b_a_1 b_b_0 b_b_1 b_c_0 b_c_1 b_d_0 b_d_1
  have S11 := Lib.hid (S10.out.alloc (w10.heap.size) e_m e_0 e_n e_c 24 (by simp))
  rw [← hW] at S11
  clear hW S10
  obtain ⟨bx_0, bx_1⟩ := S11.out.b.t.t.t.t.t.c
  obtain ⟨by_0, by_1⟩ := S11.out.b.t.t.t.t.t.t.c
  obtain ⟨b_a_0, b_a_1⟩ := S11.out.b.t.t.t.t.c
  obtain ⟨b_b_0, b_b_1⟩ := S11.out.b.t.t.t.c
  obtain ⟨b_c_0, b_c_1⟩ := S11.out.b.t.t.c
  obtain ⟨b_d_0, b_d_1⟩ := S11.out.b.t.c
  obtain ⟨b_e_0, b_e_1⟩ := S11.out.b.c
  have bd_ab : Bd (((x ^ (p)) * (x ^ (q)))) 200 := bd_a.mul bd_b
  have EQ1 := Lib.hid (show ((x ^ (p)) * (x ^ (q))) = (x ^ (p + q)) from (Int.pow_add _ _ _).symm)
  have bd_ad : Bd (((x ^ (p)) * (y ^ (p)))) 200 := bd_a.mul bd_d
  have EQ2 := Lib.hid (show ((x ^ (p)) * (y ^ (p))) = ((x * y) ^ (p)) from Int.mul_pow.symm)
  clear bx_0 bx_1 by_0 by_1 b_a_0 b_a_1 b_b_0 b_b_1 b_c_0 b_c_1 b_d_0 b_d_1 b_e_0 b_e_1
  have S12 := Lib.hid S11.out.drew
  clear S11
  refine wp_region_held_drew (S := fun w' => (w'.cell? ⟨(w1.heap.size), 0, none⟩ = some (.bool a_m) ∧ w'.cell? ⟨(w1.heap.size), 1, none⟩ = some (.slice a_0 a_n a_c)) ∧ (w'.cell? ⟨(w3.heap.size), 0, none⟩ = some (.bool b_m) ∧ w'.cell? ⟨(w3.heap.size), 1, none⟩ = some (.slice b_0 b_n b_c)) ∧ (w'.cell? ⟨(w5.heap.size), 0, none⟩ = some (.bool c_m) ∧ w'.cell? ⟨(w5.heap.size), 1, none⟩ = some (.slice c_0 c_n c_c)) ∧ (w'.cell? ⟨(w7.heap.size), 0, none⟩ = some (.bool d_m) ∧ w'.cell? ⟨(w7.heap.size), 1, none⟩ = some (.slice d_0 d_n d_c)) ∧ (w'.cell? ⟨(w10.heap.size), 0, none⟩ = some (.bool e_m) ∧ w'.cell? ⟨(w10.heap.size), 1, none⟩ = some (.slice e_0 e_n e_c))) (by kernel_rfl) (⟨S12.out.b.t.t.t.t.c, S12.out.b.t.t.t.c, S12.out.b.t.t.c, S12.out.b.t.c, S12.out.b.c⟩) (fun hH => ?_)
  refine anyH_world (fun w12 hW => ?_)
  rw [← hW] at S12 hH
  clear hW
  refine step_on 0 rfl (by kernel_rfl) (fun _ _ _ h => h) (by rfl) hH (by intro w hS; go_simp <;> with_reducible rfl) ?_
  try simp only [nrm]
  refine step_on 1 rfl (by kernel_rfl) (fun _ _ _ h => h) (by rfl) hH (by intro w hS; go_simp <;> with_reducible rfl) ?_
  try simp only [nrm]
  refine step_on 2 rfl (by kernel_rfl) (fun _ _ _ h => h) (by rfl) hH (by intro w hS; go_simp <;> with_reducible rfl) ?_
  try simp only [nrm]
  refine step_on 3 rfl (by kernel_rfl) (fun _ _ _ h => h) (by rfl) hH (by intro w hS; go_simp <;> with_reducible rfl) ?_
  try simp only [nrm]
  refine step_on 4 rfl (by kernel_rfl) (fun _ _ _ h => h) (by rfl) hH (by intro w hS; go_simp <;> with_reducible rfl) ?_
  try simp only [nrm]
  refine step_on 5 rfl (by kernel_rfl) (fun _ _ _ h => h) (by rfl) hH (by intro w hS; go_simp <;> with_reducible rfl) ?_
  try simp only [nrm]
  refine step_on 6 rfl (by kernel_rfl) (fun _ _ _ h => h) (by rfl) hH (by intro w hS; go_simp <;> with_reducible rfl) ?_
  try simp only [nrm]
  refine step_on 7 rfl (by kernel_rfl) (fun _ _ _ h => h) (by rfl) hH (by intro w hS; go_simp <;> with_reducible rfl) ?_
  try simp only [nrm]
  refine step_on 8 rfl (by kernel_rfl) (fun _ _ _ h => h) (by rfl) hH (by intro w hS; go_simp <;> with_reducible rfl) ?_
  try simp only [nrm]
  refine step_on 9 rfl (by kernel_rfl) (fun _ _ _ h => h) (by rfl) hH (by intro w hS; go_simp <;> with_reducible rfl) ?_
  try simp only [nrm]
  refine step_on 10 rfl (by kernel_rfl) (fun _ _ _ h => h) (by rfl) hH (by intro w hS; go_simp <;> with_reducible rfl) ?_
  try simp only [nrm]
  refine step_on 11 rfl (by kernel_rfl) (fun _ _ _ h => h) (by rfl) hH (by intro w hS; go_simp <;> with_reducible rfl) ?_
  try simp only [nrm]
  refine step_on 12 rfl (by kernel_rfl) (fun _ _ _ h => h) (by rfl) hH (by intro w hS; go_simp <;> with_reducible rfl) ?_
  try simp only [nrm]
  refine step_on 13 rfl (by kernel_rfl) (fun _ _ _ h => h) (by rfl) hH (by intro w hS; go_simp <;> with_reducible rfl) ?_
  try simp only [nrm]
  refine step_on 14 rfl (by kernel_rfl) (fun _ _ _ h => h) (by rfl) hH (by intro w hS; go_simp <;> with_reducible rfl) ?_
  try simp only [nrm]
  refine step_on 15 rfl (by kernel_rfl) (fun _ _ _ h => h) (by rfl) hH (by intro w hS; go_simp <;> with_reducible rfl) ?_
  try simp only [nrm]
  refine step_on 16 rfl (by kernel_rfl) (fun _ _ _ h => h) (by rfl) hH (by intro w hS; go_simp <;> with_reducible rfl) ?_
  try simp only [nrm]
  refine step_on 17 rfl (by kernel_rfl) (fun _ _ _ h => h) (by rfl) hH (by intro w hS; go_simp <;> with_reducible rfl) ?_
  try simp only [nrm]
  refine step_on 18 rfl (by kernel_rfl) (fun _ _ _ h => h) (by rfl) hH (by intro w hS; go_simp <;> with_reducible rfl) ?_
  try simp only [nrm]
  refine step_on 19 rfl (by kernel_rfl) (fun _ _ _ h => h) (by rfl) hH (by intro w hS; go_simp <;> with_reducible rfl) ?_
  try simp only [nrm]
  refine step_on 20 rfl (by kernel_rfl) (fun _ _ _ h => h) (by rfl) hH (by intro w hS; go_simp <;> with_reducible rfl) ?_
  try simp only [nrm]
  refine step_on 22 rfl (by kernel_rfl) (fun _ _ _ h => h) (by rfl) hH (by intro w hS; go_simp <;> with_reducible rfl) ?_
  try simp only [nrm]
  refine step_one 21 rfl (by kernel_rfl) (fun K hK => ?_)
  go_simp
  refine (wmul_any S12.out.n.t.t.t.t.t.can.nx S12.out.n.t.t.t.t.can.nx).mono ?_
  rintro e w13 ⟨ab_m, ab_0, ab_n, ab_c, rfl, hX, hB⟩
  have S13 := Lib.hid ((S12.out.step hB).can (hX.cx bd_ab (by omega)))
  clear S12 hX hB
  go_wp2_with fail
  refine hK.out _ _ ⟨S13.out.b.t.t.t.t.c, S13.out.b.t.t.t.c, S13.out.b.t.t.c, S13.out.b.t.c, S13.out.b.c⟩ (fun h2 => ?_)
  clear hK K hH
  have hH := h2
  clear h2
  try simp only [nrm]
  refine step_one 23 rfl (by kernel_rfl) (fun K hK => ?_)
  go_simp
  refine (zsame S13.out.n.can S13.out.n.t.t.t.t.can EQ1.out).mono ?_
  rintro e w14 ⟨rfl, hB⟩
  have S14 := Lib.hid (S13.out.step hB)
  clear S13 hB
  go_wp2_with fail
  refine hK.out _ _ ⟨S14.out.b.t.t.t.t.c, S14.out.b.t.t.t.c, S14.out.b.t.t.c, S14.out.b.t.c, S14.out.b.c⟩ (fun h2 => ?_)
  clear hK K hH
  have hH := h2
  clear h2
  try simp only [nrm]
  refine step_on 24 rfl (by kernel_rfl) (fun _ _ _ h => h) (by rfl) hH (by intro w hS; go_simp <;> with_reducible rfl) ?_
  try simp only [nrm]
  refine step_on 25 rfl (by kernel_rfl) (fun _ _ _ h => h) (by rfl) hH (by intro w hS; go_simp <;> with_reducible rfl) ?_
  try simp only [nrm]
  refine step_on 26 rfl (by kernel_rfl) (fun _ _ _ h => h) (by rfl) hH (by intro w hS; go_simp <;> with_reducible rfl) ?_
  try simp only [nrm]
  refine step_on 27 rfl (by kernel_rfl) (fun _ _ _ h => h) (by rfl) hH (by intro w hS; go_simp <;> with_reducible rfl) ?_
  try simp only [nrm]
  refine step_on 28 rfl (by kernel_rfl) (fun _ _ _ h => h) (by rfl) hH (by intro w hS; go_simp <;> with_reducible rfl) ?_
  try simp only [nrm]
  refine step_on 30 rfl (by kernel_rfl) (fun _ _ _ h => h) (by rfl) hH (by intro w hS; go_simp <;> with_reducible rfl) ?_
  try simp only [nrm]
  refine step_one 29 rfl (by kernel_rfl) (fun K hK => ?_)
  go_simp
  refine (wmul_any S14.out.n.t.t.t.t.t.t.can.nx S14.out.n.t.t.t.can.nx).mono ?_
  rintro e w15 ⟨ad_m, ad_0, ad_n, ad_c, rfl, hX, hB⟩
  have S15 := Lib.hid ((S14.out.step hB).can (hX.cx bd_ad (by omega)))
  clear S14 hX hB
  go_wp2_with fail
  refine hK.out _ _ ⟨S15.out.b.t.t.t.t.c, S15.out.b.t.t.t.c, S15.out.b.t.t.c, S15.out.b.t.c, S15.out.b.c⟩ (fun h2 => ?_)
  clear hK K hH
  have hH := h2
  clear h2
  try simp only [nrm]
  refine step_one 31 rfl (by kernel_rfl) (fun K hK => ?_)
  go_simp
  refine (zsame S15.out.n.can S15.out.n.t.t.can EQ2.out).mono ?_
  rintro e w16 ⟨rfl, hB⟩
  have S16 := Lib.hid (S15.out.step hB)
  clear S15 hB
  go_wp2_with fail
  refine hK.out _ _ ⟨S16.out.b.t.t.t.t.c, S16.out.b.t.t.t.c, S16.out.b.t.t.c, S16.out.b.t.c, S16.out.b.c⟩ (fun h2 => ?_)
  clear hK K hH
  have hH := h2
  clear h2
  try simp only [nrm]
  refine step_on 32 rfl (by kernel_rfl) (fun _ _ _ h => h) (by rfl) hH (by intro w hS; go_simp <;> with_reducible rfl) ?_
  try simp only [nrm]
  refine step_on 33 rfl (by kernel_rfl) (fun _ _ _ h => h) (by rfl) hH (by intro w hS; go_simp <;> with_reducible rfl) ?_
  try simp only [nrm]
  refine wpAnyH_done (by kernel_rfl) ?_ _
  clear hH
  obtain ⟨bx_0, bx_1⟩ := S16.out.b.t.t.t.t.t.c
  obtain ⟨by_0, by_1⟩ := S16.out.b.t.t.t.t.t.t.c
  obtain ⟨b_a_0, b_a_1⟩ := S16.out.b.t.t.t.t.c
  obtain ⟨b_b_0, b_b_1⟩ := S16.out.b.t.t.t.c
  obtain ⟨b_c_0, b_c_1⟩ := S16.out.b.t.t.c
  obtain ⟨b_d_0, b_d_1⟩ := S16.out.b.t.c
  obtain ⟨b_e_0, b_e_1⟩ := S16.out.b.c
  go_wp2_with fail
  clear bx_0 bx_1 by_0 by_1 b_a_0 b_a_1 b_b_0 b_b_1 b_c_0 b_c_1 b_d_0 b_d_1 b_e_0 b_e_1
  obtain ⟨sx, hsx⟩ : ∃ sx, x.sign = sx := ⟨_, rfl⟩
  have HSX := Lib.hid hsx
  clear hsx
  go_loopg [19, 114] p (fun g s i wr => ∃ (j : Nat) (t : Int), i = .int .u8 ((j : Nat) : Int) ∧ s = .int .i64 t ∧ j ≤ p ∧ Hid (p - j = g) ∧ Hid ((x ^ j).sign = t) ∧ Hid (St w wr [.box (w10.heap.size) e_m e_0 e_n e_c, .box (w7.heap.size) d_m d_0 d_n d_c, .box (w5.heap.size) c_m c_0 c_n c_c, .box (w3.heap.size) b_m b_0 b_n b_c, .box (w1.heap.size) a_m a_0 a_n a_c, .box (w.heap.size) m0 a0 n0 c0, .box (w.heap.size + 1) m1 a1 n1 c1] [.can ad_m ad_0 ad_n ad_c ((x ^ (p)) * (y ^ (p))), .can ab_m ab_0 ab_n ab_c ((x ^ (p)) * (x ^ (q))), .can e_m e_0 e_n e_c ((x * y) ^ (p)), .can xy_m xy_0 xy_n xy_c (x * y), .can d_m d_0 d_n d_c (y ^ (p)), .can c_m c_0 c_n c_c (x ^ (p + q)), .can b_m b_0 b_n b_c (x ^ (q)), .can a_m a_0 a_n a_c (x ^ (p)), .num m0 a0 n0 c0 x, .num m1 a1 n1 c1 y]))
  case atStart => exact ⟨0, 1, rfl, rfl, Nat.zero_le _, Nat.sub_zero _, by rw [Int.pow_zero]; rfl, S16⟩
  case round =>
    clear S16
    obtain ⟨j, t, rfl, rfl, hj, HG, HT, S0⟩ := hrel
    obtain ⟨wo, rfl⟩ : ∃ wo : World, wo = wr := ⟨_, rfl⟩
    by_cases hlt : j < p
    · have hj8 : j < 8 := by omega
      have d1 : decide (j < p) = true := by simpa using hlt
      obtain ⟨bx_0, bx_1⟩ := S0.out.b.t.t.t.t.t.c
      go_wp2_with fail
      refine (wsign_is sx S0.out.n.t.t.t.t.t.t.t.t.num HSX.out).mono ?_
      rintro e w1 ⟨rfl, hB⟩
      have S1 := Lib.hid (S0.out.step hB)
      clear bx_0 bx_1
      clear S0 hB
      obtain ⟨bx_0, bx_1⟩ := S1.out.b.t.t.t.t.t.c
      go_wp2_with fail
      have HT2 : Hid ((x ^ (j + 1)).sign = wrap64 (t * sx)) := by
        rw [Hid, ← IntWalk.i64_left, ← HT.out, ← HSX.out]; exact (pow_sign_wrap x j).symm
      go_roundg (p - (j + 1))
      case measure => have := HG.out; omega
      case rel => exact ⟨j + 1, _, by go_num, rfl, hlt, rfl, HT2, S1⟩
    · obtain rfl : j = p := by omega
      have d1 : decide (j < j) = false := by simp
      obtain ⟨b_a_0, b_a_1⟩ := S0.out.b.t.t.t.t.c
      go_wp2_with fail
      refine (wsign_is t S0.out.n.t.t.t.t.t.t.t.can.nx HT.out).mono ?_
      rintro e w1 ⟨rfl, hB⟩
      have S1 := Lib.hid (S0.out.step hB)
      clear b_a_0 b_a_1
      clear S0 hB
      obtain ⟨b_a_0, b_a_1⟩ := S1.out.b.t.t.t.t.c
      go_wp2_with fail
      refine (known4_any _).mono ?_
      rintro e w2 ⟨rfl, hB⟩
      have S2 := Lib.hid (S1.out.step hB)
      clear b_a_0 b_a_1
      clear S1 hB
      obtain ⟨b_a_0, b_a_1⟩ := S2.out.b.t.t.t.t.c
      go_wp2_with fail
      go_ret
      exact ⟨rfl, S2.out.h⟩

set_option maxHeartbeats 4000000 in
theorem wholePowers_long0 (p q : Nat) {m0 : Bool} {a0 : Option Addr} {n0 c0 : Nat} {m1 : Bool} {a1 : Option Addr} {n1 c1 : Nat} {w : World} (z0 : n0 ≤ 35184372088832) (h0 : 6 < n0) :
    Calls Try.prog 7 #[.agg #[.bool m0, .slice a0 n0 c0], .agg #[.bool m1, .slice a1 n1 c1], .int .u8 (p : Int), .int .u8 (q : Int)] w (RetB (.bool true) w) := by
  have e0 : decide (6 < n0) = true := by simp; omega
  go_enter Try.func7, Try.ntmps7
  go_upto_region 1 with (fail)
  refine wp_world (fun W hW => ?_)
  have HB0 : Hid (Below w.heap.size w W) := by rw [hW]; exact step_alloc (below_alloc _ _)
  have S0 : Hid (St w W _ _) := Lib.hid (St.mk (Live.add_box (show Box W (w.heap.size) m0 a0 n0 c0 from by rw [hW]; exact (Box.new _ _ _ _ _ _ _ (by simp)).below (below_alloc _ _)) (Live.add_box (show Box W (w.heap.size + 1) m1 a1 n1 c1 from by rw [hW]; exact Box.new _ _ _ _ _ _ _ (by simp)) (Live.nil W))) (Live.nil W) HB0.out)
  clear hW HB0
  obtain ⟨bx_0, bx_1⟩ := S0.out.b.c
  obtain ⟨by_0, by_1⟩ := S0.out.b.t.c
  go_wp2_with fail
  refine (known4_any _).mono ?_
  rintro e w2 ⟨rfl, hB⟩
  go_wp2_with fail
  go_ret
  exact ⟨rfl, Below.steps S0.out.h hB⟩

set_option maxHeartbeats 4000000 in
theorem wholePowers_long1 (p q : Nat) {m0 : Bool} {a0 : Option Addr} {n0 c0 : Nat} {m1 : Bool} {a1 : Option Addr} {n1 c1 : Nat} {w : World} (z1 : n1 ≤ 35184372088832) (h0 : ¬ 6 < n0) (h1 : 6 < n1) :
    Calls Try.prog 7 #[.agg #[.bool m0, .slice a0 n0 c0], .agg #[.bool m1, .slice a1 n1 c1], .int .u8 (p : Int), .int .u8 (q : Int)] w (RetB (.bool true) w) := by
  have e0 : decide (6 < n0) = false := by simp; omega
  have e1 : decide (6 < n1) = true := by simp; omega
  go_enter Try.func7, Try.ntmps7
  go_upto_region 1 with (fail)
  refine wp_world (fun W hW => ?_)
  have HB0 : Hid (Below w.heap.size w W) := by rw [hW]; exact step_alloc (below_alloc _ _)
  have S0 : Hid (St w W _ _) := Lib.hid (St.mk (Live.add_box (show Box W (w.heap.size) m0 a0 n0 c0 from by rw [hW]; exact (Box.new _ _ _ _ _ _ _ (by simp)).below (below_alloc _ _)) (Live.add_box (show Box W (w.heap.size + 1) m1 a1 n1 c1 from by rw [hW]; exact Box.new _ _ _ _ _ _ _ (by simp)) (Live.nil W))) (Live.nil W) HB0.out)
  clear hW HB0
  obtain ⟨bx_0, bx_1⟩ := S0.out.b.c
  obtain ⟨by_0, by_1⟩ := S0.out.b.t.c
  go_wp2_with fail
  refine (known4_any _).mono ?_
  rintro e w2 ⟨rfl, hB⟩
  go_wp2_with fail
  go_ret
  exact ⟨rfl, Below.steps S0.out.h hB⟩

set_option maxHeartbeats 4000000 in
theorem wholePowers_long2 (p q : Nat) {m0 : Bool} {a0 : Option Addr} {n0 c0 : Nat} {m1 : Bool} {a1 : Option Addr} {n1 c1 : Nat} {w : World} (zp : p < 256) (h0 : ¬ 6 < n0) (h1 : ¬ 6 < n1) (h2 : 8 < p) :
    Calls Try.prog 7 #[.agg #[.bool m0, .slice a0 n0 c0], .agg #[.bool m1, .slice a1 n1 c1], .int .u8 (p : Int), .int .u8 (q : Int)] w (RetB (.bool true) w) := by
  have e0 : decide (6 < n0) = false := by simp; omega
  have e1 : decide (6 < n1) = false := by simp; omega
  have e2 : decide (8 < ((p : Nat) : Int)) = true := by simp; omega
  go_enter Try.func7, Try.ntmps7
  go_upto_region 1 with (fail)
  refine wp_world (fun W hW => ?_)
  have HB0 : Hid (Below w.heap.size w W) := by rw [hW]; exact step_alloc (below_alloc _ _)
  have S0 : Hid (St w W _ _) := Lib.hid (St.mk (Live.add_box (show Box W (w.heap.size) m0 a0 n0 c0 from by rw [hW]; exact (Box.new _ _ _ _ _ _ _ (by simp)).below (below_alloc _ _)) (Live.add_box (show Box W (w.heap.size + 1) m1 a1 n1 c1 from by rw [hW]; exact Box.new _ _ _ _ _ _ _ (by simp)) (Live.nil W))) (Live.nil W) HB0.out)
  clear hW HB0
  obtain ⟨bx_0, bx_1⟩ := S0.out.b.c
  obtain ⟨by_0, by_1⟩ := S0.out.b.t.c
  go_wp2_with fail
  refine (known4_any _).mono ?_
  rintro e w2 ⟨rfl, hB⟩
  go_wp2_with fail
  go_ret
  exact ⟨rfl, Below.steps S0.out.h hB⟩

set_option maxHeartbeats 4000000 in
theorem wholePowers_long3 (p q : Nat) {m0 : Bool} {a0 : Option Addr} {n0 c0 : Nat} {m1 : Bool} {a1 : Option Addr} {n1 c1 : Nat} {w : World} (zp : p < 256) (zq : q < 256) (h0 : ¬ 6 < n0) (h1 : ¬ 6 < n1) (h2 : ¬ 8 < p) (h3 : 8 < q) :
    Calls Try.prog 7 #[.agg #[.bool m0, .slice a0 n0 c0], .agg #[.bool m1, .slice a1 n1 c1], .int .u8 (p : Int), .int .u8 (q : Int)] w (RetB (.bool true) w) := by
  have e0 : decide (6 < n0) = false := by simp; omega
  have e1 : decide (6 < n1) = false := by simp; omega
  have e2 : decide (8 < ((p : Nat) : Int)) = false := by simp; omega
  have e3 : decide (8 < ((q : Nat) : Int)) = true := by simp; omega
  go_enter Try.func7, Try.ntmps7
  go_upto_region 1 with (fail)
  refine wp_world (fun W hW => ?_)
  have HB0 : Hid (Below w.heap.size w W) := by rw [hW]; exact step_alloc (below_alloc _ _)
  have S0 : Hid (St w W _ _) := Lib.hid (St.mk (Live.add_box (show Box W (w.heap.size) m0 a0 n0 c0 from by rw [hW]; exact (Box.new _ _ _ _ _ _ _ (by simp)).below (below_alloc _ _)) (Live.add_box (show Box W (w.heap.size + 1) m1 a1 n1 c1 from by rw [hW]; exact Box.new _ _ _ _ _ _ _ (by simp)) (Live.nil W))) (Live.nil W) HB0.out)
  clear hW HB0
  obtain ⟨bx_0, bx_1⟩ := S0.out.b.c
  obtain ⟨by_0, by_1⟩ := S0.out.b.t.c
  go_wp2_with fail
  refine (known4_any _).mono ?_
  rintro e w2 ⟨rfl, hB⟩
  go_wp2_with fail
  go_ret
  exact ⟨rfl, Below.steps S0.out.h hB⟩

theorem wholePowers_any (p q : Nat) {m0 : Bool} {a0 : Option Addr} {n0 c0 : Nat} {m1 : Bool} {a1 : Option Addr} {n1 c1 : Nat} {xs ys : List Nat} {w : World} (s0 : Sl w a0 n0 c0 xs) (s1 : Sl w a1 n1 c1 ys) (hp : p < 256) (hq : q < 256) :
    Calls Try.prog 7 #[.agg #[.bool m0, .slice a0 n0 c0], .agg #[.bool m1, .slice a1 n1 c1], .int .u8 (p : Int), .int .u8 (q : Int)] w (RetB (.bool true) w) := by
  by_cases k1 : 6 < n0
  · exact wholePowers_long0 p q s0.big k1
  by_cases k2 : 6 < n1
  · exact wholePowers_long1 p q s1.big k1 k2
  by_cases k3 : 8 < p
  · exact wholePowers_long2 p q hp k1 k2 k3
  by_cases k4 : 8 < q
  · exact wholePowers_long3 p q hp hq k1 k2 k3 k4
  exact wholePowers_short p q ⟨⟨xs, s0, rfl⟩, by omega⟩ ⟨⟨ys, s1, rfl⟩, by omega⟩ (by omega) (by omega) (by omega) (by omega)

theorem wholePowers_int {p q : Int} {m0 : Bool} {a0 : Option Addr} {n0 c0 : Nat} {m1 : Bool} {a1 : Option Addr} {n1 c1 : Nat} {xs ys : List Nat} {w : World} (s0 : Sl w a0 n0 c0 xs) (s1 : Sl w a1 n1 c1 ys) (hp : 0 ≤ p ∧ p < 256) (hq : 0 ≤ q ∧ q < 256) :
    Calls Try.prog 7 #[.agg #[.bool m0, .slice a0 n0 c0], .agg #[.bool m1, .slice a1 n1 c1], .int .u8 p, .int .u8 q] w (RetB (.bool true) w) := by
  obtain ⟨p, rfl⟩ := Int.eq_ofNat_of_zero_le hp.1
  obtain ⟨q, rfl⟩ := Int.eq_ofNat_of_zero_le hq.1
  exact wholePowers_any p q s0 s1 (by omega) (by omega)

end Go.Proofs.Ytponiigpmjnffaa
