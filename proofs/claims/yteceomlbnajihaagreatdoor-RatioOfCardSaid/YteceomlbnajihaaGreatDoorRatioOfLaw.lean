/-
  The walk of the law RatioOf.
-/
import Derived.Test.YteceomlbnajihaaGreatDoorRatioPre
import Derived.Deep.Cut
import Derived.Deep.CutRange
set_option maxRecDepth 8192
namespace Go.Proofs.YteceomlbnajihaaGreatDoor
open Go.RowKit

theorem qv_w0 {x : Int} : qv x 0 = 0 ↔ x = 0 := by rw [qv_dn, dn_zero rfl]; exact q_zero (by decide)
theorem qv_wd {x d : Int} {q : Rat} (h : Rat.divInt x d = q) : q = qv x 0 / qv d 0 := by
  have h1 := zv_div (x := x) (d := 1) (y := d) (c := 1) (q_whole x) (q_whole d)
  rw [← h1, ← h, Int.mul_one, Int.one_mul]

set_option maxHeartbeats 8000000 in
set_option maxRecDepth 100000 in
theorem ratioOf_long0 {m0 m1 : Bool} {a0 a1 : Option Addr} {n0 c0 n1 c1 : Nat} {xs0 xs1 : List Nat} {a b : Int} {w : World} (hs0 : Sl w a0 n0 c0 xs0) (hs1 : Sl w a1 n1 c1 xs1) (ht : Tab w) (p0 : 8 < n0) :
    Calls Tryz.prog 4 #[.agg #[.bool m0, .slice a0 n0 c0], .agg #[.bool m1, .slice a1 n1 c1], .int .i64 a, .int .i64 b] w (RetB (.bool true) w) := by
  have _u0 := hs0
  have _u1 := hs1
  have HT := Lib.hid ht
  clear ht
  have u0 : ¬ (n0 : Int) ≤ 8 := by omega
  have v0 : (8 : Int) < n0 := by omega
  have d0f : decide (8 < n0) = true := decide_eq_true (by omega)
  go_enter Tryz.func4, Tryz.ntmps4
  have S0 := Lib.hid (Sx.start (w := w) (N := []) trivial)
  have S1 := Lib.hid (S0.out.var (w.heap.size) [.bool m0, .slice a0 n0 c0] 24 (by simp))
  clear S0
  have S2 := Lib.hid (S1.out.var (w.heap.size + 1) [.bool m1, .slice a1 n1 c1] 24 (by simp))
  clear S1
  go_upto_region 1 with (fail)
  refine wp_world (fun w1 hW => ?_)
  rw [← hW] at S2
  clear hW
  obtain ⟨c_b4_0, c_b4_1⟩ := S2.out.b.t.c2
  obtain ⟨c_b5_0, c_b5_1⟩ := S2.out.b.c2
  go_wp2_with fail
  clear c_b4_0 c_b4_1 c_b5_0 c_b5_1
  refine (known6_any _ (HT.out.below S2.out.h)).mono ?_
  rintro e w2 ⟨rfl, hB⟩
  have S3 := Lib.hid ((S2.out.step hB))
  clear S2 hB
  go_wp2_with fail
  go_ret
  exact ⟨rfl, S3.out.h⟩

set_option maxHeartbeats 8000000 in
set_option maxRecDepth 100000 in
theorem ratioOf_long1 {m0 m1 : Bool} {a0 a1 : Option Addr} {n0 c0 n1 c1 : Nat} {xs0 xs1 : List Nat} {a b : Int} {w : World} (hs0 : Sl w a0 n0 c0 xs0) (hs1 : Sl w a1 n1 c1 xs1) (ht : Tab w) (p0 : n0 ≤ 8) (p1 : 8 < n1) :
    Calls Tryz.prog 4 #[.agg #[.bool m0, .slice a0 n0 c0], .agg #[.bool m1, .slice a1 n1 c1], .int .i64 a, .int .i64 b] w (RetB (.bool true) w) := by
  have _u0 := hs0
  have _u1 := hs1
  have HT := Lib.hid ht
  clear ht
  have u0 : (n0 : Int) ≤ 8 := by omega
  have v0 : ¬ (8 : Int) < n0 := by omega
  have d0f : decide (8 < n0) = false := decide_eq_false (by omega)
  have u1 : ¬ (n1 : Int) ≤ 8 := by omega
  have v1 : (8 : Int) < n1 := by omega
  have d1f : decide (8 < n1) = true := decide_eq_true (by omega)
  go_enter Tryz.func4, Tryz.ntmps4
  have S0 := Lib.hid (Sx.start (w := w) (N := []) trivial)
  have S1 := Lib.hid (S0.out.var (w.heap.size) [.bool m0, .slice a0 n0 c0] 24 (by simp))
  clear S0
  have S2 := Lib.hid (S1.out.var (w.heap.size + 1) [.bool m1, .slice a1 n1 c1] 24 (by simp))
  clear S1
  go_upto_region 1 with (fail)
  refine wp_world (fun w1 hW => ?_)
  rw [← hW] at S2
  clear hW
  obtain ⟨c_b4_0, c_b4_1⟩ := S2.out.b.t.c2
  obtain ⟨c_b5_0, c_b5_1⟩ := S2.out.b.c2
  go_wp2_with fail
  clear c_b4_0 c_b4_1 c_b5_0 c_b5_1
  refine (known6_any _ (HT.out.below S2.out.h)).mono ?_
  rintro e w2 ⟨rfl, hB⟩
  have S3 := Lib.hid ((S2.out.step hB))
  clear S2 hB
  go_wp2_with fail
  go_ret
  exact ⟨rfl, S3.out.h⟩

set_option maxHeartbeats 8000000 in
set_option maxRecDepth 100000 in
theorem ratioOf_main00 {m0 m1 : Bool} {a0 a1 : Option Addr} {n0 c0 n1 c1 : Nat} {xs0 xs1 : List Nat} {a b : Int} {w : World} (hs0 : Sl w a0 n0 c0 xs0) (hs1 : Sl w a1 n1 c1 xs1) (ht : Tab w) (p0 : n0 ≤ 8) (p1 : n1 ≤ 8) (h64_a : -9223372036854775808 ≤ a ∧ a ≤ 9223372036854775807) (h64_b : -9223372036854775808 ≤ b ∧ b ≤ 9223372036854775807) (h0 : zOf m1 (val xs1) = 0) (hy : b = 0) :
    Calls Tryz.prog 4 #[.agg #[.bool m0, .slice a0 n0 c0], .agg #[.bool m1, .slice a1 n1 c1], .int .i64 a, .int .i64 b] w (RetB (.bool true) w) := by
  have HT := Lib.hid ht
  clear ht
  obtain ⟨x0, hx0⟩ : ∃ x, zOf m0 (val xs0) = x := ⟨_, rfl⟩
  obtain ⟨x1, hx1⟩ : ∃ x, zOf m1 (val xs1) = x := ⟨_, rfl⟩
  have hN0 : Nb w m0 a0 n0 c0 x0 8 := ⟨⟨⟨xs0, hs0, hx0⟩, by omega⟩, In.bd ⟨xs0, hs0, hx0⟩ (by omega)⟩
  have hN1 : Nb w m1 a1 n1 c1 x1 8 := ⟨⟨⟨xs1, hs1, hx1⟩, by omega⟩, In.bd ⟨xs1, hs1, hx1⟩ (by omega)⟩
  rw [hx1] at h0
  clear hx0 hx1
  have u0 : (n0 : Int) ≤ 8 := by omega
  have v0 : ¬ (8 : Int) < n0 := by omega
  have d0f : decide (8 < n0) = false := decide_eq_false (by omega)
  have u1 : (n1 : Int) ≤ 8 := by omega
  have v1 : ¬ (8 : Int) < n1 := by omega
  have d1f : decide (8 < n1) = false := decide_eq_false (by omega)
  have HA := Lib.hid h64_a
  have HB := Lib.hid h64_b
  have HH0 := Lib.hid h0
  have HY := Lib.hid hy
  have y1 : (b == 0) = true := by simpa using hy
  obtain ⟨t, ht⟩ : ∃ x, qs (qv x1 0) = x := ⟨_, rfl⟩
  have f1 : (t == 0) = true := by rw [← ht]; have := qs_zero (qv x1 0); have := @qv_w0 x1; simp; exact (qs_zero _).2 (qv_w0.2 h0)
  have HNZ : Hid (True) := trivial
  have Ht := Lib.hid ht
  clear ht
  obtain ⟨q0, hq0⟩ : ∃ x, Rat.divInt x0 x1 = x := ⟨_, rfl⟩
  have Hq0 := Lib.hid hq0
  clear hq0
  clear h0 hy h64_a h64_b p0 p1
  go_enter Tryz.func4, Tryz.ntmps4
  have S0 := Lib.hid (Sx.start (w := w) (N := [.nb m0 a0 n0 c0 x0 8, .nb m1 a1 n1 c1 x1 8]) ⟨hN0, hN1, trivial⟩)
  clear hN0 hN1
  have S1 := Lib.hid (S0.out.var (w.heap.size) [.bool m0, .slice a0 n0 c0] 24 (by simp))
  clear S0
  have S2 := Lib.hid (S1.out.var (w.heap.size + 1) [.bool m1, .slice a1 n1 c1] 24 (by simp))
  clear S1
  go_upto_region 1 with (fail)
  refine wp_world (fun w1 hW => ?_)
  rw [← hW] at S2
  clear hW
  obtain ⟨c_b4_0, c_b4_1⟩ := S2.out.b.t.c2
  obtain ⟨c_b5_0, c_b5_1⟩ := S2.out.b.c2
  go_wp2_with fail
  clear c_b4_0 c_b4_1 c_b5_0 c_b5_1
  refine (rof_zero S2.out.n.nb.nx S2.out.n.t.nb.nx (HH0.out)).mono ?_
  rintro e w2 ⟨rfl, hB⟩
  have S3 := Lib.hid ((S2.out.step hB))
  clear S2 hB
  go_upto_region 4 with (fail)
  have S4 := Lib.hid (S3.out.var (w2.heap.size) [.bool false, .slice none 0 0, .bool false, .slice none 0 0] 26 (by simp))
  clear S3
  refine wp_world (fun w3 hW => ?_)
  rw [← hW] at S4
  clear hW
  go_wp2_with fail
  refine (rsmall_zero a (HA.out) _ (HY.out)).mono ?_
  rintro e w4 ⟨rfl, hB⟩
  have S5 := Lib.hid ((S4.out.step hB))
  clear S4 hB
  go_upto_region 5 with (fail)
  have S6 := Lib.hid (S5.out.var (w4.heap.size) [.bool false, .slice none 0 0, .bool false, .slice none 0 0] 26 (by simp))
  clear S5
  refine wp_world (fun w5 hW => ?_)
  rw [← hW] at S6
  clear hW
  obtain ⟨c_b5_0, c_b5_1⟩ := S6.out.b.t.t.c2
  go_wp2_with fail
  clear c_b5_0 c_b5_1
  refine (qof_any (rx_whole S6.out.n.t.nb.nx S6.out.n.t.nb.bd (by omega)) (by omega) (by omega)).mono ?_
  rintro e w6 ⟨r1_m, r1_0, r1_n, r1_c, r1_k, r1_1, r1_l, r1_d, rfl, hX, hB⟩
  have S7 := Lib.hid (((S6.out.step hB).qx hX rfl))
  clear S6 hX hB
  go_upto_region 6 with (fail)
  have S8 := Lib.hid (S7.out.var (w6.heap.size) [.bool r1_m, .slice r1_0 r1_n r1_c, .bool r1_k, .slice r1_1 r1_l r1_d] 35 (by simp))
  clear S7
  refine wp_world (fun w7 hW => ?_)
  rw [← hW] at S8
  clear hW
  obtain ⟨c_b13_0, c_b13_1, c_b13_2, c_b13_3⟩ := S8.out.b.c4
  go_wp2_with fail
  clear c_b13_0 c_b13_1 c_b13_2 c_b13_3
  refine (qsign_any (t) S8.out.n.qx (Ht.out)).mono ?_
  rintro e w8 ⟨rfl, hB⟩
  have S9 := Lib.hid ((S8.out.step hB))
  clear S8 hB
  obtain ⟨c_b9_0, c_b9_1, c_b9_2, c_b9_3⟩ := S9.out.b.t.t.c4
  go_wp2_with fail
  clear c_b9_0 c_b9_1 c_b9_2 c_b9_3
  refine (known6_any _ (HT.out.below S9.out.h)).mono ?_
  rintro e w9 ⟨rfl, hB⟩
  have S10 := Lib.hid ((S9.out.step hB))
  clear S9 hB
  go_wp2_with fail
  go_ret
  exact ⟨rfl, S10.out.h⟩

set_option maxHeartbeats 8000000 in
set_option maxRecDepth 100000 in
theorem ratioOf_main01 {m0 m1 : Bool} {a0 a1 : Option Addr} {n0 c0 n1 c1 : Nat} {xs0 xs1 : List Nat} {a b : Int} {w : World} (hs0 : Sl w a0 n0 c0 xs0) (hs1 : Sl w a1 n1 c1 xs1) (ht : Tab w) (p0 : n0 ≤ 8) (p1 : n1 ≤ 8) (h64_a : -9223372036854775808 ≤ a ∧ a ≤ 9223372036854775807) (h64_b : -9223372036854775808 ≤ b ∧ b ≤ 9223372036854775807) (h0 : zOf m1 (val xs1) = 0) (hy : b ≠ 0) :
    Calls Tryz.prog 4 #[.agg #[.bool m0, .slice a0 n0 c0], .agg #[.bool m1, .slice a1 n1 c1], .int .i64 a, .int .i64 b] w (RetB (.bool true) w) := by
  have HT := Lib.hid ht
  clear ht
  obtain ⟨x0, hx0⟩ : ∃ x, zOf m0 (val xs0) = x := ⟨_, rfl⟩
  obtain ⟨x1, hx1⟩ : ∃ x, zOf m1 (val xs1) = x := ⟨_, rfl⟩
  have hN0 : Nb w m0 a0 n0 c0 x0 8 := ⟨⟨⟨xs0, hs0, hx0⟩, by omega⟩, In.bd ⟨xs0, hs0, hx0⟩ (by omega)⟩
  have hN1 : Nb w m1 a1 n1 c1 x1 8 := ⟨⟨⟨xs1, hs1, hx1⟩, by omega⟩, In.bd ⟨xs1, hs1, hx1⟩ (by omega)⟩
  rw [hx1] at h0
  clear hx0 hx1
  have u0 : (n0 : Int) ≤ 8 := by omega
  have v0 : ¬ (8 : Int) < n0 := by omega
  have d0f : decide (8 < n0) = false := decide_eq_false (by omega)
  have u1 : (n1 : Int) ≤ 8 := by omega
  have v1 : ¬ (8 : Int) < n1 := by omega
  have d1f : decide (8 < n1) = false := decide_eq_false (by omega)
  have HA := Lib.hid h64_a
  have HB := Lib.hid h64_b
  have HH0 := Lib.hid h0
  have HY := Lib.hid hy
  have y1 : (b == 0) = false := by simpa using hy
  obtain ⟨t, ht⟩ : ∃ x, qs (qv x1 0) = x := ⟨_, rfl⟩
  have f1 : (t == 0) = true := by rw [← ht]; have := qs_zero (qv x1 0); have := @qv_w0 x1; simp; exact (qs_zero _).2 (qv_w0.2 h0)
  have HNZ : Hid (True) := trivial
  have Ht := Lib.hid ht
  clear ht
  obtain ⟨q0, hq0⟩ : ∃ x, Rat.divInt x0 x1 = x := ⟨_, rfl⟩
  have Hq0 := Lib.hid hq0
  clear hq0
  clear h0 hy h64_a h64_b p0 p1
  go_enter Tryz.func4, Tryz.ntmps4
  have S0 := Lib.hid (Sx.start (w := w) (N := [.nb m0 a0 n0 c0 x0 8, .nb m1 a1 n1 c1 x1 8]) ⟨hN0, hN1, trivial⟩)
  clear hN0 hN1
  have S1 := Lib.hid (S0.out.var (w.heap.size) [.bool m0, .slice a0 n0 c0] 24 (by simp))
  clear S0
  have S2 := Lib.hid (S1.out.var (w.heap.size + 1) [.bool m1, .slice a1 n1 c1] 24 (by simp))
  clear S1
  go_upto_region 1 with (fail)
  refine wp_world (fun w1 hW => ?_)
  rw [← hW] at S2
  clear hW
  obtain ⟨c_b4_0, c_b4_1⟩ := S2.out.b.t.c2
  obtain ⟨c_b5_0, c_b5_1⟩ := S2.out.b.c2
  go_wp2_with fail
  clear c_b4_0 c_b4_1 c_b5_0 c_b5_1
  refine (rof_zero S2.out.n.nb.nx S2.out.n.t.nb.nx (HH0.out)).mono ?_
  rintro e w2 ⟨rfl, hB⟩
  have S3 := Lib.hid ((S2.out.step hB))
  clear S2 hB
  go_upto_region 4 with (fail)
  have S4 := Lib.hid (S3.out.var (w2.heap.size) [.bool false, .slice none 0 0, .bool false, .slice none 0 0] 26 (by simp))
  clear S3
  refine wp_world (fun w3 hW => ?_)
  rw [← hW] at S4
  clear hW
  go_wp2_with fail
  refine (rsmall_any a b _ (HA.out) (HB.out) (HY.out)).mono ?_
  rintro e w4 ⟨r1_m, r1_0, r1_n, r1_c, r1_k, r1_1, r1_l, r1_d, rfl, hX, hB⟩
  have S5 := Lib.hid (((S4.out.step hB).rc hX rfl))
  clear S4 hX hB
  go_upto_region 5 with (fail)
  have S6 := Lib.hid (S5.out.var (w4.heap.size) [.bool r1_m, .slice r1_0 r1_n r1_c, .bool r1_k, .slice r1_1 r1_l r1_d] 26 (by simp))
  clear S5
  refine wp_world (fun w5 hW => ?_)
  rw [← hW] at S6
  clear hW
  obtain ⟨c_b5_0, c_b5_1⟩ := S6.out.b.t.t.c2
  go_wp2_with fail
  clear c_b5_0 c_b5_1
  refine (qof_any (rx_whole S6.out.n.t.t.nb.nx S6.out.n.t.t.nb.bd (by omega)) (by omega) (by omega)).mono ?_
  rintro e w6 ⟨r2_m, r2_0, r2_n, r2_c, r2_k, r2_1, r2_l, r2_d, rfl, hX, hB⟩
  have S7 := Lib.hid (((S6.out.step hB).qx hX rfl))
  clear S6 hX hB
  go_upto_region 6 with (fail)
  have S8 := Lib.hid (S7.out.var (w6.heap.size) [.bool r2_m, .slice r2_0 r2_n r2_c, .bool r2_k, .slice r2_1 r2_l r2_d] 35 (by simp))
  clear S7
  refine wp_world (fun w7 hW => ?_)
  rw [← hW] at S8
  clear hW
  obtain ⟨c_b13_0, c_b13_1, c_b13_2, c_b13_3⟩ := S8.out.b.c4
  go_wp2_with fail
  clear c_b13_0 c_b13_1 c_b13_2 c_b13_3
  refine (qsign_any (t) S8.out.n.qx (Ht.out)).mono ?_
  rintro e w8 ⟨rfl, hB⟩
  have S9 := Lib.hid ((S8.out.step hB))
  clear S8 hB
  obtain ⟨c_b9_0, c_b9_1, c_b9_2, c_b9_3⟩ := S9.out.b.t.t.c4
  go_wp2_with fail
  clear c_b9_0 c_b9_1 c_b9_2 c_b9_3
  have S10 := Lib.hid (S9.out.drew)
  clear S9
  refine wp_region_held_drew (S := fun w' => (w'.cell? ⟨(w4.heap.size), 0, none⟩ = some (.bool r1_m) ∧ w'.cell? ⟨(w4.heap.size), 1, none⟩ = some (.slice r1_0 r1_n r1_c) ∧ w'.cell? ⟨(w4.heap.size), 2, none⟩ = some (.bool r1_k) ∧ w'.cell? ⟨(w4.heap.size), 3, none⟩ = some (.slice r1_1 r1_l r1_d))) (by kernel_rfl) ((S10.out.b.t.c4)) (fun hH => ?_)
  refine anyH_world (fun w9 hW => ?_)
  rw [← hW] at S10 hH
  clear hW
  refine step_on 0 rfl (by kernel_rfl) (fun _ _ _ h => h) (by rfl) hH (by intro w hS; go_simp <;> with_reducible rfl) ?_
  try simp only [nrm]
  refine step_on 1 rfl (by kernel_rfl) (fun _ _ _ h => h) (by rfl) hH (by intro w hS; go_simp <;> with_reducible rfl) ?_
  try simp only [nrm]
  refine step_on 2 rfl (by kernel_rfl) (fun _ _ _ h => h) (by rfl) hH (by intro w hS; go_simp <;> with_reducible rfl) ?_
  try simp only [nrm]
  refine step_on 3 rfl (by kernel_rfl) (fun _ _ _ h => h) (by rfl) hH (by intro w hS; go_simp <;> with_reducible rfl) ?_
  try simp only [nrm]
  refine step_on 4 rfl (by kernel_rfl) (fun _ _ _ h => h) (by rfl) hH (by intro w hS; go_simp <;> with_reducible rfl) ?_
  try simp only [nrm]
  refine step_on 5 rfl (by kernel_rfl) (fun _ _ _ h => h) (by rfl) hH (by intro w hS; go_simp <;> with_reducible rfl) ?_
  try simp only [nrm]
  refine step_one 6 rfl (by kernel_rfl) (fun K hK => ?_)
  go_simp
  refine (qsmall_any a b _ (HA.out) (HB.out) (HY.out)).mono ?_
  rintro e w10 ⟨r3_m, r3_0, r3_n, r3_c, r3_k, r3_1, r3_l, r3_d, rfl, hX, hB⟩
  have S11 := Lib.hid (((S10.out.step hB).qx hX rfl))
  clear S10 hX hB
  go_wp2_with fail
  refine hK.out _ _ (S11.out.b.t.c4) (fun h2 => ?_)
  clear hK K hH
  have hH := h2
  clear h2
  try simp only [nrm]
  refine step_one 7 rfl (by kernel_rfl) (fun K hK => ?_)
  go_simp
  refine (qrat_any S11.out.n.qx (by omega) (by omega)).mono ?_
  rintro e w11 ⟨r4_m, r4_0, r4_n, r4_c, r4_k, r4_1, r4_l, r4_d, rfl, hX, hB⟩
  have S12 := Lib.hid (((S11.out.step hB).rc hX rfl))
  clear S11 hX hB
  go_wp2_with fail
  refine hK.out _ _ (S12.out.b.t.c4) (fun h2 => ?_)
  clear hK K hH
  have hH := h2
  clear h2
  try simp only [nrm]
  refine step_one 8 rfl (by kernel_rfl) (fun K hK => ?_)
  go_simp
  refine (rsame_eq S12.out.n.t.t.t.rc S12.out.n.rc (rfl)).mono ?_
  rintro e w12 ⟨rfl, hB⟩
  have S13 := Lib.hid ((S12.out.step hB))
  clear S12 hB
  go_wp2_with fail
  refine hK.out _ _ (S13.out.b.t.c4) (fun h2 => ?_)
  clear hK K hH
  have hH := h2
  clear h2
  try simp only [nrm]
  refine step_on 9 rfl (by kernel_rfl) (fun _ _ _ h => h) (by rfl) hH (by intro w hS; go_simp <;> with_reducible rfl) ?_
  try simp only [nrm]
  refine step_on 10 rfl (by kernel_rfl) (fun _ _ _ h => h) (by rfl) hH (by intro w hS; go_simp <;> with_reducible rfl) ?_
  try simp only [nrm]
  refine step_one 11 rfl (by kernel_rfl) (fun K hK => ?_)
  go_simp
  refine (known6_any _ (HT.out.below S13.out.h)).mono ?_
  rintro e w13 ⟨rfl, hB⟩
  have S14 := Lib.hid ((S13.out.step hB))
  clear S13 hB
  go_wp2_with fail
  refine hK.out _ _ (S14.out.b.t.c4) (fun h2 => ?_)
  clear hK K hH
  have hH := h2
  clear h2
  try simp only [nrm]
  refine step_on 12 rfl (by kernel_rfl) (fun _ _ _ h => h) (by rfl) hH (by intro w hS; go_simp <;> with_reducible rfl) ?_
  try simp only [nrm]
  refine step_on 13 rfl (by kernel_rfl) (fun _ _ _ h => h) (by rfl) hH (by intro w hS; go_simp <;> with_reducible rfl) ?_
  try simp only [nrm]
  refine wpAnyH_done (by kernel_rfl) ?_ _
  clear hH
  go_wp2_with fail
  go_ret
  exact ⟨rfl, S14.out.h⟩

set_option maxHeartbeats 8000000 in
set_option maxRecDepth 100000 in
theorem ratioOf_main10 {m0 m1 : Bool} {a0 a1 : Option Addr} {n0 c0 n1 c1 : Nat} {xs0 xs1 : List Nat} {a b : Int} {w : World} (hs0 : Sl w a0 n0 c0 xs0) (hs1 : Sl w a1 n1 c1 xs1) (ht : Tab w) (p0 : n0 ≤ 8) (p1 : n1 ≤ 8) (h64_a : -9223372036854775808 ≤ a ∧ a ≤ 9223372036854775807) (h64_b : -9223372036854775808 ≤ b ∧ b ≤ 9223372036854775807) (h0 : zOf m1 (val xs1) ≠ 0) (hy : b = 0) :
    Calls Tryz.prog 4 #[.agg #[.bool m0, .slice a0 n0 c0], .agg #[.bool m1, .slice a1 n1 c1], .int .i64 a, .int .i64 b] w (RetB (.bool true) w) := by
  have HT := Lib.hid ht
  clear ht
  obtain ⟨x0, hx0⟩ : ∃ x, zOf m0 (val xs0) = x := ⟨_, rfl⟩
  obtain ⟨x1, hx1⟩ : ∃ x, zOf m1 (val xs1) = x := ⟨_, rfl⟩
  have hN0 : Nb w m0 a0 n0 c0 x0 8 := ⟨⟨⟨xs0, hs0, hx0⟩, by omega⟩, In.bd ⟨xs0, hs0, hx0⟩ (by omega)⟩
  have hN1 : Nb w m1 a1 n1 c1 x1 8 := ⟨⟨⟨xs1, hs1, hx1⟩, by omega⟩, In.bd ⟨xs1, hs1, hx1⟩ (by omega)⟩
  rw [hx1] at h0
  clear hx0 hx1
  have u0 : (n0 : Int) ≤ 8 := by omega
  have v0 : ¬ (8 : Int) < n0 := by omega
  have d0f : decide (8 < n0) = false := decide_eq_false (by omega)
  have u1 : (n1 : Int) ≤ 8 := by omega
  have v1 : ¬ (8 : Int) < n1 := by omega
  have d1f : decide (8 < n1) = false := decide_eq_false (by omega)
  have HA := Lib.hid h64_a
  have HB := Lib.hid h64_b
  have HH0 := Lib.hid h0
  have HY := Lib.hid hy
  have y1 : (b == 0) = true := by simpa using hy
  obtain ⟨t, ht⟩ : ∃ x, qs (qv x1 0) = x := ⟨_, rfl⟩
  have f1 : (t == 0) = false := by rw [← ht]; have := qs_zero (qv x1 0); have := @qv_w0 x1; simp; intro e; exact h0 (qv_w0.1 ((qs_zero _).1 e))
  have HNZ : Hid (qv x1 0 ≠ 0) := fun e => h0 (qv_w0.1 e)
  have Ht := Lib.hid ht
  clear ht
  obtain ⟨q0, hq0⟩ : ∃ x, Rat.divInt x0 x1 = x := ⟨_, rfl⟩
  have Hq0 := Lib.hid hq0
  clear hq0
  clear h0 hy h64_a h64_b p0 p1
  go_enter Tryz.func4, Tryz.ntmps4
  have S0 := Lib.hid (Sx.start (w := w) (N := [.nb m0 a0 n0 c0 x0 8, .nb m1 a1 n1 c1 x1 8]) ⟨hN0, hN1, trivial⟩)
  clear hN0 hN1
  have S1 := Lib.hid (S0.out.var (w.heap.size) [.bool m0, .slice a0 n0 c0] 24 (by simp))
  clear S0
  have S2 := Lib.hid (S1.out.var (w.heap.size + 1) [.bool m1, .slice a1 n1 c1] 24 (by simp))
  clear S1
  go_upto_region 1 with (fail)
  refine wp_world (fun w1 hW => ?_)
  rw [← hW] at S2
  clear hW
  obtain ⟨c_b4_0, c_b4_1⟩ := S2.out.b.t.c2
  obtain ⟨c_b5_0, c_b5_1⟩ := S2.out.b.c2
  go_wp2_with fail
  clear c_b4_0 c_b4_1 c_b5_0 c_b5_1
  refine (rof_any S2.out.n.nb.nx S2.out.n.t.nb.nx (HH0.out) (show Rat.divInt x0 x1 = q0 from Hq0.out) (S2.out.n.nb.bd.mono (show _ ≤ 8 by omega)) (S2.out.n.t.nb.bd.mono (by omega)) (by omega) (by omega)).mono ?_
  rintro e w2 ⟨r1_m, r1_0, r1_n, r1_c, r1_k, r1_1, r1_l, r1_d, rfl, hX, hB⟩
  have S3 := Lib.hid (((S2.out.step hB).rc hX rfl))
  clear S2 hX hB
  go_upto_region 4 with (fail)
  have S4 := Lib.hid (S3.out.var (w2.heap.size) [.bool r1_m, .slice r1_0 r1_n r1_c, .bool r1_k, .slice r1_1 r1_l r1_d] 26 (by simp))
  clear S3
  refine wp_world (fun w3 hW => ?_)
  rw [← hW] at S4
  clear hW
  go_wp2_with fail
  refine (rsmall_zero a (HA.out) _ (HY.out)).mono ?_
  rintro e w4 ⟨rfl, hB⟩
  have S5 := Lib.hid ((S4.out.step hB))
  clear S4 hB
  go_upto_region 5 with (fail)
  have S6 := Lib.hid (S5.out.var (w4.heap.size) [.bool false, .slice none 0 0, .bool false, .slice none 0 0] 26 (by simp))
  clear S5
  refine wp_world (fun w5 hW => ?_)
  rw [← hW] at S6
  clear hW
  obtain ⟨c_b5_0, c_b5_1⟩ := S6.out.b.t.t.c2
  go_wp2_with fail
  clear c_b5_0 c_b5_1
  refine (qof_any (rx_whole S6.out.n.t.t.nb.nx S6.out.n.t.t.nb.bd (by omega)) (by omega) (by omega)).mono ?_
  rintro e w6 ⟨r2_m, r2_0, r2_n, r2_c, r2_k, r2_1, r2_l, r2_d, rfl, hX, hB⟩
  have S7 := Lib.hid (((S6.out.step hB).qx hX rfl))
  clear S6 hX hB
  go_upto_region 6 with (fail)
  have S8 := Lib.hid (S7.out.var (w6.heap.size) [.bool r2_m, .slice r2_0 r2_n r2_c, .bool r2_k, .slice r2_1 r2_l r2_d] 35 (by simp))
  clear S7
  refine wp_world (fun w7 hW => ?_)
  rw [← hW] at S8
  clear hW
  obtain ⟨c_b13_0, c_b13_1, c_b13_2, c_b13_3⟩ := S8.out.b.c4
  go_wp2_with fail
  clear c_b13_0 c_b13_1 c_b13_2 c_b13_3
  refine (qsign_any (t) S8.out.n.qx (Ht.out)).mono ?_
  rintro e w8 ⟨rfl, hB⟩
  have S9 := Lib.hid ((S8.out.step hB))
  clear S8 hB
  go_wp2_with fail
  have S10 := Lib.hid (S9.out.drew)
  clear S9
  refine wp_region_held_drew (S := fun w' => (w'.cell? ⟨(w2.heap.size), 0, none⟩ = some (.bool r1_m) ∧ w'.cell? ⟨(w2.heap.size), 1, none⟩ = some (.slice r1_0 r1_n r1_c) ∧ w'.cell? ⟨(w2.heap.size), 2, none⟩ = some (.bool r1_k) ∧ w'.cell? ⟨(w2.heap.size), 3, none⟩ = some (.slice r1_1 r1_l r1_d)) ∧ (w'.cell? ⟨(w.heap.size), 0, none⟩ = some (.bool m0) ∧ w'.cell? ⟨(w.heap.size), 1, none⟩ = some (.slice a0 n0 c0)) ∧ (w'.cell? ⟨(w6.heap.size), 0, none⟩ = some (.bool r2_m) ∧ w'.cell? ⟨(w6.heap.size), 1, none⟩ = some (.slice r2_0 r2_n r2_c) ∧ w'.cell? ⟨(w6.heap.size), 2, none⟩ = some (.bool r2_k) ∧ w'.cell? ⟨(w6.heap.size), 3, none⟩ = some (.slice r2_1 r2_l r2_d))) (by kernel_rfl) (⟨S10.out.b.t.t.c4, S10.out.b.t.t.t.t.c2, S10.out.b.c4⟩) (fun hH => ?_)
  refine anyH_world (fun w9 hW => ?_)
  rw [← hW] at S10 hH
  clear hW
  refine step_on 0 rfl (by kernel_rfl) (fun _ _ _ h => h) (by rfl) hH (by intro w hS; go_simp <;> with_reducible rfl) ?_
  try simp only [nrm]
  refine step_on 1 rfl (by kernel_rfl) (fun _ _ _ h => h) (by rfl) hH (by intro w hS; go_simp <;> with_reducible rfl) ?_
  try simp only [nrm]
  refine step_on 2 rfl (by kernel_rfl) (fun _ _ _ h => h) (by rfl) hH (by intro w hS; go_simp <;> with_reducible rfl) ?_
  try simp only [nrm]
  refine step_on 3 rfl (by kernel_rfl) (fun _ _ _ h => h) (by rfl) hH (by intro w hS; go_simp <;> with_reducible rfl) ?_
  try simp only [nrm]
  refine step_on 4 rfl (by kernel_rfl) (fun _ _ _ h => h) (by rfl) hH (by intro w hS; go_simp <;> with_reducible rfl) ?_
  try simp only [nrm]
  refine step_on 5 rfl (by kernel_rfl) (fun _ _ _ h => h) (by rfl) hH (by intro w hS; go_simp <;> with_reducible rfl) ?_
  try simp only [nrm]
  refine step_on 7 rfl (by kernel_rfl) (fun _ _ _ h => h) (by rfl) hH (by intro w hS; go_simp <;> with_reducible rfl) ?_
  try simp only [nrm]
  refine step_one 6 rfl (by kernel_rfl) (fun K hK => ?_)
  go_simp
  refine (qof_any (rx_whole S10.out.n.t.t.nb.nx S10.out.n.t.t.nb.bd (by omega)) (by omega) (by omega)).mono ?_
  rintro e w10 ⟨r3_m, r3_0, r3_n, r3_c, r3_k, r3_1, r3_l, r3_d, rfl, hX, hB⟩
  have S11 := Lib.hid (((S10.out.step hB).qx hX rfl))
  clear S10 hX hB
  go_wp2_with fail
  refine hK.out _ _ ⟨S11.out.b.t.t.c4, S11.out.b.t.t.t.t.c2, S11.out.b.c4⟩ (fun h2 => ?_)
  clear hK K hH
  have hH := h2
  clear h2
  try simp only [nrm]
  refine step_one 8 rfl (by kernel_rfl) (fun K hK => ?_)
  go_simp
  refine (qdiv_any S11.out.n.qx S11.out.n.t.qx (by omega) (by omega) (by omega) (HNZ.out)).mono ?_
  rintro e w11 ⟨r4_m, r4_0, r4_n, r4_c, r4_k, r4_1, r4_l, r4_d, rfl, hX, hB⟩
  have S12 := Lib.hid (((S11.out.step hB).qx hX rfl))
  clear S11 hX hB
  go_wp2_with fail
  refine hK.out _ _ ⟨S12.out.b.t.t.c4, S12.out.b.t.t.t.t.c2, S12.out.b.c4⟩ (fun h2 => ?_)
  clear hK K hH
  have hH := h2
  clear h2
  try simp only [nrm]
  refine step_one 9 rfl (by kernel_rfl) (fun K hK => ?_)
  go_simp
  refine (qrat_any S12.out.n.qx (by omega) (by omega)).mono ?_
  rintro e w12 ⟨r5_m, r5_0, r5_n, r5_c, r5_k, r5_1, r5_l, r5_d, rfl, hX, hB⟩
  have S13 := Lib.hid (((S12.out.step hB).rc hX rfl))
  clear S12 hX hB
  go_wp2_with fail
  refine hK.out _ _ ⟨S13.out.b.t.t.c4, S13.out.b.t.t.t.t.c2, S13.out.b.c4⟩ (fun h2 => ?_)
  clear hK K hH
  have hH := h2
  clear h2
  try simp only [nrm]
  refine step_one 10 rfl (by kernel_rfl) (fun K hK => ?_)
  go_simp
  refine (rsame_eq S13.out.n.t.t.t.t.rc S13.out.n.rc (qv_wd Hq0.out)).mono ?_
  rintro e w13 ⟨rfl, hB⟩
  have S14 := Lib.hid ((S13.out.step hB))
  clear S13 hB
  go_wp2_with fail
  refine hK.out _ _ ⟨S14.out.b.t.t.c4, S14.out.b.t.t.t.t.c2, S14.out.b.c4⟩ (fun h2 => ?_)
  clear hK K hH
  have hH := h2
  clear h2
  try simp only [nrm]
  refine step_on 11 rfl (by kernel_rfl) (fun _ _ _ h => h) (by rfl) hH (by intro w hS; go_simp <;> with_reducible rfl) ?_
  try simp only [nrm]
  refine step_on 12 rfl (by kernel_rfl) (fun _ _ _ h => h) (by rfl) hH (by intro w hS; go_simp <;> with_reducible rfl) ?_
  try simp only [nrm]
  refine wpAnyH_done (by kernel_rfl) ?_ _
  clear hH
  go_wp2_with fail
  refine (known6_any _ (HT.out.below S14.out.h)).mono ?_
  rintro e w14 ⟨rfl, hB⟩
  have S15 := Lib.hid ((S14.out.step hB))
  clear S14 hB
  go_wp2_with fail
  go_ret
  exact ⟨rfl, S15.out.h⟩

set_option maxHeartbeats 8000000 in
set_option maxRecDepth 100000 in
theorem ratioOf_main11 {m0 m1 : Bool} {a0 a1 : Option Addr} {n0 c0 n1 c1 : Nat} {xs0 xs1 : List Nat} {a b : Int} {w : World} (hs0 : Sl w a0 n0 c0 xs0) (hs1 : Sl w a1 n1 c1 xs1) (ht : Tab w) (p0 : n0 ≤ 8) (p1 : n1 ≤ 8) (h64_a : -9223372036854775808 ≤ a ∧ a ≤ 9223372036854775807) (h64_b : -9223372036854775808 ≤ b ∧ b ≤ 9223372036854775807) (h0 : zOf m1 (val xs1) ≠ 0) (hy : b ≠ 0) :
    Calls Tryz.prog 4 #[.agg #[.bool m0, .slice a0 n0 c0], .agg #[.bool m1, .slice a1 n1 c1], .int .i64 a, .int .i64 b] w (RetB (.bool true) w) := by
  have HT := Lib.hid ht
  clear ht
  obtain ⟨x0, hx0⟩ : ∃ x, zOf m0 (val xs0) = x := ⟨_, rfl⟩
  obtain ⟨x1, hx1⟩ : ∃ x, zOf m1 (val xs1) = x := ⟨_, rfl⟩
  have hN0 : Nb w m0 a0 n0 c0 x0 8 := ⟨⟨⟨xs0, hs0, hx0⟩, by omega⟩, In.bd ⟨xs0, hs0, hx0⟩ (by omega)⟩
  have hN1 : Nb w m1 a1 n1 c1 x1 8 := ⟨⟨⟨xs1, hs1, hx1⟩, by omega⟩, In.bd ⟨xs1, hs1, hx1⟩ (by omega)⟩
  rw [hx1] at h0
  clear hx0 hx1
  have u0 : (n0 : Int) ≤ 8 := by omega
  have v0 : ¬ (8 : Int) < n0 := by omega
  have d0f : decide (8 < n0) = false := decide_eq_false (by omega)
  have u1 : (n1 : Int) ≤ 8 := by omega
  have v1 : ¬ (8 : Int) < n1 := by omega
  have d1f : decide (8 < n1) = false := decide_eq_false (by omega)
  have HA := Lib.hid h64_a
  have HB := Lib.hid h64_b
  have HH0 := Lib.hid h0
  have HY := Lib.hid hy
  have y1 : (b == 0) = false := by simpa using hy
  obtain ⟨t, ht⟩ : ∃ x, qs (qv x1 0) = x := ⟨_, rfl⟩
  have f1 : (t == 0) = false := by rw [← ht]; have := qs_zero (qv x1 0); have := @qv_w0 x1; simp; intro e; exact h0 (qv_w0.1 ((qs_zero _).1 e))
  have HNZ : Hid (qv x1 0 ≠ 0) := fun e => h0 (qv_w0.1 e)
  have Ht := Lib.hid ht
  clear ht
  obtain ⟨q0, hq0⟩ : ∃ x, Rat.divInt x0 x1 = x := ⟨_, rfl⟩
  have Hq0 := Lib.hid hq0
  clear hq0
  clear h0 hy h64_a h64_b p0 p1
  go_enter Tryz.func4, Tryz.ntmps4
  have S0 := Lib.hid (Sx.start (w := w) (N := [.nb m0 a0 n0 c0 x0 8, .nb m1 a1 n1 c1 x1 8]) ⟨hN0, hN1, trivial⟩)
  clear hN0 hN1
  have S1 := Lib.hid (S0.out.var (w.heap.size) [.bool m0, .slice a0 n0 c0] 24 (by simp))
  clear S0
  have S2 := Lib.hid (S1.out.var (w.heap.size + 1) [.bool m1, .slice a1 n1 c1] 24 (by simp))
  clear S1
  go_upto_region 1 with (fail)
  refine wp_world (fun w1 hW => ?_)
  rw [← hW] at S2
  clear hW
  obtain ⟨c_b4_0, c_b4_1⟩ := S2.out.b.t.c2
  obtain ⟨c_b5_0, c_b5_1⟩ := S2.out.b.c2
  go_wp2_with fail
  clear c_b4_0 c_b4_1 c_b5_0 c_b5_1
  refine (rof_any S2.out.n.nb.nx S2.out.n.t.nb.nx (HH0.out) (show Rat.divInt x0 x1 = q0 from Hq0.out) (S2.out.n.nb.bd.mono (show _ ≤ 8 by omega)) (S2.out.n.t.nb.bd.mono (by omega)) (by omega) (by omega)).mono ?_
  rintro e w2 ⟨r1_m, r1_0, r1_n, r1_c, r1_k, r1_1, r1_l, r1_d, rfl, hX, hB⟩
  have S3 := Lib.hid (((S2.out.step hB).rc hX rfl))
  clear S2 hX hB
  go_upto_region 4 with (fail)
  have S4 := Lib.hid (S3.out.var (w2.heap.size) [.bool r1_m, .slice r1_0 r1_n r1_c, .bool r1_k, .slice r1_1 r1_l r1_d] 26 (by simp))
  clear S3
  refine wp_world (fun w3 hW => ?_)
  rw [← hW] at S4
  clear hW
  go_wp2_with fail
  refine (rsmall_any a b _ (HA.out) (HB.out) (HY.out)).mono ?_
  rintro e w4 ⟨r2_m, r2_0, r2_n, r2_c, r2_k, r2_1, r2_l, r2_d, rfl, hX, hB⟩
  have S5 := Lib.hid (((S4.out.step hB).rc hX rfl))
  clear S4 hX hB
  go_upto_region 5 with (fail)
  have S6 := Lib.hid (S5.out.var (w4.heap.size) [.bool r2_m, .slice r2_0 r2_n r2_c, .bool r2_k, .slice r2_1 r2_l r2_d] 26 (by simp))
  clear S5
  refine wp_world (fun w5 hW => ?_)
  rw [← hW] at S6
  clear hW
  obtain ⟨c_b5_0, c_b5_1⟩ := S6.out.b.t.t.c2
  go_wp2_with fail
  clear c_b5_0 c_b5_1
  refine (qof_any (rx_whole S6.out.n.t.t.t.nb.nx S6.out.n.t.t.t.nb.bd (by omega)) (by omega) (by omega)).mono ?_
  rintro e w6 ⟨r3_m, r3_0, r3_n, r3_c, r3_k, r3_1, r3_l, r3_d, rfl, hX, hB⟩
  have S7 := Lib.hid (((S6.out.step hB).qx hX rfl))
  clear S6 hX hB
  go_upto_region 6 with (fail)
  have S8 := Lib.hid (S7.out.var (w6.heap.size) [.bool r3_m, .slice r3_0 r3_n r3_c, .bool r3_k, .slice r3_1 r3_l r3_d] 35 (by simp))
  clear S7
  refine wp_world (fun w7 hW => ?_)
  rw [← hW] at S8
  clear hW
  obtain ⟨c_b13_0, c_b13_1, c_b13_2, c_b13_3⟩ := S8.out.b.c4
  go_wp2_with fail
  clear c_b13_0 c_b13_1 c_b13_2 c_b13_3
  refine (qsign_any (t) S8.out.n.qx (Ht.out)).mono ?_
  rintro e w8 ⟨rfl, hB⟩
  have S9 := Lib.hid ((S8.out.step hB))
  clear S8 hB
  go_wp2_with fail
  have S10 := Lib.hid (S9.out.drew)
  clear S9
  refine wp_region_held_drew (S := fun w' => (w'.cell? ⟨(w2.heap.size), 0, none⟩ = some (.bool r1_m) ∧ w'.cell? ⟨(w2.heap.size), 1, none⟩ = some (.slice r1_0 r1_n r1_c) ∧ w'.cell? ⟨(w2.heap.size), 2, none⟩ = some (.bool r1_k) ∧ w'.cell? ⟨(w2.heap.size), 3, none⟩ = some (.slice r1_1 r1_l r1_d)) ∧ (w'.cell? ⟨(w.heap.size), 0, none⟩ = some (.bool m0) ∧ w'.cell? ⟨(w.heap.size), 1, none⟩ = some (.slice a0 n0 c0)) ∧ (w'.cell? ⟨(w6.heap.size), 0, none⟩ = some (.bool r3_m) ∧ w'.cell? ⟨(w6.heap.size), 1, none⟩ = some (.slice r3_0 r3_n r3_c) ∧ w'.cell? ⟨(w6.heap.size), 2, none⟩ = some (.bool r3_k) ∧ w'.cell? ⟨(w6.heap.size), 3, none⟩ = some (.slice r3_1 r3_l r3_d))) (by kernel_rfl) (⟨S10.out.b.t.t.c4, S10.out.b.t.t.t.t.c2, S10.out.b.c4⟩) (fun hH => ?_)
  refine anyH_world (fun w9 hW => ?_)
  rw [← hW] at S10 hH
  clear hW
  refine step_on 0 rfl (by kernel_rfl) (fun _ _ _ h => h) (by rfl) hH (by intro w hS; go_simp <;> with_reducible rfl) ?_
  try simp only [nrm]
  refine step_on 1 rfl (by kernel_rfl) (fun _ _ _ h => h) (by rfl) hH (by intro w hS; go_simp <;> with_reducible rfl) ?_
  try simp only [nrm]
  refine step_on 2 rfl (by kernel_rfl) (fun _ _ _ h => h) (by rfl) hH (by intro w hS; go_simp <;> with_reducible rfl) ?_
  try simp only [nrm]
  refine step_on 3 rfl (by kernel_rfl) (fun _ _ _ h => h) (by rfl) hH (by intro w hS; go_simp <;> with_reducible rfl) ?_
  try simp only [nrm]
  refine step_on 4 rfl (by kernel_rfl) (fun _ _ _ h => h) (by rfl) hH (by intro w hS; go_simp <;> with_reducible rfl) ?_
  try simp only [nrm]
  refine step_on 5 rfl (by kernel_rfl) (fun _ _ _ h => h) (by rfl) hH (by intro w hS; go_simp <;> with_reducible rfl) ?_
  try simp only [nrm]
  refine step_on 7 rfl (by kernel_rfl) (fun _ _ _ h => h) (by rfl) hH (by intro w hS; go_simp <;> with_reducible rfl) ?_
  try simp only [nrm]
  refine step_one 6 rfl (by kernel_rfl) (fun K hK => ?_)
  go_simp
  refine (qof_any (rx_whole S10.out.n.t.t.t.nb.nx S10.out.n.t.t.t.nb.bd (by omega)) (by omega) (by omega)).mono ?_
  rintro e w10 ⟨r4_m, r4_0, r4_n, r4_c, r4_k, r4_1, r4_l, r4_d, rfl, hX, hB⟩
  have S11 := Lib.hid (((S10.out.step hB).qx hX rfl))
  clear S10 hX hB
  go_wp2_with fail
  refine hK.out _ _ ⟨S11.out.b.t.t.c4, S11.out.b.t.t.t.t.c2, S11.out.b.c4⟩ (fun h2 => ?_)
  clear hK K hH
  have hH := h2
  clear h2
  try simp only [nrm]
  refine step_one 8 rfl (by kernel_rfl) (fun K hK => ?_)
  go_simp
  refine (qdiv_any S11.out.n.qx S11.out.n.t.qx (by omega) (by omega) (by omega) (HNZ.out)).mono ?_
  rintro e w11 ⟨r5_m, r5_0, r5_n, r5_c, r5_k, r5_1, r5_l, r5_d, rfl, hX, hB⟩
  have S12 := Lib.hid (((S11.out.step hB).qx hX rfl))
  clear S11 hX hB
  go_wp2_with fail
  refine hK.out _ _ ⟨S12.out.b.t.t.c4, S12.out.b.t.t.t.t.c2, S12.out.b.c4⟩ (fun h2 => ?_)
  clear hK K hH
  have hH := h2
  clear h2
  try simp only [nrm]
  refine step_one 9 rfl (by kernel_rfl) (fun K hK => ?_)
  go_simp
  refine (qrat_any S12.out.n.qx (by omega) (by omega)).mono ?_
  rintro e w12 ⟨r6_m, r6_0, r6_n, r6_c, r6_k, r6_1, r6_l, r6_d, rfl, hX, hB⟩
  have S13 := Lib.hid (((S12.out.step hB).rc hX rfl))
  clear S12 hX hB
  go_wp2_with fail
  refine hK.out _ _ ⟨S13.out.b.t.t.c4, S13.out.b.t.t.t.t.c2, S13.out.b.c4⟩ (fun h2 => ?_)
  clear hK K hH
  have hH := h2
  clear h2
  try simp only [nrm]
  refine step_one 10 rfl (by kernel_rfl) (fun K hK => ?_)
  go_simp
  refine (rsame_eq S13.out.n.t.t.t.t.t.rc S13.out.n.rc (qv_wd Hq0.out)).mono ?_
  rintro e w13 ⟨rfl, hB⟩
  have S14 := Lib.hid ((S13.out.step hB))
  clear S13 hB
  go_wp2_with fail
  refine hK.out _ _ ⟨S14.out.b.t.t.c4, S14.out.b.t.t.t.t.c2, S14.out.b.c4⟩ (fun h2 => ?_)
  clear hK K hH
  have hH := h2
  clear h2
  try simp only [nrm]
  refine step_on 11 rfl (by kernel_rfl) (fun _ _ _ h => h) (by rfl) hH (by intro w hS; go_simp <;> with_reducible rfl) ?_
  try simp only [nrm]
  refine step_on 12 rfl (by kernel_rfl) (fun _ _ _ h => h) (by rfl) hH (by intro w hS; go_simp <;> with_reducible rfl) ?_
  try simp only [nrm]
  refine wpAnyH_done (by kernel_rfl) ?_ _
  clear hH
  go_wp2_with fail
  have S15 := Lib.hid (S14.out.drew)
  clear S14
  refine wp_region_held_drew (S := fun w' => (w'.cell? ⟨(w4.heap.size), 0, none⟩ = some (.bool r2_m) ∧ w'.cell? ⟨(w4.heap.size), 1, none⟩ = some (.slice r2_0 r2_n r2_c) ∧ w'.cell? ⟨(w4.heap.size), 2, none⟩ = some (.bool r2_k) ∧ w'.cell? ⟨(w4.heap.size), 3, none⟩ = some (.slice r2_1 r2_l r2_d))) (by kernel_rfl) ((S15.out.b.t.c4)) (fun hH => ?_)
  refine anyH_world (fun w14 hW => ?_)
  rw [← hW] at S15 hH
  clear hW
  refine step_on 0 rfl (by kernel_rfl) (fun _ _ _ h => h) (by rfl) hH (by intro w hS; go_simp <;> with_reducible rfl) ?_
  try simp only [nrm]
  refine step_on 1 rfl (by kernel_rfl) (fun _ _ _ h => h) (by rfl) hH (by intro w hS; go_simp <;> with_reducible rfl) ?_
  try simp only [nrm]
  refine step_on 2 rfl (by kernel_rfl) (fun _ _ _ h => h) (by rfl) hH (by intro w hS; go_simp <;> with_reducible rfl) ?_
  try simp only [nrm]
  refine step_on 3 rfl (by kernel_rfl) (fun _ _ _ h => h) (by rfl) hH (by intro w hS; go_simp <;> with_reducible rfl) ?_
  try simp only [nrm]
  refine step_on 4 rfl (by kernel_rfl) (fun _ _ _ h => h) (by rfl) hH (by intro w hS; go_simp <;> with_reducible rfl) ?_
  try simp only [nrm]
  refine step_on 5 rfl (by kernel_rfl) (fun _ _ _ h => h) (by rfl) hH (by intro w hS; go_simp <;> with_reducible rfl) ?_
  try simp only [nrm]
  refine step_one 6 rfl (by kernel_rfl) (fun K hK => ?_)
  go_simp
  refine (qsmall_any a b _ (HA.out) (HB.out) (HY.out)).mono ?_
  rintro e w15 ⟨r7_m, r7_0, r7_n, r7_c, r7_k, r7_1, r7_l, r7_d, rfl, hX, hB⟩
  have S16 := Lib.hid (((S15.out.step hB).qx hX rfl))
  clear S15 hX hB
  go_wp2_with fail
  refine hK.out _ _ (S16.out.b.t.c4) (fun h2 => ?_)
  clear hK K hH
  have hH := h2
  clear h2
  try simp only [nrm]
  refine step_one 7 rfl (by kernel_rfl) (fun K hK => ?_)
  go_simp
  refine (qrat_any S16.out.n.qx (by omega) (by omega)).mono ?_
  rintro e w16 ⟨r8_m, r8_0, r8_n, r8_c, r8_k, r8_1, r8_l, r8_d, rfl, hX, hB⟩
  have S17 := Lib.hid (((S16.out.step hB).rc hX rfl))
  clear S16 hX hB
  go_wp2_with fail
  refine hK.out _ _ (S17.out.b.t.c4) (fun h2 => ?_)
  clear hK K hH
  have hH := h2
  clear h2
  try simp only [nrm]
  refine step_one 8 rfl (by kernel_rfl) (fun K hK => ?_)
  go_simp
  refine (rsame_eq S17.out.n.t.t.t.t.t.t.rc S17.out.n.rc (rfl)).mono ?_
  rintro e w17 ⟨rfl, hB⟩
  have S18 := Lib.hid ((S17.out.step hB))
  clear S17 hB
  go_wp2_with fail
  refine hK.out _ _ (S18.out.b.t.c4) (fun h2 => ?_)
  clear hK K hH
  have hH := h2
  clear h2
  try simp only [nrm]
  refine step_on 9 rfl (by kernel_rfl) (fun _ _ _ h => h) (by rfl) hH (by intro w hS; go_simp <;> with_reducible rfl) ?_
  try simp only [nrm]
  refine step_on 10 rfl (by kernel_rfl) (fun _ _ _ h => h) (by rfl) hH (by intro w hS; go_simp <;> with_reducible rfl) ?_
  try simp only [nrm]
  refine step_one 11 rfl (by kernel_rfl) (fun K hK => ?_)
  go_simp
  refine (known6_any _ (HT.out.below S18.out.h)).mono ?_
  rintro e w18 ⟨rfl, hB⟩
  have S19 := Lib.hid ((S18.out.step hB))
  clear S18 hB
  go_wp2_with fail
  refine hK.out _ _ (S19.out.b.t.c4) (fun h2 => ?_)
  clear hK K hH
  have hH := h2
  clear h2
  try simp only [nrm]
  refine step_on 12 rfl (by kernel_rfl) (fun _ _ _ h => h) (by rfl) hH (by intro w hS; go_simp <;> with_reducible rfl) ?_
  try simp only [nrm]
  refine step_on 13 rfl (by kernel_rfl) (fun _ _ _ h => h) (by rfl) hH (by intro w hS; go_simp <;> with_reducible rfl) ?_
  try simp only [nrm]
  refine wpAnyH_done (by kernel_rfl) ?_ _
  clear hH
  go_wp2_with fail
  go_ret
  exact ⟨rfl, S19.out.h⟩

theorem ratioOf_row {m0 m1 : Bool} {a0 a1 : Option Addr} {n0 c0 n1 c1 : Nat} {xs0 xs1 : List Nat} {a b : Int} {w : World} (hs0 : Sl w a0 n0 c0 xs0) (hs1 : Sl w a1 n1 c1 xs1) (ht : Tab w) (h64_a : -9223372036854775808 ≤ a ∧ a ≤ 9223372036854775807) (h64_b : -9223372036854775808 ≤ b ∧ b ≤ 9223372036854775807) : Calls Tryz.prog 4 #[.agg #[.bool m0, .slice a0 n0 c0], .agg #[.bool m1, .slice a1 n1 c1], .int .i64 a, .int .i64 b] w (RetB (.bool true) w) := by
  rcases Nat.lt_or_ge 8 n0 with p0 | p0
  · exact ratioOf_long0 hs0 hs1 ht p0
  · rcases Nat.lt_or_ge 8 n1 with p1 | p1
    · exact ratioOf_long1 hs0 hs1 ht p0 p1
    · by_cases h0 : zOf m1 (val xs1) = 0 <;> by_cases hy : b = 0
      · exact ratioOf_main00 hs0 hs1 ht p0 p1 h64_a h64_b h0 hy
      · exact ratioOf_main01 hs0 hs1 ht p0 p1 h64_a h64_b h0 hy
      · exact ratioOf_main10 hs0 hs1 ht p0 p1 h64_a h64_b h0 hy
      · exact ratioOf_main11 hs0 hs1 ht p0 p1 h64_a h64_b h0 hy

end Go.Proofs.YteceomlbnajihaaGreatDoor
