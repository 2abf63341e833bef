/-
  The walk of the law RatioCancels.
-/
import Derived.Test.YteceomlbnajihaaGreatDoorRatioTx
import Derived.Test.YteceomlbnajihaaGreatDoorEnSet
import Derived.Deep.Cut
import Derived.Deep.CutRange
set_option maxRecDepth 8192
namespace Go.Proofs.YteceomlbnajihaaGreatDoor
open Go.RowKit

theorem q_scaled (x k : Int) : qv x 0 * Rat.divInt k 1 = Rat.divInt (x * k) 1 := by rw [← q_whole, Rat.divInt_mul_divInt]; rfl
theorem q_int (x : Int) : (Rat.divInt x 1).num = x := (q_low (n := x) (d := 1) (by omega) (by simp)).1
theorem q_scaled_num (x k : Int) : (qv x 0 * Rat.divInt k 1).num = x * k := by rw [q_scaled, q_int]
theorem q_cancel (r : Rat) {k : Int} (hk : k ≠ 0) : Rat.divInt (qv r.num 0 * Rat.divInt k 1).num (qv (r.den : Int) 0 * Rat.divInt k 1).num = r := by
  rw [q_scaled_num, q_scaled_num, Rat.divInt_mul_right hk]
  exact Rat.num_divInt_den r
theorem q_low_ne (r : Rat) {k : Int} (hk : k ≠ 0) : (qv (r.den : Int) 0 * Rat.divInt k 1).num ≠ 0 := by
  rw [q_scaled_num]
  exact mul_ne (den_ne r) hk
theorem q_back1 (k : Int) : qv (Rat.divInt k 1).num 0 = Rat.divInt k 1 := by rw [q_int, q_whole]
theorem txt_same (x y : Rat) {u v : ByteArray} (hu : u = ratS x) (hv : v = ratS y) {c : Int} (hc : qs (x - y) = c) : (u.toList == v.toList) = (c == 0) := by
  subst hu; subst hv
  rw [Bool.eq_iff_iff, ByteArray.toList_eq, ByteArray.toList_eq, ← hc]
  unfold ratS
  simp only [beq_iff_eq]
  rw [ratTxt_iff, qs_zero]
  constructor
  · intro h; grind
  · intro h; grind

set_option maxHeartbeats 8000000 in
set_option maxRecDepth 100000 in
theorem ratioCancels_long {m0 k0 : Bool} {a0 b0 : Option Addr} {n0 c0 l0 d0 : Nat} {m1 k1 : Bool} {a1 b1 : Option Addr} {n1 c1 l1 d1 : Nat} {xs0 ys0 xs1 ys1 : List Nat} {k : Int} (h64 : -9223372036854775808 ≤ k ∧ k ≤ 9223372036854775807) {w : World} (hs0 : Sl w a0 n0 c0 xs0) (ht0 : Sl w b0 l0 d0 ys0) (hs1 : Sl w a1 n1 c1 xs1) (ht1 : Sl w b1 l1 d1 ys1) (ht : Tab w) (hg : ((decide (8 < n0) || decide (8 < l0)) || (decide (8 < n1) || decide (8 < l1))) = true) :
    Calls Tryz.prog 8 #[.agg #[.bool m0, .slice a0 n0 c0, .bool k0, .slice b0 l0 d0], .agg #[.bool m1, .slice a1 n1 c1, .bool k1, .slice b1 l1 d1], .int .i64 k] w (RetB (.bool true) w) := by
  have _u0 := hs0
  have _u1 := ht0
  have _u2 := hs1
  have _u3 := ht1
  have _u4 := h64
  have HT := Lib.hid ht
  have HG := Lib.hid hg
  clear ht hg
  go_enter Tryz.func8, Tryz.ntmps8
  have S0 := Lib.hid (Sx.start (w := w) (N := []) trivial)
  have S1 := Lib.hid (S0.out.var (w.heap.size) [.bool m0, .slice a0 n0 c0, .bool k0, .slice b0 l0 d0] 26 (by simp))
  clear S0
  have S2 := Lib.hid (S1.out.var (w.heap.size + 1) [.bool m1, .slice a1 n1 c1, .bool k1, .slice b1 l1 d1] 26 (by simp))
  clear S1
  go_upto_region 1 with (fail)
  refine wp_world (fun w1 hW => ?_)
  rw [← hW] at S2
  clear hW
  obtain ⟨c_b3_0, c_b3_1, c_b3_2, c_b3_3⟩ := S2.out.b.t.c4
  obtain ⟨c_b4_0, c_b4_1, c_b4_2, c_b4_3⟩ := S2.out.b.c4
  go_wp2_with fail
  clear c_b3_0 c_b3_1 c_b3_2 c_b3_3 c_b4_0 c_b4_1 c_b4_2 c_b4_3
  have S3 := Lib.hid (S2.out.var (w1.heap.size) [.bool m0, .slice a0 n0 c0, .bool k0, .slice b0 l0 d0, .bool m1, .slice a1 n1 c1, .bool k1, .slice b1 l1 d1] 26 (by simp))
  clear S2
  refine (great6_2 true S3.out.b.1 (HG.out)).mono ?_
  rintro e w2 ⟨rfl, hB⟩
  have S4 := Lib.hid ((S3.out.step hB))
  clear S3 hB
  have S5 := Lib.hid (S4.out.pop)
  clear S4
  go_wp2_with fail
  refine (known6_any _ (HT.out.below S5.out.h)).mono ?_
  rintro e w3 ⟨rfl, hB⟩
  have S6 := Lib.hid ((S5.out.step hB))
  clear S5 hB
  go_wp2_with fail
  go_ret
  exact ⟨rfl, S6.out.h⟩

set_option maxHeartbeats 8000000 in
set_option maxRecDepth 100000 in
theorem ratioCancels_zero {m0 k0 : Bool} {a0 b0 : Option Addr} {n0 c0 l0 d0 : Nat} {m1 k1 : Bool} {a1 b1 : Option Addr} {n1 c1 l1 d1 : Nat} {xs0 ys0 xs1 ys1 : List Nat} {k : Int} (h64 : -9223372036854775808 ≤ k ∧ k ≤ 9223372036854775807) {w : World} (hs0 : Sl w a0 n0 c0 xs0) (ht0 : Sl w b0 l0 d0 ys0) (hs1 : Sl w a1 n1 c1 xs1) (ht1 : Sl w b1 l1 d1 ys1) (ht : Tab w) (hg : ((decide (8 < n0) || decide (8 < l0)) || (decide (8 < n1) || decide (8 < l1))) = false) (hk : k = 0) :
    Calls Tryz.prog 8 #[.agg #[.bool m0, .slice a0 n0 c0, .bool k0, .slice b0 l0 d0], .agg #[.bool m1, .slice a1 n1 c1, .bool k1, .slice b1 l1 d1], .int .i64 k] w (RetB (.bool true) w) := by
  have _u0 := hs0
  have _u1 := ht0
  have _u2 := hs1
  have _u3 := ht1
  have _u4 := h64
  have HT := Lib.hid ht
  have HG := Lib.hid hg
  clear ht hg
  have y1 : (k == 0) = true := by simpa using hk
  go_enter Tryz.func8, Tryz.ntmps8
  have S0 := Lib.hid (Sx.start (w := w) (N := []) trivial)
  have S1 := Lib.hid (S0.out.var (w.heap.size) [.bool m0, .slice a0 n0 c0, .bool k0, .slice b0 l0 d0] 26 (by simp))
  clear S0
  have S2 := Lib.hid (S1.out.var (w.heap.size + 1) [.bool m1, .slice a1 n1 c1, .bool k1, .slice b1 l1 d1] 26 (by simp))
  clear S1
  go_upto_region 1 with (fail)
  refine wp_world (fun w1 hW => ?_)
  rw [← hW] at S2
  clear hW
  obtain ⟨c_b3_0, c_b3_1, c_b3_2, c_b3_3⟩ := S2.out.b.t.c4
  obtain ⟨c_b4_0, c_b4_1, c_b4_2, c_b4_3⟩ := S2.out.b.c4
  go_wp2_with fail
  clear c_b3_0 c_b3_1 c_b3_2 c_b3_3 c_b4_0 c_b4_1 c_b4_2 c_b4_3
  have S3 := Lib.hid (S2.out.var (w1.heap.size) [.bool m0, .slice a0 n0 c0, .bool k0, .slice b0 l0 d0, .bool m1, .slice a1 n1 c1, .bool k1, .slice b1 l1 d1] 26 (by simp))
  clear S2
  refine (great6_2 false S3.out.b.1 (HG.out)).mono ?_
  rintro e w2 ⟨rfl, hB⟩
  have S4 := Lib.hid ((S3.out.step hB))
  clear S3 hB
  have S5 := Lib.hid (S4.out.pop)
  clear S4
  go_wp2_with fail
  refine (known6_any _ (HT.out.below S5.out.h)).mono ?_
  rintro e w3 ⟨rfl, hB⟩
  have S6 := Lib.hid ((S5.out.step hB))
  clear S5 hB
  go_wp2_with fail
  go_ret
  exact ⟨rfl, S6.out.h⟩

set_option maxHeartbeats 8000000 in
set_option maxRecDepth 100000 in
theorem ratioCancels_main {m0 k0 : Bool} {a0 b0 : Option Addr} {n0 c0 l0 d0 : Nat} {m1 k1 : Bool} {a1 b1 : Option Addr} {n1 c1 l1 d1 : Nat} {xs0 ys0 xs1 ys1 : List Nat} {k : Int} (h64 : -9223372036854775808 ≤ k ∧ k ≤ 9223372036854775807) {w : World} (hs0 : Sl w a0 n0 c0 xs0) (ht0 : Sl w b0 l0 d0 ys0) (hs1 : Sl w a1 n1 c1 xs1) (ht1 : Sl w b1 l1 d1 ys1) (ht : Tab w) (p0 : n0 ≤ 8) (q0 : l0 ≤ 8) (p1 : n1 ≤ 8) (q1 : l1 ≤ 8) (hk : k ≠ 0) :
    Calls Tryz.prog 8 #[.agg #[.bool m0, .slice a0 n0 c0, .bool k0, .slice b0 l0 d0], .agg #[.bool m1, .slice a1 n1 c1, .bool k1, .slice b1 l1 d1], .int .i64 k] w (RetB (.bool true) w) := by
  obtain ⟨x0, hx0⟩ : ∃ x, zOf m0 (val xs0) = x := ⟨_, rfl⟩
  obtain ⟨e0, he0⟩ : ∃ x, zOf k0 (val ys0) = x := ⟨_, rfl⟩
  obtain ⟨r0, hr0⟩ : ∃ q, qv x0 e0 = q := ⟨_, rfl⟩
  have hR0 := rx_of hs0 ht0 hx0 he0 hr0 p0 q0
  have P0 := Lib.hid (lim_no p0)
  have Q0 := Lib.hid (lim_no q0)
  clear hx0 he0 hr0 p0 q0
  obtain ⟨x1, hx1⟩ : ∃ x, zOf m1 (val xs1) = x := ⟨_, rfl⟩
  obtain ⟨e1, he1⟩ : ∃ x, zOf k1 (val ys1) = x := ⟨_, rfl⟩
  obtain ⟨r1, hr1⟩ : ∃ q, qv x1 e1 = q := ⟨_, rfl⟩
  have hR1 := rx_of hs1 ht1 hx1 he1 hr1 p1 q1
  have P1 := Lib.hid (lim_no p1)
  have Q1 := Lib.hid (lim_no q1)
  clear hx1 he1 hr1 p1 q1
  have HT := Lib.hid ht
  clear ht
  have y1 : (k == 0) = false := by simpa using hk
  have HKR := Lib.hid h64
  obtain ⟨u, hu⟩ : ∃ u : ByteArray, u = ratS r0 := ⟨_, rfl⟩
  obtain ⟨v, hv⟩ : ∃ u : ByteArray, u = ratS r1 := ⟨_, rfl⟩
  obtain ⟨p, hp⟩ : ∃ u : ByteArray, u = ratS (Rat.divInt k 1) := ⟨_, rfl⟩
  have HF := Lib.hid (rx_facts hR0 hu)
  have HP2 : Hid (p = ratS (qv (Rat.divInt k 1).num 0)) := by rw [Hid, q_back1]; exact hp
  obtain ⟨c, hc⟩ : ∃ x, qs (r0 - r1) = x := ⟨_, rfl⟩
  obtain ⟨t, ht9⟩ : ∃ t, (c == 0) = t := ⟨_, rfl⟩
  have f2 : (u.toList == v.toList) = t := by rw [txt_same _ _ hu hv hc]; exact ht9
  have HU := Lib.hid hu
  have HV := Lib.hid hv
  have HP := Lib.hid hp
  have Hc := Lib.hid hc
  have HX := Lib.hid (q_cancel r0 hk)
  have HNE := Lib.hid (q_low_ne r0 hk)
  clear hu hv hp hc hk h64
  go_enter Tryz.func8, Tryz.ntmps8
  have S0 := Lib.hid (Sx.start (w := w) (N := [.rx m0 a0 n0 c0 k0 b0 l0 d0 x0 e0 r0 8, .rx m1 a1 n1 c1 k1 b1 l1 d1 x1 e1 r1 8]) ⟨hR0, hR1, trivial⟩)
  clear hR0 hR1
  have S1 := Lib.hid (S0.out.var (w.heap.size) [.bool m0, .slice a0 n0 c0, .bool k0, .slice b0 l0 d0] 26 (by simp))
  clear S0
  have S2 := Lib.hid (S1.out.var (w.heap.size + 1) [.bool m1, .slice a1 n1 c1, .bool k1, .slice b1 l1 d1] 26 (by simp))
  clear S1
  go_upto_region 1 with (fail)
  refine wp_world (fun w1 hW => ?_)
  rw [← hW] at S2
  clear hW
  obtain ⟨c_b3_0, c_b3_1, c_b3_2, c_b3_3⟩ := S2.out.b.t.c4
  obtain ⟨c_b4_0, c_b4_1, c_b4_2, c_b4_3⟩ := S2.out.b.c4
  go_wp2_with fail
  clear c_b3_0 c_b3_1 c_b3_2 c_b3_3 c_b4_0 c_b4_1 c_b4_2 c_b4_3
  have S3 := Lib.hid (S2.out.var (w1.heap.size) [.bool m0, .slice a0 n0 c0, .bool k0, .slice b0 l0 d0, .bool m1, .slice a1 n1 c1, .bool k1, .slice b1 l1 d1] 26 (by simp))
  clear S2
  refine (great6_2 false S3.out.b.1 (by rw [P0.out, Q0.out, P1.out, Q1.out]; rfl)).mono ?_
  rintro e w2 ⟨rfl, hB⟩
  have S4 := Lib.hid ((S3.out.step hB))
  clear S3 hB
  have S5 := Lib.hid (S4.out.pop)
  clear S4
  go_wp2_with fail
  refine (rsmall_any k 1 _ (HKR.out) (by omega) (by decide)).mono ?_
  rintro e w3 ⟨r1_m, r1_0, r1_n, r1_c, r1_k, r1_1, r1_l, r1_d, rfl, hX, hB⟩
  have S6 := Lib.hid (((S5.out.step hB).rc hX rfl))
  clear S5 hX hB
  go_upto_region 4 with (fail)
  have S7 := Lib.hid (S6.out.var (w3.heap.size) [.bool r1_m, .slice r1_0 r1_n r1_c, .bool r1_k, .slice r1_1 r1_l r1_d] 26 (by simp))
  clear S6
  refine wp_world (fun w4 hW => ?_)
  rw [← hW] at S7
  clear hW
  obtain ⟨c_b3_0, c_b3_1, c_b3_2, c_b3_3⟩ := S7.out.b.t.t.c4
  go_wp2_with fail
  clear c_b3_0 c_b3_1 c_b3_2 c_b3_3
  refine (rattext_any S7.out.n.t.rx (HT.out.below S7.out.h) (by omega) (by omega)).mono ?_
  rintro e w5 ⟨rfl, hB⟩
  rw [← HU.out]
  have S8 := Lib.hid ((S7.out.step hB))
  clear S7 hB
  go_wp2_with fail
  refine (ratparse_ok u _ (HF.out.1) (HF.out.2.1)).mono ?_
  rintro e w6 ⟨r2_m, r2_0, r2_n, r2_c, r2_k, r2_1, r2_l, r2_d, rfl, hX, hB⟩
  rw [HF.out.2.2] at hX
  have S9 := Lib.hid (((S8.out.step hB).rc hX rfl))
  clear S8 hX hB
  go_upto_region 5 with (fail)
  have S10 := Lib.hid (S9.out.var (w6.heap.size) [.bool r2_m, .slice r2_0 r2_n r2_c, .bool r2_k, .slice r2_1 r2_l r2_d] 26 (by simp))
  clear S9
  refine wp_world (fun w7 hW => ?_)
  rw [← hW] at S10
  clear hW
  obtain ⟨c_b9_0, c_b9_1, c_b9_2, c_b9_3⟩ := S10.out.b.c4
  go_wp2_with fail
  clear c_b9_0 c_b9_1 c_b9_2 c_b9_3
  refine (rmay_can S10.out.n.rc).mono ?_
  rintro e w8 ⟨rfl, hB⟩
  have S11 := Lib.hid ((S10.out.step hB))
  clear S10 hB
  obtain ⟨c_b9_0, c_b9_1, c_b9_2, c_b9_3⟩ := S11.out.b.c4
  obtain ⟨c_b3_0, c_b3_1, c_b3_2, c_b3_3⟩ := S11.out.b.t.t.t.c4
  go_wp2_with fail
  clear c_b9_0 c_b9_1 c_b9_2 c_b9_3 c_b3_0 c_b3_1 c_b3_2 c_b3_3
  refine (rcmp_any (0) S11.out.n.rc.rx S11.out.n.t.t.rx (by omega) (by omega) (by omega) (qs_same _)).mono ?_
  rintro e w9 ⟨rfl, hB⟩
  have S12 := Lib.hid ((S11.out.step hB))
  clear S11 hB
  go_wp2_with fail
  go_cut [11, 12] from 53 to 63 (fun sl0 sl1 w9 => ∃ (qb11 : Nat) (qb12 : Nat) (r6_m : Bool) (r6_0 : Option Addr) (r6_n : Nat) (r6_c : Nat) (r6_k : Bool) (r6_1 : Option Addr) (r6_l : Nat) (r6_d : Nat) (r5_m : Bool) (r5_0 : Option Addr) (r5_n : Nat) (r5_c : Nat) (r5_k : Bool) (r5_1 : Option Addr) (r5_l : Nat) (r5_d : Nat) (r4_m : Bool) (r4_0 : Option Addr) (r4_n : Nat) (r4_c : Nat) (r4_k : Bool) (r4_1 : Option Addr) (r4_l : Nat) (r4_d : Nat) (r3_m : Bool) (r3_0 : Option Addr) (r3_n : Nat) (r3_c : Nat) (r3_k : Bool) (r3_1 : Option Addr) (r3_l : Nat) (r3_d : Nat), sl0 = .pointer (some ⟨qb11, 0, none⟩) ∧ sl1 = .pointer (some ⟨qb12, 0, none⟩) ∧ Hid (Sx w w9 [⟨qb12, [.bool r6_m, .slice r6_0 r6_n r6_c, .bool r6_k, .slice r6_1 r6_l r6_d]⟩, ⟨qb11, [.bool r4_m, .slice r4_0 r4_n r4_c, .bool r4_k, .slice r4_1 r4_l r4_d]⟩, ⟨(w6.heap.size), [.bool r2_m, .slice r2_0 r2_n r2_c, .bool r2_k, .slice r2_1 r2_l r2_d]⟩, ⟨(w3.heap.size), [.bool r1_m, .slice r1_0 r1_n r1_c, .bool r1_k, .slice r1_1 r1_l r1_d]⟩, ⟨(w.heap.size + 1), [.bool m1, .slice a1 n1 c1, .bool k1, .slice b1 l1 d1]⟩, ⟨(w.heap.size), [.bool m0, .slice a0 n0 c0, .bool k0, .slice b0 l0 d0]⟩] [.rc r6_m r6_0 r6_n r6_c r6_k r6_1 r6_l r6_d ((qv (r0.den : Int) 0) * (Rat.divInt k 1)) 20002, .rc r5_m r5_0 r5_n r5_c r5_k r5_1 r5_l r5_d (qv (r0.den : Int) 0) 20000, .rc r4_m r4_0 r4_n r4_c r4_k r4_1 r4_l r4_d ((qv r0.num 0) * (Rat.divInt k 1)) 20002, .rc r3_m r3_0 r3_n r3_c r3_k r3_1 r3_l r3_d (qv r0.num 0) 20000, .rc r2_m r2_0 r2_n r2_c r2_k r2_1 r2_l r2_d r0 20000, .rc r1_m r1_0 r1_n r1_c r1_k r1_1 r1_l r1_d (Rat.divInt k 1) 2, .rx m0 a0 n0 c0 k0 b0 l0 d0 x0 e0 r0 8, .rx m1 a1 n1 c1 k1 b1 l1 d1 x1 e1 r1 8]))
  case first =>
    have S13 := Lib.hid (S12.out.drew)
    clear S12
    refine wp_region_held_drew (S := fun w' => (w'.cell? ⟨(w6.heap.size), 0, none⟩ = some (.bool r2_m) ∧ w'.cell? ⟨(w6.heap.size), 1, none⟩ = some (.slice r2_0 r2_n r2_c) ∧ w'.cell? ⟨(w6.heap.size), 2, none⟩ = some (.bool r2_k) ∧ w'.cell? ⟨(w6.heap.size), 3, none⟩ = some (.slice r2_1 r2_l r2_d)) ∧ (w'.cell? ⟨(w3.heap.size), 0, none⟩ = some (.bool r1_m) ∧ w'.cell? ⟨(w3.heap.size), 1, none⟩ = some (.slice r1_0 r1_n r1_c) ∧ w'.cell? ⟨(w3.heap.size), 2, none⟩ = some (.bool r1_k) ∧ w'.cell? ⟨(w3.heap.size), 3, none⟩ = some (.slice r1_1 r1_l r1_d))) (by kernel_rfl) (⟨S13.out.b.c4, S13.out.b.t.c4⟩) (fun hH => ?_)
    refine anyH_world (fun w10 hW => ?_)
    rw [← hW] at S13 hH
    clear hW
    refine step_on 0 rfl (by kernel_rfl) (fun _ _ _ h => h) (by rfl) hH (by intro w hS; go_simp <;> with_reducible rfl) ?_
    try simp only [nrm]
    refine step_on 1 rfl (by kernel_rfl) (fun _ _ _ h => h) (by rfl) hH (by intro w hS; go_simp <;> with_reducible rfl) ?_
    try simp only [nrm]
    refine step_on 3 rfl (by kernel_rfl) (fun _ _ _ h => h) (by rfl) hH (by intro w hS; go_simp <;> with_reducible rfl) ?_
    try simp only [nrm]
    refine step_on 5 rfl (by kernel_rfl) (fun _ _ _ h => h) (by rfl) hH (by intro w hS; go_simp <;> with_reducible rfl) ?_
    try simp only [nrm]
    refine step_on 6 rfl (by kernel_rfl) (fun _ _ _ h => h) (by rfl) hH (by intro w hS; go_simp <;> with_reducible rfl) ?_
    try simp only [nrm]
    refine step_on 8 rfl (by kernel_rfl) (fun _ _ _ h => h) (by rfl) hH (by intro w hS; go_simp <;> with_reducible rfl) ?_
    try simp only [nrm]
    refine wpAnyH_ready (rs := [2, 10, 11]) (by kernel_rfl) (by simp) (ready_cons rfl (fun K hK => ?_) (ready_cons rfl (fun K hK => ?_) (ready_cons rfl (fun K hK => ?_) (AllReadyH.nil))))
    ·go_simp
     refine (rwhole_any S13.out.n.rc.num.nx S13.out.n.rc.bn (by omega) (by omega)).mono ?_
     rintro e w11 ⟨r3_m, r3_0, r3_n, r3_c, r3_k, r3_1, r3_l, r3_d, rfl, hX, hB⟩
     have S14 := Lib.hid (((S13.out.step hB).rc hX rfl))
     clear S13 hX hB
     go_wp2_with fail
     refine hK.out _ _ ⟨S14.out.b.c4, S14.out.b.t.c4⟩ (fun h2 => ?_)
     clear hK K hH; have hH := h2; clear h2; try simp only [nrm]
     refine wpAnyH_ready (rs := [4, 10, 11]) (by kernel_rfl) (by simp) (ready_cons rfl (fun K hK => ?_) (ready_cons rfl (fun K hK => ?_) (ready_cons rfl (fun K hK => ?_) (AllReadyH.nil))))
     ·go_simp
      refine (rmul_any S14.out.n.rc.rx S14.out.n.t.t.rc.rx (by omega) (by omega) (by omega)).mono ?_
      rintro e w12 ⟨r4_m, r4_0, r4_n, r4_c, r4_k, r4_1, r4_l, r4_d, rfl, hX, hB⟩
      have S15 := Lib.hid (((S14.out.step hB).rc hX rfl))
      clear S14 hX hB
      go_wp2_with fail
      refine hK.out _ _ ⟨S15.out.b.c4, S15.out.b.t.c4⟩ (fun h2 => ?_)
      clear hK K hH; have hH := h2; clear h2; try simp only [nrm]
      refine wpAnyH_ready (rs := [7, 10, 11]) (by kernel_rfl) (by simp) (ready_cons rfl (fun K hK => ?_) (ready_cons rfl (fun K hK => ?_) (ready_cons rfl (fun K hK => ?_) (AllReadyH.nil))))
      ·go_simp
       refine (rwhole_any S15.out.n.t.t.rc.den.nx S15.out.n.t.t.rc.bd (by omega) (by omega)).mono ?_
       rintro e w13 ⟨r5_m, r5_0, r5_n, r5_c, r5_k, r5_1, r5_l, r5_d, rfl, hX, hB⟩
       have S16 := Lib.hid (((S15.out.step hB).rc hX rfl))
       clear S15 hX hB
       go_wp2_with fail
       refine hK.out _ _ ⟨S16.out.b.c4, S16.out.b.t.c4⟩ (fun h2 => ?_)
       clear hK K hH; have hH := h2; clear h2; try simp only [nrm]
       refine wpAnyH_ready (rs := [9, 10, 11]) (by kernel_rfl) (by simp) (ready_cons rfl (fun K hK => ?_) (ready_cons rfl (fun K hK => ?_) (ready_cons rfl (fun K hK => ?_) (AllReadyH.nil))))
       ·go_simp
        refine (rmul_any S16.out.n.rc.rx S16.out.n.t.t.t.t.rc.rx (by omega) (by omega) (by omega)).mono ?_
        rintro e w14 ⟨r6_m, r6_0, r6_n, r6_c, r6_k, r6_1, r6_l, r6_d, rfl, hX, hB⟩
        have S17 := Lib.hid (((S16.out.step hB).rc hX rfl))
        clear S16 hX hB
        go_wp2_with fail
        refine hK.out _ _ ⟨S17.out.b.c4, S17.out.b.t.c4⟩ (fun h2 => ?_)
        clear hK K hH; have hH := h2; clear h2; try simp only [nrm]
        refine wpAnyH_ready (rs := [10, 11]) (by kernel_rfl) (by simp) (ready_cons rfl (fun K hK => ?_) (ready_cons rfl (fun K hK => ?_) (AllReadyH.nil)))
        ·go_simp
         have S18 := Lib.hid (S17.out.var (w14.heap.size) [.bool false, .slice none 0 0, .bool false, .slice none 0 0] 26 (by simp))
         clear S17
         refine hK.out _ _ ⟨S18.out.b.t.c4, S18.out.b.t.t.c4⟩ (fun h2 => ?_)
         clear hK K hH; have hH := h2; clear h2; try simp only [nrm]
         refine anyH_world (fun w15 hW => ?_)
         rw [← hW] at S18 hH
         clear hW
         refine step_one 11 rfl (by kernel_rfl) (fun K hK => ?_)
         go_simp
         have S19 := Lib.hid (S18.out.var (w15.heap.size) [.bool false, .slice none 0 0, .bool false, .slice none 0 0] 26 (by simp))
         clear S18
         refine hK.out _ _ ⟨S19.out.b.t.t.c4, S19.out.b.t.t.t.c4⟩ (fun h2 => ?_)
         clear hK K hH; have hH := h2; clear h2; try simp only [nrm]
         refine anyH_world (fun w16 hW => ?_)
         rw [← hW] at S19 hH
         clear hW
         refine step_one 12 rfl (by kernel_rfl) (fun K hK => ?_)
         obtain ⟨c_b11_0, c_b11_1, c_b11_2, c_b11_3⟩ := S19.out.b.t.c4
         obtain ⟨f_b11_0, f_b11_1, f_b11_2, f_b11_3⟩ := S19.out.b.t.f4
         go_simp
         clear c_b11_0 c_b11_1 c_b11_2 c_b11_3 f_b11_0 f_b11_1 f_b11_2 f_b11_3
         have S20 : Hid (Sx w _ [⟨(w15.heap.size), [.bool false, .slice none 0 0, .bool false, .slice none 0 0]⟩, ⟨(w14.heap.size), [.bool r4_m, .slice r4_0 r4_n r4_c, .bool r4_k, .slice r4_1 r4_l r4_d]⟩, ⟨(w6.heap.size), [.bool r2_m, .slice r2_0 r2_n r2_c, .bool r2_k, .slice r2_1 r2_l r2_d]⟩, ⟨(w3.heap.size), [.bool r1_m, .slice r1_0 r1_n r1_c, .bool r1_k, .slice r1_1 r1_l r1_d]⟩, ⟨(w.heap.size + 1), [.bool m1, .slice a1 n1 c1, .bool k1, .slice b1 l1 d1]⟩, ⟨(w.heap.size), [.bool m0, .slice a0 n0 c0, .bool k0, .slice b0 l0 d0]⟩] _) := Lib.hid (Sx.set4 S19.out 1 rfl _ _ _ _)
         clear S19
         refine hK.out _ _ ⟨S20.out.b.t.t.c4, S20.out.b.t.t.t.c4⟩ (fun h2 => ?_)
         clear hK K hH; have hH := h2; clear h2; try simp only [nrm]
         refine anyH_world (fun w17 hW => ?_)
         rw [← hW] at S20 hH
         clear hW
         refine step_one 13 rfl (by kernel_rfl) (fun K hK => ?_)
         obtain ⟨c_b12_0, c_b12_1, c_b12_2, c_b12_3⟩ := S20.out.b.c4
         obtain ⟨f_b12_0, f_b12_1, f_b12_2, f_b12_3⟩ := S20.out.b.f4
         go_simp
         clear c_b12_0 c_b12_1 c_b12_2 c_b12_3 f_b12_0 f_b12_1 f_b12_2 f_b12_3
         have S21 : Hid (Sx w _ [⟨(w15.heap.size), [.bool r6_m, .slice r6_0 r6_n r6_c, .bool r6_k, .slice r6_1 r6_l r6_d]⟩, ⟨(w14.heap.size), [.bool r4_m, .slice r4_0 r4_n r4_c, .bool r4_k, .slice r4_1 r4_l r4_d]⟩, ⟨(w6.heap.size), [.bool r2_m, .slice r2_0 r2_n r2_c, .bool r2_k, .slice r2_1 r2_l r2_d]⟩, ⟨(w3.heap.size), [.bool r1_m, .slice r1_0 r1_n r1_c, .bool r1_k, .slice r1_1 r1_l r1_d]⟩, ⟨(w.heap.size + 1), [.bool m1, .slice a1 n1 c1, .bool k1, .slice b1 l1 d1]⟩, ⟨(w.heap.size), [.bool m0, .slice a0 n0 c0, .bool k0, .slice b0 l0 d0]⟩] _) := Lib.hid (Sx.set4 S20.out 0 rfl _ _ _ _)
         clear S20
         refine hK.out _ _ ⟨S21.out.b.t.t.c4, S21.out.b.t.t.t.c4⟩ (fun h2 => ?_)
         clear hK K hH; have hH := h2; clear h2; try simp only [nrm]
         refine anyH_world (fun w18 hW => ?_)
         rw [← hW] at S21 hH
         clear hW
         refine wpAnyH_done (by kernel_rfl) ?_ _
         clear hH
         go_wp2_with fail
         go_meet
         case rel => exact ⟨_, _, _, _, _, _, _, _, _, _, _, _, _, _, _, _, _, _, _, _, _, _, _, _, _, _, _, _, _, _, _, _, _, _, rfl, rfl, S21.out⟩
        ·go_simp
         have S18 := Lib.hid (S17.out.var (w14.heap.size) [.bool false, .slice none 0 0, .bool false, .slice none 0 0] 26 (by simp))
         clear S17
         refine hK.out _ _ ⟨S18.out.b.t.c4, S18.out.b.t.t.c4⟩ (fun h2 => ?_)
         clear hK K hH; have hH := h2; clear h2; try simp only [nrm]
         refine anyH_world (fun w15 hW => ?_)
         rw [← hW] at S18 hH
         clear hW
         refine step_one 10 rfl (by kernel_rfl) (fun K hK => ?_)
         go_simp
         have S19 := Lib.hid (S18.out.var (w15.heap.size) [.bool false, .slice none 0 0, .bool false, .slice none 0 0] 26 (by simp))
         clear S18
         refine hK.out _ _ ⟨S19.out.b.t.t.c4, S19.out.b.t.t.t.c4⟩ (fun h2 => ?_)
         clear hK K hH; have hH := h2; clear h2; try simp only [nrm]
         refine anyH_world (fun w16 hW => ?_)
         rw [← hW] at S19 hH
         clear hW
         refine step_one 12 rfl (by kernel_rfl) (fun K hK => ?_)
         obtain ⟨c_b11_0, c_b11_1, c_b11_2, c_b11_3⟩ := S19.out.b.c4
         obtain ⟨f_b11_0, f_b11_1, f_b11_2, f_b11_3⟩ := S19.out.b.f4
         go_simp
         clear c_b11_0 c_b11_1 c_b11_2 c_b11_3 f_b11_0 f_b11_1 f_b11_2 f_b11_3
         have S20 : Hid (Sx w _ [⟨(w15.heap.size), [.bool r4_m, .slice r4_0 r4_n r4_c, .bool r4_k, .slice r4_1 r4_l r4_d]⟩, ⟨(w14.heap.size), [.bool false, .slice none 0 0, .bool false, .slice none 0 0]⟩, ⟨(w6.heap.size), [.bool r2_m, .slice r2_0 r2_n r2_c, .bool r2_k, .slice r2_1 r2_l r2_d]⟩, ⟨(w3.heap.size), [.bool r1_m, .slice r1_0 r1_n r1_c, .bool r1_k, .slice r1_1 r1_l r1_d]⟩, ⟨(w.heap.size + 1), [.bool m1, .slice a1 n1 c1, .bool k1, .slice b1 l1 d1]⟩, ⟨(w.heap.size), [.bool m0, .slice a0 n0 c0, .bool k0, .slice b0 l0 d0]⟩] _) := Lib.hid (Sx.set4 S19.out 0 rfl _ _ _ _)
         clear S19
         refine hK.out _ _ ⟨S20.out.b.t.t.c4, S20.out.b.t.t.t.c4⟩ (fun h2 => ?_)
         clear hK K hH; have hH := h2; clear h2; try simp only [nrm]
         refine anyH_world (fun w17 hW => ?_)
         rw [← hW] at S20 hH
         clear hW
         refine step_one 13 rfl (by kernel_rfl) (fun K hK => ?_)
         obtain ⟨c_b12_0, c_b12_1, c_b12_2, c_b12_3⟩ := S20.out.b.t.c4
         obtain ⟨f_b12_0, f_b12_1, f_b12_2, f_b12_3⟩ := S20.out.b.t.f4
         go_simp
         clear c_b12_0 c_b12_1 c_b12_2 c_b12_3 f_b12_0 f_b12_1 f_b12_2 f_b12_3
         have S21 : Hid (Sx w _ [⟨(w15.heap.size), [.bool r4_m, .slice r4_0 r4_n r4_c, .bool r4_k, .slice r4_1 r4_l r4_d]⟩, ⟨(w14.heap.size), [.bool r6_m, .slice r6_0 r6_n r6_c, .bool r6_k, .slice r6_1 r6_l r6_d]⟩, ⟨(w6.heap.size), [.bool r2_m, .slice r2_0 r2_n r2_c, .bool r2_k, .slice r2_1 r2_l r2_d]⟩, ⟨(w3.heap.size), [.bool r1_m, .slice r1_0 r1_n r1_c, .bool r1_k, .slice r1_1 r1_l r1_d]⟩, ⟨(w.heap.size + 1), [.bool m1, .slice a1 n1 c1, .bool k1, .slice b1 l1 d1]⟩, ⟨(w.heap.size), [.bool m0, .slice a0 n0 c0, .bool k0, .slice b0 l0 d0]⟩] _) := Lib.hid (Sx.set4 S20.out 1 rfl _ _ _ _)
         clear S20
         refine hK.out _ _ ⟨S21.out.b.t.t.c4, S21.out.b.t.t.t.c4⟩ (fun h2 => ?_)
         clear hK K hH; have hH := h2; clear h2; try simp only [nrm]
         refine anyH_world (fun w18 hW => ?_)
         rw [← hW] at S21 hH
         clear hW
         refine wpAnyH_done (by kernel_rfl) ?_ _
         clear hH
         go_wp2_with fail
         go_meet
         case rel => exact ⟨_, _, _, _, _, _, _, _, _, _, _, _, _, _, _, _, _, _, _, _, _, _, _, _, _, _, _, _, _, _, _, _, _, _, rfl, rfl, S21.out.swap⟩
       ·go_simp
        have S17 := Lib.hid (S16.out.var (w13.heap.size) [.bool false, .slice none 0 0, .bool false, .slice none 0 0] 26 (by simp))
        clear S16
        refine hK.out _ _ ⟨S17.out.b.t.c4, S17.out.b.t.t.c4⟩ (fun h2 => ?_)
        clear hK K hH; have hH := h2; clear h2; try simp only [nrm]
        refine anyH_world (fun w14 hW => ?_)
        rw [← hW] at S17 hH
        clear hW
        refine wpAnyH_ready (rs := [9, 11]) (by kernel_rfl) (by simp) (ready_cons rfl (fun K hK => ?_) (ready_cons rfl (fun K hK => ?_) (AllReadyH.nil)))
        ·go_simp
         refine (rmul_any S17.out.n.rc.rx S17.out.n.t.t.t.t.rc.rx (by omega) (by omega) (by omega)).mono ?_
         rintro e w15 ⟨r6_m, r6_0, r6_n, r6_c, r6_k, r6_1, r6_l, r6_d, rfl, hX, hB⟩
         have S18 := Lib.hid (((S17.out.step hB).rc hX rfl))
         clear S17 hX hB
         go_wp2_with fail
         refine hK.out _ _ ⟨S18.out.b.t.c4, S18.out.b.t.t.c4⟩ (fun h2 => ?_)
         clear hK K hH; have hH := h2; clear h2; try simp only [nrm]
         refine step_one 11 rfl (by kernel_rfl) (fun K hK => ?_)
         go_simp
         have S19 := Lib.hid (S18.out.var (w15.heap.size) [.bool false, .slice none 0 0, .bool false, .slice none 0 0] 26 (by simp))
         clear S18
         refine hK.out _ _ ⟨S19.out.b.t.t.c4, S19.out.b.t.t.t.c4⟩ (fun h2 => ?_)
         clear hK K hH; have hH := h2; clear h2; try simp only [nrm]
         refine anyH_world (fun w16 hW => ?_)
         rw [← hW] at S19 hH
         clear hW
         refine step_one 12 rfl (by kernel_rfl) (fun K hK => ?_)
         obtain ⟨c_b11_0, c_b11_1, c_b11_2, c_b11_3⟩ := S19.out.b.t.c4
         obtain ⟨f_b11_0, f_b11_1, f_b11_2, f_b11_3⟩ := S19.out.b.t.f4
         go_simp
         clear c_b11_0 c_b11_1 c_b11_2 c_b11_3 f_b11_0 f_b11_1 f_b11_2 f_b11_3
         have S20 : Hid (Sx w _ [⟨(w15.heap.size), [.bool false, .slice none 0 0, .bool false, .slice none 0 0]⟩, ⟨(w13.heap.size), [.bool r4_m, .slice r4_0 r4_n r4_c, .bool r4_k, .slice r4_1 r4_l r4_d]⟩, ⟨(w6.heap.size), [.bool r2_m, .slice r2_0 r2_n r2_c, .bool r2_k, .slice r2_1 r2_l r2_d]⟩, ⟨(w3.heap.size), [.bool r1_m, .slice r1_0 r1_n r1_c, .bool r1_k, .slice r1_1 r1_l r1_d]⟩, ⟨(w.heap.size + 1), [.bool m1, .slice a1 n1 c1, .bool k1, .slice b1 l1 d1]⟩, ⟨(w.heap.size), [.bool m0, .slice a0 n0 c0, .bool k0, .slice b0 l0 d0]⟩] _) := Lib.hid (Sx.set4 S19.out 1 rfl _ _ _ _)
         clear S19
         refine hK.out _ _ ⟨S20.out.b.t.t.c4, S20.out.b.t.t.t.c4⟩ (fun h2 => ?_)
         clear hK K hH; have hH := h2; clear h2; try simp only [nrm]
         refine anyH_world (fun w17 hW => ?_)
         rw [← hW] at S20 hH
         clear hW
         refine step_one 13 rfl (by kernel_rfl) (fun K hK => ?_)
         obtain ⟨c_b12_0, c_b12_1, c_b12_2, c_b12_3⟩ := S20.out.b.c4
         obtain ⟨f_b12_0, f_b12_1, f_b12_2, f_b12_3⟩ := S20.out.b.f4
         go_simp
         clear c_b12_0 c_b12_1 c_b12_2 c_b12_3 f_b12_0 f_b12_1 f_b12_2 f_b12_3
         have S21 : Hid (Sx w _ [⟨(w15.heap.size), [.bool r6_m, .slice r6_0 r6_n r6_c, .bool r6_k, .slice r6_1 r6_l r6_d]⟩, ⟨(w13.heap.size), [.bool r4_m, .slice r4_0 r4_n r4_c, .bool r4_k, .slice r4_1 r4_l r4_d]⟩, ⟨(w6.heap.size), [.bool r2_m, .slice r2_0 r2_n r2_c, .bool r2_k, .slice r2_1 r2_l r2_d]⟩, ⟨(w3.heap.size), [.bool r1_m, .slice r1_0 r1_n r1_c, .bool r1_k, .slice r1_1 r1_l r1_d]⟩, ⟨(w.heap.size + 1), [.bool m1, .slice a1 n1 c1, .bool k1, .slice b1 l1 d1]⟩, ⟨(w.heap.size), [.bool m0, .slice a0 n0 c0, .bool k0, .slice b0 l0 d0]⟩] _) := Lib.hid (Sx.set4 S20.out 0 rfl _ _ _ _)
         clear S20
         refine hK.out _ _ ⟨S21.out.b.t.t.c4, S21.out.b.t.t.t.c4⟩ (fun h2 => ?_)
         clear hK K hH; have hH := h2; clear h2; try simp only [nrm]
         refine anyH_world (fun w18 hW => ?_)
         rw [← hW] at S21 hH
         clear hW
         refine wpAnyH_done (by kernel_rfl) ?_ _
         clear hH
         go_wp2_with fail
         go_meet
         case rel => exact ⟨_, _, _, _, _, _, _, _, _, _, _, _, _, _, _, _, _, _, _, _, _, _, _, _, _, _, _, _, _, _, _, _, _, _, rfl, rfl, S21.out⟩
        ·go_simp
         have S18 := Lib.hid (S17.out.var (w14.heap.size) [.bool false, .slice none 0 0, .bool false, .slice none 0 0] 26 (by simp))
         clear S17
         refine hK.out _ _ ⟨S18.out.b.t.t.c4, S18.out.b.t.t.t.c4⟩ (fun h2 => ?_)
         clear hK K hH; have hH := h2; clear h2; try simp only [nrm]
         refine anyH_world (fun w15 hW => ?_)
         rw [← hW] at S18 hH
         clear hW
         refine step_one 9 rfl (by kernel_rfl) (fun K hK => ?_)
         go_simp
         refine (rmul_any S18.out.n.rc.rx S18.out.n.t.t.t.t.rc.rx (by omega) (by omega) (by omega)).mono ?_
         rintro e w16 ⟨r6_m, r6_0, r6_n, r6_c, r6_k, r6_1, r6_l, r6_d, rfl, hX, hB⟩
         have S19 := Lib.hid (((S18.out.step hB).rc hX rfl))
         clear S18 hX hB
         go_wp2_with fail
         refine hK.out _ _ ⟨S19.out.b.t.t.c4, S19.out.b.t.t.t.c4⟩ (fun h2 => ?_)
         clear hK K hH; have hH := h2; clear h2; try simp only [nrm]
         refine step_one 12 rfl (by kernel_rfl) (fun K hK => ?_)
         obtain ⟨c_b11_0, c_b11_1, c_b11_2, c_b11_3⟩ := S19.out.b.t.c4
         obtain ⟨f_b11_0, f_b11_1, f_b11_2, f_b11_3⟩ := S19.out.b.t.f4
         go_simp
         clear c_b11_0 c_b11_1 c_b11_2 c_b11_3 f_b11_0 f_b11_1 f_b11_2 f_b11_3
         have S20 : Hid (Sx w _ [⟨(w14.heap.size), [.bool false, .slice none 0 0, .bool false, .slice none 0 0]⟩, ⟨(w13.heap.size), [.bool r4_m, .slice r4_0 r4_n r4_c, .bool r4_k, .slice r4_1 r4_l r4_d]⟩, ⟨(w6.heap.size), [.bool r2_m, .slice r2_0 r2_n r2_c, .bool r2_k, .slice r2_1 r2_l r2_d]⟩, ⟨(w3.heap.size), [.bool r1_m, .slice r1_0 r1_n r1_c, .bool r1_k, .slice r1_1 r1_l r1_d]⟩, ⟨(w.heap.size + 1), [.bool m1, .slice a1 n1 c1, .bool k1, .slice b1 l1 d1]⟩, ⟨(w.heap.size), [.bool m0, .slice a0 n0 c0, .bool k0, .slice b0 l0 d0]⟩] _) := Lib.hid (Sx.set4 S19.out 1 rfl _ _ _ _)
         clear S19
         refine hK.out _ _ ⟨S20.out.b.t.t.c4, S20.out.b.t.t.t.c4⟩ (fun h2 => ?_)
         clear hK K hH; have hH := h2; clear h2; try simp only [nrm]
         refine anyH_world (fun w17 hW => ?_)
         rw [← hW] at S20 hH
         clear hW
         refine step_one 13 rfl (by kernel_rfl) (fun K hK => ?_)
         obtain ⟨c_b12_0, c_b12_1, c_b12_2, c_b12_3⟩ := S20.out.b.c4
         obtain ⟨f_b12_0, f_b12_1, f_b12_2, f_b12_3⟩ := S20.out.b.f4
         go_simp
         clear c_b12_0 c_b12_1 c_b12_2 c_b12_3 f_b12_0 f_b12_1 f_b12_2 f_b12_3
         have S21 : Hid (Sx w _ [⟨(w14.heap.size), [.bool r6_m, .slice r6_0 r6_n r6_c, .bool r6_k, .slice r6_1 r6_l r6_d]⟩, ⟨(w13.heap.size), [.bool r4_m, .slice r4_0 r4_n r4_c, .bool r4_k, .slice r4_1 r4_l r4_d]⟩, ⟨(w6.heap.size), [.bool r2_m, .slice r2_0 r2_n r2_c, .bool r2_k, .slice r2_1 r2_l r2_d]⟩, ⟨(w3.heap.size), [.bool r1_m, .slice r1_0 r1_n r1_c, .bool r1_k, .slice r1_1 r1_l r1_d]⟩, ⟨(w.heap.size + 1), [.bool m1, .slice a1 n1 c1, .bool k1, .slice b1 l1 d1]⟩, ⟨(w.heap.size), [.bool m0, .slice a0 n0 c0, .bool k0, .slice b0 l0 d0]⟩] _) := Lib.hid (Sx.set4 S20.out 0 rfl _ _ _ _)
         clear S20
         refine hK.out _ _ ⟨S21.out.b.t.t.c4, S21.out.b.t.t.t.c4⟩ (fun h2 => ?_)
         clear hK K hH; have hH := h2; clear h2; try simp only [nrm]
         refine anyH_world (fun w18 hW => ?_)
         rw [← hW] at S21 hH
         clear hW
         refine wpAnyH_done (by kernel_rfl) ?_ _
         clear hH
         go_wp2_with fail
         go_meet
         case rel => exact ⟨_, _, _, _, _, _, _, _, _, _, _, _, _, _, _, _, _, _, _, _, _, _, _, _, _, _, _, _, _, _, _, _, _, _, rfl, rfl, S21.out⟩
       ·go_simp
        have S17 := Lib.hid (S16.out.var (w13.heap.size) [.bool false, .slice none 0 0, .bool false, .slice none 0 0] 26 (by simp))
        clear S16
        refine hK.out _ _ ⟨S17.out.b.t.c4, S17.out.b.t.t.c4⟩ (fun h2 => ?_)
        clear hK K hH; have hH := h2; clear h2; try simp only [nrm]
        refine anyH_world (fun w14 hW => ?_)
        rw [← hW] at S17 hH
        clear hW
        refine wpAnyH_ready (rs := [9, 10]) (by kernel_rfl) (by simp) (ready_cons rfl (fun K hK => ?_) (ready_cons rfl (fun K hK => ?_) (AllReadyH.nil)))
        ·go_simp
         refine (rmul_any S17.out.n.rc.rx S17.out.n.t.t.t.t.rc.rx (by omega) (by omega) (by omega)).mono ?_
         rintro e w15 ⟨r6_m, r6_0, r6_n, r6_c, r6_k, r6_1, r6_l, r6_d, rfl, hX, hB⟩
         have S18 := Lib.hid (((S17.out.step hB).rc hX rfl))
         clear S17 hX hB
         go_wp2_with fail
         refine hK.out _ _ ⟨S18.out.b.t.c4, S18.out.b.t.t.c4⟩ (fun h2 => ?_)
         clear hK K hH; have hH := h2; clear h2; try simp only [nrm]
         refine step_one 10 rfl (by kernel_rfl) (fun K hK => ?_)
         go_simp
         have S19 := Lib.hid (S18.out.var (w15.heap.size) [.bool false, .slice none 0 0, .bool false, .slice none 0 0] 26 (by simp))
         clear S18
         refine hK.out _ _ ⟨S19.out.b.t.t.c4, S19.out.b.t.t.t.c4⟩ (fun h2 => ?_)
         clear hK K hH; have hH := h2; clear h2; try simp only [nrm]
         refine anyH_world (fun w16 hW => ?_)
         rw [← hW] at S19 hH
         clear hW
         refine step_one 12 rfl (by kernel_rfl) (fun K hK => ?_)
         obtain ⟨c_b11_0, c_b11_1, c_b11_2, c_b11_3⟩ := S19.out.b.c4
         obtain ⟨f_b11_0, f_b11_1, f_b11_2, f_b11_3⟩ := S19.out.b.f4
         go_simp
         clear c_b11_0 c_b11_1 c_b11_2 c_b11_3 f_b11_0 f_b11_1 f_b11_2 f_b11_3
         have S20 : Hid (Sx w _ [⟨(w15.heap.size), [.bool r4_m, .slice r4_0 r4_n r4_c, .bool r4_k, .slice r4_1 r4_l r4_d]⟩, ⟨(w13.heap.size), [.bool false, .slice none 0 0, .bool false, .slice none 0 0]⟩, ⟨(w6.heap.size), [.bool r2_m, .slice r2_0 r2_n r2_c, .bool r2_k, .slice r2_1 r2_l r2_d]⟩, ⟨(w3.heap.size), [.bool r1_m, .slice r1_0 r1_n r1_c, .bool r1_k, .slice r1_1 r1_l r1_d]⟩, ⟨(w.heap.size + 1), [.bool m1, .slice a1 n1 c1, .bool k1, .slice b1 l1 d1]⟩, ⟨(w.heap.size), [.bool m0, .slice a0 n0 c0, .bool k0, .slice b0 l0 d0]⟩] _) := Lib.hid (Sx.set4 S19.out 0 rfl _ _ _ _)
         clear S19
         refine hK.out _ _ ⟨S20.out.b.t.t.c4, S20.out.b.t.t.t.c4⟩ (fun h2 => ?_)
         clear hK K hH; have hH := h2; clear h2; try simp only [nrm]
         refine anyH_world (fun w17 hW => ?_)
         rw [← hW] at S20 hH
         clear hW
         refine step_one 13 rfl (by kernel_rfl) (fun K hK => ?_)
         obtain ⟨c_b12_0, c_b12_1, c_b12_2, c_b12_3⟩ := S20.out.b.t.c4
         obtain ⟨f_b12_0, f_b12_1, f_b12_2, f_b12_3⟩ := S20.out.b.t.f4
         go_simp
         clear c_b12_0 c_b12_1 c_b12_2 c_b12_3 f_b12_0 f_b12_1 f_b12_2 f_b12_3
         have S21 : Hid (Sx w _ [⟨(w15.heap.size), [.bool r4_m, .slice r4_0 r4_n r4_c, .bool r4_k, .slice r4_1 r4_l r4_d]⟩, ⟨(w13.heap.size), [.bool r6_m, .slice r6_0 r6_n r6_c, .bool r6_k, .slice r6_1 r6_l r6_d]⟩, ⟨(w6.heap.size), [.bool r2_m, .slice r2_0 r2_n r2_c, .bool r2_k, .slice r2_1 r2_l r2_d]⟩, ⟨(w3.heap.size), [.bool r1_m, .slice r1_0 r1_n r1_c, .bool r1_k, .slice r1_1 r1_l r1_d]⟩, ⟨(w.heap.size + 1), [.bool m1, .slice a1 n1 c1, .bool k1, .slice b1 l1 d1]⟩, ⟨(w.heap.size), [.bool m0, .slice a0 n0 c0, .bool k0, .slice b0 l0 d0]⟩] _) := Lib.hid (Sx.set4 S20.out 1 rfl _ _ _ _)
         clear S20
         refine hK.out _ _ ⟨S21.out.b.t.t.c4, S21.out.b.t.t.t.c4⟩ (fun h2 => ?_)
         clear hK K hH; have hH := h2; clear h2; try simp only [nrm]
         refine anyH_world (fun w18 hW => ?_)
         rw [← hW] at S21 hH
         clear hW
         refine wpAnyH_done (by kernel_rfl) ?_ _
         clear hH
         go_wp2_with fail
         go_meet
         case rel => exact ⟨_, _, _, _, _, _, _, _, _, _, _, _, _, _, _, _, _, _, _, _, _, _, _, _, _, _, _, _, _, _, _, _, _, _, rfl, rfl, S21.out.swap⟩
        ·go_simp
         have S18 := Lib.hid (S17.out.var (w14.heap.size) [.bool false, .slice none 0 0, .bool false, .slice none 0 0] 26 (by simp))
         clear S17
         refine hK.out _ _ ⟨S18.out.b.t.t.c4, S18.out.b.t.t.t.c4⟩ (fun h2 => ?_)
         clear hK K hH; have hH := h2; clear h2; try simp only [nrm]
         refine anyH_world (fun w15 hW => ?_)
         rw [← hW] at S18 hH
         clear hW
         refine step_one 9 rfl (by kernel_rfl) (fun K hK => ?_)
         go_simp
         refine (rmul_any S18.out.n.rc.rx S18.out.n.t.t.t.t.rc.rx (by omega) (by omega) (by omega)).mono ?_
         rintro e w16 ⟨r6_m, r6_0, r6_n, r6_c, r6_k, r6_1, r6_l, r6_d, rfl, hX, hB⟩
         have S19 := Lib.hid (((S18.out.step hB).rc hX rfl))
         clear S18 hX hB
         go_wp2_with fail
         refine hK.out _ _ ⟨S19.out.b.t.t.c4, S19.out.b.t.t.t.c4⟩ (fun h2 => ?_)
         clear hK K hH; have hH := h2; clear h2; try simp only [nrm]
         refine step_one 12 rfl (by kernel_rfl) (fun K hK => ?_)
         obtain ⟨c_b11_0, c_b11_1, c_b11_2, c_b11_3⟩ := S19.out.b.c4
         obtain ⟨f_b11_0, f_b11_1, f_b11_2, f_b11_3⟩ := S19.out.b.f4
         go_simp
         clear c_b11_0 c_b11_1 c_b11_2 c_b11_3 f_b11_0 f_b11_1 f_b11_2 f_b11_3
         have S20 : Hid (Sx w _ [⟨(w14.heap.size), [.bool r4_m, .slice r4_0 r4_n r4_c, .bool r4_k, .slice r4_1 r4_l r4_d]⟩, ⟨(w13.heap.size), [.bool false, .slice none 0 0, .bool false, .slice none 0 0]⟩, ⟨(w6.heap.size), [.bool r2_m, .slice r2_0 r2_n r2_c, .bool r2_k, .slice r2_1 r2_l r2_d]⟩, ⟨(w3.heap.size), [.bool r1_m, .slice r1_0 r1_n r1_c, .bool r1_k, .slice r1_1 r1_l r1_d]⟩, ⟨(w.heap.size + 1), [.bool m1, .slice a1 n1 c1, .bool k1, .slice b1 l1 d1]⟩, ⟨(w.heap.size), [.bool m0, .slice a0 n0 c0, .bool k0, .slice b0 l0 d0]⟩] _) := Lib.hid (Sx.set4 S19.out 0 rfl _ _ _ _)
         clear S19
         refine hK.out _ _ ⟨S20.out.b.t.t.c4, S20.out.b.t.t.t.c4⟩ (fun h2 => ?_)
         clear hK K hH; have hH := h2; clear h2; try simp only [nrm]
         refine anyH_world (fun w17 hW => ?_)
         rw [← hW] at S20 hH
         clear hW
         refine step_one 13 rfl (by kernel_rfl) (fun K hK => ?_)
         obtain ⟨c_b12_0, c_b12_1, c_b12_2, c_b12_3⟩ := S20.out.b.t.c4
         obtain ⟨f_b12_0, f_b12_1, f_b12_2, f_b12_3⟩ := S20.out.b.t.f4
         go_simp
         clear c_b12_0 c_b12_1 c_b12_2 c_b12_3 f_b12_0 f_b12_1 f_b12_2 f_b12_3
         have S21 : Hid (Sx w _ [⟨(w14.heap.size), [.bool r4_m, .slice r4_0 r4_n r4_c, .bool r4_k, .slice r4_1 r4_l r4_d]⟩, ⟨(w13.heap.size), [.bool r6_m, .slice r6_0 r6_n r6_c, .bool r6_k, .slice r6_1 r6_l r6_d]⟩, ⟨(w6.heap.size), [.bool r2_m, .slice r2_0 r2_n r2_c, .bool r2_k, .slice r2_1 r2_l r2_d]⟩, ⟨(w3.heap.size), [.bool r1_m, .slice r1_0 r1_n r1_c, .bool r1_k, .slice r1_1 r1_l r1_d]⟩, ⟨(w.heap.size + 1), [.bool m1, .slice a1 n1 c1, .bool k1, .slice b1 l1 d1]⟩, ⟨(w.heap.size), [.bool m0, .slice a0 n0 c0, .bool k0, .slice b0 l0 d0]⟩] _) := Lib.hid (Sx.set4 S20.out 1 rfl _ _ _ _)
         clear S20
         refine hK.out _ _ ⟨S21.out.b.t.t.c4, S21.out.b.t.t.t.c4⟩ (fun h2 => ?_)
         clear hK K hH; have hH := h2; clear h2; try simp only [nrm]
         refine anyH_world (fun w18 hW => ?_)
         rw [← hW] at S21 hH
         clear hW
         refine wpAnyH_done (by kernel_rfl) ?_ _
         clear hH
         go_wp2_with fail
         go_meet
         case rel => exact ⟨_, _, _, _, _, _, _, _, _, _, _, _, _, _, _, _, _, _, _, _, _, _, _, _, _, _, _, _, _, _, _, _, _, _, rfl, rfl, S21.out.swap⟩
      ·go_simp
       have S16 := Lib.hid (S15.out.var (w12.heap.size) [.bool false, .slice none 0 0, .bool false, .slice none 0 0] 26 (by simp))
       clear S15
       refine hK.out _ _ ⟨S16.out.b.t.c4, S16.out.b.t.t.c4⟩ (fun h2 => ?_)
       clear hK K hH; have hH := h2; clear h2; try simp only [nrm]
       refine anyH_world (fun w13 hW => ?_)
       rw [← hW] at S16 hH
       clear hW
       refine wpAnyH_ready (rs := [7, 11]) (by kernel_rfl) (by simp) (ready_cons rfl (fun K hK => ?_) (ready_cons rfl (fun K hK => ?_) (AllReadyH.nil)))
       ·go_simp
        refine (rwhole_any S16.out.n.t.t.rc.den.nx S16.out.n.t.t.rc.bd (by omega) (by omega)).mono ?_
        rintro e w14 ⟨r5_m, r5_0, r5_n, r5_c, r5_k, r5_1, r5_l, r5_d, rfl, hX, hB⟩
        have S17 := Lib.hid (((S16.out.step hB).rc hX rfl))
        clear S16 hX hB
        go_wp2_with fail
        refine hK.out _ _ ⟨S17.out.b.t.c4, S17.out.b.t.t.c4⟩ (fun h2 => ?_)
        clear hK K hH; have hH := h2; clear h2; try simp only [nrm]
        refine wpAnyH_ready (rs := [9, 11]) (by kernel_rfl) (by simp) (ready_cons rfl (fun K hK => ?_) (ready_cons rfl (fun K hK => ?_) (AllReadyH.nil)))
        ·go_simp
         refine (rmul_any S17.out.n.rc.rx S17.out.n.t.t.t.t.rc.rx (by omega) (by omega) (by omega)).mono ?_
         rintro e w15 ⟨r6_m, r6_0, r6_n, r6_c, r6_k, r6_1, r6_l, r6_d, rfl, hX, hB⟩
         have S18 := Lib.hid (((S17.out.step hB).rc hX rfl))
         clear S17 hX hB
         go_wp2_with fail
         refine hK.out _ _ ⟨S18.out.b.t.c4, S18.out.b.t.t.c4⟩ (fun h2 => ?_)
         clear hK K hH; have hH := h2; clear h2; try simp only [nrm]
         refine step_one 11 rfl (by kernel_rfl) (fun K hK => ?_)
         go_simp
         have S19 := Lib.hid (S18.out.var (w15.heap.size) [.bool false, .slice none 0 0, .bool false, .slice none 0 0] 26 (by simp))
         clear S18
         refine hK.out _ _ ⟨S19.out.b.t.t.c4, S19.out.b.t.t.t.c4⟩ (fun h2 => ?_)
         clear hK K hH; have hH := h2; clear h2; try simp only [nrm]
         refine anyH_world (fun w16 hW => ?_)
         rw [← hW] at S19 hH
         clear hW
         refine step_one 12 rfl (by kernel_rfl) (fun K hK => ?_)
         obtain ⟨c_b11_0, c_b11_1, c_b11_2, c_b11_3⟩ := S19.out.b.t.c4
         obtain ⟨f_b11_0, f_b11_1, f_b11_2, f_b11_3⟩ := S19.out.b.t.f4
         go_simp
         clear c_b11_0 c_b11_1 c_b11_2 c_b11_3 f_b11_0 f_b11_1 f_b11_2 f_b11_3
         have S20 : Hid (Sx w _ [⟨(w15.heap.size), [.bool false, .slice none 0 0, .bool false, .slice none 0 0]⟩, ⟨(w12.heap.size), [.bool r4_m, .slice r4_0 r4_n r4_c, .bool r4_k, .slice r4_1 r4_l r4_d]⟩, ⟨(w6.heap.size), [.bool r2_m, .slice r2_0 r2_n r2_c, .bool r2_k, .slice r2_1 r2_l r2_d]⟩, ⟨(w3.heap.size), [.bool r1_m, .slice r1_0 r1_n r1_c, .bool r1_k, .slice r1_1 r1_l r1_d]⟩, ⟨(w.heap.size + 1), [.bool m1, .slice a1 n1 c1, .bool k1, .slice b1 l1 d1]⟩, ⟨(w.heap.size), [.bool m0, .slice a0 n0 c0, .bool k0, .slice b0 l0 d0]⟩] _) := Lib.hid (Sx.set4 S19.out 1 rfl _ _ _ _)
         clear S19
         refine hK.out _ _ ⟨S20.out.b.t.t.c4, S20.out.b.t.t.t.c4⟩ (fun h2 => ?_)
         clear hK K hH; have hH := h2; clear h2; try simp only [nrm]
         refine anyH_world (fun w17 hW => ?_)
         rw [← hW] at S20 hH
         clear hW
         refine step_one 13 rfl (by kernel_rfl) (fun K hK => ?_)
         obtain ⟨c_b12_0, c_b12_1, c_b12_2, c_b12_3⟩ := S20.out.b.c4
         obtain ⟨f_b12_0, f_b12_1, f_b12_2, f_b12_3⟩ := S20.out.b.f4
         go_simp
         clear c_b12_0 c_b12_1 c_b12_2 c_b12_3 f_b12_0 f_b12_1 f_b12_2 f_b12_3
         have S21 : Hid (Sx w _ [⟨(w15.heap.size), [.bool r6_m, .slice r6_0 r6_n r6_c, .bool r6_k, .slice r6_1 r6_l r6_d]⟩, ⟨(w12.heap.size), [.bool r4_m, .slice r4_0 r4_n r4_c, .bool r4_k, .slice r4_1 r4_l r4_d]⟩, ⟨(w6.heap.size), [.bool r2_m, .slice r2_0 r2_n r2_c, .bool r2_k, .slice r2_1 r2_l r2_d]⟩, ⟨(w3.heap.size), [.bool r1_m, .slice r1_0 r1_n r1_c, .bool r1_k, .slice r1_1 r1_l r1_d]⟩, ⟨(w.heap.size + 1), [.bool m1, .slice a1 n1 c1, .bool k1, .slice b1 l1 d1]⟩, ⟨(w.heap.size), [.bool m0, .slice a0 n0 c0, .bool k0, .slice b0 l0 d0]⟩] _) := Lib.hid (Sx.set4 S20.out 0 rfl _ _ _ _)
         clear S20
         refine hK.out _ _ ⟨S21.out.b.t.t.c4, S21.out.b.t.t.t.c4⟩ (fun h2 => ?_)
         clear hK K hH; have hH := h2; clear h2; try simp only [nrm]
         refine anyH_world (fun w18 hW => ?_)
         rw [← hW] at S21 hH
         clear hW
         refine wpAnyH_done (by kernel_rfl) ?_ _
         clear hH
         go_wp2_with fail
         go_meet
         case rel => exact ⟨_, _, _, _, _, _, _, _, _, _, _, _, _, _, _, _, _, _, _, _, _, _, _, _, _, _, _, _, _, _, _, _, _, _, rfl, rfl, S21.out⟩
        ·go_simp
         have S18 := Lib.hid (S17.out.var (w14.heap.size) [.bool false, .slice none 0 0, .bool false, .slice none 0 0] 26 (by simp))
         clear S17
         refine hK.out _ _ ⟨S18.out.b.t.t.c4, S18.out.b.t.t.t.c4⟩ (fun h2 => ?_)
         clear hK K hH; have hH := h2; clear h2; try simp only [nrm]
         refine anyH_world (fun w15 hW => ?_)
         rw [← hW] at S18 hH
         clear hW
         refine step_one 9 rfl (by kernel_rfl) (fun K hK => ?_)
         go_simp
         refine (rmul_any S18.out.n.rc.rx S18.out.n.t.t.t.t.rc.rx (by omega) (by omega) (by omega)).mono ?_
         rintro e w16 ⟨r6_m, r6_0, r6_n, r6_c, r6_k, r6_1, r6_l, r6_d, rfl, hX, hB⟩
         have S19 := Lib.hid (((S18.out.step hB).rc hX rfl))
         clear S18 hX hB
         go_wp2_with fail
         refine hK.out _ _ ⟨S19.out.b.t.t.c4, S19.out.b.t.t.t.c4⟩ (fun h2 => ?_)
         clear hK K hH; have hH := h2; clear h2; try simp only [nrm]
         refine step_one 12 rfl (by kernel_rfl) (fun K hK => ?_)
         obtain ⟨c_b11_0, c_b11_1, c_b11_2, c_b11_3⟩ := S19.out.b.t.c4
         obtain ⟨f_b11_0, f_b11_1, f_b11_2, f_b11_3⟩ := S19.out.b.t.f4
         go_simp
         clear c_b11_0 c_b11_1 c_b11_2 c_b11_3 f_b11_0 f_b11_1 f_b11_2 f_b11_3
         have S20 : Hid (Sx w _ [⟨(w14.heap.size), [.bool false, .slice none 0 0, .bool false, .slice none 0 0]⟩, ⟨(w12.heap.size), [.bool r4_m, .slice r4_0 r4_n r4_c, .bool r4_k, .slice r4_1 r4_l r4_d]⟩, ⟨(w6.heap.size), [.bool r2_m, .slice r2_0 r2_n r2_c, .bool r2_k, .slice r2_1 r2_l r2_d]⟩, ⟨(w3.heap.size), [.bool r1_m, .slice r1_0 r1_n r1_c, .bool r1_k, .slice r1_1 r1_l r1_d]⟩, ⟨(w.heap.size + 1), [.bool m1, .slice a1 n1 c1, .bool k1, .slice b1 l1 d1]⟩, ⟨(w.heap.size), [.bool m0, .slice a0 n0 c0, .bool k0, .slice b0 l0 d0]⟩] _) := Lib.hid (Sx.set4 S19.out 1 rfl _ _ _ _)
         clear S19
         refine hK.out _ _ ⟨S20.out.b.t.t.c4, S20.out.b.t.t.t.c4⟩ (fun h2 => ?_)
         clear hK K hH; have hH := h2; clear h2; try simp only [nrm]
         refine anyH_world (fun w17 hW => ?_)
         rw [← hW] at S20 hH
         clear hW
         refine step_one 13 rfl (by kernel_rfl) (fun K hK => ?_)
         obtain ⟨c_b12_0, c_b12_1, c_b12_2, c_b12_3⟩ := S20.out.b.c4
         obtain ⟨f_b12_0, f_b12_1, f_b12_2, f_b12_3⟩ := S20.out.b.f4
         go_simp
         clear c_b12_0 c_b12_1 c_b12_2 c_b12_3 f_b12_0 f_b12_1 f_b12_2 f_b12_3
         have S21 : Hid (Sx w _ [⟨(w14.heap.size), [.bool r6_m, .slice r6_0 r6_n r6_c, .bool r6_k, .slice r6_1 r6_l r6_d]⟩, ⟨(w12.heap.size), [.bool r4_m, .slice r4_0 r4_n r4_c, .bool r4_k, .slice r4_1 r4_l r4_d]⟩, ⟨(w6.heap.size), [.bool r2_m, .slice r2_0 r2_n r2_c, .bool r2_k, .slice r2_1 r2_l r2_d]⟩, ⟨(w3.heap.size), [.bool r1_m, .slice r1_0 r1_n r1_c, .bool r1_k, .slice r1_1 r1_l r1_d]⟩, ⟨(w.heap.size + 1), [.bool m1, .slice a1 n1 c1, .bool k1, .slice b1 l1 d1]⟩, ⟨(w.heap.size), [.bool m0, .slice a0 n0 c0, .bool k0, .slice b0 l0 d0]⟩] _) := Lib.hid (Sx.set4 S20.out 0 rfl _ _ _ _)
         clear S20
         refine hK.out _ _ ⟨S21.out.b.t.t.c4, S21.out.b.t.t.t.c4⟩ (fun h2 => ?_)
         clear hK K hH; have hH := h2; clear h2; try simp only [nrm]
         refine anyH_world (fun w18 hW => ?_)
         rw [← hW] at S21 hH
         clear hW
         refine wpAnyH_done (by kernel_rfl) ?_ _
         clear hH
         go_wp2_with fail
         go_meet
         case rel => exact ⟨_, _, _, _, _, _, _, _, _, _, _, _, _, _, _, _, _, _, _, _, _, _, _, _, _, _, _, _, _, _, _, _, _, _, rfl, rfl, S21.out⟩
       ·go_simp
        have S17 := Lib.hid (S16.out.var (w13.heap.size) [.bool false, .slice none 0 0, .bool false, .slice none 0 0] 26 (by simp))
        clear S16
        refine hK.out _ _ ⟨S17.out.b.t.t.c4, S17.out.b.t.t.t.c4⟩ (fun h2 => ?_)
        clear hK K hH; have hH := h2; clear h2; try simp only [nrm]
        refine anyH_world (fun w14 hW => ?_)
        rw [← hW] at S17 hH
        clear hW
        refine step_one 7 rfl (by kernel_rfl) (fun K hK => ?_)
        go_simp
        refine (rwhole_any S17.out.n.t.t.rc.den.nx S17.out.n.t.t.rc.bd (by omega) (by omega)).mono ?_
        rintro e w15 ⟨r5_m, r5_0, r5_n, r5_c, r5_k, r5_1, r5_l, r5_d, rfl, hX, hB⟩
        have S18 := Lib.hid (((S17.out.step hB).rc hX rfl))
        clear S17 hX hB
        go_wp2_with fail
        refine hK.out _ _ ⟨S18.out.b.t.t.c4, S18.out.b.t.t.t.c4⟩ (fun h2 => ?_)
        clear hK K hH; have hH := h2; clear h2; try simp only [nrm]
        refine step_one 9 rfl (by kernel_rfl) (fun K hK => ?_)
        go_simp
        refine (rmul_any S18.out.n.rc.rx S18.out.n.t.t.t.t.rc.rx (by omega) (by omega) (by omega)).mono ?_
        rintro e w16 ⟨r6_m, r6_0, r6_n, r6_c, r6_k, r6_1, r6_l, r6_d, rfl, hX, hB⟩
        have S19 := Lib.hid (((S18.out.step hB).rc hX rfl))
        clear S18 hX hB
        go_wp2_with fail
        refine hK.out _ _ ⟨S19.out.b.t.t.c4, S19.out.b.t.t.t.c4⟩ (fun h2 => ?_)
        clear hK K hH; have hH := h2; clear h2; try simp only [nrm]
        refine step_one 12 rfl (by kernel_rfl) (fun K hK => ?_)
        obtain ⟨c_b11_0, c_b11_1, c_b11_2, c_b11_3⟩ := S19.out.b.t.c4
        obtain ⟨f_b11_0, f_b11_1, f_b11_2, f_b11_3⟩ := S19.out.b.t.f4
        go_simp
        clear c_b11_0 c_b11_1 c_b11_2 c_b11_3 f_b11_0 f_b11_1 f_b11_2 f_b11_3
        have S20 : Hid (Sx w _ [⟨(w13.heap.size), [.bool false, .slice none 0 0, .bool false, .slice none 0 0]⟩, ⟨(w12.heap.size), [.bool r4_m, .slice r4_0 r4_n r4_c, .bool r4_k, .slice r4_1 r4_l r4_d]⟩, ⟨(w6.heap.size), [.bool r2_m, .slice r2_0 r2_n r2_c, .bool r2_k, .slice r2_1 r2_l r2_d]⟩, ⟨(w3.heap.size), [.bool r1_m, .slice r1_0 r1_n r1_c, .bool r1_k, .slice r1_1 r1_l r1_d]⟩, ⟨(w.heap.size + 1), [.bool m1, .slice a1 n1 c1, .bool k1, .slice b1 l1 d1]⟩, ⟨(w.heap.size), [.bool m0, .slice a0 n0 c0, .bool k0, .slice b0 l0 d0]⟩] _) := Lib.hid (Sx.set4 S19.out 1 rfl _ _ _ _)
        clear S19
        refine hK.out _ _ ⟨S20.out.b.t.t.c4, S20.out.b.t.t.t.c4⟩ (fun h2 => ?_)
        clear hK K hH; have hH := h2; clear h2; try simp only [nrm]
        refine anyH_world (fun w17 hW => ?_)
        rw [← hW] at S20 hH
        clear hW
        refine step_one 13 rfl (by kernel_rfl) (fun K hK => ?_)
        obtain ⟨c_b12_0, c_b12_1, c_b12_2, c_b12_3⟩ := S20.out.b.c4
        obtain ⟨f_b12_0, f_b12_1, f_b12_2, f_b12_3⟩ := S20.out.b.f4
        go_simp
        clear c_b12_0 c_b12_1 c_b12_2 c_b12_3 f_b12_0 f_b12_1 f_b12_2 f_b12_3
        have S21 : Hid (Sx w _ [⟨(w13.heap.size), [.bool r6_m, .slice r6_0 r6_n r6_c, .bool r6_k, .slice r6_1 r6_l r6_d]⟩, ⟨(w12.heap.size), [.bool r4_m, .slice r4_0 r4_n r4_c, .bool r4_k, .slice r4_1 r4_l r4_d]⟩, ⟨(w6.heap.size), [.bool r2_m, .slice r2_0 r2_n r2_c, .bool r2_k, .slice r2_1 r2_l r2_d]⟩, ⟨(w3.heap.size), [.bool r1_m, .slice r1_0 r1_n r1_c, .bool r1_k, .slice r1_1 r1_l r1_d]⟩, ⟨(w.heap.size + 1), [.bool m1, .slice a1 n1 c1, .bool k1, .slice b1 l1 d1]⟩, ⟨(w.heap.size), [.bool m0, .slice a0 n0 c0, .bool k0, .slice b0 l0 d0]⟩] _) := Lib.hid (Sx.set4 S20.out 0 rfl _ _ _ _)
        clear S20
        refine hK.out _ _ ⟨S21.out.b.t.t.c4, S21.out.b.t.t.t.c4⟩ (fun h2 => ?_)
        clear hK K hH; have hH := h2; clear h2; try simp only [nrm]
        refine anyH_world (fun w18 hW => ?_)
        rw [← hW] at S21 hH
        clear hW
        refine wpAnyH_done (by kernel_rfl) ?_ _
        clear hH
        go_wp2_with fail
        go_meet
        case rel => exact ⟨_, _, _, _, _, _, _, _, _, _, _, _, _, _, _, _, _, _, _, _, _, _, _, _, _, _, _, _, _, _, _, _, _, _, rfl, rfl, S21.out⟩
      ·go_simp
       have S16 := Lib.hid (S15.out.var (w12.heap.size) [.bool false, .slice none 0 0, .bool false, .slice none 0 0] 26 (by simp))
       clear S15
       refine hK.out _ _ ⟨S16.out.b.t.c4, S16.out.b.t.t.c4⟩ (fun h2 => ?_)
       clear hK K hH; have hH := h2; clear h2; try simp only [nrm]
       refine anyH_world (fun w13 hW => ?_)
       rw [← hW] at S16 hH
       clear hW
       refine wpAnyH_ready (rs := [7, 10]) (by kernel_rfl) (by simp) (ready_cons rfl (fun K hK => ?_) (ready_cons rfl (fun K hK => ?_) (AllReadyH.nil)))
       ·go_simp
        refine (rwhole_any S16.out.n.t.t.rc.den.nx S16.out.n.t.t.rc.bd (by omega) (by omega)).mono ?_
        rintro e w14 ⟨r5_m, r5_0, r5_n, r5_c, r5_k, r5_1, r5_l, r5_d, rfl, hX, hB⟩
        have S17 := Lib.hid (((S16.out.step hB).rc hX rfl))
        clear S16 hX hB
        go_wp2_with fail
        refine hK.out _ _ ⟨S17.out.b.t.c4, S17.out.b.t.t.c4⟩ (fun h2 => ?_)
        clear hK K hH; have hH := h2; clear h2; try simp only [nrm]
        refine wpAnyH_ready (rs := [9, 10]) (by kernel_rfl) (by simp) (ready_cons rfl (fun K hK => ?_) (ready_cons rfl (fun K hK => ?_) (AllReadyH.nil)))
        ·go_simp
         refine (rmul_any S17.out.n.rc.rx S17.out.n.t.t.t.t.rc.rx (by omega) (by omega) (by omega)).mono ?_
         rintro e w15 ⟨r6_m, r6_0, r6_n, r6_c, r6_k, r6_1, r6_l, r6_d, rfl, hX, hB⟩
         have S18 := Lib.hid (((S17.out.step hB).rc hX rfl))
         clear S17 hX hB
         go_wp2_with fail
         refine hK.out _ _ ⟨S18.out.b.t.c4, S18.out.b.t.t.c4⟩ (fun h2 => ?_)
         clear hK K hH; have hH := h2; clear h2; try simp only [nrm]
         refine step_one 10 rfl (by kernel_rfl) (fun K hK => ?_)
         go_simp
         have S19 := Lib.hid (S18.out.var (w15.heap.size) [.bool false, .slice none 0 0, .bool false, .slice none 0 0] 26 (by simp))
         clear S18
         refine hK.out _ _ ⟨S19.out.b.t.t.c4, S19.out.b.t.t.t.c4⟩ (fun h2 => ?_)
         clear hK K hH; have hH := h2; clear h2; try simp only [nrm]
         refine anyH_world (fun w16 hW => ?_)
         rw [← hW] at S19 hH
         clear hW
         refine step_one 12 rfl (by kernel_rfl) (fun K hK => ?_)
         obtain ⟨c_b11_0, c_b11_1, c_b11_2, c_b11_3⟩ := S19.out.b.c4
         obtain ⟨f_b11_0, f_b11_1, f_b11_2, f_b11_3⟩ := S19.out.b.f4
         go_simp
         clear c_b11_0 c_b11_1 c_b11_2 c_b11_3 f_b11_0 f_b11_1 f_b11_2 f_b11_3
         have S20 : Hid (Sx w _ [⟨(w15.heap.size), [.bool r4_m, .slice r4_0 r4_n r4_c, .bool r4_k, .slice r4_1 r4_l r4_d]⟩, ⟨(w12.heap.size), [.bool false, .slice none 0 0, .bool false, .slice none 0 0]⟩, ⟨(w6.heap.size), [.bool r2_m, .slice r2_0 r2_n r2_c, .bool r2_k, .slice r2_1 r2_l r2_d]⟩, ⟨(w3.heap.size), [.bool r1_m, .slice r1_0 r1_n r1_c, .bool r1_k, .slice r1_1 r1_l r1_d]⟩, ⟨(w.heap.size + 1), [.bool m1, .slice a1 n1 c1, .bool k1, .slice b1 l1 d1]⟩, ⟨(w.heap.size), [.bool m0, .slice a0 n0 c0, .bool k0, .slice b0 l0 d0]⟩] _) := Lib.hid (Sx.set4 S19.out 0 rfl _ _ _ _)
         clear S19
         refine hK.out _ _ ⟨S20.out.b.t.t.c4, S20.out.b.t.t.t.c4⟩ (fun h2 => ?_)
         clear hK K hH; have hH := h2; clear h2; try simp only [nrm]
         refine anyH_world (fun w17 hW => ?_)
         rw [← hW] at S20 hH
         clear hW
         refine step_one 13 rfl (by kernel_rfl) (fun K hK => ?_)
         obtain ⟨c_b12_0, c_b12_1, c_b12_2, c_b12_3⟩ := S20.out.b.t.c4
         obtain ⟨f_b12_0, f_b12_1, f_b12_2, f_b12_3⟩ := S20.out.b.t.f4
         go_simp
         clear c_b12_0 c_b12_1 c_b12_2 c_b12_3 f_b12_0 f_b12_1 f_b12_2 f_b12_3
         have S21 : Hid (Sx w _ [⟨(w15.heap.size), [.bool r4_m, .slice r4_0 r4_n r4_c, .bool r4_k, .slice r4_1 r4_l r4_d]⟩, ⟨(w12.heap.size), [.bool r6_m, .slice r6_0 r6_n r6_c, .bool r6_k, .slice r6_1 r6_l r6_d]⟩, ⟨(w6.heap.size), [.bool r2_m, .slice r2_0 r2_n r2_c, .bool r2_k, .slice r2_1 r2_l r2_d]⟩, ⟨(w3.heap.size), [.bool r1_m, .slice r1_0 r1_n r1_c, .bool r1_k, .slice r1_1 r1_l r1_d]⟩, ⟨(w.heap.size + 1), [.bool m1, .slice a1 n1 c1, .bool k1, .slice b1 l1 d1]⟩, ⟨(w.heap.size), [.bool m0, .slice a0 n0 c0, .bool k0, .slice b0 l0 d0]⟩] _) := Lib.hid (Sx.set4 S20.out 1 rfl _ _ _ _)
         clear S20
         refine hK.out _ _ ⟨S21.out.b.t.t.c4, S21.out.b.t.t.t.c4⟩ (fun h2 => ?_)
         clear hK K hH; have hH := h2; clear h2; try simp only [nrm]
         refine anyH_world (fun w18 hW => ?_)
         rw [← hW] at S21 hH
         clear hW
         refine wpAnyH_done (by kernel_rfl) ?_ _
         clear hH
         go_wp2_with fail
         go_meet
         case rel => exact ⟨_, _, _, _, _, _, _, _, _, _, _, _, _, _, _, _, _, _, _, _, _, _, _, _, _, _, _, _, _, _, _, _, _, _, rfl, rfl, S21.out.swap⟩
        ·go_simp
         have S18 := Lib.hid (S17.out.var (w14.heap.size) [.bool false, .slice none 0 0, .bool false, .slice none 0 0] 26 (by simp))
         clear S17
         refine hK.out _ _ ⟨S18.out.b.t.t.c4, S18.out.b.t.t.t.c4⟩ (fun h2 => ?_)
         clear hK K hH; have hH := h2; clear h2; try simp only [nrm]
         refine anyH_world (fun w15 hW => ?_)
         rw [← hW] at S18 hH
         clear hW
         refine step_one 9 rfl (by kernel_rfl) (fun K hK => ?_)
         go_simp
         refine (rmul_any S18.out.n.rc.rx S18.out.n.t.t.t.t.rc.rx (by omega) (by omega) (by omega)).mono ?_
         rintro e w16 ⟨r6_m, r6_0, r6_n, r6_c, r6_k, r6_1, r6_l, r6_d, rfl, hX, hB⟩
         have S19 := Lib.hid (((S18.out.step hB).rc hX rfl))
         clear S18 hX hB
         go_wp2_with fail
         refine hK.out _ _ ⟨S19.out.b.t.t.c4, S19.out.b.t.t.t.c4⟩ (fun h2 => ?_)
         clear hK K hH; have hH := h2; clear h2; try simp only [nrm]
         refine step_one 12 rfl (by kernel_rfl) (fun K hK => ?_)
         obtain ⟨c_b11_0, c_b11_1, c_b11_2, c_b11_3⟩ := S19.out.b.c4
         obtain ⟨f_b11_0, f_b11_1, f_b11_2, f_b11_3⟩ := S19.out.b.f4
         go_simp
         clear c_b11_0 c_b11_1 c_b11_2 c_b11_3 f_b11_0 f_b11_1 f_b11_2 f_b11_3
         have S20 : Hid (Sx w _ [⟨(w14.heap.size), [.bool r4_m, .slice r4_0 r4_n r4_c, .bool r4_k, .slice r4_1 r4_l r4_d]⟩, ⟨(w12.heap.size), [.bool false, .slice none 0 0, .bool false, .slice none 0 0]⟩, ⟨(w6.heap.size), [.bool r2_m, .slice r2_0 r2_n r2_c, .bool r2_k, .slice r2_1 r2_l r2_d]⟩, ⟨(w3.heap.size), [.bool r1_m, .slice r1_0 r1_n r1_c, .bool r1_k, .slice r1_1 r1_l r1_d]⟩, ⟨(w.heap.size + 1), [.bool m1, .slice a1 n1 c1, .bool k1, .slice b1 l1 d1]⟩, ⟨(w.heap.size), [.bool m0, .slice a0 n0 c0, .bool k0, .slice b0 l0 d0]⟩] _) := Lib.hid (Sx.set4 S19.out 0 rfl _ _ _ _)
         clear S19
         refine hK.out _ _ ⟨S20.out.b.t.t.c4, S20.out.b.t.t.t.c4⟩ (fun h2 => ?_)
         clear hK K hH; have hH := h2; clear h2; try simp only [nrm]
         refine anyH_world (fun w17 hW => ?_)
         rw [← hW] at S20 hH
         clear hW
         refine step_one 13 rfl (by kernel_rfl) (fun K hK => ?_)
         obtain ⟨c_b12_0, c_b12_1, c_b12_2, c_b12_3⟩ := S20.out.b.t.c4
         obtain ⟨f_b12_0, f_b12_1, f_b12_2, f_b12_3⟩ := S20.out.b.t.f4
         go_simp
         clear c_b12_0 c_b12_1 c_b12_2 c_b12_3 f_b12_0 f_b12_1 f_b12_2 f_b12_3
         have S21 : Hid (Sx w _ [⟨(w14.heap.size), [.bool r4_m, .slice r4_0 r4_n r4_c, .bool r4_k, .slice r4_1 r4_l r4_d]⟩, ⟨(w12.heap.size), [.bool r6_m, .slice r6_0 r6_n r6_c, .bool r6_k, .slice r6_1 r6_l r6_d]⟩, ⟨(w6.heap.size), [.bool r2_m, .slice r2_0 r2_n r2_c, .bool r2_k, .slice r2_1 r2_l r2_d]⟩, ⟨(w3.heap.size), [.bool r1_m, .slice r1_0 r1_n r1_c, .bool r1_k, .slice r1_1 r1_l r1_d]⟩, ⟨(w.heap.size + 1), [.bool m1, .slice a1 n1 c1, .bool k1, .slice b1 l1 d1]⟩, ⟨(w.heap.size), [.bool m0, .slice a0 n0 c0, .bool k0, .slice b0 l0 d0]⟩] _) := Lib.hid (Sx.set4 S20.out 1 rfl _ _ _ _)
         clear S20
         refine hK.out _ _ ⟨S21.out.b.t.t.c4, S21.out.b.t.t.t.c4⟩ (fun h2 => ?_)
         clear hK K hH; have hH := h2; clear h2; try simp only [nrm]
         refine anyH_world (fun w18 hW => ?_)
         rw [← hW] at S21 hH
         clear hW
         refine wpAnyH_done (by kernel_rfl) ?_ _
         clear hH
         go_wp2_with fail
         go_meet
         case rel => exact ⟨_, _, _, _, _, _, _, _, _, _, _, _, _, _, _, _, _, _, _, _, _, _, _, _, _, _, _, _, _, _, _, _, _, _, rfl, rfl, S21.out.swap⟩
       ·go_simp
        have S17 := Lib.hid (S16.out.var (w13.heap.size) [.bool false, .slice none 0 0, .bool false, .slice none 0 0] 26 (by simp))
        clear S16
        refine hK.out _ _ ⟨S17.out.b.t.t.c4, S17.out.b.t.t.t.c4⟩ (fun h2 => ?_)
        clear hK K hH; have hH := h2; clear h2; try simp only [nrm]
        refine anyH_world (fun w14 hW => ?_)
        rw [← hW] at S17 hH
        clear hW
        refine step_one 7 rfl (by kernel_rfl) (fun K hK => ?_)
        go_simp
        refine (rwhole_any S17.out.n.t.t.rc.den.nx S17.out.n.t.t.rc.bd (by omega) (by omega)).mono ?_
        rintro e w15 ⟨r5_m, r5_0, r5_n, r5_c, r5_k, r5_1, r5_l, r5_d, rfl, hX, hB⟩
        have S18 := Lib.hid (((S17.out.step hB).rc hX rfl))
        clear S17 hX hB
        go_wp2_with fail
        refine hK.out _ _ ⟨S18.out.b.t.t.c4, S18.out.b.t.t.t.c4⟩ (fun h2 => ?_)
        clear hK K hH; have hH := h2; clear h2; try simp only [nrm]
        refine step_one 9 rfl (by kernel_rfl) (fun K hK => ?_)
        go_simp
        refine (rmul_any S18.out.n.rc.rx S18.out.n.t.t.t.t.rc.rx (by omega) (by omega) (by omega)).mono ?_
        rintro e w16 ⟨r6_m, r6_0, r6_n, r6_c, r6_k, r6_1, r6_l, r6_d, rfl, hX, hB⟩
        have S19 := Lib.hid (((S18.out.step hB).rc hX rfl))
        clear S18 hX hB
        go_wp2_with fail
        refine hK.out _ _ ⟨S19.out.b.t.t.c4, S19.out.b.t.t.t.c4⟩ (fun h2 => ?_)
        clear hK K hH; have hH := h2; clear h2; try simp only [nrm]
        refine step_one 12 rfl (by kernel_rfl) (fun K hK => ?_)
        obtain ⟨c_b11_0, c_b11_1, c_b11_2, c_b11_3⟩ := S19.out.b.c4
        obtain ⟨f_b11_0, f_b11_1, f_b11_2, f_b11_3⟩ := S19.out.b.f4
        go_simp
        clear c_b11_0 c_b11_1 c_b11_2 c_b11_3 f_b11_0 f_b11_1 f_b11_2 f_b11_3
        have S20 : Hid (Sx w _ [⟨(w13.heap.size), [.bool r4_m, .slice r4_0 r4_n r4_c, .bool r4_k, .slice r4_1 r4_l r4_d]⟩, ⟨(w12.heap.size), [.bool false, .slice none 0 0, .bool false, .slice none 0 0]⟩, ⟨(w6.heap.size), [.bool r2_m, .slice r2_0 r2_n r2_c, .bool r2_k, .slice r2_1 r2_l r2_d]⟩, ⟨(w3.heap.size), [.bool r1_m, .slice r1_0 r1_n r1_c, .bool r1_k, .slice r1_1 r1_l r1_d]⟩, ⟨(w.heap.size + 1), [.bool m1, .slice a1 n1 c1, .bool k1, .slice b1 l1 d1]⟩, ⟨(w.heap.size), [.bool m0, .slice a0 n0 c0, .bool k0, .slice b0 l0 d0]⟩] _) := Lib.hid (Sx.set4 S19.out 0 rfl _ _ _ _)
        clear S19
        refine hK.out _ _ ⟨S20.out.b.t.t.c4, S20.out.b.t.t.t.c4⟩ (fun h2 => ?_)
        clear hK K hH; have hH := h2; clear h2; try simp only [nrm]
        refine anyH_world (fun w17 hW => ?_)
        rw [← hW] at S20 hH
        clear hW
        refine step_one 13 rfl (by kernel_rfl) (fun K hK => ?_)
        obtain ⟨c_b12_0, c_b12_1, c_b12_2, c_b12_3⟩ := S20.out.b.t.c4
        obtain ⟨f_b12_0, f_b12_1, f_b12_2, f_b12_3⟩ := S20.out.b.t.f4
        go_simp
        clear c_b12_0 c_b12_1 c_b12_2 c_b12_3 f_b12_0 f_b12_1 f_b12_2 f_b12_3
        have S21 : Hid (Sx w _ [⟨(w13.heap.size), [.bool r4_m, .slice r4_0 r4_n r4_c, .bool r4_k, .slice r4_1 r4_l r4_d]⟩, ⟨(w12.heap.size), [.bool r6_m, .slice r6_0 r6_n r6_c, .bool r6_k, .slice r6_1 r6_l r6_d]⟩, ⟨(w6.heap.size), [.bool r2_m, .slice r2_0 r2_n r2_c, .bool r2_k, .slice r2_1 r2_l r2_d]⟩, ⟨(w3.heap.size), [.bool r1_m, .slice r1_0 r1_n r1_c, .bool r1_k, .slice r1_1 r1_l r1_d]⟩, ⟨(w.heap.size + 1), [.bool m1, .slice a1 n1 c1, .bool k1, .slice b1 l1 d1]⟩, ⟨(w.heap.size), [.bool m0, .slice a0 n0 c0, .bool k0, .slice b0 l0 d0]⟩] _) := Lib.hid (Sx.set4 S20.out 1 rfl _ _ _ _)
        clear S20
        refine hK.out _ _ ⟨S21.out.b.t.t.c4, S21.out.b.t.t.t.c4⟩ (fun h2 => ?_)
        clear hK K hH; have hH := h2; clear h2; try simp only [nrm]
        refine anyH_world (fun w18 hW => ?_)
        rw [← hW] at S21 hH
        clear hW
        refine wpAnyH_done (by kernel_rfl) ?_ _
        clear hH
        go_wp2_with fail
        go_meet
        case rel => exact ⟨_, _, _, _, _, _, _, _, _, _, _, _, _, _, _, _, _, _, _, _, _, _, _, _, _, _, _, _, _, _, _, _, _, _, rfl, rfl, S21.out.swap⟩
     ·go_simp
      have S15 := Lib.hid (S14.out.var (w11.heap.size) [.bool false, .slice none 0 0, .bool false, .slice none 0 0] 26 (by simp))
      clear S14
      refine hK.out _ _ ⟨S15.out.b.t.c4, S15.out.b.t.t.c4⟩ (fun h2 => ?_)
      clear hK K hH; have hH := h2; clear h2; try simp only [nrm]
      refine anyH_world (fun w12 hW => ?_)
      rw [← hW] at S15 hH
      clear hW
      refine wpAnyH_ready (rs := [4, 11]) (by kernel_rfl) (by simp) (ready_cons rfl (fun K hK => ?_) (ready_cons rfl (fun K hK => ?_) (AllReadyH.nil)))
      ·go_simp
       refine (rmul_any S15.out.n.rc.rx S15.out.n.t.t.rc.rx (by omega) (by omega) (by omega)).mono ?_
       rintro e w13 ⟨r4_m, r4_0, r4_n, r4_c, r4_k, r4_1, r4_l, r4_d, rfl, hX, hB⟩
       have S16 := Lib.hid (((S15.out.step hB).rc hX rfl))
       clear S15 hX hB
       go_wp2_with fail
       refine hK.out _ _ ⟨S16.out.b.t.c4, S16.out.b.t.t.c4⟩ (fun h2 => ?_)
       clear hK K hH; have hH := h2; clear h2; try simp only [nrm]
       refine wpAnyH_ready (rs := [7, 11]) (by kernel_rfl) (by simp) (ready_cons rfl (fun K hK => ?_) (ready_cons rfl (fun K hK => ?_) (AllReadyH.nil)))
       ·go_simp
        refine (rwhole_any S16.out.n.t.t.rc.den.nx S16.out.n.t.t.rc.bd (by omega) (by omega)).mono ?_
        rintro e w14 ⟨r5_m, r5_0, r5_n, r5_c, r5_k, r5_1, r5_l, r5_d, rfl, hX, hB⟩
        have S17 := Lib.hid (((S16.out.step hB).rc hX rfl))
        clear S16 hX hB
        go_wp2_with fail
        refine hK.out _ _ ⟨S17.out.b.t.c4, S17.out.b.t.t.c4⟩ (fun h2 => ?_)
        clear hK K hH; have hH := h2; clear h2; try simp only [nrm]
        refine wpAnyH_ready (rs := [9, 11]) (by kernel_rfl) (by simp) (ready_cons rfl (fun K hK => ?_) (ready_cons rfl (fun K hK => ?_) (AllReadyH.nil)))
        ·go_simp
         refine (rmul_any S17.out.n.rc.rx S17.out.n.t.t.t.t.rc.rx (by omega) (by omega) (by omega)).mono ?_
         rintro e w15 ⟨r6_m, r6_0, r6_n, r6_c, r6_k, r6_1, r6_l, r6_d, rfl, hX, hB⟩
         have S18 := Lib.hid (((S17.out.step hB).rc hX rfl))
         clear S17 hX hB
         go_wp2_with fail
         refine hK.out _ _ ⟨S18.out.b.t.c4, S18.out.b.t.t.c4⟩ (fun h2 => ?_)
         clear hK K hH; have hH := h2; clear h2; try simp only [nrm]
         refine step_one 11 rfl (by kernel_rfl) (fun K hK => ?_)
         go_simp
         have S19 := Lib.hid (S18.out.var (w15.heap.size) [.bool false, .slice none 0 0, .bool false, .slice none 0 0] 26 (by simp))
         clear S18
         refine hK.out _ _ ⟨S19.out.b.t.t.c4, S19.out.b.t.t.t.c4⟩ (fun h2 => ?_)
         clear hK K hH; have hH := h2; clear h2; try simp only [nrm]
         refine anyH_world (fun w16 hW => ?_)
         rw [← hW] at S19 hH
         clear hW
         refine step_one 12 rfl (by kernel_rfl) (fun K hK => ?_)
         obtain ⟨c_b11_0, c_b11_1, c_b11_2, c_b11_3⟩ := S19.out.b.t.c4
         obtain ⟨f_b11_0, f_b11_1, f_b11_2, f_b11_3⟩ := S19.out.b.t.f4
         go_simp
         clear c_b11_0 c_b11_1 c_b11_2 c_b11_3 f_b11_0 f_b11_1 f_b11_2 f_b11_3
         have S20 : Hid (Sx w _ [⟨(w15.heap.size), [.bool false, .slice none 0 0, .bool false, .slice none 0 0]⟩, ⟨(w11.heap.size), [.bool r4_m, .slice r4_0 r4_n r4_c, .bool r4_k, .slice r4_1 r4_l r4_d]⟩, ⟨(w6.heap.size), [.bool r2_m, .slice r2_0 r2_n r2_c, .bool r2_k, .slice r2_1 r2_l r2_d]⟩, ⟨(w3.heap.size), [.bool r1_m, .slice r1_0 r1_n r1_c, .bool r1_k, .slice r1_1 r1_l r1_d]⟩, ⟨(w.heap.size + 1), [.bool m1, .slice a1 n1 c1, .bool k1, .slice b1 l1 d1]⟩, ⟨(w.heap.size), [.bool m0, .slice a0 n0 c0, .bool k0, .slice b0 l0 d0]⟩] _) := Lib.hid (Sx.set4 S19.out 1 rfl _ _ _ _)
         clear S19
         refine hK.out _ _ ⟨S20.out.b.t.t.c4, S20.out.b.t.t.t.c4⟩ (fun h2 => ?_)
         clear hK K hH; have hH := h2; clear h2; try simp only [nrm]
         refine anyH_world (fun w17 hW => ?_)
         rw [← hW] at S20 hH
         clear hW
         refine step_one 13 rfl (by kernel_rfl) (fun K hK => ?_)
         obtain ⟨c_b12_0, c_b12_1, c_b12_2, c_b12_3⟩ := S20.out.b.c4
         obtain ⟨f_b12_0, f_b12_1, f_b12_2, f_b12_3⟩ := S20.out.b.f4
         go_simp
         clear c_b12_0 c_b12_1 c_b12_2 c_b12_3 f_b12_0 f_b12_1 f_b12_2 f_b12_3
         have S21 : Hid (Sx w _ [⟨(w15.heap.size), [.bool r6_m, .slice r6_0 r6_n r6_c, .bool r6_k, .slice r6_1 r6_l r6_d]⟩, ⟨(w11.heap.size), [.bool r4_m, .slice r4_0 r4_n r4_c, .bool r4_k, .slice r4_1 r4_l r4_d]⟩, ⟨(w6.heap.size), [.bool r2_m, .slice r2_0 r2_n r2_c, .bool r2_k, .slice r2_1 r2_l r2_d]⟩, ⟨(w3.heap.size), [.bool r1_m, .slice r1_0 r1_n r1_c, .bool r1_k, .slice r1_1 r1_l r1_d]⟩, ⟨(w.heap.size + 1), [.bool m1, .slice a1 n1 c1, .bool k1, .slice b1 l1 d1]⟩, ⟨(w.heap.size), [.bool m0, .slice a0 n0 c0, .bool k0, .slice b0 l0 d0]⟩] _) := Lib.hid (Sx.set4 S20.out 0 rfl _ _ _ _)
         clear S20
         refine hK.out _ _ ⟨S21.out.b.t.t.c4, S21.out.b.t.t.t.c4⟩ (fun h2 => ?_)
         clear hK K hH; have hH := h2; clear h2; try simp only [nrm]
         refine anyH_world (fun w18 hW => ?_)
         rw [← hW] at S21 hH
         clear hW
         refine wpAnyH_done (by kernel_rfl) ?_ _
         clear hH
         go_wp2_with fail
         go_meet
         case rel => exact ⟨_, _, _, _, _, _, _, _, _, _, _, _, _, _, _, _, _, _, _, _, _, _, _, _, _, _, _, _, _, _, _, _, _, _, rfl, rfl, S21.out⟩
        ·go_simp
         have S18 := Lib.hid (S17.out.var (w14.heap.size) [.bool false, .slice none 0 0, .bool false, .slice none 0 0] 26 (by simp))
         clear S17
         refine hK.out _ _ ⟨S18.out.b.t.t.c4, S18.out.b.t.t.t.c4⟩ (fun h2 => ?_)
         clear hK K hH; have hH := h2; clear h2; try simp only [nrm]
         refine anyH_world (fun w15 hW => ?_)
         rw [← hW] at S18 hH
         clear hW
         refine step_one 9 rfl (by kernel_rfl) (fun K hK => ?_)
         go_simp
         refine (rmul_any S18.out.n.rc.rx S18.out.n.t.t.t.t.rc.rx (by omega) (by omega) (by omega)).mono ?_
         rintro e w16 ⟨r6_m, r6_0, r6_n, r6_c, r6_k, r6_1, r6_l, r6_d, rfl, hX, hB⟩
         have S19 := Lib.hid (((S18.out.step hB).rc hX rfl))
         clear S18 hX hB
         go_wp2_with fail
         refine hK.out _ _ ⟨S19.out.b.t.t.c4, S19.out.b.t.t.t.c4⟩ (fun h2 => ?_)
         clear hK K hH; have hH := h2; clear h2; try simp only [nrm]
         refine step_one 12 rfl (by kernel_rfl) (fun K hK => ?_)
         obtain ⟨c_b11_0, c_b11_1, c_b11_2, c_b11_3⟩ := S19.out.b.t.c4
         obtain ⟨f_b11_0, f_b11_1, f_b11_2, f_b11_3⟩ := S19.out.b.t.f4
         go_simp
         clear c_b11_0 c_b11_1 c_b11_2 c_b11_3 f_b11_0 f_b11_1 f_b11_2 f_b11_3
         have S20 : Hid (Sx w _ [⟨(w14.heap.size), [.bool false, .slice none 0 0, .bool false, .slice none 0 0]⟩, ⟨(w11.heap.size), [.bool r4_m, .slice r4_0 r4_n r4_c, .bool r4_k, .slice r4_1 r4_l r4_d]⟩, ⟨(w6.heap.size), [.bool r2_m, .slice r2_0 r2_n r2_c, .bool r2_k, .slice r2_1 r2_l r2_d]⟩, ⟨(w3.heap.size), [.bool r1_m, .slice r1_0 r1_n r1_c, .bool r1_k, .slice r1_1 r1_l r1_d]⟩, ⟨(w.heap.size + 1), [.bool m1, .slice a1 n1 c1, .bool k1, .slice b1 l1 d1]⟩, ⟨(w.heap.size), [.bool m0, .slice a0 n0 c0, .bool k0, .slice b0 l0 d0]⟩] _) := Lib.hid (Sx.set4 S19.out 1 rfl _ _ _ _)
         clear S19
         refine hK.out _ _ ⟨S20.out.b.t.t.c4, S20.out.b.t.t.t.c4⟩ (fun h2 => ?_)
         clear hK K hH; have hH := h2; clear h2; try simp only [nrm]
         refine anyH_world (fun w17 hW => ?_)
         rw [← hW] at S20 hH
         clear hW
         refine step_one 13 rfl (by kernel_rfl) (fun K hK => ?_)
         obtain ⟨c_b12_0, c_b12_1, c_b12_2, c_b12_3⟩ := S20.out.b.c4
         obtain ⟨f_b12_0, f_b12_1, f_b12_2, f_b12_3⟩ := S20.out.b.f4
         go_simp
         clear c_b12_0 c_b12_1 c_b12_2 c_b12_3 f_b12_0 f_b12_1 f_b12_2 f_b12_3
         have S21 : Hid (Sx w _ [⟨(w14.heap.size), [.bool r6_m, .slice r6_0 r6_n r6_c, .bool r6_k, .slice r6_1 r6_l r6_d]⟩, ⟨(w11.heap.size), [.bool r4_m, .slice r4_0 r4_n r4_c, .bool r4_k, .slice r4_1 r4_l r4_d]⟩, ⟨(w6.heap.size), [.bool r2_m, .slice r2_0 r2_n r2_c, .bool r2_k, .slice r2_1 r2_l r2_d]⟩, ⟨(w3.heap.size), [.bool r1_m, .slice r1_0 r1_n r1_c, .bool r1_k, .slice r1_1 r1_l r1_d]⟩, ⟨(w.heap.size + 1), [.bool m1, .slice a1 n1 c1, .bool k1, .slice b1 l1 d1]⟩, ⟨(w.heap.size), [.bool m0, .slice a0 n0 c0, .bool k0, .slice b0 l0 d0]⟩] _) := Lib.hid (Sx.set4 S20.out 0 rfl _ _ _ _)
         clear S20
         refine hK.out _ _ ⟨S21.out.b.t.t.c4, S21.out.b.t.t.t.c4⟩ (fun h2 => ?_)
         clear hK K hH; have hH := h2; clear h2; try simp only [nrm]
         refine anyH_world (fun w18 hW => ?_)
         rw [← hW] at S21 hH
         clear hW
         refine wpAnyH_done (by kernel_rfl) ?_ _
         clear hH
         go_wp2_with fail
         go_meet
         case rel => exact ⟨_, _, _, _, _, _, _, _, _, _, _, _, _, _, _, _, _, _, _, _, _, _, _, _, _, _, _, _, _, _, _, _, _, _, rfl, rfl, S21.out⟩
       ·go_simp
        have S17 := Lib.hid (S16.out.var (w13.heap.size) [.bool false, .slice none 0 0, .bool false, .slice none 0 0] 26 (by simp))
        clear S16
        refine hK.out _ _ ⟨S17.out.b.t.t.c4, S17.out.b.t.t.t.c4⟩ (fun h2 => ?_)
        clear hK K hH; have hH := h2; clear h2; try simp only [nrm]
        refine anyH_world (fun w14 hW => ?_)
        rw [← hW] at S17 hH
        clear hW
        refine step_one 7 rfl (by kernel_rfl) (fun K hK => ?_)
        go_simp
        refine (rwhole_any S17.out.n.t.t.rc.den.nx S17.out.n.t.t.rc.bd (by omega) (by omega)).mono ?_
        rintro e w15 ⟨r5_m, r5_0, r5_n, r5_c, r5_k, r5_1, r5_l, r5_d, rfl, hX, hB⟩
        have S18 := Lib.hid (((S17.out.step hB).rc hX rfl))
        clear S17 hX hB
        go_wp2_with fail
        refine hK.out _ _ ⟨S18.out.b.t.t.c4, S18.out.b.t.t.t.c4⟩ (fun h2 => ?_)
        clear hK K hH; have hH := h2; clear h2; try simp only [nrm]
        refine step_one 9 rfl (by kernel_rfl) (fun K hK => ?_)
        go_simp
        refine (rmul_any S18.out.n.rc.rx S18.out.n.t.t.t.t.rc.rx (by omega) (by omega) (by omega)).mono ?_
        rintro e w16 ⟨r6_m, r6_0, r6_n, r6_c, r6_k, r6_1, r6_l, r6_d, rfl, hX, hB⟩
        have S19 := Lib.hid (((S18.out.step hB).rc hX rfl))
        clear S18 hX hB
        go_wp2_with fail
        refine hK.out _ _ ⟨S19.out.b.t.t.c4, S19.out.b.t.t.t.c4⟩ (fun h2 => ?_)
        clear hK K hH; have hH := h2; clear h2; try simp only [nrm]
        refine step_one 12 rfl (by kernel_rfl) (fun K hK => ?_)
        obtain ⟨c_b11_0, c_b11_1, c_b11_2, c_b11_3⟩ := S19.out.b.t.c4
        obtain ⟨f_b11_0, f_b11_1, f_b11_2, f_b11_3⟩ := S19.out.b.t.f4
        go_simp
        clear c_b11_0 c_b11_1 c_b11_2 c_b11_3 f_b11_0 f_b11_1 f_b11_2 f_b11_3
        have S20 : Hid (Sx w _ [⟨(w13.heap.size), [.bool false, .slice none 0 0, .bool false, .slice none 0 0]⟩, ⟨(w11.heap.size), [.bool r4_m, .slice r4_0 r4_n r4_c, .bool r4_k, .slice r4_1 r4_l r4_d]⟩, ⟨(w6.heap.size), [.bool r2_m, .slice r2_0 r2_n r2_c, .bool r2_k, .slice r2_1 r2_l r2_d]⟩, ⟨(w3.heap.size), [.bool r1_m, .slice r1_0 r1_n r1_c, .bool r1_k, .slice r1_1 r1_l r1_d]⟩, ⟨(w.heap.size + 1), [.bool m1, .slice a1 n1 c1, .bool k1, .slice b1 l1 d1]⟩, ⟨(w.heap.size), [.bool m0, .slice a0 n0 c0, .bool k0, .slice b0 l0 d0]⟩] _) := Lib.hid (Sx.set4 S19.out 1 rfl _ _ _ _)
        clear S19
        refine hK.out _ _ ⟨S20.out.b.t.t.c4, S20.out.b.t.t.t.c4⟩ (fun h2 => ?_)
        clear hK K hH; have hH := h2; clear h2; try simp only [nrm]
        refine anyH_world (fun w17 hW => ?_)
        rw [← hW] at S20 hH
        clear hW
        refine step_one 13 rfl (by kernel_rfl) (fun K hK => ?_)
        obtain ⟨c_b12_0, c_b12_1, c_b12_2, c_b12_3⟩ := S20.out.b.c4
        obtain ⟨f_b12_0, f_b12_1, f_b12_2, f_b12_3⟩ := S20.out.b.f4
        go_simp
        clear c_b12_0 c_b12_1 c_b12_2 c_b12_3 f_b12_0 f_b12_1 f_b12_2 f_b12_3
        have S21 : Hid (Sx w _ [⟨(w13.heap.size), [.bool r6_m, .slice r6_0 r6_n r6_c, .bool r6_k, .slice r6_1 r6_l r6_d]⟩, ⟨(w11.heap.size), [.bool r4_m, .slice r4_0 r4_n r4_c, .bool r4_k, .slice r4_1 r4_l r4_d]⟩, ⟨(w6.heap.size), [.bool r2_m, .slice r2_0 r2_n r2_c, .bool r2_k, .slice r2_1 r2_l r2_d]⟩, ⟨(w3.heap.size), [.bool r1_m, .slice r1_0 r1_n r1_c, .bool r1_k, .slice r1_1 r1_l r1_d]⟩, ⟨(w.heap.size + 1), [.bool m1, .slice a1 n1 c1, .bool k1, .slice b1 l1 d1]⟩, ⟨(w.heap.size), [.bool m0, .slice a0 n0 c0, .bool k0, .slice b0 l0 d0]⟩] _) := Lib.hid (Sx.set4 S20.out 0 rfl _ _ _ _)
        clear S20
        refine hK.out _ _ ⟨S21.out.b.t.t.c4, S21.out.b.t.t.t.c4⟩ (fun h2 => ?_)
        clear hK K hH; have hH := h2; clear h2; try simp only [nrm]
        refine anyH_world (fun w18 hW => ?_)
        rw [← hW] at S21 hH
        clear hW
        refine wpAnyH_done (by kernel_rfl) ?_ _
        clear hH
        go_wp2_with fail
        go_meet
        case rel => exact ⟨_, _, _, _, _, _, _, _, _, _, _, _, _, _, _, _, _, _, _, _, _, _, _, _, _, _, _, _, _, _, _, _, _, _, rfl, rfl, S21.out⟩
      ·go_simp
       have S16 := Lib.hid (S15.out.var (w12.heap.size) [.bool false, .slice none 0 0, .bool false, .slice none 0 0] 26 (by simp))
       clear S15
       refine hK.out _ _ ⟨S16.out.b.t.t.c4, S16.out.b.t.t.t.c4⟩ (fun h2 => ?_)
       clear hK K hH; have hH := h2; clear h2; try simp only [nrm]
       refine anyH_world (fun w13 hW => ?_)
       rw [← hW] at S16 hH
       clear hW
       refine step_one 4 rfl (by kernel_rfl) (fun K hK => ?_)
       go_simp
       refine (rmul_any S16.out.n.rc.rx S16.out.n.t.t.rc.rx (by omega) (by omega) (by omega)).mono ?_
       rintro e w14 ⟨r4_m, r4_0, r4_n, r4_c, r4_k, r4_1, r4_l, r4_d, rfl, hX, hB⟩
       have S17 := Lib.hid (((S16.out.step hB).rc hX rfl))
       clear S16 hX hB
       go_wp2_with fail
       refine hK.out _ _ ⟨S17.out.b.t.t.c4, S17.out.b.t.t.t.c4⟩ (fun h2 => ?_)
       clear hK K hH; have hH := h2; clear h2; try simp only [nrm]
       refine step_one 7 rfl (by kernel_rfl) (fun K hK => ?_)
       go_simp
       refine (rwhole_any S17.out.n.t.t.rc.den.nx S17.out.n.t.t.rc.bd (by omega) (by omega)).mono ?_
       rintro e w15 ⟨r5_m, r5_0, r5_n, r5_c, r5_k, r5_1, r5_l, r5_d, rfl, hX, hB⟩
       have S18 := Lib.hid (((S17.out.step hB).rc hX rfl))
       clear S17 hX hB
       go_wp2_with fail
       refine hK.out _ _ ⟨S18.out.b.t.t.c4, S18.out.b.t.t.t.c4⟩ (fun h2 => ?_)
       clear hK K hH; have hH := h2; clear h2; try simp only [nrm]
       refine step_one 9 rfl (by kernel_rfl) (fun K hK => ?_)
       go_simp
       refine (rmul_any S18.out.n.rc.rx S18.out.n.t.t.t.t.rc.rx (by omega) (by omega) (by omega)).mono ?_
       rintro e w16 ⟨r6_m, r6_0, r6_n, r6_c, r6_k, r6_1, r6_l, r6_d, rfl, hX, hB⟩
       have S19 := Lib.hid (((S18.out.step hB).rc hX rfl))
       clear S18 hX hB
       go_wp2_with fail
       refine hK.out _ _ ⟨S19.out.b.t.t.c4, S19.out.b.t.t.t.c4⟩ (fun h2 => ?_)
       clear hK K hH; have hH := h2; clear h2; try simp only [nrm]
       refine step_one 12 rfl (by kernel_rfl) (fun K hK => ?_)
       obtain ⟨c_b11_0, c_b11_1, c_b11_2, c_b11_3⟩ := S19.out.b.t.c4
       obtain ⟨f_b11_0, f_b11_1, f_b11_2, f_b11_3⟩ := S19.out.b.t.f4
       go_simp
       clear c_b11_0 c_b11_1 c_b11_2 c_b11_3 f_b11_0 f_b11_1 f_b11_2 f_b11_3
       have S20 : Hid (Sx w _ [⟨(w12.heap.size), [.bool false, .slice none 0 0, .bool false, .slice none 0 0]⟩, ⟨(w11.heap.size), [.bool r4_m, .slice r4_0 r4_n r4_c, .bool r4_k, .slice r4_1 r4_l r4_d]⟩, ⟨(w6.heap.size), [.bool r2_m, .slice r2_0 r2_n r2_c, .bool r2_k, .slice r2_1 r2_l r2_d]⟩, ⟨(w3.heap.size), [.bool r1_m, .slice r1_0 r1_n r1_c, .bool r1_k, .slice r1_1 r1_l r1_d]⟩, ⟨(w.heap.size + 1), [.bool m1, .slice a1 n1 c1, .bool k1, .slice b1 l1 d1]⟩, ⟨(w.heap.size), [.bool m0, .slice a0 n0 c0, .bool k0, .slice b0 l0 d0]⟩] _) := Lib.hid (Sx.set4 S19.out 1 rfl _ _ _ _)
       clear S19
       refine hK.out _ _ ⟨S20.out.b.t.t.c4, S20.out.b.t.t.t.c4⟩ (fun h2 => ?_)
       clear hK K hH; have hH := h2; clear h2; try simp only [nrm]
       refine anyH_world (fun w17 hW => ?_)
       rw [← hW] at S20 hH
       clear hW
       refine step_one 13 rfl (by kernel_rfl) (fun K hK => ?_)
       obtain ⟨c_b12_0, c_b12_1, c_b12_2, c_b12_3⟩ := S20.out.b.c4
       obtain ⟨f_b12_0, f_b12_1, f_b12_2, f_b12_3⟩ := S20.out.b.f4
       go_simp
       clear c_b12_0 c_b12_1 c_b12_2 c_b12_3 f_b12_0 f_b12_1 f_b12_2 f_b12_3
       have S21 : Hid (Sx w _ [⟨(w12.heap.size), [.bool r6_m, .slice r6_0 r6_n r6_c, .bool r6_k, .slice r6_1 r6_l r6_d]⟩, ⟨(w11.heap.size), [.bool r4_m, .slice r4_0 r4_n r4_c, .bool r4_k, .slice r4_1 r4_l r4_d]⟩, ⟨(w6.heap.size), [.bool r2_m, .slice r2_0 r2_n r2_c, .bool r2_k, .slice r2_1 r2_l r2_d]⟩, ⟨(w3.heap.size), [.bool r1_m, .slice r1_0 r1_n r1_c, .bool r1_k, .slice r1_1 r1_l r1_d]⟩, ⟨(w.heap.size + 1), [.bool m1, .slice a1 n1 c1, .bool k1, .slice b1 l1 d1]⟩, ⟨(w.heap.size), [.bool m0, .slice a0 n0 c0, .bool k0, .slice b0 l0 d0]⟩] _) := Lib.hid (Sx.set4 S20.out 0 rfl _ _ _ _)
       clear S20
       refine hK.out _ _ ⟨S21.out.b.t.t.c4, S21.out.b.t.t.t.c4⟩ (fun h2 => ?_)
       clear hK K hH; have hH := h2; clear h2; try simp only [nrm]
       refine anyH_world (fun w18 hW => ?_)
       rw [← hW] at S21 hH
       clear hW
       refine wpAnyH_done (by kernel_rfl) ?_ _
       clear hH
       go_wp2_with fail
       go_meet
       case rel => exact ⟨_, _, _, _, _, _, _, _, _, _, _, _, _, _, _, _, _, _, _, _, _, _, _, _, _, _, _, _, _, _, _, _, _, _, rfl, rfl, S21.out⟩
     ·go_simp
      have S15 := Lib.hid (S14.out.var (w11.heap.size) [.bool false, .slice none 0 0, .bool false, .slice none 0 0] 26 (by simp))
      clear S14
      refine hK.out _ _ ⟨S15.out.b.t.c4, S15.out.b.t.t.c4⟩ (fun h2 => ?_)
      clear hK K hH; have hH := h2; clear h2; try simp only [nrm]
      refine anyH_world (fun w12 hW => ?_)
      rw [← hW] at S15 hH
      clear hW
      refine wpAnyH_ready (rs := [4, 10]) (by kernel_rfl) (by simp) (ready_cons rfl (fun K hK => ?_) (ready_cons rfl (fun K hK => ?_) (AllReadyH.nil)))
      ·go_simp
       refine (rmul_any S15.out.n.rc.rx S15.out.n.t.t.rc.rx (by omega) (by omega) (by omega)).mono ?_
       rintro e w13 ⟨r4_m, r4_0, r4_n, r4_c, r4_k, r4_1, r4_l, r4_d, rfl, hX, hB⟩
       have S16 := Lib.hid (((S15.out.step hB).rc hX rfl))
       clear S15 hX hB
       go_wp2_with fail
       refine hK.out _ _ ⟨S16.out.b.t.c4, S16.out.b.t.t.c4⟩ (fun h2 => ?_)
       clear hK K hH; have hH := h2; clear h2; try simp only [nrm]
       refine wpAnyH_ready (rs := [7, 10]) (by kernel_rfl) (by simp) (ready_cons rfl (fun K hK => ?_) (ready_cons rfl (fun K hK => ?_) (AllReadyH.nil)))
       ·go_simp
        refine (rwhole_any S16.out.n.t.t.rc.den.nx S16.out.n.t.t.rc.bd (by omega) (by omega)).mono ?_
        rintro e w14 ⟨r5_m, r5_0, r5_n, r5_c, r5_k, r5_1, r5_l, r5_d, rfl, hX, hB⟩
        have S17 := Lib.hid (((S16.out.step hB).rc hX rfl))
        clear S16 hX hB
        go_wp2_with fail
        refine hK.out _ _ ⟨S17.out.b.t.c4, S17.out.b.t.t.c4⟩ (fun h2 => ?_)
        clear hK K hH; have hH := h2; clear h2; try simp only [nrm]
        refine wpAnyH_ready (rs := [9, 10]) (by kernel_rfl) (by simp) (ready_cons rfl (fun K hK => ?_) (ready_cons rfl (fun K hK => ?_) (AllReadyH.nil)))
        ·go_simp
         refine (rmul_any S17.out.n.rc.rx S17.out.n.t.t.t.t.rc.rx (by omega) (by omega) (by omega)).mono ?_
         rintro e w15 ⟨r6_m, r6_0, r6_n, r6_c, r6_k, r6_1, r6_l, r6_d, rfl, hX, hB⟩
         have S18 := Lib.hid (((S17.out.step hB).rc hX rfl))
         clear S17 hX hB
         go_wp2_with fail
         refine hK.out _ _ ⟨S18.out.b.t.c4, S18.out.b.t.t.c4⟩ (fun h2 => ?_)
         clear hK K hH; have hH := h2; clear h2; try simp only [nrm]
         refine step_one 10 rfl (by kernel_rfl) (fun K hK => ?_)
         go_simp
         have S19 := Lib.hid (S18.out.var (w15.heap.size) [.bool false, .slice none 0 0, .bool false, .slice none 0 0] 26 (by simp))
         clear S18
         refine hK.out _ _ ⟨S19.out.b.t.t.c4, S19.out.b.t.t.t.c4⟩ (fun h2 => ?_)
         clear hK K hH; have hH := h2; clear h2; try simp only [nrm]
         refine anyH_world (fun w16 hW => ?_)
         rw [← hW] at S19 hH
         clear hW
         refine step_one 12 rfl (by kernel_rfl) (fun K hK => ?_)
         obtain ⟨c_b11_0, c_b11_1, c_b11_2, c_b11_3⟩ := S19.out.b.c4
         obtain ⟨f_b11_0, f_b11_1, f_b11_2, f_b11_3⟩ := S19.out.b.f4
         go_simp
         clear c_b11_0 c_b11_1 c_b11_2 c_b11_3 f_b11_0 f_b11_1 f_b11_2 f_b11_3
         have S20 : Hid (Sx w _ [⟨(w15.heap.size), [.bool r4_m, .slice r4_0 r4_n r4_c, .bool r4_k, .slice r4_1 r4_l r4_d]⟩, ⟨(w11.heap.size), [.bool false, .slice none 0 0, .bool false, .slice none 0 0]⟩, ⟨(w6.heap.size), [.bool r2_m, .slice r2_0 r2_n r2_c, .bool r2_k, .slice r2_1 r2_l r2_d]⟩, ⟨(w3.heap.size), [.bool r1_m, .slice r1_0 r1_n r1_c, .bool r1_k, .slice r1_1 r1_l r1_d]⟩, ⟨(w.heap.size + 1), [.bool m1, .slice a1 n1 c1, .bool k1, .slice b1 l1 d1]⟩, ⟨(w.heap.size), [.bool m0, .slice a0 n0 c0, .bool k0, .slice b0 l0 d0]⟩] _) := Lib.hid (Sx.set4 S19.out 0 rfl _ _ _ _)
         clear S19
         refine hK.out _ _ ⟨S20.out.b.t.t.c4, S20.out.b.t.t.t.c4⟩ (fun h2 => ?_)
         clear hK K hH; have hH := h2; clear h2; try simp only [nrm]
         refine anyH_world (fun w17 hW => ?_)
         rw [← hW] at S20 hH
         clear hW
         refine step_one 13 rfl (by kernel_rfl) (fun K hK => ?_)
         obtain ⟨c_b12_0, c_b12_1, c_b12_2, c_b12_3⟩ := S20.out.b.t.c4
         obtain ⟨f_b12_0, f_b12_1, f_b12_2, f_b12_3⟩ := S20.out.b.t.f4
         go_simp
         clear c_b12_0 c_b12_1 c_b12_2 c_b12_3 f_b12_0 f_b12_1 f_b12_2 f_b12_3
         have S21 : Hid (Sx w _ [⟨(w15.heap.size), [.bool r4_m, .slice r4_0 r4_n r4_c, .bool r4_k, .slice r4_1 r4_l r4_d]⟩, ⟨(w11.heap.size), [.bool r6_m, .slice r6_0 r6_n r6_c, .bool r6_k, .slice r6_1 r6_l r6_d]⟩, ⟨(w6.heap.size), [.bool r2_m, .slice r2_0 r2_n r2_c, .bool r2_k, .slice r2_1 r2_l r2_d]⟩, ⟨(w3.heap.size), [.bool r1_m, .slice r1_0 r1_n r1_c, .bool r1_k, .slice r1_1 r1_l r1_d]⟩, ⟨(w.heap.size + 1), [.bool m1, .slice a1 n1 c1, .bool k1, .slice b1 l1 d1]⟩, ⟨(w.heap.size), [.bool m0, .slice a0 n0 c0, .bool k0, .slice b0 l0 d0]⟩] _) := Lib.hid (Sx.set4 S20.out 1 rfl _ _ _ _)
         clear S20
         refine hK.out _ _ ⟨S21.out.b.t.t.c4, S21.out.b.t.t.t.c4⟩ (fun h2 => ?_)
         clear hK K hH; have hH := h2; clear h2; try simp only [nrm]
         refine anyH_world (fun w18 hW => ?_)
         rw [← hW] at S21 hH
         clear hW
         refine wpAnyH_done (by kernel_rfl) ?_ _
         clear hH
         go_wp2_with fail
         go_meet
         case rel => exact ⟨_, _, _, _, _, _, _, _, _, _, _, _, _, _, _, _, _, _, _, _, _, _, _, _, _, _, _, _, _, _, _, _, _, _, rfl, rfl, S21.out.swap⟩
        ·go_simp
         have S18 := Lib.hid (S17.out.var (w14.heap.size) [.bool false, .slice none 0 0, .bool false, .slice none 0 0] 26 (by simp))
         clear S17
         refine hK.out _ _ ⟨S18.out.b.t.t.c4, S18.out.b.t.t.t.c4⟩ (fun h2 => ?_)
         clear hK K hH; have hH := h2; clear h2; try simp only [nrm]
         refine anyH_world (fun w15 hW => ?_)
         rw [← hW] at S18 hH
         clear hW
         refine step_one 9 rfl (by kernel_rfl) (fun K hK => ?_)
         go_simp
         refine (rmul_any S18.out.n.rc.rx S18.out.n.t.t.t.t.rc.rx (by omega) (by omega) (by omega)).mono ?_
         rintro e w16 ⟨r6_m, r6_0, r6_n, r6_c, r6_k, r6_1, r6_l, r6_d, rfl, hX, hB⟩
         have S19 := Lib.hid (((S18.out.step hB).rc hX rfl))
         clear S18 hX hB
         go_wp2_with fail
         refine hK.out _ _ ⟨S19.out.b.t.t.c4, S19.out.b.t.t.t.c4⟩ (fun h2 => ?_)
         clear hK K hH; have hH := h2; clear h2; try simp only [nrm]
         refine step_one 12 rfl (by kernel_rfl) (fun K hK => ?_)
         obtain ⟨c_b11_0, c_b11_1, c_b11_2, c_b11_3⟩ := S19.out.b.c4
         obtain ⟨f_b11_0, f_b11_1, f_b11_2, f_b11_3⟩ := S19.out.b.f4
         go_simp
         clear c_b11_0 c_b11_1 c_b11_2 c_b11_3 f_b11_0 f_b11_1 f_b11_2 f_b11_3
         have S20 : Hid (Sx w _ [⟨(w14.heap.size), [.bool r4_m, .slice r4_0 r4_n r4_c, .bool r4_k, .slice r4_1 r4_l r4_d]⟩, ⟨(w11.heap.size), [.bool false, .slice none 0 0, .bool false, .slice none 0 0]⟩, ⟨(w6.heap.size), [.bool r2_m, .slice r2_0 r2_n r2_c, .bool r2_k, .slice r2_1 r2_l r2_d]⟩, ⟨(w3.heap.size), [.bool r1_m, .slice r1_0 r1_n r1_c, .bool r1_k, .slice r1_1 r1_l r1_d]⟩, ⟨(w.heap.size + 1), [.bool m1, .slice a1 n1 c1, .bool k1, .slice b1 l1 d1]⟩, ⟨(w.heap.size), [.bool m0, .slice a0 n0 c0, .bool k0, .slice b0 l0 d0]⟩] _) := Lib.hid (Sx.set4 S19.out 0 rfl _ _ _ _)
         clear S19
         refine hK.out _ _ ⟨S20.out.b.t.t.c4, S20.out.b.t.t.t.c4⟩ (fun h2 => ?_)
         clear hK K hH; have hH := h2; clear h2; try simp only [nrm]
         refine anyH_world (fun w17 hW => ?_)
         rw [← hW] at S20 hH
         clear hW
         refine step_one 13 rfl (by kernel_rfl) (fun K hK => ?_)
         obtain ⟨c_b12_0, c_b12_1, c_b12_2, c_b12_3⟩ := S20.out.b.t.c4
         obtain ⟨f_b12_0, f_b12_1, f_b12_2, f_b12_3⟩ := S20.out.b.t.f4
         go_simp
         clear c_b12_0 c_b12_1 c_b12_2 c_b12_3 f_b12_0 f_b12_1 f_b12_2 f_b12_3
         have S21 : Hid (Sx w _ [⟨(w14.heap.size), [.bool r4_m, .slice r4_0 r4_n r4_c, .bool r4_k, .slice r4_1 r4_l r4_d]⟩, ⟨(w11.heap.size), [.bool r6_m, .slice r6_0 r6_n r6_c, .bool r6_k, .slice r6_1 r6_l r6_d]⟩, ⟨(w6.heap.size), [.bool r2_m, .slice r2_0 r2_n r2_c, .bool r2_k, .slice r2_1 r2_l r2_d]⟩, ⟨(w3.heap.size), [.bool r1_m, .slice r1_0 r1_n r1_c, .bool r1_k, .slice r1_1 r1_l r1_d]⟩, ⟨(w.heap.size + 1), [.bool m1, .slice a1 n1 c1, .bool k1, .slice b1 l1 d1]⟩, ⟨(w.heap.size), [.bool m0, .slice a0 n0 c0, .bool k0, .slice b0 l0 d0]⟩] _) := Lib.hid (Sx.set4 S20.out 1 rfl _ _ _ _)
         clear S20
         refine hK.out _ _ ⟨S21.out.b.t.t.c4, S21.out.b.t.t.t.c4⟩ (fun h2 => ?_)
         clear hK K hH; have hH := h2; clear h2; try simp only [nrm]
         refine anyH_world (fun w18 hW => ?_)
         rw [← hW] at S21 hH
         clear hW
         refine wpAnyH_done (by kernel_rfl) ?_ _
         clear hH
         go_wp2_with fail
         go_meet
         case rel => exact ⟨_, _, _, _, _, _, _, _, _, _, _, _, _, _, _, _, _, _, _, _, _, _, _, _, _, _, _, _, _, _, _, _, _, _, rfl, rfl, S21.out.swap⟩
       ·go_simp
        have S17 := Lib.hid (S16.out.var (w13.heap.size) [.bool false, .slice none 0 0, .bool false, .slice none 0 0] 26 (by simp))
        clear S16
        refine hK.out _ _ ⟨S17.out.b.t.t.c4, S17.out.b.t.t.t.c4⟩ (fun h2 => ?_)
        clear hK K hH; have hH := h2; clear h2; try simp only [nrm]
        refine anyH_world (fun w14 hW => ?_)
        rw [← hW] at S17 hH
        clear hW
        refine step_one 7 rfl (by kernel_rfl) (fun K hK => ?_)
        go_simp
        refine (rwhole_any S17.out.n.t.t.rc.den.nx S17.out.n.t.t.rc.bd (by omega) (by omega)).mono ?_
        rintro e w15 ⟨r5_m, r5_0, r5_n, r5_c, r5_k, r5_1, r5_l, r5_d, rfl, hX, hB⟩
        have S18 := Lib.hid (((S17.out.step hB).rc hX rfl))
        clear S17 hX hB
        go_wp2_with fail
        refine hK.out _ _ ⟨S18.out.b.t.t.c4, S18.out.b.t.t.t.c4⟩ (fun h2 => ?_)
        clear hK K hH; have hH := h2; clear h2; try simp only [nrm]
        refine step_one 9 rfl (by kernel_rfl) (fun K hK => ?_)
        go_simp
        refine (rmul_any S18.out.n.rc.rx S18.out.n.t.t.t.t.rc.rx (by omega) (by omega) (by omega)).mono ?_
        rintro e w16 ⟨r6_m, r6_0, r6_n, r6_c, r6_k, r6_1, r6_l, r6_d, rfl, hX, hB⟩
        have S19 := Lib.hid (((S18.out.step hB).rc hX rfl))
        clear S18 hX hB
        go_wp2_with fail
        refine hK.out _ _ ⟨S19.out.b.t.t.c4, S19.out.b.t.t.t.c4⟩ (fun h2 => ?_)
        clear hK K hH; have hH := h2; clear h2; try simp only [nrm]
        refine step_one 12 rfl (by kernel_rfl) (fun K hK => ?_)
        obtain ⟨c_b11_0, c_b11_1, c_b11_2, c_b11_3⟩ := S19.out.b.c4
        obtain ⟨f_b11_0, f_b11_1, f_b11_2, f_b11_3⟩ := S19.out.b.f4
        go_simp
        clear c_b11_0 c_b11_1 c_b11_2 c_b11_3 f_b11_0 f_b11_1 f_b11_2 f_b11_3
        have S20 : Hid (Sx w _ [⟨(w13.heap.size), [.bool r4_m, .slice r4_0 r4_n r4_c, .bool r4_k, .slice r4_1 r4_l r4_d]⟩, ⟨(w11.heap.size), [.bool false, .slice none 0 0, .bool false, .slice none 0 0]⟩, ⟨(w6.heap.size), [.bool r2_m, .slice r2_0 r2_n r2_c, .bool r2_k, .slice r2_1 r2_l r2_d]⟩, ⟨(w3.heap.size), [.bool r1_m, .slice r1_0 r1_n r1_c, .bool r1_k, .slice r1_1 r1_l r1_d]⟩, ⟨(w.heap.size + 1), [.bool m1, .slice a1 n1 c1, .bool k1, .slice b1 l1 d1]⟩, ⟨(w.heap.size), [.bool m0, .slice a0 n0 c0, .bool k0, .slice b0 l0 d0]⟩] _) := Lib.hid (Sx.set4 S19.out 0 rfl _ _ _ _)
        clear S19
        refine hK.out _ _ ⟨S20.out.b.t.t.c4, S20.out.b.t.t.t.c4⟩ (fun h2 => ?_)
        clear hK K hH; have hH := h2; clear h2; try simp only [nrm]
        refine anyH_world (fun w17 hW => ?_)
        rw [← hW] at S20 hH
        clear hW
        refine step_one 13 rfl (by kernel_rfl) (fun K hK => ?_)
        obtain ⟨c_b12_0, c_b12_1, c_b12_2, c_b12_3⟩ := S20.out.b.t.c4
        obtain ⟨f_b12_0, f_b12_1, f_b12_2, f_b12_3⟩ := S20.out.b.t.f4
        go_simp
        clear c_b12_0 c_b12_1 c_b12_2 c_b12_3 f_b12_0 f_b12_1 f_b12_2 f_b12_3
        have S21 : Hid (Sx w _ [⟨(w13.heap.size), [.bool r4_m, .slice r4_0 r4_n r4_c, .bool r4_k, .slice r4_1 r4_l r4_d]⟩, ⟨(w11.heap.size), [.bool r6_m, .slice r6_0 r6_n r6_c, .bool r6_k, .slice r6_1 r6_l r6_d]⟩, ⟨(w6.heap.size), [.bool r2_m, .slice r2_0 r2_n r2_c, .bool r2_k, .slice r2_1 r2_l r2_d]⟩, ⟨(w3.heap.size), [.bool r1_m, .slice r1_0 r1_n r1_c, .bool r1_k, .slice r1_1 r1_l r1_d]⟩, ⟨(w.heap.size + 1), [.bool m1, .slice a1 n1 c1, .bool k1, .slice b1 l1 d1]⟩, ⟨(w.heap.size), [.bool m0, .slice a0 n0 c0, .bool k0, .slice b0 l0 d0]⟩] _) := Lib.hid (Sx.set4 S20.out 1 rfl _ _ _ _)
        clear S20
        refine hK.out _ _ ⟨S21.out.b.t.t.c4, S21.out.b.t.t.t.c4⟩ (fun h2 => ?_)
        clear hK K hH; have hH := h2; clear h2; try simp only [nrm]
        refine anyH_world (fun w18 hW => ?_)
        rw [← hW] at S21 hH
        clear hW
        refine wpAnyH_done (by kernel_rfl) ?_ _
        clear hH
        go_wp2_with fail
        go_meet
        case rel => exact ⟨_, _, _, _, _, _, _, _, _, _, _, _, _, _, _, _, _, _, _, _, _, _, _, _, _, _, _, _, _, _, _, _, _, _, rfl, rfl, S21.out.swap⟩
      ·go_simp
       have S16 := Lib.hid (S15.out.var (w12.heap.size) [.bool false, .slice none 0 0, .bool false, .slice none 0 0] 26 (by simp))
       clear S15
       refine hK.out _ _ ⟨S16.out.b.t.t.c4, S16.out.b.t.t.t.c4⟩ (fun h2 => ?_)
       clear hK K hH; have hH := h2; clear h2; try simp only [nrm]
       refine anyH_world (fun w13 hW => ?_)
       rw [← hW] at S16 hH
       clear hW
       refine step_one 4 rfl (by kernel_rfl) (fun K hK => ?_)
       go_simp
       refine (rmul_any S16.out.n.rc.rx S16.out.n.t.t.rc.rx (by omega) (by omega) (by omega)).mono ?_
       rintro e w14 ⟨r4_m, r4_0, r4_n, r4_c, r4_k, r4_1, r4_l, r4_d, rfl, hX, hB⟩
       have S17 := Lib.hid (((S16.out.step hB).rc hX rfl))
       clear S16 hX hB
       go_wp2_with fail
       refine hK.out _ _ ⟨S17.out.b.t.t.c4, S17.out.b.t.t.t.c4⟩ (fun h2 => ?_)
       clear hK K hH; have hH := h2; clear h2; try simp only [nrm]
       refine step_one 7 rfl (by kernel_rfl) (fun K hK => ?_)
       go_simp
       refine (rwhole_any S17.out.n.t.t.rc.den.nx S17.out.n.t.t.rc.bd (by omega) (by omega)).mono ?_
       rintro e w15 ⟨r5_m, r5_0, r5_n, r5_c, r5_k, r5_1, r5_l, r5_d, rfl, hX, hB⟩
       have S18 := Lib.hid (((S17.out.step hB).rc hX rfl))
       clear S17 hX hB
       go_wp2_with fail
       refine hK.out _ _ ⟨S18.out.b.t.t.c4, S18.out.b.t.t.t.c4⟩ (fun h2 => ?_)
       clear hK K hH; have hH := h2; clear h2; try simp only [nrm]
       refine step_one 9 rfl (by kernel_rfl) (fun K hK => ?_)
       go_simp
       refine (rmul_any S18.out.n.rc.rx S18.out.n.t.t.t.t.rc.rx (by omega) (by omega) (by omega)).mono ?_
       rintro e w16 ⟨r6_m, r6_0, r6_n, r6_c, r6_k, r6_1, r6_l, r6_d, rfl, hX, hB⟩
       have S19 := Lib.hid (((S18.out.step hB).rc hX rfl))
       clear S18 hX hB
       go_wp2_with fail
       refine hK.out _ _ ⟨S19.out.b.t.t.c4, S19.out.b.t.t.t.c4⟩ (fun h2 => ?_)
       clear hK K hH; have hH := h2; clear h2; try simp only [nrm]
       refine step_one 12 rfl (by kernel_rfl) (fun K hK => ?_)
       obtain ⟨c_b11_0, c_b11_1, c_b11_2, c_b11_3⟩ := S19.out.b.c4
       obtain ⟨f_b11_0, f_b11_1, f_b11_2, f_b11_3⟩ := S19.out.b.f4
       go_simp
       clear c_b11_0 c_b11_1 c_b11_2 c_b11_3 f_b11_0 f_b11_1 f_b11_2 f_b11_3
       have S20 : Hid (Sx w _ [⟨(w12.heap.size), [.bool r4_m, .slice r4_0 r4_n r4_c, .bool r4_k, .slice r4_1 r4_l r4_d]⟩, ⟨(w11.heap.size), [.bool false, .slice none 0 0, .bool false, .slice none 0 0]⟩, ⟨(w6.heap.size), [.bool r2_m, .slice r2_0 r2_n r2_c, .bool r2_k, .slice r2_1 r2_l r2_d]⟩, ⟨(w3.heap.size), [.bool r1_m, .slice r1_0 r1_n r1_c, .bool r1_k, .slice r1_1 r1_l r1_d]⟩, ⟨(w.heap.size + 1), [.bool m1, .slice a1 n1 c1, .bool k1, .slice b1 l1 d1]⟩, ⟨(w.heap.size), [.bool m0, .slice a0 n0 c0, .bool k0, .slice b0 l0 d0]⟩] _) := Lib.hid (Sx.set4 S19.out 0 rfl _ _ _ _)
       clear S19
       refine hK.out _ _ ⟨S20.out.b.t.t.c4, S20.out.b.t.t.t.c4⟩ (fun h2 => ?_)
       clear hK K hH; have hH := h2; clear h2; try simp only [nrm]
       refine anyH_world (fun w17 hW => ?_)
       rw [← hW] at S20 hH
       clear hW
       refine step_one 13 rfl (by kernel_rfl) (fun K hK => ?_)
       obtain ⟨c_b12_0, c_b12_1, c_b12_2, c_b12_3⟩ := S20.out.b.t.c4
       obtain ⟨f_b12_0, f_b12_1, f_b12_2, f_b12_3⟩ := S20.out.b.t.f4
       go_simp
       clear c_b12_0 c_b12_1 c_b12_2 c_b12_3 f_b12_0 f_b12_1 f_b12_2 f_b12_3
       have S21 : Hid (Sx w _ [⟨(w12.heap.size), [.bool r4_m, .slice r4_0 r4_n r4_c, .bool r4_k, .slice r4_1 r4_l r4_d]⟩, ⟨(w11.heap.size), [.bool r6_m, .slice r6_0 r6_n r6_c, .bool r6_k, .slice r6_1 r6_l r6_d]⟩, ⟨(w6.heap.size), [.bool r2_m, .slice r2_0 r2_n r2_c, .bool r2_k, .slice r2_1 r2_l r2_d]⟩, ⟨(w3.heap.size), [.bool r1_m, .slice r1_0 r1_n r1_c, .bool r1_k, .slice r1_1 r1_l r1_d]⟩, ⟨(w.heap.size + 1), [.bool m1, .slice a1 n1 c1, .bool k1, .slice b1 l1 d1]⟩, ⟨(w.heap.size), [.bool m0, .slice a0 n0 c0, .bool k0, .slice b0 l0 d0]⟩] _) := Lib.hid (Sx.set4 S20.out 1 rfl _ _ _ _)
       clear S20
       refine hK.out _ _ ⟨S21.out.b.t.t.c4, S21.out.b.t.t.t.c4⟩ (fun h2 => ?_)
       clear hK K hH; have hH := h2; clear h2; try simp only [nrm]
       refine anyH_world (fun w18 hW => ?_)
       rw [← hW] at S21 hH
       clear hW
       refine wpAnyH_done (by kernel_rfl) ?_ _
       clear hH
       go_wp2_with fail
       go_meet
       case rel => exact ⟨_, _, _, _, _, _, _, _, _, _, _, _, _, _, _, _, _, _, _, _, _, _, _, _, _, _, _, _, _, _, _, _, _, _, rfl, rfl, S21.out.swap⟩
    ·go_simp
     have S14 := Lib.hid (S13.out.var (w10.heap.size) [.bool false, .slice none 0 0, .bool false, .slice none 0 0] 26 (by simp))
     clear S13
     refine hK.out _ _ ⟨S14.out.b.t.c4, S14.out.b.t.t.c4⟩ (fun h2 => ?_)
     clear hK K hH; have hH := h2; clear h2; try simp only [nrm]
     refine anyH_world (fun w11 hW => ?_)
     rw [← hW] at S14 hH
     clear hW
     refine wpAnyH_ready (rs := [2, 11]) (by kernel_rfl) (by simp) (ready_cons rfl (fun K hK => ?_) (ready_cons rfl (fun K hK => ?_) (AllReadyH.nil)))
     ·go_simp
      refine (rwhole_any S14.out.n.rc.num.nx S14.out.n.rc.bn (by omega) (by omega)).mono ?_
      rintro e w12 ⟨r3_m, r3_0, r3_n, r3_c, r3_k, r3_1, r3_l, r3_d, rfl, hX, hB⟩
      have S15 := Lib.hid (((S14.out.step hB).rc hX rfl))
      clear S14 hX hB
      go_wp2_with fail
      refine hK.out _ _ ⟨S15.out.b.t.c4, S15.out.b.t.t.c4⟩ (fun h2 => ?_)
      clear hK K hH; have hH := h2; clear h2; try simp only [nrm]
      refine wpAnyH_ready (rs := [4, 11]) (by kernel_rfl) (by simp) (ready_cons rfl (fun K hK => ?_) (ready_cons rfl (fun K hK => ?_) (AllReadyH.nil)))
      ·go_simp
       refine (rmul_any S15.out.n.rc.rx S15.out.n.t.t.rc.rx (by omega) (by omega) (by omega)).mono ?_
       rintro e w13 ⟨r4_m, r4_0, r4_n, r4_c, r4_k, r4_1, r4_l, r4_d, rfl, hX, hB⟩
       have S16 := Lib.hid (((S15.out.step hB).rc hX rfl))
       clear S15 hX hB
       go_wp2_with fail
       refine hK.out _ _ ⟨S16.out.b.t.c4, S16.out.b.t.t.c4⟩ (fun h2 => ?_)
       clear hK K hH; have hH := h2; clear h2; try simp only [nrm]
       refine wpAnyH_ready (rs := [7, 11]) (by kernel_rfl) (by simp) (ready_cons rfl (fun K hK => ?_) (ready_cons rfl (fun K hK => ?_) (AllReadyH.nil)))
       ·go_simp
        refine (rwhole_any S16.out.n.t.t.rc.den.nx S16.out.n.t.t.rc.bd (by omega) (by omega)).mono ?_
        rintro e w14 ⟨r5_m, r5_0, r5_n, r5_c, r5_k, r5_1, r5_l, r5_d, rfl, hX, hB⟩
        have S17 := Lib.hid (((S16.out.step hB).rc hX rfl))
        clear S16 hX hB
        go_wp2_with fail
        refine hK.out _ _ ⟨S17.out.b.t.c4, S17.out.b.t.t.c4⟩ (fun h2 => ?_)
        clear hK K hH; have hH := h2; clear h2; try simp only [nrm]
        refine wpAnyH_ready (rs := [9, 11]) (by kernel_rfl) (by simp) (ready_cons rfl (fun K hK => ?_) (ready_cons rfl (fun K hK => ?_) (AllReadyH.nil)))
        ·go_simp
         refine (rmul_any S17.out.n.rc.rx S17.out.n.t.t.t.t.rc.rx (by omega) (by omega) (by omega)).mono ?_
         rintro e w15 ⟨r6_m, r6_0, r6_n, r6_c, r6_k, r6_1, r6_l, r6_d, rfl, hX, hB⟩
         have S18 := Lib.hid (((S17.out.step hB).rc hX rfl))
         clear S17 hX hB
         go_wp2_with fail
         refine hK.out _ _ ⟨S18.out.b.t.c4, S18.out.b.t.t.c4⟩ (fun h2 => ?_)
         clear hK K hH; have hH := h2; clear h2; try simp only [nrm]
         refine step_one 11 rfl (by kernel_rfl) (fun K hK => ?_)
         go_simp
         have S19 := Lib.hid (S18.out.var (w15.heap.size) [.bool false, .slice none 0 0, .bool false, .slice none 0 0] 26 (by simp))
         clear S18
         refine hK.out _ _ ⟨S19.out.b.t.t.c4, S19.out.b.t.t.t.c4⟩ (fun h2 => ?_)
         clear hK K hH; have hH := h2; clear h2; try simp only [nrm]
         refine anyH_world (fun w16 hW => ?_)
         rw [← hW] at S19 hH
         clear hW
         refine step_one 12 rfl (by kernel_rfl) (fun K hK => ?_)
         obtain ⟨c_b11_0, c_b11_1, c_b11_2, c_b11_3⟩ := S19.out.b.t.c4
         obtain ⟨f_b11_0, f_b11_1, f_b11_2, f_b11_3⟩ := S19.out.b.t.f4
         go_simp
         clear c_b11_0 c_b11_1 c_b11_2 c_b11_3 f_b11_0 f_b11_1 f_b11_2 f_b11_3
         have S20 : Hid (Sx w _ [⟨(w15.heap.size), [.bool false, .slice none 0 0, .bool false, .slice none 0 0]⟩, ⟨(w10.heap.size), [.bool r4_m, .slice r4_0 r4_n r4_c, .bool r4_k, .slice r4_1 r4_l r4_d]⟩, ⟨(w6.heap.size), [.bool r2_m, .slice r2_0 r2_n r2_c, .bool r2_k, .slice r2_1 r2_l r2_d]⟩, ⟨(w3.heap.size), [.bool r1_m, .slice r1_0 r1_n r1_c, .bool r1_k, .slice r1_1 r1_l r1_d]⟩, ⟨(w.heap.size + 1), [.bool m1, .slice a1 n1 c1, .bool k1, .slice b1 l1 d1]⟩, ⟨(w.heap.size), [.bool m0, .slice a0 n0 c0, .bool k0, .slice b0 l0 d0]⟩] _) := Lib.hid (Sx.set4 S19.out 1 rfl _ _ _ _)
         clear S19
         refine hK.out _ _ ⟨S20.out.b.t.t.c4, S20.out.b.t.t.t.c4⟩ (fun h2 => ?_)
         clear hK K hH; have hH := h2; clear h2; try simp only [nrm]
         refine anyH_world (fun w17 hW => ?_)
         rw [← hW] at S20 hH
         clear hW
         refine step_one 13 rfl (by kernel_rfl) (fun K hK => ?_)
         obtain ⟨c_b12_0, c_b12_1, c_b12_2, c_b12_3⟩ := S20.out.b.c4
         obtain ⟨f_b12_0, f_b12_1, f_b12_2, f_b12_3⟩ := S20.out.b.f4
         go_simp
         clear c_b12_0 c_b12_1 c_b12_2 c_b12_3 f_b12_0 f_b12_1 f_b12_2 f_b12_3
         have S21 : Hid (Sx w _ [⟨(w15.heap.size), [.bool r6_m, .slice r6_0 r6_n r6_c, .bool r6_k, .slice r6_1 r6_l r6_d]⟩, ⟨(w10.heap.size), [.bool r4_m, .slice r4_0 r4_n r4_c, .bool r4_k, .slice r4_1 r4_l r4_d]⟩, ⟨(w6.heap.size), [.bool r2_m, .slice r2_0 r2_n r2_c, .bool r2_k, .slice r2_1 r2_l r2_d]⟩, ⟨(w3.heap.size), [.bool r1_m, .slice r1_0 r1_n r1_c, .bool r1_k, .slice r1_1 r1_l r1_d]⟩, ⟨(w.heap.size + 1), [.bool m1, .slice a1 n1 c1, .bool k1, .slice b1 l1 d1]⟩, ⟨(w.heap.size), [.bool m0, .slice a0 n0 c0, .bool k0, .slice b0 l0 d0]⟩] _) := Lib.hid (Sx.set4 S20.out 0 rfl _ _ _ _)
         clear S20
         refine hK.out _ _ ⟨S21.out.b.t.t.c4, S21.out.b.t.t.t.c4⟩ (fun h2 => ?_)
         clear hK K hH; have hH := h2; clear h2; try simp only [nrm]
         refine anyH_world (fun w18 hW => ?_)
         rw [← hW] at S21 hH
         clear hW
         refine wpAnyH_done (by kernel_rfl) ?_ _
         clear hH
         go_wp2_with fail
         go_meet
         case rel => exact ⟨_, _, _, _, _, _, _, _, _, _, _, _, _, _, _, _, _, _, _, _, _, _, _, _, _, _, _, _, _, _, _, _, _, _, rfl, rfl, S21.out⟩
        ·go_simp
         have S18 := Lib.hid (S17.out.var (w14.heap.size) [.bool false, .slice none 0 0, .bool false, .slice none 0 0] 26 (by simp))
         clear S17
         refine hK.out _ _ ⟨S18.out.b.t.t.c4, S18.out.b.t.t.t.c4⟩ (fun h2 => ?_)
         clear hK K hH; have hH := h2; clear h2; try simp only [nrm]
         refine anyH_world (fun w15 hW => ?_)
         rw [← hW] at S18 hH
         clear hW
         refine step_one 9 rfl (by kernel_rfl) (fun K hK => ?_)
         go_simp
         refine (rmul_any S18.out.n.rc.rx S18.out.n.t.t.t.t.rc.rx (by omega) (by omega) (by omega)).mono ?_
         rintro e w16 ⟨r6_m, r6_0, r6_n, r6_c, r6_k, r6_1, r6_l, r6_d, rfl, hX, hB⟩
         have S19 := Lib.hid (((S18.out.step hB).rc hX rfl))
         clear S18 hX hB
         go_wp2_with fail
         refine hK.out _ _ ⟨S19.out.b.t.t.c4, S19.out.b.t.t.t.c4⟩ (fun h2 => ?_)
         clear hK K hH; have hH := h2; clear h2; try simp only [nrm]
         refine step_one 12 rfl (by kernel_rfl) (fun K hK => ?_)
         obtain ⟨c_b11_0, c_b11_1, c_b11_2, c_b11_3⟩ := S19.out.b.t.c4
         obtain ⟨f_b11_0, f_b11_1, f_b11_2, f_b11_3⟩ := S19.out.b.t.f4
         go_simp
         clear c_b11_0 c_b11_1 c_b11_2 c_b11_3 f_b11_0 f_b11_1 f_b11_2 f_b11_3
         have S20 : Hid (Sx w _ [⟨(w14.heap.size), [.bool false, .slice none 0 0, .bool false, .slice none 0 0]⟩, ⟨(w10.heap.size), [.bool r4_m, .slice r4_0 r4_n r4_c, .bool r4_k, .slice r4_1 r4_l r4_d]⟩, ⟨(w6.heap.size), [.bool r2_m, .slice r2_0 r2_n r2_c, .bool r2_k, .slice r2_1 r2_l r2_d]⟩, ⟨(w3.heap.size), [.bool r1_m, .slice r1_0 r1_n r1_c, .bool r1_k, .slice r1_1 r1_l r1_d]⟩, ⟨(w.heap.size + 1), [.bool m1, .slice a1 n1 c1, .bool k1, .slice b1 l1 d1]⟩, ⟨(w.heap.size), [.bool m0, .slice a0 n0 c0, .bool k0, .slice b0 l0 d0]⟩] _) := Lib.hid (Sx.set4 S19.out 1 rfl _ _ _ _)
         clear S19
         refine hK.out _ _ ⟨S20.out.b.t.t.c4, S20.out.b.t.t.t.c4⟩ (fun h2 => ?_)
         clear hK K hH; have hH := h2; clear h2; try simp only [nrm]
         refine anyH_world (fun w17 hW => ?_)
         rw [← hW] at S20 hH
         clear hW
         refine step_one 13 rfl (by kernel_rfl) (fun K hK => ?_)
         obtain ⟨c_b12_0, c_b12_1, c_b12_2, c_b12_3⟩ := S20.out.b.c4
         obtain ⟨f_b12_0, f_b12_1, f_b12_2, f_b12_3⟩ := S20.out.b.f4
         go_simp
         clear c_b12_0 c_b12_1 c_b12_2 c_b12_3 f_b12_0 f_b12_1 f_b12_2 f_b12_3
         have S21 : Hid (Sx w _ [⟨(w14.heap.size), [.bool r6_m, .slice r6_0 r6_n r6_c, .bool r6_k, .slice r6_1 r6_l r6_d]⟩, ⟨(w10.heap.size), [.bool r4_m, .slice r4_0 r4_n r4_c, .bool r4_k, .slice r4_1 r4_l r4_d]⟩, ⟨(w6.heap.size), [.bool r2_m, .slice r2_0 r2_n r2_c, .bool r2_k, .slice r2_1 r2_l r2_d]⟩, ⟨(w3.heap.size), [.bool r1_m, .slice r1_0 r1_n r1_c, .bool r1_k, .slice r1_1 r1_l r1_d]⟩, ⟨(w.heap.size + 1), [.bool m1, .slice a1 n1 c1, .bool k1, .slice b1 l1 d1]⟩, ⟨(w.heap.size), [.bool m0, .slice a0 n0 c0, .bool k0, .slice b0 l0 d0]⟩] _) := Lib.hid (Sx.set4 S20.out 0 rfl _ _ _ _)
         clear S20
         refine hK.out _ _ ⟨S21.out.b.t.t.c4, S21.out.b.t.t.t.c4⟩ (fun h2 => ?_)
         clear hK K hH; have hH := h2; clear h2; try simp only [nrm]
         refine anyH_world (fun w18 hW => ?_)
         rw [← hW] at S21 hH
         clear hW
         refine wpAnyH_done (by kernel_rfl) ?_ _
         clear hH
         go_wp2_with fail
         go_meet
         case rel => exact ⟨_, _, _, _, _, _, _, _, _, _, _, _, _, _, _, _, _, _, _, _, _, _, _, _, _, _, _, _, _, _, _, _, _, _, rfl, rfl, S21.out⟩
       ·go_simp
        have S17 := Lib.hid (S16.out.var (w13.heap.size) [.bool false, .slice none 0 0, .bool false, .slice none 0 0] 26 (by simp))
        clear S16
        refine hK.out _ _ ⟨S17.out.b.t.t.c4, S17.out.b.t.t.t.c4⟩ (fun h2 => ?_)
        clear hK K hH; have hH := h2; clear h2; try simp only [nrm]
        refine anyH_world (fun w14 hW => ?_)
        rw [← hW] at S17 hH
        clear hW
        refine step_one 7 rfl (by kernel_rfl) (fun K hK => ?_)
        go_simp
        refine (rwhole_any S17.out.n.t.t.rc.den.nx S17.out.n.t.t.rc.bd (by omega) (by omega)).mono ?_
        rintro e w15 ⟨r5_m, r5_0, r5_n, r5_c, r5_k, r5_1, r5_l, r5_d, rfl, hX, hB⟩
        have S18 := Lib.hid (((S17.out.step hB).rc hX rfl))
        clear S17 hX hB
        go_wp2_with fail
        refine hK.out _ _ ⟨S18.out.b.t.t.c4, S18.out.b.t.t.t.c4⟩ (fun h2 => ?_)
        clear hK K hH; have hH := h2; clear h2; try simp only [nrm]
        refine step_one 9 rfl (by kernel_rfl) (fun K hK => ?_)
        go_simp
        refine (rmul_any S18.out.n.rc.rx S18.out.n.t.t.t.t.rc.rx (by omega) (by omega) (by omega)).mono ?_
        rintro e w16 ⟨r6_m, r6_0, r6_n, r6_c, r6_k, r6_1, r6_l, r6_d, rfl, hX, hB⟩
        have S19 := Lib.hid (((S18.out.step hB).rc hX rfl))
        clear S18 hX hB
        go_wp2_with fail
        refine hK.out _ _ ⟨S19.out.b.t.t.c4, S19.out.b.t.t.t.c4⟩ (fun h2 => ?_)
        clear hK K hH; have hH := h2; clear h2; try simp only [nrm]
        refine step_one 12 rfl (by kernel_rfl) (fun K hK => ?_)
        obtain ⟨c_b11_0, c_b11_1, c_b11_2, c_b11_3⟩ := S19.out.b.t.c4
        obtain ⟨f_b11_0, f_b11_1, f_b11_2, f_b11_3⟩ := S19.out.b.t.f4
        go_simp
        clear c_b11_0 c_b11_1 c_b11_2 c_b11_3 f_b11_0 f_b11_1 f_b11_2 f_b11_3
        have S20 : Hid (Sx w _ [⟨(w13.heap.size), [.bool false, .slice none 0 0, .bool false, .slice none 0 0]⟩, ⟨(w10.heap.size), [.bool r4_m, .slice r4_0 r4_n r4_c, .bool r4_k, .slice r4_1 r4_l r4_d]⟩, ⟨(w6.heap.size), [.bool r2_m, .slice r2_0 r2_n r2_c, .bool r2_k, .slice r2_1 r2_l r2_d]⟩, ⟨(w3.heap.size), [.bool r1_m, .slice r1_0 r1_n r1_c, .bool r1_k, .slice r1_1 r1_l r1_d]⟩, ⟨(w.heap.size + 1), [.bool m1, .slice a1 n1 c1, .bool k1, .slice b1 l1 d1]⟩, ⟨(w.heap.size), [.bool m0, .slice a0 n0 c0, .bool k0, .slice b0 l0 d0]⟩] _) := Lib.hid (Sx.set4 S19.out 1 rfl _ _ _ _)
        clear S19
        refine hK.out _ _ ⟨S20.out.b.t.t.c4, S20.out.b.t.t.t.c4⟩ (fun h2 => ?_)
        clear hK K hH; have hH := h2; clear h2; try simp only [nrm]
        refine anyH_world (fun w17 hW => ?_)
        rw [← hW] at S20 hH
        clear hW
        refine step_one 13 rfl (by kernel_rfl) (fun K hK => ?_)
        obtain ⟨c_b12_0, c_b12_1, c_b12_2, c_b12_3⟩ := S20.out.b.c4
        obtain ⟨f_b12_0, f_b12_1, f_b12_2, f_b12_3⟩ := S20.out.b.f4
        go_simp
        clear c_b12_0 c_b12_1 c_b12_2 c_b12_3 f_b12_0 f_b12_1 f_b12_2 f_b12_3
        have S21 : Hid (Sx w _ [⟨(w13.heap.size), [.bool r6_m, .slice r6_0 r6_n r6_c, .bool r6_k, .slice r6_1 r6_l r6_d]⟩, ⟨(w10.heap.size), [.bool r4_m, .slice r4_0 r4_n r4_c, .bool r4_k, .slice r4_1 r4_l r4_d]⟩, ⟨(w6.heap.size), [.bool r2_m, .slice r2_0 r2_n r2_c, .bool r2_k, .slice r2_1 r2_l r2_d]⟩, ⟨(w3.heap.size), [.bool r1_m, .slice r1_0 r1_n r1_c, .bool r1_k, .slice r1_1 r1_l r1_d]⟩, ⟨(w.heap.size + 1), [.bool m1, .slice a1 n1 c1, .bool k1, .slice b1 l1 d1]⟩, ⟨(w.heap.size), [.bool m0, .slice a0 n0 c0, .bool k0, .slice b0 l0 d0]⟩] _) := Lib.hid (Sx.set4 S20.out 0 rfl _ _ _ _)
        clear S20
        refine hK.out _ _ ⟨S21.out.b.t.t.c4, S21.out.b.t.t.t.c4⟩ (fun h2 => ?_)
        clear hK K hH; have hH := h2; clear h2; try simp only [nrm]
        refine anyH_world (fun w18 hW => ?_)
        rw [← hW] at S21 hH
        clear hW
        refine wpAnyH_done (by kernel_rfl) ?_ _
        clear hH
        go_wp2_with fail
        go_meet
        case rel => exact ⟨_, _, _, _, _, _, _, _, _, _, _, _, _, _, _, _, _, _, _, _, _, _, _, _, _, _, _, _, _, _, _, _, _, _, rfl, rfl, S21.out⟩
      ·go_simp
       have S16 := Lib.hid (S15.out.var (w12.heap.size) [.bool false, .slice none 0 0, .bool false, .slice none 0 0] 26 (by simp))
       clear S15
       refine hK.out _ _ ⟨S16.out.b.t.t.c4, S16.out.b.t.t.t.c4⟩ (fun h2 => ?_)
       clear hK K hH; have hH := h2; clear h2; try simp only [nrm]
       refine anyH_world (fun w13 hW => ?_)
       rw [← hW] at S16 hH
       clear hW
       refine step_one 4 rfl (by kernel_rfl) (fun K hK => ?_)
       go_simp
       refine (rmul_any S16.out.n.rc.rx S16.out.n.t.t.rc.rx (by omega) (by omega) (by omega)).mono ?_
       rintro e w14 ⟨r4_m, r4_0, r4_n, r4_c, r4_k, r4_1, r4_l, r4_d, rfl, hX, hB⟩
       have S17 := Lib.hid (((S16.out.step hB).rc hX rfl))
       clear S16 hX hB
       go_wp2_with fail
       refine hK.out _ _ ⟨S17.out.b.t.t.c4, S17.out.b.t.t.t.c4⟩ (fun h2 => ?_)
       clear hK K hH; have hH := h2; clear h2; try simp only [nrm]
       refine step_one 7 rfl (by kernel_rfl) (fun K hK => ?_)
       go_simp
       refine (rwhole_any S17.out.n.t.t.rc.den.nx S17.out.n.t.t.rc.bd (by omega) (by omega)).mono ?_
       rintro e w15 ⟨r5_m, r5_0, r5_n, r5_c, r5_k, r5_1, r5_l, r5_d, rfl, hX, hB⟩
       have S18 := Lib.hid (((S17.out.step hB).rc hX rfl))
       clear S17 hX hB
       go_wp2_with fail
       refine hK.out _ _ ⟨S18.out.b.t.t.c4, S18.out.b.t.t.t.c4⟩ (fun h2 => ?_)
       clear hK K hH; have hH := h2; clear h2; try simp only [nrm]
       refine step_one 9 rfl (by kernel_rfl) (fun K hK => ?_)
       go_simp
       refine (rmul_any S18.out.n.rc.rx S18.out.n.t.t.t.t.rc.rx (by omega) (by omega) (by omega)).mono ?_
       rintro e w16 ⟨r6_m, r6_0, r6_n, r6_c, r6_k, r6_1, r6_l, r6_d, rfl, hX, hB⟩
       have S19 := Lib.hid (((S18.out.step hB).rc hX rfl))
       clear S18 hX hB
       go_wp2_with fail
       refine hK.out _ _ ⟨S19.out.b.t.t.c4, S19.out.b.t.t.t.c4⟩ (fun h2 => ?_)
       clear hK K hH; have hH := h2; clear h2; try simp only [nrm]
       refine step_one 12 rfl (by kernel_rfl) (fun K hK => ?_)
       obtain ⟨c_b11_0, c_b11_1, c_b11_2, c_b11_3⟩ := S19.out.b.t.c4
       obtain ⟨f_b11_0, f_b11_1, f_b11_2, f_b11_3⟩ := S19.out.b.t.f4
       go_simp
       clear c_b11_0 c_b11_1 c_b11_2 c_b11_3 f_b11_0 f_b11_1 f_b11_2 f_b11_3
       have S20 : Hid (Sx w _ [⟨(w12.heap.size), [.bool false, .slice none 0 0, .bool false, .slice none 0 0]⟩, ⟨(w10.heap.size), [.bool r4_m, .slice r4_0 r4_n r4_c, .bool r4_k, .slice r4_1 r4_l r4_d]⟩, ⟨(w6.heap.size), [.bool r2_m, .slice r2_0 r2_n r2_c, .bool r2_k, .slice r2_1 r2_l r2_d]⟩, ⟨(w3.heap.size), [.bool r1_m, .slice r1_0 r1_n r1_c, .bool r1_k, .slice r1_1 r1_l r1_d]⟩, ⟨(w.heap.size + 1), [.bool m1, .slice a1 n1 c1, .bool k1, .slice b1 l1 d1]⟩, ⟨(w.heap.size), [.bool m0, .slice a0 n0 c0, .bool k0, .slice b0 l0 d0]⟩] _) := Lib.hid (Sx.set4 S19.out 1 rfl _ _ _ _)
       clear S19
       refine hK.out _ _ ⟨S20.out.b.t.t.c4, S20.out.b.t.t.t.c4⟩ (fun h2 => ?_)
       clear hK K hH; have hH := h2; clear h2; try simp only [nrm]
       refine anyH_world (fun w17 hW => ?_)
       rw [← hW] at S20 hH
       clear hW
       refine step_one 13 rfl (by kernel_rfl) (fun K hK => ?_)
       obtain ⟨c_b12_0, c_b12_1, c_b12_2, c_b12_3⟩ := S20.out.b.c4
       obtain ⟨f_b12_0, f_b12_1, f_b12_2, f_b12_3⟩ := S20.out.b.f4
       go_simp
       clear c_b12_0 c_b12_1 c_b12_2 c_b12_3 f_b12_0 f_b12_1 f_b12_2 f_b12_3
       have S21 : Hid (Sx w _ [⟨(w12.heap.size), [.bool r6_m, .slice r6_0 r6_n r6_c, .bool r6_k, .slice r6_1 r6_l r6_d]⟩, ⟨(w10.heap.size), [.bool r4_m, .slice r4_0 r4_n r4_c, .bool r4_k, .slice r4_1 r4_l r4_d]⟩, ⟨(w6.heap.size), [.bool r2_m, .slice r2_0 r2_n r2_c, .bool r2_k, .slice r2_1 r2_l r2_d]⟩, ⟨(w3.heap.size), [.bool r1_m, .slice r1_0 r1_n r1_c, .bool r1_k, .slice r1_1 r1_l r1_d]⟩, ⟨(w.heap.size + 1), [.bool m1, .slice a1 n1 c1, .bool k1, .slice b1 l1 d1]⟩, ⟨(w.heap.size), [.bool m0, .slice a0 n0 c0, .bool k0, .slice b0 l0 d0]⟩] _) := Lib.hid (Sx.set4 S20.out 0 rfl _ _ _ _)
       clear S20
       refine hK.out _ _ ⟨S21.out.b.t.t.c4, S21.out.b.t.t.t.c4⟩ (fun h2 => ?_)
       clear hK K hH; have hH := h2; clear h2; try simp only [nrm]
       refine anyH_world (fun w18 hW => ?_)
       rw [← hW] at S21 hH
       clear hW
       refine wpAnyH_done (by kernel_rfl) ?_ _
       clear hH
       go_wp2_with fail
       go_meet
       case rel => exact ⟨_, _, _, _, _, _, _, _, _, _, _, _, _, _, _, _, _, _, _, _, _, _, _, _, _, _, _, _, _, _, _, _, _, _, rfl, rfl, S21.out⟩
     ·go_simp
      have S15 := Lib.hid (S14.out.var (w11.heap.size) [.bool false, .slice none 0 0, .bool false, .slice none 0 0] 26 (by simp))
      clear S14
      refine hK.out _ _ ⟨S15.out.b.t.t.c4, S15.out.b.t.t.t.c4⟩ (fun h2 => ?_)
      clear hK K hH; have hH := h2; clear h2; try simp only [nrm]
      refine anyH_world (fun w12 hW => ?_)
      rw [← hW] at S15 hH
      clear hW
      refine step_one 2 rfl (by kernel_rfl) (fun K hK => ?_)
      go_simp
      refine (rwhole_any S15.out.n.rc.num.nx S15.out.n.rc.bn (by omega) (by omega)).mono ?_
      rintro e w13 ⟨r3_m, r3_0, r3_n, r3_c, r3_k, r3_1, r3_l, r3_d, rfl, hX, hB⟩
      have S16 := Lib.hid (((S15.out.step hB).rc hX rfl))
      clear S15 hX hB
      go_wp2_with fail
      refine hK.out _ _ ⟨S16.out.b.t.t.c4, S16.out.b.t.t.t.c4⟩ (fun h2 => ?_)
      clear hK K hH; have hH := h2; clear h2; try simp only [nrm]
      refine step_one 4 rfl (by kernel_rfl) (fun K hK => ?_)
      go_simp
      refine (rmul_any S16.out.n.rc.rx S16.out.n.t.t.rc.rx (by omega) (by omega) (by omega)).mono ?_
      rintro e w14 ⟨r4_m, r4_0, r4_n, r4_c, r4_k, r4_1, r4_l, r4_d, rfl, hX, hB⟩
      have S17 := Lib.hid (((S16.out.step hB).rc hX rfl))
      clear S16 hX hB
      go_wp2_with fail
      refine hK.out _ _ ⟨S17.out.b.t.t.c4, S17.out.b.t.t.t.c4⟩ (fun h2 => ?_)
      clear hK K hH; have hH := h2; clear h2; try simp only [nrm]
      refine step_one 7 rfl (by kernel_rfl) (fun K hK => ?_)
      go_simp
      refine (rwhole_any S17.out.n.t.t.rc.den.nx S17.out.n.t.t.rc.bd (by omega) (by omega)).mono ?_
      rintro e w15 ⟨r5_m, r5_0, r5_n, r5_c, r5_k, r5_1, r5_l, r5_d, rfl, hX, hB⟩
      have S18 := Lib.hid (((S17.out.step hB).rc hX rfl))
      clear S17 hX hB
      go_wp2_with fail
      refine hK.out _ _ ⟨S18.out.b.t.t.c4, S18.out.b.t.t.t.c4⟩ (fun h2 => ?_)
      clear hK K hH; have hH := h2; clear h2; try simp only [nrm]
      refine step_one 9 rfl (by kernel_rfl) (fun K hK => ?_)
      go_simp
      refine (rmul_any S18.out.n.rc.rx S18.out.n.t.t.t.t.rc.rx (by omega) (by omega) (by omega)).mono ?_
      rintro e w16 ⟨r6_m, r6_0, r6_n, r6_c, r6_k, r6_1, r6_l, r6_d, rfl, hX, hB⟩
      have S19 := Lib.hid (((S18.out.step hB).rc hX rfl))
      clear S18 hX hB
      go_wp2_with fail
      refine hK.out _ _ ⟨S19.out.b.t.t.c4, S19.out.b.t.t.t.c4⟩ (fun h2 => ?_)
      clear hK K hH; have hH := h2; clear h2; try simp only [nrm]
      refine step_one 12 rfl (by kernel_rfl) (fun K hK => ?_)
      obtain ⟨c_b11_0, c_b11_1, c_b11_2, c_b11_3⟩ := S19.out.b.t.c4
      obtain ⟨f_b11_0, f_b11_1, f_b11_2, f_b11_3⟩ := S19.out.b.t.f4
      go_simp
      clear c_b11_0 c_b11_1 c_b11_2 c_b11_3 f_b11_0 f_b11_1 f_b11_2 f_b11_3
      have S20 : Hid (Sx w _ [⟨(w11.heap.size), [.bool false, .slice none 0 0, .bool false, .slice none 0 0]⟩, ⟨(w10.heap.size), [.bool r4_m, .slice r4_0 r4_n r4_c, .bool r4_k, .slice r4_1 r4_l r4_d]⟩, ⟨(w6.heap.size), [.bool r2_m, .slice r2_0 r2_n r2_c, .bool r2_k, .slice r2_1 r2_l r2_d]⟩, ⟨(w3.heap.size), [.bool r1_m, .slice r1_0 r1_n r1_c, .bool r1_k, .slice r1_1 r1_l r1_d]⟩, ⟨(w.heap.size + 1), [.bool m1, .slice a1 n1 c1, .bool k1, .slice b1 l1 d1]⟩, ⟨(w.heap.size), [.bool m0, .slice a0 n0 c0, .bool k0, .slice b0 l0 d0]⟩] _) := Lib.hid (Sx.set4 S19.out 1 rfl _ _ _ _)
      clear S19
      refine hK.out _ _ ⟨S20.out.b.t.t.c4, S20.out.b.t.t.t.c4⟩ (fun h2 => ?_)
      clear hK K hH; have hH := h2; clear h2; try simp only [nrm]
      refine anyH_world (fun w17 hW => ?_)
      rw [← hW] at S20 hH
      clear hW
      refine step_one 13 rfl (by kernel_rfl) (fun K hK => ?_)
      obtain ⟨c_b12_0, c_b12_1, c_b12_2, c_b12_3⟩ := S20.out.b.c4
      obtain ⟨f_b12_0, f_b12_1, f_b12_2, f_b12_3⟩ := S20.out.b.f4
      go_simp
      clear c_b12_0 c_b12_1 c_b12_2 c_b12_3 f_b12_0 f_b12_1 f_b12_2 f_b12_3
      have S21 : Hid (Sx w _ [⟨(w11.heap.size), [.bool r6_m, .slice r6_0 r6_n r6_c, .bool r6_k, .slice r6_1 r6_l r6_d]⟩, ⟨(w10.heap.size), [.bool r4_m, .slice r4_0 r4_n r4_c, .bool r4_k, .slice r4_1 r4_l r4_d]⟩, ⟨(w6.heap.size), [.bool r2_m, .slice r2_0 r2_n r2_c, .bool r2_k, .slice r2_1 r2_l r2_d]⟩, ⟨(w3.heap.size), [.bool r1_m, .slice r1_0 r1_n r1_c, .bool r1_k, .slice r1_1 r1_l r1_d]⟩, ⟨(w.heap.size + 1), [.bool m1, .slice a1 n1 c1, .bool k1, .slice b1 l1 d1]⟩, ⟨(w.heap.size), [.bool m0, .slice a0 n0 c0, .bool k0, .slice b0 l0 d0]⟩] _) := Lib.hid (Sx.set4 S20.out 0 rfl _ _ _ _)
      clear S20
      refine hK.out _ _ ⟨S21.out.b.t.t.c4, S21.out.b.t.t.t.c4⟩ (fun h2 => ?_)
      clear hK K hH; have hH := h2; clear h2; try simp only [nrm]
      refine anyH_world (fun w18 hW => ?_)
      rw [← hW] at S21 hH
      clear hW
      refine wpAnyH_done (by kernel_rfl) ?_ _
      clear hH
      go_wp2_with fail
      go_meet
      case rel => exact ⟨_, _, _, _, _, _, _, _, _, _, _, _, _, _, _, _, _, _, _, _, _, _, _, _, _, _, _, _, _, _, _, _, _, _, rfl, rfl, S21.out⟩
    ·go_simp
     have S14 := Lib.hid (S13.out.var (w10.heap.size) [.bool false, .slice none 0 0, .bool false, .slice none 0 0] 26 (by simp))
     clear S13
     refine hK.out _ _ ⟨S14.out.b.t.c4, S14.out.b.t.t.c4⟩ (fun h2 => ?_)
     clear hK K hH; have hH := h2; clear h2; try simp only [nrm]
     refine anyH_world (fun w11 hW => ?_)
     rw [← hW] at S14 hH
     clear hW
     refine wpAnyH_ready (rs := [2, 10]) (by kernel_rfl) (by simp) (ready_cons rfl (fun K hK => ?_) (ready_cons rfl (fun K hK => ?_) (AllReadyH.nil)))
     ·go_simp
      refine (rwhole_any S14.out.n.rc.num.nx S14.out.n.rc.bn (by omega) (by omega)).mono ?_
      rintro e w12 ⟨r3_m, r3_0, r3_n, r3_c, r3_k, r3_1, r3_l, r3_d, rfl, hX, hB⟩
      have S15 := Lib.hid (((S14.out.step hB).rc hX rfl))
      clear S14 hX hB
      go_wp2_with fail
      refine hK.out _ _ ⟨S15.out.b.t.c4, S15.out.b.t.t.c4⟩ (fun h2 => ?_)
      clear hK K hH; have hH := h2; clear h2; try simp only [nrm]
      refine wpAnyH_ready (rs := [4, 10]) (by kernel_rfl) (by simp) (ready_cons rfl (fun K hK => ?_) (ready_cons rfl (fun K hK => ?_) (AllReadyH.nil)))
      ·go_simp
       refine (rmul_any S15.out.n.rc.rx S15.out.n.t.t.rc.rx (by omega) (by omega) (by omega)).mono ?_
       rintro e w13 ⟨r4_m, r4_0, r4_n, r4_c, r4_k, r4_1, r4_l, r4_d, rfl, hX, hB⟩
       have S16 := Lib.hid (((S15.out.step hB).rc hX rfl))
       clear S15 hX hB
       go_wp2_with fail
       refine hK.out _ _ ⟨S16.out.b.t.c4, S16.out.b.t.t.c4⟩ (fun h2 => ?_)
       clear hK K hH; have hH := h2; clear h2; try simp only [nrm]
       refine wpAnyH_ready (rs := [7, 10]) (by kernel_rfl) (by simp) (ready_cons rfl (fun K hK => ?_) (ready_cons rfl (fun K hK => ?_) (AllReadyH.nil)))
       ·go_simp
        refine (rwhole_any S16.out.n.t.t.rc.den.nx S16.out.n.t.t.rc.bd (by omega) (by omega)).mono ?_
        rintro e w14 ⟨r5_m, r5_0, r5_n, r5_c, r5_k, r5_1, r5_l, r5_d, rfl, hX, hB⟩
        have S17 := Lib.hid (((S16.out.step hB).rc hX rfl))
        clear S16 hX hB
        go_wp2_with fail
        refine hK.out _ _ ⟨S17.out.b.t.c4, S17.out.b.t.t.c4⟩ (fun h2 => ?_)
        clear hK K hH; have hH := h2; clear h2; try simp only [nrm]
        refine wpAnyH_ready (rs := [9, 10]) (by kernel_rfl) (by simp) (ready_cons rfl (fun K hK => ?_) (ready_cons rfl (fun K hK => ?_) (AllReadyH.nil)))
        ·go_simp
         refine (rmul_any S17.out.n.rc.rx S17.out.n.t.t.t.t.rc.rx (by omega) (by omega) (by omega)).mono ?_
         rintro e w15 ⟨r6_m, r6_0, r6_n, r6_c, r6_k, r6_1, r6_l, r6_d, rfl, hX, hB⟩
         have S18 := Lib.hid (((S17.out.step hB).rc hX rfl))
         clear S17 hX hB
         go_wp2_with fail
         refine hK.out _ _ ⟨S18.out.b.t.c4, S18.out.b.t.t.c4⟩ (fun h2 => ?_)
         clear hK K hH; have hH := h2; clear h2; try simp only [nrm]
         refine step_one 10 rfl (by kernel_rfl) (fun K hK => ?_)
         go_simp
         have S19 := Lib.hid (S18.out.var (w15.heap.size) [.bool false, .slice none 0 0, .bool false, .slice none 0 0] 26 (by simp))
         clear S18
         refine hK.out _ _ ⟨S19.out.b.t.t.c4, S19.out.b.t.t.t.c4⟩ (fun h2 => ?_)
         clear hK K hH; have hH := h2; clear h2; try simp only [nrm]
         refine anyH_world (fun w16 hW => ?_)
         rw [← hW] at S19 hH
         clear hW
         refine step_one 12 rfl (by kernel_rfl) (fun K hK => ?_)
         obtain ⟨c_b11_0, c_b11_1, c_b11_2, c_b11_3⟩ := S19.out.b.c4
         obtain ⟨f_b11_0, f_b11_1, f_b11_2, f_b11_3⟩ := S19.out.b.f4
         go_simp
         clear c_b11_0 c_b11_1 c_b11_2 c_b11_3 f_b11_0 f_b11_1 f_b11_2 f_b11_3
         have S20 : Hid (Sx w _ [⟨(w15.heap.size), [.bool r4_m, .slice r4_0 r4_n r4_c, .bool r4_k, .slice r4_1 r4_l r4_d]⟩, ⟨(w10.heap.size), [.bool false, .slice none 0 0, .bool false, .slice none 0 0]⟩, ⟨(w6.heap.size), [.bool r2_m, .slice r2_0 r2_n r2_c, .bool r2_k, .slice r2_1 r2_l r2_d]⟩, ⟨(w3.heap.size), [.bool r1_m, .slice r1_0 r1_n r1_c, .bool r1_k, .slice r1_1 r1_l r1_d]⟩, ⟨(w.heap.size + 1), [.bool m1, .slice a1 n1 c1, .bool k1, .slice b1 l1 d1]⟩, ⟨(w.heap.size), [.bool m0, .slice a0 n0 c0, .bool k0, .slice b0 l0 d0]⟩] _) := Lib.hid (Sx.set4 S19.out 0 rfl _ _ _ _)
         clear S19
         refine hK.out _ _ ⟨S20.out.b.t.t.c4, S20.out.b.t.t.t.c4⟩ (fun h2 => ?_)
         clear hK K hH; have hH := h2; clear h2; try simp only [nrm]
         refine anyH_world (fun w17 hW => ?_)
         rw [← hW] at S20 hH
         clear hW
         refine step_one 13 rfl (by kernel_rfl) (fun K hK => ?_)
         obtain ⟨c_b12_0, c_b12_1, c_b12_2, c_b12_3⟩ := S20.out.b.t.c4
         obtain ⟨f_b12_0, f_b12_1, f_b12_2, f_b12_3⟩ := S20.out.b.t.f4
         go_simp
         clear c_b12_0 c_b12_1 c_b12_2 c_b12_3 f_b12_0 f_b12_1 f_b12_2 f_b12_3
         have S21 : Hid (Sx w _ [⟨(w15.heap.size), [.bool r4_m, .slice r4_0 r4_n r4_c, .bool r4_k, .slice r4_1 r4_l r4_d]⟩, ⟨(w10.heap.size), [.bool r6_m, .slice r6_0 r6_n r6_c, .bool r6_k, .slice r6_1 r6_l r6_d]⟩, ⟨(w6.heap.size), [.bool r2_m, .slice r2_0 r2_n r2_c, .bool r2_k, .slice r2_1 r2_l r2_d]⟩, ⟨(w3.heap.size), [.bool r1_m, .slice r1_0 r1_n r1_c, .bool r1_k, .slice r1_1 r1_l r1_d]⟩, ⟨(w.heap.size + 1), [.bool m1, .slice a1 n1 c1, .bool k1, .slice b1 l1 d1]⟩, ⟨(w.heap.size), [.bool m0, .slice a0 n0 c0, .bool k0, .slice b0 l0 d0]⟩] _) := Lib.hid (Sx.set4 S20.out 1 rfl _ _ _ _)
         clear S20
         refine hK.out _ _ ⟨S21.out.b.t.t.c4, S21.out.b.t.t.t.c4⟩ (fun h2 => ?_)
         clear hK K hH; have hH := h2; clear h2; try simp only [nrm]
         refine anyH_world (fun w18 hW => ?_)
         rw [← hW] at S21 hH
         clear hW
         refine wpAnyH_done (by kernel_rfl) ?_ _
         clear hH
         go_wp2_with fail
         go_meet
         case rel => exact ⟨_, _, _, _, _, _, _, _, _, _, _, _, _, _, _, _, _, _, _, _, _, _, _, _, _, _, _, _, _, _, _, _, _, _, rfl, rfl, S21.out.swap⟩
        ·go_simp
         have S18 := Lib.hid (S17.out.var (w14.heap.size) [.bool false, .slice none 0 0, .bool false, .slice none 0 0] 26 (by simp))
         clear S17
         refine hK.out _ _ ⟨S18.out.b.t.t.c4, S18.out.b.t.t.t.c4⟩ (fun h2 => ?_)
         clear hK K hH; have hH := h2; clear h2; try simp only [nrm]
         refine anyH_world (fun w15 hW => ?_)
         rw [← hW] at S18 hH
         clear hW
         refine step_one 9 rfl (by kernel_rfl) (fun K hK => ?_)
         go_simp
         refine (rmul_any S18.out.n.rc.rx S18.out.n.t.t.t.t.rc.rx (by omega) (by omega) (by omega)).mono ?_
         rintro e w16 ⟨r6_m, r6_0, r6_n, r6_c, r6_k, r6_1, r6_l, r6_d, rfl, hX, hB⟩
         have S19 := Lib.hid (((S18.out.step hB).rc hX rfl))
         clear S18 hX hB
         go_wp2_with fail
         refine hK.out _ _ ⟨S19.out.b.t.t.c4, S19.out.b.t.t.t.c4⟩ (fun h2 => ?_)
         clear hK K hH; have hH := h2; clear h2; try simp only [nrm]
         refine step_one 12 rfl (by kernel_rfl) (fun K hK => ?_)
         obtain ⟨c_b11_0, c_b11_1, c_b11_2, c_b11_3⟩ := S19.out.b.c4
         obtain ⟨f_b11_0, f_b11_1, f_b11_2, f_b11_3⟩ := S19.out.b.f4
         go_simp
         clear c_b11_0 c_b11_1 c_b11_2 c_b11_3 f_b11_0 f_b11_1 f_b11_2 f_b11_3
         have S20 : Hid (Sx w _ [⟨(w14.heap.size), [.bool r4_m, .slice r4_0 r4_n r4_c, .bool r4_k, .slice r4_1 r4_l r4_d]⟩, ⟨(w10.heap.size), [.bool false, .slice none 0 0, .bool false, .slice none 0 0]⟩, ⟨(w6.heap.size), [.bool r2_m, .slice r2_0 r2_n r2_c, .bool r2_k, .slice r2_1 r2_l r2_d]⟩, ⟨(w3.heap.size), [.bool r1_m, .slice r1_0 r1_n r1_c, .bool r1_k, .slice r1_1 r1_l r1_d]⟩, ⟨(w.heap.size + 1), [.bool m1, .slice a1 n1 c1, .bool k1, .slice b1 l1 d1]⟩, ⟨(w.heap.size), [.bool m0, .slice a0 n0 c0, .bool k0, .slice b0 l0 d0]⟩] _) := Lib.hid (Sx.set4 S19.out 0 rfl _ _ _ _)
         clear S19
         refine hK.out _ _ ⟨S20.out.b.t.t.c4, S20.out.b.t.t.t.c4⟩ (fun h2 => ?_)
         clear hK K hH; have hH := h2; clear h2; try simp only [nrm]
         refine anyH_world (fun w17 hW => ?_)
         rw [← hW] at S20 hH
         clear hW
         refine step_one 13 rfl (by kernel_rfl) (fun K hK => ?_)
         obtain ⟨c_b12_0, c_b12_1, c_b12_2, c_b12_3⟩ := S20.out.b.t.c4
         obtain ⟨f_b12_0, f_b12_1, f_b12_2, f_b12_3⟩ := S20.out.b.t.f4
         go_simp
         clear c_b12_0 c_b12_1 c_b12_2 c_b12_3 f_b12_0 f_b12_1 f_b12_2 f_b12_3
         have S21 : Hid (Sx w _ [⟨(w14.heap.size), [.bool r4_m, .slice r4_0 r4_n r4_c, .bool r4_k, .slice r4_1 r4_l r4_d]⟩, ⟨(w10.heap.size), [.bool r6_m, .slice r6_0 r6_n r6_c, .bool r6_k, .slice r6_1 r6_l r6_d]⟩, ⟨(w6.heap.size), [.bool r2_m, .slice r2_0 r2_n r2_c, .bool r2_k, .slice r2_1 r2_l r2_d]⟩, ⟨(w3.heap.size), [.bool r1_m, .slice r1_0 r1_n r1_c, .bool r1_k, .slice r1_1 r1_l r1_d]⟩, ⟨(w.heap.size + 1), [.bool m1, .slice a1 n1 c1, .bool k1, .slice b1 l1 d1]⟩, ⟨(w.heap.size), [.bool m0, .slice a0 n0 c0, .bool k0, .slice b0 l0 d0]⟩] _) := Lib.hid (Sx.set4 S20.out 1 rfl _ _ _ _)
         clear S20
         refine hK.out _ _ ⟨S21.out.b.t.t.c4, S21.out.b.t.t.t.c4⟩ (fun h2 => ?_)
         clear hK K hH; have hH := h2; clear h2; try simp only [nrm]
         refine anyH_world (fun w18 hW => ?_)
         rw [← hW] at S21 hH
         clear hW
         refine wpAnyH_done (by kernel_rfl) ?_ _
         clear hH
         go_wp2_with fail
         go_meet
         case rel => exact ⟨_, _, _, _, _, _, _, _, _, _, _, _, _, _, _, _, _, _, _, _, _, _, _, _, _, _, _, _, _, _, _, _, _, _, rfl, rfl, S21.out.swap⟩
       ·go_simp
        have S17 := Lib.hid (S16.out.var (w13.heap.size) [.bool false, .slice none 0 0, .bool false, .slice none 0 0] 26 (by simp))
        clear S16
        refine hK.out _ _ ⟨S17.out.b.t.t.c4, S17.out.b.t.t.t.c4⟩ (fun h2 => ?_)
        clear hK K hH; have hH := h2; clear h2; try simp only [nrm]
        refine anyH_world (fun w14 hW => ?_)
        rw [← hW] at S17 hH
        clear hW
        refine step_one 7 rfl (by kernel_rfl) (fun K hK => ?_)
        go_simp
        refine (rwhole_any S17.out.n.t.t.rc.den.nx S17.out.n.t.t.rc.bd (by omega) (by omega)).mono ?_
        rintro e w15 ⟨r5_m, r5_0, r5_n, r5_c, r5_k, r5_1, r5_l, r5_d, rfl, hX, hB⟩
        have S18 := Lib.hid (((S17.out.step hB).rc hX rfl))
        clear S17 hX hB
        go_wp2_with fail
        refine hK.out _ _ ⟨S18.out.b.t.t.c4, S18.out.b.t.t.t.c4⟩ (fun h2 => ?_)
        clear hK K hH; have hH := h2; clear h2; try simp only [nrm]
        refine step_one 9 rfl (by kernel_rfl) (fun K hK => ?_)
        go_simp
        refine (rmul_any S18.out.n.rc.rx S18.out.n.t.t.t.t.rc.rx (by omega) (by omega) (by omega)).mono ?_
        rintro e w16 ⟨r6_m, r6_0, r6_n, r6_c, r6_k, r6_1, r6_l, r6_d, rfl, hX, hB⟩
        have S19 := Lib.hid (((S18.out.step hB).rc hX rfl))
        clear S18 hX hB
        go_wp2_with fail
        refine hK.out _ _ ⟨S19.out.b.t.t.c4, S19.out.b.t.t.t.c4⟩ (fun h2 => ?_)
        clear hK K hH; have hH := h2; clear h2; try simp only [nrm]
        refine step_one 12 rfl (by kernel_rfl) (fun K hK => ?_)
        obtain ⟨c_b11_0, c_b11_1, c_b11_2, c_b11_3⟩ := S19.out.b.c4
        obtain ⟨f_b11_0, f_b11_1, f_b11_2, f_b11_3⟩ := S19.out.b.f4
        go_simp
        clear c_b11_0 c_b11_1 c_b11_2 c_b11_3 f_b11_0 f_b11_1 f_b11_2 f_b11_3
        have S20 : Hid (Sx w _ [⟨(w13.heap.size), [.bool r4_m, .slice r4_0 r4_n r4_c, .bool r4_k, .slice r4_1 r4_l r4_d]⟩, ⟨(w10.heap.size), [.bool false, .slice none 0 0, .bool false, .slice none 0 0]⟩, ⟨(w6.heap.size), [.bool r2_m, .slice r2_0 r2_n r2_c, .bool r2_k, .slice r2_1 r2_l r2_d]⟩, ⟨(w3.heap.size), [.bool r1_m, .slice r1_0 r1_n r1_c, .bool r1_k, .slice r1_1 r1_l r1_d]⟩, ⟨(w.heap.size + 1), [.bool m1, .slice a1 n1 c1, .bool k1, .slice b1 l1 d1]⟩, ⟨(w.heap.size), [.bool m0, .slice a0 n0 c0, .bool k0, .slice b0 l0 d0]⟩] _) := Lib.hid (Sx.set4 S19.out 0 rfl _ _ _ _)
        clear S19
        refine hK.out _ _ ⟨S20.out.b.t.t.c4, S20.out.b.t.t.t.c4⟩ (fun h2 => ?_)
        clear hK K hH; have hH := h2; clear h2; try simp only [nrm]
        refine anyH_world (fun w17 hW => ?_)
        rw [← hW] at S20 hH
        clear hW
        refine step_one 13 rfl (by kernel_rfl) (fun K hK => ?_)
        obtain ⟨c_b12_0, c_b12_1, c_b12_2, c_b12_3⟩ := S20.out.b.t.c4
        obtain ⟨f_b12_0, f_b12_1, f_b12_2, f_b12_3⟩ := S20.out.b.t.f4
        go_simp
        clear c_b12_0 c_b12_1 c_b12_2 c_b12_3 f_b12_0 f_b12_1 f_b12_2 f_b12_3
        have S21 : Hid (Sx w _ [⟨(w13.heap.size), [.bool r4_m, .slice r4_0 r4_n r4_c, .bool r4_k, .slice r4_1 r4_l r4_d]⟩, ⟨(w10.heap.size), [.bool r6_m, .slice r6_0 r6_n r6_c, .bool r6_k, .slice r6_1 r6_l r6_d]⟩, ⟨(w6.heap.size), [.bool r2_m, .slice r2_0 r2_n r2_c, .bool r2_k, .slice r2_1 r2_l r2_d]⟩, ⟨(w3.heap.size), [.bool r1_m, .slice r1_0 r1_n r1_c, .bool r1_k, .slice r1_1 r1_l r1_d]⟩, ⟨(w.heap.size + 1), [.bool m1, .slice a1 n1 c1, .bool k1, .slice b1 l1 d1]⟩, ⟨(w.heap.size), [.bool m0, .slice a0 n0 c0, .bool k0, .slice b0 l0 d0]⟩] _) := Lib.hid (Sx.set4 S20.out 1 rfl _ _ _ _)
        clear S20
        refine hK.out _ _ ⟨S21.out.b.t.t.c4, S21.out.b.t.t.t.c4⟩ (fun h2 => ?_)
        clear hK K hH; have hH := h2; clear h2; try simp only [nrm]
        refine anyH_world (fun w18 hW => ?_)
        rw [← hW] at S21 hH
        clear hW
        refine wpAnyH_done (by kernel_rfl) ?_ _
        clear hH
        go_wp2_with fail
        go_meet
        case rel => exact ⟨_, _, _, _, _, _, _, _, _, _, _, _, _, _, _, _, _, _, _, _, _, _, _, _, _, _, _, _, _, _, _, _, _, _, rfl, rfl, S21.out.swap⟩
      ·go_simp
       have S16 := Lib.hid (S15.out.var (w12.heap.size) [.bool false, .slice none 0 0, .bool false, .slice none 0 0] 26 (by simp))
       clear S15
       refine hK.out _ _ ⟨S16.out.b.t.t.c4, S16.out.b.t.t.t.c4⟩ (fun h2 => ?_)
       clear hK K hH; have hH := h2; clear h2; try simp only [nrm]
       refine anyH_world (fun w13 hW => ?_)
       rw [← hW] at S16 hH
       clear hW
       refine step_one 4 rfl (by kernel_rfl) (fun K hK => ?_)
       go_simp
       refine (rmul_any S16.out.n.rc.rx S16.out.n.t.t.rc.rx (by omega) (by omega) (by omega)).mono ?_
       rintro e w14 ⟨r4_m, r4_0, r4_n, r4_c, r4_k, r4_1, r4_l, r4_d, rfl, hX, hB⟩
       have S17 := Lib.hid (((S16.out.step hB).rc hX rfl))
       clear S16 hX hB
       go_wp2_with fail
       refine hK.out _ _ ⟨S17.out.b.t.t.c4, S17.out.b.t.t.t.c4⟩ (fun h2 => ?_)
       clear hK K hH; have hH := h2; clear h2; try simp only [nrm]
       refine step_one 7 rfl (by kernel_rfl) (fun K hK => ?_)
       go_simp
       refine (rwhole_any S17.out.n.t.t.rc.den.nx S17.out.n.t.t.rc.bd (by omega) (by omega)).mono ?_
       rintro e w15 ⟨r5_m, r5_0, r5_n, r5_c, r5_k, r5_1, r5_l, r5_d, rfl, hX, hB⟩
       have S18 := Lib.hid (((S17.out.step hB).rc hX rfl))
       clear S17 hX hB
       go_wp2_with fail
       refine hK.out _ _ ⟨S18.out.b.t.t.c4, S18.out.b.t.t.t.c4⟩ (fun h2 => ?_)
       clear hK K hH; have hH := h2; clear h2; try simp only [nrm]
       refine step_one 9 rfl (by kernel_rfl) (fun K hK => ?_)
       go_simp
       refine (rmul_any S18.out.n.rc.rx S18.out.n.t.t.t.t.rc.rx (by omega) (by omega) (by omega)).mono ?_
       rintro e w16 ⟨r6_m, r6_0, r6_n, r6_c, r6_k, r6_1, r6_l, r6_d, rfl, hX, hB⟩
       have S19 := Lib.hid (((S18.out.step hB).rc hX rfl))
       clear S18 hX hB
       go_wp2_with fail
       refine hK.out _ _ ⟨S19.out.b.t.t.c4, S19.out.b.t.t.t.c4⟩ (fun h2 => ?_)
       clear hK K hH; have hH := h2; clear h2; try simp only [nrm]
       refine step_one 12 rfl (by kernel_rfl) (fun K hK => ?_)
       obtain ⟨c_b11_0, c_b11_1, c_b11_2, c_b11_3⟩ := S19.out.b.c4
       obtain ⟨f_b11_0, f_b11_1, f_b11_2, f_b11_3⟩ := S19.out.b.f4
       go_simp
       clear c_b11_0 c_b11_1 c_b11_2 c_b11_3 f_b11_0 f_b11_1 f_b11_2 f_b11_3
       have S20 : Hid (Sx w _ [⟨(w12.heap.size), [.bool r4_m, .slice r4_0 r4_n r4_c, .bool r4_k, .slice r4_1 r4_l r4_d]⟩, ⟨(w10.heap.size), [.bool false, .slice none 0 0, .bool false, .slice none 0 0]⟩, ⟨(w6.heap.size), [.bool r2_m, .slice r2_0 r2_n r2_c, .bool r2_k, .slice r2_1 r2_l r2_d]⟩, ⟨(w3.heap.size), [.bool r1_m, .slice r1_0 r1_n r1_c, .bool r1_k, .slice r1_1 r1_l r1_d]⟩, ⟨(w.heap.size + 1), [.bool m1, .slice a1 n1 c1, .bool k1, .slice b1 l1 d1]⟩, ⟨(w.heap.size), [.bool m0, .slice a0 n0 c0, .bool k0, .slice b0 l0 d0]⟩] _) := Lib.hid (Sx.set4 S19.out 0 rfl _ _ _ _)
       clear S19
       refine hK.out _ _ ⟨S20.out.b.t.t.c4, S20.out.b.t.t.t.c4⟩ (fun h2 => ?_)
       clear hK K hH; have hH := h2; clear h2; try simp only [nrm]
       refine anyH_world (fun w17 hW => ?_)
       rw [← hW] at S20 hH
       clear hW
       refine step_one 13 rfl (by kernel_rfl) (fun K hK => ?_)
       obtain ⟨c_b12_0, c_b12_1, c_b12_2, c_b12_3⟩ := S20.out.b.t.c4
       obtain ⟨f_b12_0, f_b12_1, f_b12_2, f_b12_3⟩ := S20.out.b.t.f4
       go_simp
       clear c_b12_0 c_b12_1 c_b12_2 c_b12_3 f_b12_0 f_b12_1 f_b12_2 f_b12_3
       have S21 : Hid (Sx w _ [⟨(w12.heap.size), [.bool r4_m, .slice r4_0 r4_n r4_c, .bool r4_k, .slice r4_1 r4_l r4_d]⟩, ⟨(w10.heap.size), [.bool r6_m, .slice r6_0 r6_n r6_c, .bool r6_k, .slice r6_1 r6_l r6_d]⟩, ⟨(w6.heap.size), [.bool r2_m, .slice r2_0 r2_n r2_c, .bool r2_k, .slice r2_1 r2_l r2_d]⟩, ⟨(w3.heap.size), [.bool r1_m, .slice r1_0 r1_n r1_c, .bool r1_k, .slice r1_1 r1_l r1_d]⟩, ⟨(w.heap.size + 1), [.bool m1, .slice a1 n1 c1, .bool k1, .slice b1 l1 d1]⟩, ⟨(w.heap.size), [.bool m0, .slice a0 n0 c0, .bool k0, .slice b0 l0 d0]⟩] _) := Lib.hid (Sx.set4 S20.out 1 rfl _ _ _ _)
       clear S20
       refine hK.out _ _ ⟨S21.out.b.t.t.c4, S21.out.b.t.t.t.c4⟩ (fun h2 => ?_)
       clear hK K hH; have hH := h2; clear h2; try simp only [nrm]
       refine anyH_world (fun w18 hW => ?_)
       rw [← hW] at S21 hH
       clear hW
       refine wpAnyH_done (by kernel_rfl) ?_ _
       clear hH
       go_wp2_with fail
       go_meet
       case rel => exact ⟨_, _, _, _, _, _, _, _, _, _, _, _, _, _, _, _, _, _, _, _, _, _, _, _, _, _, _, _, _, _, _, _, _, _, rfl, rfl, S21.out.swap⟩
     ·go_simp
      have S15 := Lib.hid (S14.out.var (w11.heap.size) [.bool false, .slice none 0 0, .bool false, .slice none 0 0] 26 (by simp))
      clear S14
      refine hK.out _ _ ⟨S15.out.b.t.t.c4, S15.out.b.t.t.t.c4⟩ (fun h2 => ?_)
      clear hK K hH; have hH := h2; clear h2; try simp only [nrm]
      refine anyH_world (fun w12 hW => ?_)
      rw [← hW] at S15 hH
      clear hW
      refine step_one 2 rfl (by kernel_rfl) (fun K hK => ?_)
      go_simp
      refine (rwhole_any S15.out.n.rc.num.nx S15.out.n.rc.bn (by omega) (by omega)).mono ?_
      rintro e w13 ⟨r3_m, r3_0, r3_n, r3_c, r3_k, r3_1, r3_l, r3_d, rfl, hX, hB⟩
      have S16 := Lib.hid (((S15.out.step hB).rc hX rfl))
      clear S15 hX hB
      go_wp2_with fail
      refine hK.out _ _ ⟨S16.out.b.t.t.c4, S16.out.b.t.t.t.c4⟩ (fun h2 => ?_)
      clear hK K hH; have hH := h2; clear h2; try simp only [nrm]
      refine step_one 4 rfl (by kernel_rfl) (fun K hK => ?_)
      go_simp
      refine (rmul_any S16.out.n.rc.rx S16.out.n.t.t.rc.rx (by omega) (by omega) (by omega)).mono ?_
      rintro e w14 ⟨r4_m, r4_0, r4_n, r4_c, r4_k, r4_1, r4_l, r4_d, rfl, hX, hB⟩
      have S17 := Lib.hid (((S16.out.step hB).rc hX rfl))
      clear S16 hX hB
      go_wp2_with fail
      refine hK.out _ _ ⟨S17.out.b.t.t.c4, S17.out.b.t.t.t.c4⟩ (fun h2 => ?_)
      clear hK K hH; have hH := h2; clear h2; try simp only [nrm]
      refine step_one 7 rfl (by kernel_rfl) (fun K hK => ?_)
      go_simp
      refine (rwhole_any S17.out.n.t.t.rc.den.nx S17.out.n.t.t.rc.bd (by omega) (by omega)).mono ?_
      rintro e w15 ⟨r5_m, r5_0, r5_n, r5_c, r5_k, r5_1, r5_l, r5_d, rfl, hX, hB⟩
      have S18 := Lib.hid (((S17.out.step hB).rc hX rfl))
      clear S17 hX hB
      go_wp2_with fail
      refine hK.out _ _ ⟨S18.out.b.t.t.c4, S18.out.b.t.t.t.c4⟩ (fun h2 => ?_)
      clear hK K hH; have hH := h2; clear h2; try simp only [nrm]
      refine step_one 9 rfl (by kernel_rfl) (fun K hK => ?_)
      go_simp
      refine (rmul_any S18.out.n.rc.rx S18.out.n.t.t.t.t.rc.rx (by omega) (by omega) (by omega)).mono ?_
      rintro e w16 ⟨r6_m, r6_0, r6_n, r6_c, r6_k, r6_1, r6_l, r6_d, rfl, hX, hB⟩
      have S19 := Lib.hid (((S18.out.step hB).rc hX rfl))
      clear S18 hX hB
      go_wp2_with fail
      refine hK.out _ _ ⟨S19.out.b.t.t.c4, S19.out.b.t.t.t.c4⟩ (fun h2 => ?_)
      clear hK K hH; have hH := h2; clear h2; try simp only [nrm]
      refine step_one 12 rfl (by kernel_rfl) (fun K hK => ?_)
      obtain ⟨c_b11_0, c_b11_1, c_b11_2, c_b11_3⟩ := S19.out.b.c4
      obtain ⟨f_b11_0, f_b11_1, f_b11_2, f_b11_3⟩ := S19.out.b.f4
      go_simp
      clear c_b11_0 c_b11_1 c_b11_2 c_b11_3 f_b11_0 f_b11_1 f_b11_2 f_b11_3
      have S20 : Hid (Sx w _ [⟨(w11.heap.size), [.bool r4_m, .slice r4_0 r4_n r4_c, .bool r4_k, .slice r4_1 r4_l r4_d]⟩, ⟨(w10.heap.size), [.bool false, .slice none 0 0, .bool false, .slice none 0 0]⟩, ⟨(w6.heap.size), [.bool r2_m, .slice r2_0 r2_n r2_c, .bool r2_k, .slice r2_1 r2_l r2_d]⟩, ⟨(w3.heap.size), [.bool r1_m, .slice r1_0 r1_n r1_c, .bool r1_k, .slice r1_1 r1_l r1_d]⟩, ⟨(w.heap.size + 1), [.bool m1, .slice a1 n1 c1, .bool k1, .slice b1 l1 d1]⟩, ⟨(w.heap.size), [.bool m0, .slice a0 n0 c0, .bool k0, .slice b0 l0 d0]⟩] _) := Lib.hid (Sx.set4 S19.out 0 rfl _ _ _ _)
      clear S19
      refine hK.out _ _ ⟨S20.out.b.t.t.c4, S20.out.b.t.t.t.c4⟩ (fun h2 => ?_)
      clear hK K hH; have hH := h2; clear h2; try simp only [nrm]
      refine anyH_world (fun w17 hW => ?_)
      rw [← hW] at S20 hH
      clear hW
      refine step_one 13 rfl (by kernel_rfl) (fun K hK => ?_)
      obtain ⟨c_b12_0, c_b12_1, c_b12_2, c_b12_3⟩ := S20.out.b.t.c4
      obtain ⟨f_b12_0, f_b12_1, f_b12_2, f_b12_3⟩ := S20.out.b.t.f4
      go_simp
      clear c_b12_0 c_b12_1 c_b12_2 c_b12_3 f_b12_0 f_b12_1 f_b12_2 f_b12_3
      have S21 : Hid (Sx w _ [⟨(w11.heap.size), [.bool r4_m, .slice r4_0 r4_n r4_c, .bool r4_k, .slice r4_1 r4_l r4_d]⟩, ⟨(w10.heap.size), [.bool r6_m, .slice r6_0 r6_n r6_c, .bool r6_k, .slice r6_1 r6_l r6_d]⟩, ⟨(w6.heap.size), [.bool r2_m, .slice r2_0 r2_n r2_c, .bool r2_k, .slice r2_1 r2_l r2_d]⟩, ⟨(w3.heap.size), [.bool r1_m, .slice r1_0 r1_n r1_c, .bool r1_k, .slice r1_1 r1_l r1_d]⟩, ⟨(w.heap.size + 1), [.bool m1, .slice a1 n1 c1, .bool k1, .slice b1 l1 d1]⟩, ⟨(w.heap.size), [.bool m0, .slice a0 n0 c0, .bool k0, .slice b0 l0 d0]⟩] _) := Lib.hid (Sx.set4 S20.out 1 rfl _ _ _ _)
      clear S20
      refine hK.out _ _ ⟨S21.out.b.t.t.c4, S21.out.b.t.t.t.c4⟩ (fun h2 => ?_)
      clear hK K hH; have hH := h2; clear h2; try simp only [nrm]
      refine anyH_world (fun w18 hW => ?_)
      rw [← hW] at S21 hH
      clear hW
      refine wpAnyH_done (by kernel_rfl) ?_ _
      clear hH
      go_wp2_with fail
      go_meet
      case rel => exact ⟨_, _, _, _, _, _, _, _, _, _, _, _, _, _, _, _, _, _, _, _, _, _, _, _, _, _, _, _, _, _, _, _, _, _, rfl, rfl, S21.out.swap⟩
  case rest =>
  clear S12
  obtain ⟨qb11, qb12, r6_m, r6_0, r6_n, r6_c, r6_k, r6_1, r6_l, r6_d, r5_m, r5_0, r5_n, r5_c, r5_k, r5_1, r5_l, r5_d, r4_m, r4_0, r4_n, r4_c, r4_k, r4_1, r4_l, r4_d, r3_m, r3_0, r3_n, r3_c, r3_k, r3_1, r3_l, r3_d, rfl, rfl, S13⟩ := hcut
  obtain ⟨w19, hW⟩ : ∃ w19, w19 = wc := ⟨_, rfl⟩
  rw [← hW] at S13 ⊢
  clear hW
  obtain ⟨c_b11_0, c_b11_1, c_b11_2, c_b11_3⟩ := S13.out.b.t.c4
  obtain ⟨c_b12_0, c_b12_1, c_b12_2, c_b12_3⟩ := S13.out.b.c4
  go_wp2_with fail
  clear c_b11_0 c_b11_1 c_b11_2 c_b11_3 c_b12_0 c_b12_1 c_b12_2 c_b12_3
  refine (rof_any S13.out.n.t.t.rc.num.nx S13.out.n.rc.num.nx (HNE.out) (show Rat.divInt (((qv r0.num 0) * (Rat.divInt k 1)).num) (((qv (r0.den : Int) 0) * (Rat.divInt k 1)).num) = r0 from HX.out) (S13.out.n.t.t.rc.bn.mono (show _ ≤ 20002 by omega)) (S13.out.n.rc.bn.mono (by omega)) (by omega) (by omega)).mono ?_
  rintro e w20 ⟨r7_m, r7_0, r7_n, r7_c, r7_k, r7_1, r7_l, r7_d, rfl, hX, hB⟩
  have S14 := Lib.hid (((S13.out.step hB).rc hX rfl))
  clear S13 hX hB
  go_upto_region 9 with (fail)
  have S15 := Lib.hid (S14.out.var (w20.heap.size) [.bool r7_m, .slice r7_0 r7_n r7_c, .bool r7_k, .slice r7_1 r7_l r7_d] 26 (by simp))
  clear S14
  refine wp_world (fun w21 hW => ?_)
  rw [← hW] at S15
  clear hW
  obtain ⟨c_b13_0, c_b13_1, c_b13_2, c_b13_3⟩ := S15.out.b.c4
  obtain ⟨c_b9_0, c_b9_1, c_b9_2, c_b9_3⟩ := S15.out.b.t.t.t.c4
  go_wp2_with fail
  clear c_b13_0 c_b13_1 c_b13_2 c_b13_3 c_b9_0 c_b9_1 c_b9_2 c_b9_3
  refine (rsame_eq S15.out.n.rc S15.out.n.t.t.t.t.t.rc (rfl)).mono ?_
  rintro e w22 ⟨rfl, hB⟩
  have S16 := Lib.hid ((S15.out.step hB))
  clear S15 hB
  obtain ⟨c_b3_0, c_b3_1, c_b3_2, c_b3_3⟩ := S16.out.b.t.t.t.t.t.t.c4
  obtain ⟨c_b4_0, c_b4_1, c_b4_2, c_b4_3⟩ := S16.out.b.t.t.t.t.t.c4
  go_wp2_with fail
  clear c_b3_0 c_b3_1 c_b3_2 c_b3_3 c_b4_0 c_b4_1 c_b4_2 c_b4_3
  refine (rcmp_any (c) S16.out.n.t.t.t.t.t.t.t.rx S16.out.n.t.t.t.t.t.t.t.t.rx (by omega) (by omega) (by omega) (Hc.out)).mono ?_
  rintro e w23 ⟨rfl, hB⟩
  have S17 := Lib.hid ((S16.out.step hB))
  clear S16 hB
  go_wp2_with fail
  have S18 := Lib.hid (S17.out.drew)
  clear S17
  refine wp_region_held_drew (S := fun w' => (w'.cell? ⟨(w.heap.size), 0, none⟩ = some (.bool m0) ∧ w'.cell? ⟨(w.heap.size), 1, none⟩ = some (.slice a0 n0 c0) ∧ w'.cell? ⟨(w.heap.size), 2, none⟩ = some (.bool k0) ∧ w'.cell? ⟨(w.heap.size), 3, none⟩ = some (.slice b0 l0 d0)) ∧ (w'.cell? ⟨(w.heap.size + 1), 0, none⟩ = some (.bool m1) ∧ w'.cell? ⟨(w.heap.size + 1), 1, none⟩ = some (.slice a1 n1 c1) ∧ w'.cell? ⟨(w.heap.size + 1), 2, none⟩ = some (.bool k1) ∧ w'.cell? ⟨(w.heap.size + 1), 3, none⟩ = some (.slice b1 l1 d1)) ∧ (w'.cell? ⟨(w3.heap.size), 0, none⟩ = some (.bool r1_m) ∧ w'.cell? ⟨(w3.heap.size), 1, none⟩ = some (.slice r1_0 r1_n r1_c) ∧ w'.cell? ⟨(w3.heap.size), 2, none⟩ = some (.bool r1_k) ∧ w'.cell? ⟨(w3.heap.size), 3, none⟩ = some (.slice r1_1 r1_l r1_d))) (by kernel_rfl) (⟨S18.out.b.t.t.t.t.t.t.c4, S18.out.b.t.t.t.t.t.c4, S18.out.b.t.t.t.t.c4⟩) (fun hH => ?_)
  refine anyH_world (fun w24 hW => ?_)
  rw [← hW] at S18 hH
  clear hW
  refine step_on 0 rfl (by kernel_rfl) (fun _ _ _ h => h) (by rfl) hH (by intro w hS; go_simp <;> with_reducible rfl) ?_
  try simp only [nrm]
  refine step_on 2 rfl (by kernel_rfl) (fun _ _ _ h => h) (by rfl) hH (by intro w hS; go_simp <;> with_reducible rfl) ?_
  try simp only [nrm]
  refine step_on 5 rfl (by kernel_rfl) (fun _ _ _ h => h) (by rfl) hH (by intro w hS; go_simp <;> with_reducible rfl) ?_
  try simp only [nrm]
  refine step_one 1 rfl (by kernel_rfl) (fun K hK => ?_)
  go_simp
  refine (rattext_any S18.out.n.t.t.t.t.t.t.t.rx (HT.out.below S18.out.h) (by omega) (by omega)).mono ?_
  rintro e w25 ⟨rfl, hB⟩
  rw [← HU.out]
  have S19 := Lib.hid ((S18.out.step hB))
  clear S18 hB
  go_wp2_with fail
  refine hK.out _ _ ⟨S19.out.b.t.t.t.t.t.t.c4, S19.out.b.t.t.t.t.t.c4, S19.out.b.t.t.t.t.c4⟩ (fun h2 => ?_)
  clear hK K hH; have hH := h2; clear h2; try simp only [nrm]
  refine step_one 3 rfl (by kernel_rfl) (fun K hK => ?_)
  go_simp
  refine (rattext_any S19.out.n.t.t.t.t.t.t.t.t.rx (HT.out.below S19.out.h) (by omega) (by omega)).mono ?_
  rintro e w26 ⟨rfl, hB⟩
  rw [← HV.out]
  have S20 := Lib.hid ((S19.out.step hB))
  clear S19 hB
  go_wp2_with fail
  refine hK.out _ _ ⟨S20.out.b.t.t.t.t.t.t.c4, S20.out.b.t.t.t.t.t.c4, S20.out.b.t.t.t.t.c4⟩ (fun h2 => ?_)
  clear hK K hH; have hH := h2; clear h2; try simp only [nrm]
  refine step_on 4 rfl (by kernel_rfl) (fun _ _ _ h => h) (by rfl) hH (by intro w hS; go_simp <;> with_reducible rfl) ?_
  try simp only [nrm]
  refine step_on 6 rfl (by kernel_rfl) (fun _ _ _ h => h) (by rfl) hH (by intro w hS; go_simp <;> with_reducible rfl) ?_
  try simp only [nrm]
  refine step_on 7 rfl (by kernel_rfl) (fun _ _ _ h => h) (by rfl) hH (by intro w hS; go_simp <;> with_reducible rfl) ?_
  try simp only [nrm]
  refine step_on 8 rfl (by kernel_rfl) (fun _ _ _ h => h) (by rfl) hH (by intro w hS; go_simp <;> with_reducible rfl) ?_
  try simp only [nrm]
  refine step_on 10 rfl (by kernel_rfl) (fun _ _ _ h => h) (by rfl) hH (by intro w hS; go_simp <;> with_reducible rfl) ?_
  try simp only [nrm]
  refine step_on 11 rfl (by kernel_rfl) (fun _ _ _ h => h) (by rfl) hH (by intro w hS; go_simp <;> with_reducible rfl) ?_
  try simp only [nrm]
  refine step_one 9 rfl (by kernel_rfl) (fun K hK => ?_)
  go_simp
  refine (rattext_any S20.out.n.t.t.t.t.t.t.rc.rx (HT.out.below S20.out.h) (by omega) (by omega)).mono ?_
  rintro e w27 ⟨rfl, hB⟩
  rw [← HP.out]
  have S21 := Lib.hid ((S20.out.step hB))
  clear S20 hB
  go_wp2_with fail
  refine hK.out _ _ ⟨S21.out.b.t.t.t.t.t.t.c4, S21.out.b.t.t.t.t.t.c4, S21.out.b.t.t.t.t.c4⟩ (fun h2 => ?_)
  clear hK K hH; have hH := h2; clear h2; try simp only [nrm]
  refine step_one 12 rfl (by kernel_rfl) (fun K hK => ?_)
  go_simp
  refine (rwhole_any S21.out.n.t.t.t.t.t.t.rc.num.nx S21.out.n.t.t.t.t.t.t.rc.bn (by omega) (by omega)).mono ?_
  rintro e w28 ⟨r8_m, r8_0, r8_n, r8_c, r8_k, r8_1, r8_l, r8_d, rfl, hX, hB⟩
  have S22 := Lib.hid (((S21.out.step hB).rc hX rfl))
  clear S21 hX hB
  go_wp2_with fail
  refine hK.out _ _ ⟨S22.out.b.t.t.t.t.t.t.c4, S22.out.b.t.t.t.t.t.c4, S22.out.b.t.t.t.t.c4⟩ (fun h2 => ?_)
  clear hK K hH; have hH := h2; clear h2; try simp only [nrm]
  refine step_one 13 rfl (by kernel_rfl) (fun K hK => ?_)
  go_simp
  refine (rattext_any S22.out.n.rc.rx (HT.out.below S22.out.h) (by omega) (by omega)).mono ?_
  rintro e w29 ⟨rfl, hB⟩
  rw [← HP2.out]
  have S23 := Lib.hid ((S22.out.step hB))
  clear S22 hB
  go_wp2_with fail
  refine hK.out _ _ ⟨S23.out.b.t.t.t.t.t.t.c4, S23.out.b.t.t.t.t.t.c4, S23.out.b.t.t.t.t.c4⟩ (fun h2 => ?_)
  clear hK K hH; have hH := h2; clear h2; try simp only [nrm]
  refine step_on 14 rfl (by kernel_rfl) (fun _ _ _ h => h) (by rfl) hH (by intro w hS; go_simp <;> with_reducible rfl) ?_
  try simp only [nrm]
  refine step_on 15 rfl (by kernel_rfl) (fun _ _ _ h => h) (by rfl) hH (by intro w hS; go_simp <;> with_reducible rfl) ?_
  try simp only [nrm]
  refine step_on 16 rfl (by kernel_rfl) (fun _ _ _ h => h) (by rfl) hH (by intro w hS; go_simp <;> with_reducible rfl) ?_
  try simp only [nrm]
  refine step_one 17 rfl (by kernel_rfl) (fun K hK => ?_)
  go_simp
  refine (known6_any _ (HT.out.below S23.out.h)).mono ?_
  rintro e w30 ⟨rfl, hB⟩
  have S24 := Lib.hid ((S23.out.step hB))
  clear S23 hB
  go_wp2_with fail
  refine hK.out _ _ ⟨S24.out.b.t.t.t.t.t.t.c4, S24.out.b.t.t.t.t.t.c4, S24.out.b.t.t.t.t.c4⟩ (fun h2 => ?_)
  clear hK K hH; have hH := h2; clear h2; try simp only [nrm]
  refine step_on 18 rfl (by kernel_rfl) (fun _ _ _ h => h) (by rfl) hH (by intro w hS; go_simp <;> with_reducible rfl) ?_
  try simp only [nrm]
  refine step_on 19 rfl (by kernel_rfl) (fun _ _ _ h => h) (by rfl) hH (by intro w hS; go_simp <;> with_reducible rfl) ?_
  try simp only [nrm]
  refine wpAnyH_done (by kernel_rfl) ?_ _
  clear hH
  go_wp2_with fail
  go_ret
  exact ⟨rfl, S24.out.h⟩

theorem ratioCancels_row {m0 k0 : Bool} {a0 b0 : Option Addr} {n0 c0 l0 d0 : Nat} {m1 k1 : Bool} {a1 b1 : Option Addr} {n1 c1 l1 d1 : Nat} {xs0 ys0 xs1 ys1 : List Nat} {k : Int} (h64 : -9223372036854775808 ≤ k ∧ k ≤ 9223372036854775807) {w : World} (hs0 : Sl w a0 n0 c0 xs0) (ht0 : Sl w b0 l0 d0 ys0) (hs1 : Sl w a1 n1 c1 xs1) (ht1 : Sl w b1 l1 d1 ys1) (ht : Tab w) : Calls Tryz.prog 8 #[.agg #[.bool m0, .slice a0 n0 c0, .bool k0, .slice b0 l0 d0], .agg #[.bool m1, .slice a1 n1 c1, .bool k1, .slice b1 l1 d1], .int .i64 k] w (RetB (.bool true) w) := by
  cases hg : ((decide (8 < n0) || decide (8 < l0)) || (decide (8 < n1) || decide (8 < l1))) with
  | true => exact ratioCancels_long h64 hs0 ht0 hs1 ht1 ht hg
  | false =>
    by_cases hk : k = 0
    · exact ratioCancels_zero h64 hs0 ht0 hs1 ht1 ht hg hk
    · simp only [Bool.or_eq_false_iff, decide_eq_false_iff_not, Nat.not_lt] at hg
      exact ratioCancels_main h64 hs0 ht0 hs1 ht1 ht hg.1.1 hg.1.2 hg.2.1 hg.2.2 hk

end Go.Proofs.YteceomlbnajihaaGreatDoor
