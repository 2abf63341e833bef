/-
  RatioBetween: too many limbs.
-/
import Derived.Test.YteceomlbnajihaaGreatDoorRatioPre
import Derived.Deep.Cut
import Derived.Deep.CutRange
set_option maxRecDepth 8192
namespace Go.Proofs.YteceomlbnajihaaGreatDoor
open Go.RowKit

set_option maxHeartbeats 1000000 in
set_option maxRecDepth 100000 in
theorem ratioBetween_long {m0 k0 : Bool} {a0 b0 : Option Addr} {n0 c0 l0 d0 : Nat} {m1 k1 : Bool} {a1 b1 : Option Addr} {n1 c1 l1 d1 : Nat} {m2 k2 : Bool} {a2 b2 : Option Addr} {n2 c2 l2 d2 : Nat}  {w : World}  (ht : Tab w) (hg : ((decide (8 < n0) || decide (8 < l0)) || (decide (8 < n1) || decide (8 < l1)) || (decide (8 < n2) || decide (8 < l2))) = true)  :
    Calls Tryz.prog 7 #[.agg #[.bool m0, .slice a0 n0 c0, .bool k0, .slice b0 l0 d0], .agg #[.bool m1, .slice a1 n1 c1, .bool k1, .slice b1 l1 d1], .agg #[.bool m2, .slice a2 n2 c2, .bool k2, .slice b2 l2 d2]] w (RetB (.bool true) w) := by
  have HT := Lib.hid ht
  have HG := Lib.hid hg
  clear ht hg
  go_enter Tryz.func7, Tryz.ntmps7
  have S0 := Lib.hid (Sx.start (w := w) (N := []) trivial)
  have S1 := Lib.hid (S0.out.var (w.heap.size) [.bool m0, .slice a0 n0 c0, .bool k0, .slice b0 l0 d0] 26 (by simp))
  clear S0
  have S2 := Lib.hid (S1.out.var (w.heap.size + 1) [.bool m1, .slice a1 n1 c1, .bool k1, .slice b1 l1 d1] 26 (by simp))
  clear S1
  have S3 := Lib.hid (S2.out.var (w.heap.size + 2) [.bool m2, .slice a2 n2 c2, .bool k2, .slice b2 l2 d2] 26 (by simp))
  clear S2
  go_upto_region 1 with (fail)
  refine wp_world (fun w1 hW => ?_)
  rw [← hW] at S3
  clear hW
  obtain ⟨c_b3_0, c_b3_1, c_b3_2, c_b3_3⟩ := S3.out.b.t.t.c4
  obtain ⟨c_b4_0, c_b4_1, c_b4_2, c_b4_3⟩ := S3.out.b.t.c4
  obtain ⟨c_b5_0, c_b5_1, c_b5_2, c_b5_3⟩ := S3.out.b.c4
  go_wp2_with fail
  clear c_b3_0 c_b3_1 c_b3_2 c_b3_3 c_b4_0 c_b4_1 c_b4_2 c_b4_3 c_b5_0 c_b5_1 c_b5_2 c_b5_3
  have S4 := Lib.hid (S3.out.var (w1.heap.size) [.bool m0, .slice a0 n0 c0, .bool k0, .slice b0 l0 d0, .bool m1, .slice a1 n1 c1, .bool k1, .slice b1 l1 d1, .bool m2, .slice a2 n2 c2, .bool k2, .slice b2 l2 d2] 26 (by simp))
  clear S3
  refine (great6_3 true S4.out.b.1 (HG.out)).mono ?_
  rintro e w2 ⟨rfl, hB⟩
  have S5 := Lib.hid ((S4.out.step hB))
  clear S4 hB
  have S6 := Lib.hid (S5.out.pop)
  clear S5
  go_wp2_with fail
  refine (known6_any _ (HT.out.below S6.out.h)).mono ?_
  rintro e w3 ⟨rfl, hB⟩
  have S7 := Lib.hid ((S6.out.step hB))
  clear S6 hB
  go_wp2_with fail
  go_ret
  exact ⟨rfl, S7.out.h⟩

set_option maxHeartbeats 1000000 in
set_option maxRecDepth 100000 in
theorem ratioBetween_zero {m0 k0 : Bool} {a0 b0 : Option Addr} {n0 c0 l0 d0 : Nat} {m1 k1 : Bool} {a1 b1 : Option Addr} {n1 c1 l1 d1 : Nat} {m2 k2 : Bool} {a2 b2 : Option Addr} {n2 c2 l2 d2 : Nat} {xs0 ys0 xs1 ys1 xs2 ys2 : List Nat} {w : World} (hs0 : Sl w a0 n0 c0 xs0) (ht0 : Sl w b0 l0 d0 ys0) (hs1 : Sl w a1 n1 c1 xs1) (ht1 : Sl w b1 l1 d1 ys1) (hs2 : Sl w a2 n2 c2 xs2) (ht2 : Sl w b2 l2 d2 ys2) (ht : Tab w) (p0 : n0 ≤ 8) (q0 : l0 ≤ 8) (p1 : n1 ≤ 8) (q1 : l1 ≤ 8) (p2 : n2 ≤ 8) (q2 : l2 ≤ 8) (h0 : qv (zOf m0 (val xs0)) (zOf k0 (val ys0)) = 0) :
    Calls Tryz.prog 7 #[.agg #[.bool m0, .slice a0 n0 c0, .bool k0, .slice b0 l0 d0], .agg #[.bool m1, .slice a1 n1 c1, .bool k1, .slice b1 l1 d1], .agg #[.bool m2, .slice a2 n2 c2, .bool k2, .slice b2 l2 d2]] w (RetB (.bool true) w) := by
  obtain ⟨x0, hx0⟩ : ∃ x, zOf m0 (val xs0) = x := ⟨_, rfl⟩
  obtain ⟨e0, he0⟩ : ∃ x, zOf k0 (val ys0) = x := ⟨_, rfl⟩
  obtain ⟨r0, hr0⟩ : ∃ q, qv x0 e0 = q := ⟨_, rfl⟩
  have hR0 := rx_of hs0 ht0 hx0 he0 hr0 p0 q0
  have P0 := Lib.hid (lim_no p0)
  have Q0 := Lib.hid (lim_no q0)
  rw [hx0, he0, hr0] at h0
  clear hx0 he0 hr0 p0 q0
  obtain ⟨x1, hx1⟩ : ∃ x, zOf m1 (val xs1) = x := ⟨_, rfl⟩
  obtain ⟨e1, he1⟩ : ∃ x, zOf k1 (val ys1) = x := ⟨_, rfl⟩
  obtain ⟨r1, hr1⟩ : ∃ q, qv x1 e1 = q := ⟨_, rfl⟩
  have hR1 := rx_of hs1 ht1 hx1 he1 hr1 p1 q1
  have P1 := Lib.hid (lim_no p1)
  have Q1 := Lib.hid (lim_no q1)
  clear hx1 he1 hr1 p1 q1
  obtain ⟨x2, hx2⟩ : ∃ x, zOf m2 (val xs2) = x := ⟨_, rfl⟩
  obtain ⟨e2, he2⟩ : ∃ x, zOf k2 (val ys2) = x := ⟨_, rfl⟩
  obtain ⟨r2, hr2⟩ : ∃ q, qv x2 e2 = q := ⟨_, rfl⟩
  have hR2 := rx_of hs2 ht2 hx2 he2 hr2 p2 q2
  have P2 := Lib.hid (lim_no p2)
  have Q2 := Lib.hid (lim_no q2)
  clear hx2 he2 hr2 p2 q2
  have HT := Lib.hid ht
  clear ht
  obtain ⟨c, hc⟩ : ∃ x, qs (r0 - r1) = x := ⟨_, rfl⟩
  have Hc := Lib.hid hc
  clear hc
  obtain ⟨t, ht⟩ : ∃ x, qs r2 = x := ⟨_, rfl⟩
  have Ht := Lib.hid ht
  clear ht
  obtain ⟨v, hv⟩ : ∃ x, qs (r0 * r2 - r1 * r2) = x := ⟨_, rfl⟩
  have f2 : IntKind.i64.wrap (c * t) = v := by rw [← hv, qs_times, Hc.out, Ht.out]; exact wrap_qs _ _ _ _ Hc.out Ht.out
  have Hv := Lib.hid hv
  clear hv
  obtain ⟨s, hs⟩ : ∃ x, qs r0 = x := ⟨_, rfl⟩
  have f1 : (s == 0) = true := by rw [← hs]; have := qs_zero r0; simp; exact this.2 h0
  have Hs := Lib.hid hs
  clear hs
  have HH0 := Lib.hid h0
  clear h0
  go_enter Tryz.func7, Tryz.ntmps7
  have S0 := Lib.hid (Sx.start (w := w) (N := [.rx m0 a0 n0 c0 k0 b0 l0 d0 x0 e0 r0 8, .rx m1 a1 n1 c1 k1 b1 l1 d1 x1 e1 r1 8, .rx m2 a2 n2 c2 k2 b2 l2 d2 x2 e2 r2 8]) ⟨hR0, hR1, hR2, trivial⟩)
  clear hR0 hR1 hR2
  have S1 := Lib.hid (S0.out.var (w.heap.size) [.bool m0, .slice a0 n0 c0, .bool k0, .slice b0 l0 d0] 26 (by simp))
  clear S0
  have S2 := Lib.hid (S1.out.var (w.heap.size + 1) [.bool m1, .slice a1 n1 c1, .bool k1, .slice b1 l1 d1] 26 (by simp))
  clear S1
  have S3 := Lib.hid (S2.out.var (w.heap.size + 2) [.bool m2, .slice a2 n2 c2, .bool k2, .slice b2 l2 d2] 26 (by simp))
  clear S2
  go_upto_region 1 with (fail)
  refine wp_world (fun w1 hW => ?_)
  rw [← hW] at S3
  clear hW
  obtain ⟨c_b3_0, c_b3_1, c_b3_2, c_b3_3⟩ := S3.out.b.t.t.c4
  obtain ⟨c_b4_0, c_b4_1, c_b4_2, c_b4_3⟩ := S3.out.b.t.c4
  obtain ⟨c_b5_0, c_b5_1, c_b5_2, c_b5_3⟩ := S3.out.b.c4
  go_wp2_with fail
  clear c_b3_0 c_b3_1 c_b3_2 c_b3_3 c_b4_0 c_b4_1 c_b4_2 c_b4_3 c_b5_0 c_b5_1 c_b5_2 c_b5_3
  have S4 := Lib.hid (S3.out.var (w1.heap.size) [.bool m0, .slice a0 n0 c0, .bool k0, .slice b0 l0 d0, .bool m1, .slice a1 n1 c1, .bool k1, .slice b1 l1 d1, .bool m2, .slice a2 n2 c2, .bool k2, .slice b2 l2 d2] 26 (by simp))
  clear S3
  refine (great6_3 false S4.out.b.1 (by rw [P0.out, Q0.out, P1.out, Q1.out, P2.out, Q2.out]; rfl)).mono ?_
  rintro e w2 ⟨rfl, hB⟩
  have S5 := Lib.hid ((S4.out.step hB))
  clear S4 hB
  have S6 := Lib.hid (S5.out.pop)
  clear S5
  go_wp2_with fail
  refine (rsmall_q 1 2 (1/2 : Rat) _ (by omega) (by omega) (by decide) (by decide +kernel)).mono ?_
  rintro e w3 ⟨r1_m, r1_0, r1_n, r1_c, r1_k, r1_1, r1_l, r1_d, rfl, hX, hB⟩
  have S7 := Lib.hid (((S6.out.step hB).rc hX rfl))
  clear S6 hX hB
  go_upto_region 4 with (fail)
  have S8 := Lib.hid (S7.out.var (w3.heap.size) [.bool r1_m, .slice r1_0 r1_n r1_c, .bool r1_k, .slice r1_1 r1_l r1_d] 26 (by simp))
  clear S7
  refine wp_world (fun w4 hW => ?_)
  rw [← hW] at S8
  clear hW
  obtain ⟨c_b3_0, c_b3_1, c_b3_2, c_b3_3⟩ := S8.out.b.t.t.t.c4
  obtain ⟨c_b4_0, c_b4_1, c_b4_2, c_b4_3⟩ := S8.out.b.t.t.c4
  go_wp2_with fail
  clear c_b3_0 c_b3_1 c_b3_2 c_b3_3 c_b4_0 c_b4_1 c_b4_2 c_b4_3
  refine (rcmp_any (c) S8.out.n.t.rx S8.out.n.t.t.rx (by omega) (by omega) (by omega) (Hc.out)).mono ?_
  rintro e w5 ⟨rfl, hB⟩
  have S9 := Lib.hid ((S8.out.step hB))
  clear S8 hB
  go_wp2_with fail
  go_cut [10] from 28 to 33 (fun sl0 w9 => ∃ (qb10 : Nat) (r3_m : Bool) (r3_0 : Option Addr) (r3_n : Nat) (r3_c : Nat) (r3_k : Bool) (r3_1 : Option Addr) (r3_l : Nat) (r3_d : Nat) (r2_m : Bool) (r2_0 : Option Addr) (r2_n : Nat) (r2_c : Nat) (r2_k : Bool) (r2_1 : Option Addr) (r2_l : Nat) (r2_d : Nat), sl0 = .pointer (some ⟨qb10, 0, none⟩) ∧ Hid (Sx w w9 [⟨qb10, [.bool r3_m, .slice r3_0 r3_n r3_c, .bool r3_k, .slice r3_1 r3_l r3_d]⟩, ⟨(w3.heap.size), [.bool r1_m, .slice r1_0 r1_n r1_c, .bool r1_k, .slice r1_1 r1_l r1_d]⟩, ⟨(w.heap.size + 2), [.bool m2, .slice a2 n2 c2, .bool k2, .slice b2 l2 d2]⟩, ⟨(w.heap.size + 1), [.bool m1, .slice a1 n1 c1, .bool k1, .slice b1 l1 d1]⟩, ⟨(w.heap.size), [.bool m0, .slice a0 n0 c0, .bool k0, .slice b0 l0 d0]⟩] [.rc r3_m r3_0 r3_n r3_c r3_k r3_1 r3_l r3_d ((r0 + r1) * (1/2 : Rat)) 19, .rc r2_m r2_0 r2_n r2_c r2_k r2_1 r2_l r2_d (r0 + r1) 17, .rc r1_m r1_0 r1_n r1_c r1_k r1_1 r1_l r1_d (1/2 : Rat) 2, .rx m0 a0 n0 c0 k0 b0 l0 d0 x0 e0 r0 8, .rx m1 a1 n1 c1 k1 b1 l1 d1 x1 e1 r1 8, .rx m2 a2 n2 c2 k2 b2 l2 d2 x2 e2 r2 8]))
  case first =>
    have S10 := Lib.hid (S9.out.drew)
    clear S9
    refine wp_region_held_drew (S := fun w' => (w'.cell? ⟨(w.heap.size), 0, none⟩ = some (.bool m0) ∧ w'.cell? ⟨(w.heap.size), 1, none⟩ = some (.slice a0 n0 c0) ∧ w'.cell? ⟨(w.heap.size), 2, none⟩ = some (.bool k0) ∧ w'.cell? ⟨(w.heap.size), 3, none⟩ = some (.slice b0 l0 d0)) ∧ (w'.cell? ⟨(w.heap.size + 1), 0, none⟩ = some (.bool m1) ∧ w'.cell? ⟨(w.heap.size + 1), 1, none⟩ = some (.slice a1 n1 c1) ∧ w'.cell? ⟨(w.heap.size + 1), 2, none⟩ = some (.bool k1) ∧ w'.cell? ⟨(w.heap.size + 1), 3, none⟩ = some (.slice b1 l1 d1)) ∧ (w'.cell? ⟨(w3.heap.size), 0, none⟩ = some (.bool r1_m) ∧ w'.cell? ⟨(w3.heap.size), 1, none⟩ = some (.slice r1_0 r1_n r1_c) ∧ w'.cell? ⟨(w3.heap.size), 2, none⟩ = some (.bool r1_k) ∧ w'.cell? ⟨(w3.heap.size), 3, none⟩ = some (.slice r1_1 r1_l r1_d))) (by kernel_rfl) (⟨S10.out.b.t.t.t.c4, S10.out.b.t.t.c4, S10.out.b.c4⟩) (fun hH => ?_)
    refine anyH_world (fun w6 hW => ?_)
    rw [← hW] at S10 hH
    clear hW
    refine step_on 0 rfl (by kernel_rfl) (fun _ _ _ h => h) (by rfl) hH (by intro w hS; go_simp <;> with_reducible rfl) ?_
    try simp only [nrm]
    refine step_on 1 rfl (by kernel_rfl) (fun _ _ _ h => h) (by rfl) hH (by intro w hS; go_simp <;> with_reducible rfl) ?_
    try simp only [nrm]
    refine step_on 3 rfl (by kernel_rfl) (fun _ _ _ h => h) (by rfl) hH (by intro w hS; go_simp <;> with_reducible rfl) ?_
    try simp only [nrm]
    refine wpAnyH_ready (rs := [2, 5]) (by kernel_rfl) (by simp) (ready_cons rfl (fun K hK => ?_) (ready_cons rfl (fun K hK => ?_) (AllReadyH.nil)))
    · go_simp
      refine (radd_any S10.out.n.t.rx S10.out.n.t.t.rx (by omega) (by omega) (by omega)).mono ?_
      rintro e w7 ⟨r2_m, r2_0, r2_n, r2_c, r2_k, r2_1, r2_l, r2_d, rfl, hX, hB⟩
      have S11 := Lib.hid (((S10.out.step hB).rc hX rfl))
      clear S10 hX hB
      go_wp2_with fail
      refine hK.out _ _ ⟨S11.out.b.t.t.t.c4, S11.out.b.t.t.c4, S11.out.b.c4⟩ (fun h2 => ?_)
      clear hK K hH
      have hH := h2
      clear h2
      try simp only [nrm]
      refine wpAnyH_ready (rs := [4, 5]) (by kernel_rfl) (by simp) (ready_cons rfl (fun K hK => ?_) (ready_cons rfl (fun K hK => ?_) (AllReadyH.nil)))
      · go_simp
        refine (rmul_any S11.out.n.rc.rx S11.out.n.t.rc.rx (by omega) (by omega) (by omega)).mono ?_
        rintro e w8 ⟨r3_m, r3_0, r3_n, r3_c, r3_k, r3_1, r3_l, r3_d, rfl, hX, hB⟩
        have S12 := Lib.hid (((S11.out.step hB).rc hX rfl))
        clear S11 hX hB
        go_wp2_with fail
        refine hK.out _ _ ⟨S12.out.b.t.t.t.c4, S12.out.b.t.t.c4, S12.out.b.c4⟩ (fun h2 => ?_)
        clear hK K hH
        have hH := h2
        clear h2
        try simp only [nrm]
        refine step_one 5 rfl (by kernel_rfl) (fun K hK => ?_)
        go_simp
        have S13 := Lib.hid (S12.out.var (w8.heap.size) [.bool false, .slice none 0 0, .bool false, .slice none 0 0] 26 (by simp))
        clear S12
        refine hK.out _ _ ⟨S13.out.b.t.t.t.t.c4, S13.out.b.t.t.t.c4, S13.out.b.t.c4⟩ (fun h2 => ?_)
        clear hK K hH
        have hH := h2
        clear h2
        try simp only [nrm]
        refine anyH_world (fun w9 hW => ?_)
        rw [← hW] at S13 hH
        clear hW
        refine step_one 6 rfl (by kernel_rfl) (fun K hK => ?_)
        obtain ⟨c_b10_0, c_b10_1, c_b10_2, c_b10_3⟩ := S13.out.b.c4
        obtain ⟨f_b10_0, f_b10_1, f_b10_2, f_b10_3⟩ := S13.out.b.f4
        go_simp
        clear c_b10_0 c_b10_1 c_b10_2 c_b10_3 f_b10_0 f_b10_1 f_b10_2 f_b10_3
        have S14 : Hid (Sx w _ [⟨(w8.heap.size), [.bool r3_m, .slice r3_0 r3_n r3_c, .bool r3_k, .slice r3_1 r3_l r3_d]⟩, ⟨(w3.heap.size), [.bool r1_m, .slice r1_0 r1_n r1_c, .bool r1_k, .slice r1_1 r1_l r1_d]⟩, ⟨(w.heap.size + 2), [.bool m2, .slice a2 n2 c2, .bool k2, .slice b2 l2 d2]⟩, ⟨(w.heap.size + 1), [.bool m1, .slice a1 n1 c1, .bool k1, .slice b1 l1 d1]⟩, ⟨(w.heap.size), [.bool m0, .slice a0 n0 c0, .bool k0, .slice b0 l0 d0]⟩] _) := Lib.hid (Sx.set [] [⟨(w3.heap.size), [.bool r1_m, .slice r1_0 r1_n r1_c, .bool r1_k, .slice r1_1 r1_l r1_d]⟩, ⟨(w.heap.size + 2), [.bool m2, .slice a2 n2 c2, .bool k2, .slice b2 l2 d2]⟩, ⟨(w.heap.size + 1), [.bool m1, .slice a1 n1 c1, .bool k1, .slice b1 l1 d1]⟩, ⟨(w.heap.size), [.bool m0, .slice a0 n0 c0, .bool k0, .slice b0 l0 d0]⟩] (Sx.set [] [⟨(w3.heap.size), [.bool r1_m, .slice r1_0 r1_n r1_c, .bool r1_k, .slice r1_1 r1_l r1_d]⟩, ⟨(w.heap.size + 2), [.bool m2, .slice a2 n2 c2, .bool k2, .slice b2 l2 d2]⟩, ⟨(w.heap.size + 1), [.bool m1, .slice a1 n1 c1, .bool k1, .slice b1 l1 d1]⟩, ⟨(w.heap.size), [.bool m0, .slice a0 n0 c0, .bool k0, .slice b0 l0 d0]⟩] (Sx.set [] [⟨(w3.heap.size), [.bool r1_m, .slice r1_0 r1_n r1_c, .bool r1_k, .slice r1_1 r1_l r1_d]⟩, ⟨(w.heap.size + 2), [.bool m2, .slice a2 n2 c2, .bool k2, .slice b2 l2 d2]⟩, ⟨(w.heap.size + 1), [.bool m1, .slice a1 n1 c1, .bool k1, .slice b1 l1 d1]⟩, ⟨(w.heap.size), [.bool m0, .slice a0 n0 c0, .bool k0, .slice b0 l0 d0]⟩] (Sx.set [] [⟨(w3.heap.size), [.bool r1_m, .slice r1_0 r1_n r1_c, .bool r1_k, .slice r1_1 r1_l r1_d]⟩, ⟨(w.heap.size + 2), [.bool m2, .slice a2 n2 c2, .bool k2, .slice b2 l2 d2]⟩, ⟨(w.heap.size + 1), [.bool m1, .slice a1 n1 c1, .bool k1, .slice b1 l1 d1]⟩, ⟨(w.heap.size), [.bool m0, .slice a0 n0 c0, .bool k0, .slice b0 l0 d0]⟩] S13.out 0 (.bool r3_m)) 1 (.slice r3_0 r3_n r3_c)) 2 (.bool r3_k)) 3 (.slice r3_1 r3_l r3_d))
        clear S13
        refine hK.out _ _ ⟨S14.out.b.t.t.t.t.c4, S14.out.b.t.t.t.c4, S14.out.b.t.c4⟩ (fun h2 => ?_)
        clear hK K hH
        have hH := h2
        clear h2
        try simp only [nrm]
        refine anyH_world (fun w10 hW => ?_)
        rw [← hW] at S14 hH
        clear hW
        refine wpAnyH_done (by kernel_rfl) ?_ _
        clear hH
        go_wp2_with fail
        go_meet
        case rel => exact ⟨_, _, _, _, _, _, _, _, _, _, _, _, _, _, _, _, _, rfl, S14.out⟩
      · go_simp
        have S12 := Lib.hid (S11.out.var (w7.heap.size) [.bool false, .slice none 0 0, .bool false, .slice none 0 0] 26 (by simp))
        clear S11
        refine hK.out _ _ ⟨S12.out.b.t.t.t.t.c4, S12.out.b.t.t.t.c4, S12.out.b.t.c4⟩ (fun h2 => ?_)
        clear hK K hH
        have hH := h2
        clear h2
        try simp only [nrm]
        refine anyH_world (fun w8 hW => ?_)
        rw [← hW] at S12 hH
        clear hW
        refine step_one 4 rfl (by kernel_rfl) (fun K hK => ?_)
        go_simp
        refine (rmul_any S12.out.n.rc.rx S12.out.n.t.rc.rx (by omega) (by omega) (by omega)).mono ?_
        rintro e w9 ⟨r3_m, r3_0, r3_n, r3_c, r3_k, r3_1, r3_l, r3_d, rfl, hX, hB⟩
        have S13 := Lib.hid (((S12.out.step hB).rc hX rfl))
        clear S12 hX hB
        go_wp2_with fail
        refine hK.out _ _ ⟨S13.out.b.t.t.t.t.c4, S13.out.b.t.t.t.c4, S13.out.b.t.c4⟩ (fun h2 => ?_)
        clear hK K hH
        have hH := h2
        clear h2
        try simp only [nrm]
        refine step_one 6 rfl (by kernel_rfl) (fun K hK => ?_)
        obtain ⟨c_b10_0, c_b10_1, c_b10_2, c_b10_3⟩ := S13.out.b.c4
        obtain ⟨f_b10_0, f_b10_1, f_b10_2, f_b10_3⟩ := S13.out.b.f4
        go_simp
        clear c_b10_0 c_b10_1 c_b10_2 c_b10_3 f_b10_0 f_b10_1 f_b10_2 f_b10_3
        have S14 : Hid (Sx w _ [⟨(w7.heap.size), [.bool r3_m, .slice r3_0 r3_n r3_c, .bool r3_k, .slice r3_1 r3_l r3_d]⟩, ⟨(w3.heap.size), [.bool r1_m, .slice r1_0 r1_n r1_c, .bool r1_k, .slice r1_1 r1_l r1_d]⟩, ⟨(w.heap.size + 2), [.bool m2, .slice a2 n2 c2, .bool k2, .slice b2 l2 d2]⟩, ⟨(w.heap.size + 1), [.bool m1, .slice a1 n1 c1, .bool k1, .slice b1 l1 d1]⟩, ⟨(w.heap.size), [.bool m0, .slice a0 n0 c0, .bool k0, .slice b0 l0 d0]⟩] _) := Lib.hid (Sx.set [] [⟨(w3.heap.size), [.bool r1_m, .slice r1_0 r1_n r1_c, .bool r1_k, .slice r1_1 r1_l r1_d]⟩, ⟨(w.heap.size + 2), [.bool m2, .slice a2 n2 c2, .bool k2, .slice b2 l2 d2]⟩, ⟨(w.heap.size + 1), [.bool m1, .slice a1 n1 c1, .bool k1, .slice b1 l1 d1]⟩, ⟨(w.heap.size), [.bool m0, .slice a0 n0 c0, .bool k0, .slice b0 l0 d0]⟩] (Sx.set [] [⟨(w3.heap.size), [.bool r1_m, .slice r1_0 r1_n r1_c, .bool r1_k, .slice r1_1 r1_l r1_d]⟩, ⟨(w.heap.size + 2), [.bool m2, .slice a2 n2 c2, .bool k2, .slice b2 l2 d2]⟩, ⟨(w.heap.size + 1), [.bool m1, .slice a1 n1 c1, .bool k1, .slice b1 l1 d1]⟩, ⟨(w.heap.size), [.bool m0, .slice a0 n0 c0, .bool k0, .slice b0 l0 d0]⟩] (Sx.set [] [⟨(w3.heap.size), [.bool r1_m, .slice r1_0 r1_n r1_c, .bool r1_k, .slice r1_1 r1_l r1_d]⟩, ⟨(w.heap.size + 2), [.bool m2, .slice a2 n2 c2, .bool k2, .slice b2 l2 d2]⟩, ⟨(w.heap.size + 1), [.bool m1, .slice a1 n1 c1, .bool k1, .slice b1 l1 d1]⟩, ⟨(w.heap.size), [.bool m0, .slice a0 n0 c0, .bool k0, .slice b0 l0 d0]⟩] (Sx.set [] [⟨(w3.heap.size), [.bool r1_m, .slice r1_0 r1_n r1_c, .bool r1_k, .slice r1_1 r1_l r1_d]⟩, ⟨(w.heap.size + 2), [.bool m2, .slice a2 n2 c2, .bool k2, .slice b2 l2 d2]⟩, ⟨(w.heap.size + 1), [.bool m1, .slice a1 n1 c1, .bool k1, .slice b1 l1 d1]⟩, ⟨(w.heap.size), [.bool m0, .slice a0 n0 c0, .bool k0, .slice b0 l0 d0]⟩] S13.out 0 (.bool r3_m)) 1 (.slice r3_0 r3_n r3_c)) 2 (.bool r3_k)) 3 (.slice r3_1 r3_l r3_d))
        clear S13
        refine hK.out _ _ ⟨S14.out.b.t.t.t.t.c4, S14.out.b.t.t.t.c4, S14.out.b.t.c4⟩ (fun h2 => ?_)
        clear hK K hH
        have hH := h2
        clear h2
        try simp only [nrm]
        refine anyH_world (fun w10 hW => ?_)
        rw [← hW] at S14 hH
        clear hW
        refine wpAnyH_done (by kernel_rfl) ?_ _
        clear hH
        go_wp2_with fail
        go_meet
        case rel => exact ⟨_, _, _, _, _, _, _, _, _, _, _, _, _, _, _, _, _, rfl, S14.out⟩
    · go_simp
      have S11 := Lib.hid (S10.out.var (w6.heap.size) [.bool false, .slice none 0 0, .bool false, .slice none 0 0] 26 (by simp))
      clear S10
      refine hK.out _ _ ⟨S11.out.b.t.t.t.t.c4, S11.out.b.t.t.t.c4, S11.out.b.t.c4⟩ (fun h2 => ?_)
      clear hK K hH
      have hH := h2
      clear h2
      try simp only [nrm]
      refine anyH_world (fun w7 hW => ?_)
      rw [← hW] at S11 hH
      clear hW
      refine step_one 2 rfl (by kernel_rfl) (fun K hK => ?_)
      go_simp
      refine (radd_any S11.out.n.t.rx S11.out.n.t.t.rx (by omega) (by omega) (by omega)).mono ?_
      rintro e w8 ⟨r2_m, r2_0, r2_n, r2_c, r2_k, r2_1, r2_l, r2_d, rfl, hX, hB⟩
      have S12 := Lib.hid (((S11.out.step hB).rc hX rfl))
      clear S11 hX hB
      go_wp2_with fail
      refine hK.out _ _ ⟨S12.out.b.t.t.t.t.c4, S12.out.b.t.t.t.c4, S12.out.b.t.c4⟩ (fun h2 => ?_)
      clear hK K hH
      have hH := h2
      clear h2
      try simp only [nrm]
      refine step_one 4 rfl (by kernel_rfl) (fun K hK => ?_)
      go_simp
      refine (rmul_any S12.out.n.rc.rx S12.out.n.t.rc.rx (by omega) (by omega) (by omega)).mono ?_
      rintro e w9 ⟨r3_m, r3_0, r3_n, r3_c, r3_k, r3_1, r3_l, r3_d, rfl, hX, hB⟩
      have S13 := Lib.hid (((S12.out.step hB).rc hX rfl))
      clear S12 hX hB
      go_wp2_with fail
      refine hK.out _ _ ⟨S13.out.b.t.t.t.t.c4, S13.out.b.t.t.t.c4, S13.out.b.t.c4⟩ (fun h2 => ?_)
      clear hK K hH
      have hH := h2
      clear h2
      try simp only [nrm]
      refine step_one 6 rfl (by kernel_rfl) (fun K hK => ?_)
      obtain ⟨c_b10_0, c_b10_1, c_b10_2, c_b10_3⟩ := S13.out.b.c4
      obtain ⟨f_b10_0, f_b10_1, f_b10_2, f_b10_3⟩ := S13.out.b.f4
      go_simp
      clear c_b10_0 c_b10_1 c_b10_2 c_b10_3 f_b10_0 f_b10_1 f_b10_2 f_b10_3
      have S14 : Hid (Sx w _ [⟨(w6.heap.size), [.bool r3_m, .slice r3_0 r3_n r3_c, .bool r3_k, .slice r3_1 r3_l r3_d]⟩, ⟨(w3.heap.size), [.bool r1_m, .slice r1_0 r1_n r1_c, .bool r1_k, .slice r1_1 r1_l r1_d]⟩, ⟨(w.heap.size + 2), [.bool m2, .slice a2 n2 c2, .bool k2, .slice b2 l2 d2]⟩, ⟨(w.heap.size + 1), [.bool m1, .slice a1 n1 c1, .bool k1, .slice b1 l1 d1]⟩, ⟨(w.heap.size), [.bool m0, .slice a0 n0 c0, .bool k0, .slice b0 l0 d0]⟩] _) := Lib.hid (Sx.set [] [⟨(w3.heap.size), [.bool r1_m, .slice r1_0 r1_n r1_c, .bool r1_k, .slice r1_1 r1_l r1_d]⟩, ⟨(w.heap.size + 2), [.bool m2, .slice a2 n2 c2, .bool k2, .slice b2 l2 d2]⟩, ⟨(w.heap.size + 1), [.bool m1, .slice a1 n1 c1, .bool k1, .slice b1 l1 d1]⟩, ⟨(w.heap.size), [.bool m0, .slice a0 n0 c0, .bool k0, .slice b0 l0 d0]⟩] (Sx.set [] [⟨(w3.heap.size), [.bool r1_m, .slice r1_0 r1_n r1_c, .bool r1_k, .slice r1_1 r1_l r1_d]⟩, ⟨(w.heap.size + 2), [.bool m2, .slice a2 n2 c2, .bool k2, .slice b2 l2 d2]⟩, ⟨(w.heap.size + 1), [.bool m1, .slice a1 n1 c1, .bool k1, .slice b1 l1 d1]⟩, ⟨(w.heap.size), [.bool m0, .slice a0 n0 c0, .bool k0, .slice b0 l0 d0]⟩] (Sx.set [] [⟨(w3.heap.size), [.bool r1_m, .slice r1_0 r1_n r1_c, .bool r1_k, .slice r1_1 r1_l r1_d]⟩, ⟨(w.heap.size + 2), [.bool m2, .slice a2 n2 c2, .bool k2, .slice b2 l2 d2]⟩, ⟨(w.heap.size + 1), [.bool m1, .slice a1 n1 c1, .bool k1, .slice b1 l1 d1]⟩, ⟨(w.heap.size), [.bool m0, .slice a0 n0 c0, .bool k0, .slice b0 l0 d0]⟩] (Sx.set [] [⟨(w3.heap.size), [.bool r1_m, .slice r1_0 r1_n r1_c, .bool r1_k, .slice r1_1 r1_l r1_d]⟩, ⟨(w.heap.size + 2), [.bool m2, .slice a2 n2 c2, .bool k2, .slice b2 l2 d2]⟩, ⟨(w.heap.size + 1), [.bool m1, .slice a1 n1 c1, .bool k1, .slice b1 l1 d1]⟩, ⟨(w.heap.size), [.bool m0, .slice a0 n0 c0, .bool k0, .slice b0 l0 d0]⟩] S13.out 0 (.bool r3_m)) 1 (.slice r3_0 r3_n r3_c)) 2 (.bool r3_k)) 3 (.slice r3_1 r3_l r3_d))
      clear S13
      refine hK.out _ _ ⟨S14.out.b.t.t.t.t.c4, S14.out.b.t.t.t.c4, S14.out.b.t.c4⟩ (fun h2 => ?_)
      clear hK K hH
      have hH := h2
      clear h2
      try simp only [nrm]
      refine anyH_world (fun w10 hW => ?_)
      rw [← hW] at S14 hH
      clear hW
      refine wpAnyH_done (by kernel_rfl) ?_ _
      clear hH
      go_wp2_with fail
      go_meet
      case rel => exact ⟨_, _, _, _, _, _, _, _, _, _, _, _, _, _, _, _, _, rfl, S14.out⟩
  case rest =>
  clear S9
  obtain ⟨qb10, r3_m, r3_0, r3_n, r3_c, r3_k, r3_1, r3_l, r3_d, r2_m, r2_0, r2_n, r2_c, r2_k, r2_1, r2_l, r2_d, rfl, S10⟩ := hcut
  obtain ⟨w11, hW⟩ : ∃ w11, w11 = wc := ⟨_, rfl⟩
  rw [← hW] at S10 ⊢
  clear hW
  obtain ⟨c_b3_0, c_b3_1, c_b3_2, c_b3_3⟩ := S10.out.b.t.t.t.t.c4
  obtain ⟨c_b10_0, c_b10_1, c_b10_2, c_b10_3⟩ := S10.out.b.c4
  go_wp2_with fail
  clear c_b3_0 c_b3_1 c_b3_2 c_b3_3 c_b10_0 c_b10_1 c_b10_2 c_b10_3
  refine (rcmp_any (c) S10.out.n.t.t.t.rx S10.out.n.rc.rx (by omega) (by omega) (by omega) ((qs_low r0 r1).trans Hc.out)).mono ?_
  rintro e w12 ⟨rfl, hB⟩
  have S11 := Lib.hid ((S10.out.step hB))
  clear S10 hB
  obtain ⟨c_b10_0, c_b10_1, c_b10_2, c_b10_3⟩ := S11.out.b.c4
  obtain ⟨c_b4_0, c_b4_1, c_b4_2, c_b4_3⟩ := S11.out.b.t.t.t.c4
  go_wp2_with fail
  clear c_b10_0 c_b10_1 c_b10_2 c_b10_3 c_b4_0 c_b4_1 c_b4_2 c_b4_3
  refine (rcmp_any (c) S11.out.n.rc.rx S11.out.n.t.t.t.t.rx (by omega) (by omega) (by omega) ((qs_high r0 r1).trans Hc.out)).mono ?_
  rintro e w13 ⟨rfl, hB⟩
  have S12 := Lib.hid ((S11.out.step hB))
  clear S11 hB
  obtain ⟨c_b3_0, c_b3_1, c_b3_2, c_b3_3⟩ := S12.out.b.t.t.t.t.c4
  obtain ⟨c_b4_0, c_b4_1, c_b4_2, c_b4_3⟩ := S12.out.b.t.t.t.c4
  go_wp2_with fail
  clear c_b3_0 c_b3_1 c_b3_2 c_b3_3 c_b4_0 c_b4_1 c_b4_2 c_b4_3
  refine (rsub_any S12.out.n.t.t.t.rx S12.out.n.t.t.t.t.rx (by omega) (by omega) (by omega)).mono ?_
  rintro e w14 ⟨r4_m, r4_0, r4_n, r4_c, r4_k, r4_1, r4_l, r4_d, rfl, hX, hB⟩
  have S13 := Lib.hid (((S12.out.step hB).rc hX rfl))
  clear S12 hX hB
  go_wp2_with fail
  refine (rsign_any (c) S13.out.n.rc.rx (by omega) (Hc.out)).mono ?_
  rintro e w15 ⟨rfl, hB⟩
  have S14 := Lib.hid ((S13.out.step hB))
  clear S13 hB
  go_wp2_with fail
  have S15 := Lib.hid (S14.out.drew)
  clear S14
  refine wp_region_held_drew (S := fun w' => (w'.cell? ⟨(w.heap.size), 0, none⟩ = some (.bool m0) ∧ w'.cell? ⟨(w.heap.size), 1, none⟩ = some (.slice a0 n0 c0) ∧ w'.cell? ⟨(w.heap.size), 2, none⟩ = some (.bool k0) ∧ w'.cell? ⟨(w.heap.size), 3, none⟩ = some (.slice b0 l0 d0)) ∧ (w'.cell? ⟨(w.heap.size + 2), 0, none⟩ = some (.bool m2) ∧ w'.cell? ⟨(w.heap.size + 2), 1, none⟩ = some (.slice a2 n2 c2) ∧ w'.cell? ⟨(w.heap.size + 2), 2, none⟩ = some (.bool k2) ∧ w'.cell? ⟨(w.heap.size + 2), 3, none⟩ = some (.slice b2 l2 d2)) ∧ (w'.cell? ⟨(w.heap.size + 1), 0, none⟩ = some (.bool m1) ∧ w'.cell? ⟨(w.heap.size + 1), 1, none⟩ = some (.slice a1 n1 c1) ∧ w'.cell? ⟨(w.heap.size + 1), 2, none⟩ = some (.bool k1) ∧ w'.cell? ⟨(w.heap.size + 1), 3, none⟩ = some (.slice b1 l1 d1))) (by kernel_rfl) (⟨S15.out.b.t.t.t.t.c4, S15.out.b.t.t.c4, S15.out.b.t.t.t.c4⟩) (fun hH => ?_)
  refine anyH_world (fun w16 hW => ?_)
  rw [← hW] at S15 hH
  clear hW
  refine step_on 0 rfl (by kernel_rfl) (fun _ _ _ h => h) (by rfl) hH (by intro w hS; go_simp <;> with_reducible rfl) ?_
  try simp only [nrm]
  refine step_on 1 rfl (by kernel_rfl) (fun _ _ _ h => h) (by rfl) hH (by intro w hS; go_simp <;> with_reducible rfl) ?_
  try simp only [nrm]
  refine step_on 3 rfl (by kernel_rfl) (fun _ _ _ h => h) (by rfl) hH (by intro w hS; go_simp <;> with_reducible rfl) ?_
  try simp only [nrm]
  refine step_on 4 rfl (by kernel_rfl) (fun _ _ _ h => h) (by rfl) hH (by intro w hS; go_simp <;> with_reducible rfl) ?_
  try simp only [nrm]
  refine step_on 7 rfl (by kernel_rfl) (fun _ _ _ h => h) (by rfl) hH (by intro w hS; go_simp <;> with_reducible rfl) ?_
  try simp only [nrm]
  refine step_on 8 rfl (by kernel_rfl) (fun _ _ _ h => h) (by rfl) hH (by intro w hS; go_simp <;> with_reducible rfl) ?_
  try simp only [nrm]
  refine step_one 2 rfl (by kernel_rfl) (fun K hK => ?_)
  go_simp
  refine (rmul_any S15.out.n.t.t.t.t.rx S15.out.n.t.t.t.t.t.t.rx (by omega) (by omega) (by omega)).mono ?_
  rintro e w17 ⟨r5_m, r5_0, r5_n, r5_c, r5_k, r5_1, r5_l, r5_d, rfl, hX, hB⟩
  have S16 := Lib.hid (((S15.out.step hB).rc hX rfl))
  clear S15 hX hB
  go_wp2_with fail
  refine hK.out _ _ ⟨S16.out.b.t.t.t.t.c4, S16.out.b.t.t.c4, S16.out.b.t.t.t.c4⟩ (fun h2 => ?_)
  clear hK K hH
  have hH := h2
  clear h2
  try simp only [nrm]
  refine step_one 5 rfl (by kernel_rfl) (fun K hK => ?_)
  go_simp
  refine (rmul_any S16.out.n.t.t.t.t.t.t.rx S16.out.n.t.t.t.t.t.t.t.rx (by omega) (by omega) (by omega)).mono ?_
  rintro e w18 ⟨r6_m, r6_0, r6_n, r6_c, r6_k, r6_1, r6_l, r6_d, rfl, hX, hB⟩
  have S17 := Lib.hid (((S16.out.step hB).rc hX rfl))
  clear S16 hX hB
  go_wp2_with fail
  refine hK.out _ _ ⟨S17.out.b.t.t.t.t.c4, S17.out.b.t.t.c4, S17.out.b.t.t.t.c4⟩ (fun h2 => ?_)
  clear hK K hH
  have hH := h2
  clear h2
  try simp only [nrm]
  refine step_one 6 rfl (by kernel_rfl) (fun K hK => ?_)
  go_simp
  refine (rcmp_any (v) S17.out.n.t.rc.rx S17.out.n.rc.rx (by omega) (by omega) (by omega) (Hv.out)).mono ?_
  rintro e w19 ⟨rfl, hB⟩
  have S18 := Lib.hid ((S17.out.step hB))
  clear S17 hB
  go_wp2_with fail
  refine hK.out _ _ ⟨S18.out.b.t.t.t.t.c4, S18.out.b.t.t.c4, S18.out.b.t.t.t.c4⟩ (fun h2 => ?_)
  clear hK K hH
  have hH := h2
  clear h2
  try simp only [nrm]
  refine step_one 9 rfl (by kernel_rfl) (fun K hK => ?_)
  go_simp
  refine (rsign_any (t) S18.out.n.t.t.t.t.t.t.t.t.rx (by omega) (Ht.out)).mono ?_
  rintro e w20 ⟨rfl, hB⟩
  have S19 := Lib.hid ((S18.out.step hB))
  clear S18 hB
  go_wp2_with fail
  refine hK.out _ _ ⟨S19.out.b.t.t.t.t.c4, S19.out.b.t.t.c4, S19.out.b.t.t.t.c4⟩ (fun h2 => ?_)
  clear hK K hH
  have hH := h2
  clear h2
  try simp only [nrm]
  refine step_on 10 rfl (by kernel_rfl) (fun _ _ _ h => h) (by rfl) hH (by intro w hS; go_simp <;> with_reducible rfl) ?_
  try simp only [nrm]
  refine step_on 11 rfl (by kernel_rfl) (fun _ _ _ h => h) (by rfl) hH (by intro w hS; go_simp <;> with_reducible rfl) ?_
  try simp only [nrm]
  refine wpAnyH_done (by kernel_rfl) ?_ _
  clear hH
  go_wp2_with fail
  refine (rsmall_q 1 1 (1 : Rat) _ (by omega) (by omega) (by decide) (by decide +kernel)).mono ?_
  rintro e w21 ⟨r7_m, r7_0, r7_n, r7_c, r7_k, r7_1, r7_l, r7_d, rfl, hX, hB⟩
  have S20 := Lib.hid (((S19.out.step hB).rc hX rfl))
  clear S19 hX hB
  go_upto_region 11 with (fail)
  have S21 := Lib.hid (S20.out.var (w21.heap.size) [.bool r7_m, .slice r7_0 r7_n r7_c, .bool r7_k, .slice r7_1 r7_l r7_d] 26 (by simp))
  clear S20
  refine wp_world (fun w22 hW => ?_)
  rw [← hW] at S21
  clear hW
  obtain ⟨c_b11_0, c_b11_1, c_b11_2, c_b11_3⟩ := S21.out.b.c4
  obtain ⟨c_b3_0, c_b3_1, c_b3_2, c_b3_3⟩ := S21.out.b.t.t.t.t.t.c4
  go_wp2_with fail
  clear c_b11_0 c_b11_1 c_b11_2 c_b11_3 c_b3_0 c_b3_1 c_b3_2 c_b3_3
  refine (rdiv_zero S21.out.n.rc.rx S21.out.n.t.t.t.t.t.t.t.rx (by omega) (by omega) (by omega) (HH0.out)).mono ?_
  rintro e w23 ⟨rfl, hB⟩
  have S22 := Lib.hid ((S21.out.step hB))
  clear S21 hB
  go_upto_region 12 with (fail)
  have S23 := Lib.hid (S22.out.var (w23.heap.size) [.bool false, .slice none 0 0, .bool false, .slice none 0 0] 26 (by simp))
  clear S22
  refine wp_world (fun w24 hW => ?_)
  rw [← hW] at S23
  clear hW
  obtain ⟨c_b3_0, c_b3_1, c_b3_2, c_b3_3⟩ := S23.out.b.t.t.t.t.t.t.c4
  go_wp2_with fail
  clear c_b3_0 c_b3_1 c_b3_2 c_b3_3
  refine (rsign_any (s) S23.out.n.t.t.t.t.t.t.t.rx (by omega) (Hs.out)).mono ?_
  rintro e w25 ⟨rfl, hB⟩
  have S24 := Lib.hid ((S23.out.step hB))
  clear S23 hB
  go_wp2_with fail
  refine (known6_any _ (HT.out.below S24.out.h)).mono ?_
  rintro e w26 ⟨rfl, hB⟩
  have S25 := Lib.hid ((S24.out.step hB))
  clear S24 hB
  go_wp2_with fail
  go_ret
  exact ⟨rfl, S25.out.h⟩

set_option maxHeartbeats 1000000 in
set_option maxRecDepth 100000 in
theorem ratioBetween_some {m0 k0 : Bool} {a0 b0 : Option Addr} {n0 c0 l0 d0 : Nat} {m1 k1 : Bool} {a1 b1 : Option Addr} {n1 c1 l1 d1 : Nat} {m2 k2 : Bool} {a2 b2 : Option Addr} {n2 c2 l2 d2 : Nat} {xs0 ys0 xs1 ys1 xs2 ys2 : List Nat} {w : World} (hs0 : Sl w a0 n0 c0 xs0) (ht0 : Sl w b0 l0 d0 ys0) (hs1 : Sl w a1 n1 c1 xs1) (ht1 : Sl w b1 l1 d1 ys1) (hs2 : Sl w a2 n2 c2 xs2) (ht2 : Sl w b2 l2 d2 ys2) (ht : Tab w) (p0 : n0 ≤ 8) (q0 : l0 ≤ 8) (p1 : n1 ≤ 8) (q1 : l1 ≤ 8) (p2 : n2 ≤ 8) (q2 : l2 ≤ 8) (h0 : qv (zOf m0 (val xs0)) (zOf k0 (val ys0)) ≠ 0) :
    Calls Tryz.prog 7 #[.agg #[.bool m0, .slice a0 n0 c0, .bool k0, .slice b0 l0 d0], .agg #[.bool m1, .slice a1 n1 c1, .bool k1, .slice b1 l1 d1], .agg #[.bool m2, .slice a2 n2 c2, .bool k2, .slice b2 l2 d2]] w (RetB (.bool true) w) := by
  obtain ⟨x0, hx0⟩ : ∃ x, zOf m0 (val xs0) = x := ⟨_, rfl⟩
  obtain ⟨e0, he0⟩ : ∃ x, zOf k0 (val ys0) = x := ⟨_, rfl⟩
  obtain ⟨r0, hr0⟩ : ∃ q, qv x0 e0 = q := ⟨_, rfl⟩
  have hR0 := rx_of hs0 ht0 hx0 he0 hr0 p0 q0
  have P0 := Lib.hid (lim_no p0)
  have Q0 := Lib.hid (lim_no q0)
  rw [hx0, he0, hr0] at h0
  clear hx0 he0 hr0 p0 q0
  obtain ⟨x1, hx1⟩ : ∃ x, zOf m1 (val xs1) = x := ⟨_, rfl⟩
  obtain ⟨e1, he1⟩ : ∃ x, zOf k1 (val ys1) = x := ⟨_, rfl⟩
  obtain ⟨r1, hr1⟩ : ∃ q, qv x1 e1 = q := ⟨_, rfl⟩
  have hR1 := rx_of hs1 ht1 hx1 he1 hr1 p1 q1
  have P1 := Lib.hid (lim_no p1)
  have Q1 := Lib.hid (lim_no q1)
  clear hx1 he1 hr1 p1 q1
  obtain ⟨x2, hx2⟩ : ∃ x, zOf m2 (val xs2) = x := ⟨_, rfl⟩
  obtain ⟨e2, he2⟩ : ∃ x, zOf k2 (val ys2) = x := ⟨_, rfl⟩
  obtain ⟨r2, hr2⟩ : ∃ q, qv x2 e2 = q := ⟨_, rfl⟩
  have hR2 := rx_of hs2 ht2 hx2 he2 hr2 p2 q2
  have P2 := Lib.hid (lim_no p2)
  have Q2 := Lib.hid (lim_no q2)
  clear hx2 he2 hr2 p2 q2
  have HT := Lib.hid ht
  clear ht
  obtain ⟨c, hc⟩ : ∃ x, qs (r0 - r1) = x := ⟨_, rfl⟩
  have Hc := Lib.hid hc
  clear hc
  obtain ⟨t, ht⟩ : ∃ x, qs r2 = x := ⟨_, rfl⟩
  have Ht := Lib.hid ht
  clear ht
  obtain ⟨v, hv⟩ : ∃ x, qs (r0 * r2 - r1 * r2) = x := ⟨_, rfl⟩
  have f2 : IntKind.i64.wrap (c * t) = v := by rw [← hv, qs_times, Hc.out, Ht.out]; exact wrap_qs _ _ _ _ Hc.out Ht.out
  have Hv := Lib.hid hv
  clear hv
  obtain ⟨s, hs⟩ : ∃ x, qs r0 = x := ⟨_, rfl⟩
  have f1 : (s == 0) = false := by rw [← hs]; have := qs_zero r0; simp; exact fun e => h0 (this.1 e)
  have Hs := Lib.hid hs
  clear hs
  have HH0 := Lib.hid h0
  clear h0
  go_enter Tryz.func7, Tryz.ntmps7
  have S0 := Lib.hid (Sx.start (w := w) (N := [.rx m0 a0 n0 c0 k0 b0 l0 d0 x0 e0 r0 8, .rx m1 a1 n1 c1 k1 b1 l1 d1 x1 e1 r1 8, .rx m2 a2 n2 c2 k2 b2 l2 d2 x2 e2 r2 8]) ⟨hR0, hR1, hR2, trivial⟩)
  clear hR0 hR1 hR2
  have S1 := Lib.hid (S0.out.var (w.heap.size) [.bool m0, .slice a0 n0 c0, .bool k0, .slice b0 l0 d0] 26 (by simp))
  clear S0
  have S2 := Lib.hid (S1.out.var (w.heap.size + 1) [.bool m1, .slice a1 n1 c1, .bool k1, .slice b1 l1 d1] 26 (by simp))
  clear S1
  have S3 := Lib.hid (S2.out.var (w.heap.size + 2) [.bool m2, .slice a2 n2 c2, .bool k2, .slice b2 l2 d2] 26 (by simp))
  clear S2
  go_upto_region 1 with (fail)
  refine wp_world (fun w1 hW => ?_)
  rw [← hW] at S3
  clear hW
  obtain ⟨c_b3_0, c_b3_1, c_b3_2, c_b3_3⟩ := S3.out.b.t.t.c4
  obtain ⟨c_b4_0, c_b4_1, c_b4_2, c_b4_3⟩ := S3.out.b.t.c4
  obtain ⟨c_b5_0, c_b5_1, c_b5_2, c_b5_3⟩ := S3.out.b.c4
  go_wp2_with fail
  clear c_b3_0 c_b3_1 c_b3_2 c_b3_3 c_b4_0 c_b4_1 c_b4_2 c_b4_3 c_b5_0 c_b5_1 c_b5_2 c_b5_3
  have S4 := Lib.hid (S3.out.var (w1.heap.size) [.bool m0, .slice a0 n0 c0, .bool k0, .slice b0 l0 d0, .bool m1, .slice a1 n1 c1, .bool k1, .slice b1 l1 d1, .bool m2, .slice a2 n2 c2, .bool k2, .slice b2 l2 d2] 26 (by simp))
  clear S3
  refine (great6_3 false S4.out.b.1 (by rw [P0.out, Q0.out, P1.out, Q1.out, P2.out, Q2.out]; rfl)).mono ?_
  rintro e w2 ⟨rfl, hB⟩
  have S5 := Lib.hid ((S4.out.step hB))
  clear S4 hB
  have S6 := Lib.hid (S5.out.pop)
  clear S5
  go_wp2_with fail
  refine (rsmall_q 1 2 (1/2 : Rat) _ (by omega) (by omega) (by decide) (by decide +kernel)).mono ?_
  rintro e w3 ⟨r1_m, r1_0, r1_n, r1_c, r1_k, r1_1, r1_l, r1_d, rfl, hX, hB⟩
  have S7 := Lib.hid (((S6.out.step hB).rc hX rfl))
  clear S6 hX hB
  go_upto_region 4 with (fail)
  have S8 := Lib.hid (S7.out.var (w3.heap.size) [.bool r1_m, .slice r1_0 r1_n r1_c, .bool r1_k, .slice r1_1 r1_l r1_d] 26 (by simp))
  clear S7
  refine wp_world (fun w4 hW => ?_)
  rw [← hW] at S8
  clear hW
  obtain ⟨c_b3_0, c_b3_1, c_b3_2, c_b3_3⟩ := S8.out.b.t.t.t.c4
  obtain ⟨c_b4_0, c_b4_1, c_b4_2, c_b4_3⟩ := S8.out.b.t.t.c4
  go_wp2_with fail
  clear c_b3_0 c_b3_1 c_b3_2 c_b3_3 c_b4_0 c_b4_1 c_b4_2 c_b4_3
  refine (rcmp_any (c) S8.out.n.t.rx S8.out.n.t.t.rx (by omega) (by omega) (by omega) (Hc.out)).mono ?_
  rintro e w5 ⟨rfl, hB⟩
  have S9 := Lib.hid ((S8.out.step hB))
  clear S8 hB
  go_wp2_with fail
  go_cut [10] from 28 to 33 (fun sl0 w9 => ∃ (qb10 : Nat) (r3_m : Bool) (r3_0 : Option Addr) (r3_n : Nat) (r3_c : Nat) (r3_k : Bool) (r3_1 : Option Addr) (r3_l : Nat) (r3_d : Nat) (r2_m : Bool) (r2_0 : Option Addr) (r2_n : Nat) (r2_c : Nat) (r2_k : Bool) (r2_1 : Option Addr) (r2_l : Nat) (r2_d : Nat), sl0 = .pointer (some ⟨qb10, 0, none⟩) ∧ Hid (Sx w w9 [⟨qb10, [.bool r3_m, .slice r3_0 r3_n r3_c, .bool r3_k, .slice r3_1 r3_l r3_d]⟩, ⟨(w3.heap.size), [.bool r1_m, .slice r1_0 r1_n r1_c, .bool r1_k, .slice r1_1 r1_l r1_d]⟩, ⟨(w.heap.size + 2), [.bool m2, .slice a2 n2 c2, .bool k2, .slice b2 l2 d2]⟩, ⟨(w.heap.size + 1), [.bool m1, .slice a1 n1 c1, .bool k1, .slice b1 l1 d1]⟩, ⟨(w.heap.size), [.bool m0, .slice a0 n0 c0, .bool k0, .slice b0 l0 d0]⟩] [.rc r3_m r3_0 r3_n r3_c r3_k r3_1 r3_l r3_d ((r0 + r1) * (1/2 : Rat)) 19, .rc r2_m r2_0 r2_n r2_c r2_k r2_1 r2_l r2_d (r0 + r1) 17, .rc r1_m r1_0 r1_n r1_c r1_k r1_1 r1_l r1_d (1/2 : Rat) 2, .rx m0 a0 n0 c0 k0 b0 l0 d0 x0 e0 r0 8, .rx m1 a1 n1 c1 k1 b1 l1 d1 x1 e1 r1 8, .rx m2 a2 n2 c2 k2 b2 l2 d2 x2 e2 r2 8]))
  case first =>
    have S10 := Lib.hid (S9.out.drew)
    clear S9
    refine wp_region_held_drew (S := fun w' => (w'.cell? ⟨(w.heap.size), 0, none⟩ = some (.bool m0) ∧ w'.cell? ⟨(w.heap.size), 1, none⟩ = some (.slice a0 n0 c0) ∧ w'.cell? ⟨(w.heap.size), 2, none⟩ = some (.bool k0) ∧ w'.cell? ⟨(w.heap.size), 3, none⟩ = some (.slice b0 l0 d0)) ∧ (w'.cell? ⟨(w.heap.size + 1), 0, none⟩ = some (.bool m1) ∧ w'.cell? ⟨(w.heap.size + 1), 1, none⟩ = some (.slice a1 n1 c1) ∧ w'.cell? ⟨(w.heap.size + 1), 2, none⟩ = some (.bool k1) ∧ w'.cell? ⟨(w.heap.size + 1), 3, none⟩ = some (.slice b1 l1 d1)) ∧ (w'.cell? ⟨(w3.heap.size), 0, none⟩ = some (.bool r1_m) ∧ w'.cell? ⟨(w3.heap.size), 1, none⟩ = some (.slice r1_0 r1_n r1_c) ∧ w'.cell? ⟨(w3.heap.size), 2, none⟩ = some (.bool r1_k) ∧ w'.cell? ⟨(w3.heap.size), 3, none⟩ = some (.slice r1_1 r1_l r1_d))) (by kernel_rfl) (⟨S10.out.b.t.t.t.c4, S10.out.b.t.t.c4, S10.out.b.c4⟩) (fun hH => ?_)
    refine anyH_world (fun w6 hW => ?_)
    rw [← hW] at S10 hH
    clear hW
    refine step_on 0 rfl (by kernel_rfl) (fun _ _ _ h => h) (by rfl) hH (by intro w hS; go_simp <;> with_reducible rfl) ?_
    try simp only [nrm]
    refine step_on 1 rfl (by kernel_rfl) (fun _ _ _ h => h) (by rfl) hH (by intro w hS; go_simp <;> with_reducible rfl) ?_
    try simp only [nrm]
    refine step_on 3 rfl (by kernel_rfl) (fun _ _ _ h => h) (by rfl) hH (by intro w hS; go_simp <;> with_reducible rfl) ?_
    try simp only [nrm]
    refine wpAnyH_ready (rs := [2, 5]) (by kernel_rfl) (by simp) (ready_cons rfl (fun K hK => ?_) (ready_cons rfl (fun K hK => ?_) (AllReadyH.nil)))
    · go_simp
      refine (radd_any S10.out.n.t.rx S10.out.n.t.t.rx (by omega) (by omega) (by omega)).mono ?_
      rintro e w7 ⟨r2_m, r2_0, r2_n, r2_c, r2_k, r2_1, r2_l, r2_d, rfl, hX, hB⟩
      have S11 := Lib.hid (((S10.out.step hB).rc hX rfl))
      clear S10 hX hB
      go_wp2_with fail
      refine hK.out _ _ ⟨S11.out.b.t.t.t.c4, S11.out.b.t.t.c4, S11.out.b.c4⟩ (fun h2 => ?_)
      clear hK K hH
      have hH := h2
      clear h2
      try simp only [nrm]
      refine wpAnyH_ready (rs := [4, 5]) (by kernel_rfl) (by simp) (ready_cons rfl (fun K hK => ?_) (ready_cons rfl (fun K hK => ?_) (AllReadyH.nil)))
      · go_simp
        refine (rmul_any S11.out.n.rc.rx S11.out.n.t.rc.rx (by omega) (by omega) (by omega)).mono ?_
        rintro e w8 ⟨r3_m, r3_0, r3_n, r3_c, r3_k, r3_1, r3_l, r3_d, rfl, hX, hB⟩
        have S12 := Lib.hid (((S11.out.step hB).rc hX rfl))
        clear S11 hX hB
        go_wp2_with fail
        refine hK.out _ _ ⟨S12.out.b.t.t.t.c4, S12.out.b.t.t.c4, S12.out.b.c4⟩ (fun h2 => ?_)
        clear hK K hH
        have hH := h2
        clear h2
        try simp only [nrm]
        refine step_one 5 rfl (by kernel_rfl) (fun K hK => ?_)
        go_simp
        have S13 := Lib.hid (S12.out.var (w8.heap.size) [.bool false, .slice none 0 0, .bool false, .slice none 0 0] 26 (by simp))
        clear S12
        refine hK.out _ _ ⟨S13.out.b.t.t.t.t.c4, S13.out.b.t.t.t.c4, S13.out.b.t.c4⟩ (fun h2 => ?_)
        clear hK K hH
        have hH := h2
        clear h2
        try simp only [nrm]
        refine anyH_world (fun w9 hW => ?_)
        rw [← hW] at S13 hH
        clear hW
        refine step_one 6 rfl (by kernel_rfl) (fun K hK => ?_)
        obtain ⟨c_b10_0, c_b10_1, c_b10_2, c_b10_3⟩ := S13.out.b.c4
        obtain ⟨f_b10_0, f_b10_1, f_b10_2, f_b10_3⟩ := S13.out.b.f4
        go_simp
        clear c_b10_0 c_b10_1 c_b10_2 c_b10_3 f_b10_0 f_b10_1 f_b10_2 f_b10_3
        have S14 : Hid (Sx w _ [⟨(w8.heap.size), [.bool r3_m, .slice r3_0 r3_n r3_c, .bool r3_k, .slice r3_1 r3_l r3_d]⟩, ⟨(w3.heap.size), [.bool r1_m, .slice r1_0 r1_n r1_c, .bool r1_k, .slice r1_1 r1_l r1_d]⟩, ⟨(w.heap.size + 2), [.bool m2, .slice a2 n2 c2, .bool k2, .slice b2 l2 d2]⟩, ⟨(w.heap.size + 1), [.bool m1, .slice a1 n1 c1, .bool k1, .slice b1 l1 d1]⟩, ⟨(w.heap.size), [.bool m0, .slice a0 n0 c0, .bool k0, .slice b0 l0 d0]⟩] _) := Lib.hid (Sx.set [] [⟨(w3.heap.size), [.bool r1_m, .slice r1_0 r1_n r1_c, .bool r1_k, .slice r1_1 r1_l r1_d]⟩, ⟨(w.heap.size + 2), [.bool m2, .slice a2 n2 c2, .bool k2, .slice b2 l2 d2]⟩, ⟨(w.heap.size + 1), [.bool m1, .slice a1 n1 c1, .bool k1, .slice b1 l1 d1]⟩, ⟨(w.heap.size), [.bool m0, .slice a0 n0 c0, .bool k0, .slice b0 l0 d0]⟩] (Sx.set [] [⟨(w3.heap.size), [.bool r1_m, .slice r1_0 r1_n r1_c, .bool r1_k, .slice r1_1 r1_l r1_d]⟩, ⟨(w.heap.size + 2), [.bool m2, .slice a2 n2 c2, .bool k2, .slice b2 l2 d2]⟩, ⟨(w.heap.size + 1), [.bool m1, .slice a1 n1 c1, .bool k1, .slice b1 l1 d1]⟩, ⟨(w.heap.size), [.bool m0, .slice a0 n0 c0, .bool k0, .slice b0 l0 d0]⟩] (Sx.set [] [⟨(w3.heap.size), [.bool r1_m, .slice r1_0 r1_n r1_c, .bool r1_k, .slice r1_1 r1_l r1_d]⟩, ⟨(w.heap.size + 2), [.bool m2, .slice a2 n2 c2, .bool k2, .slice b2 l2 d2]⟩, ⟨(w.heap.size + 1), [.bool m1, .slice a1 n1 c1, .bool k1, .slice b1 l1 d1]⟩, ⟨(w.heap.size), [.bool m0, .slice a0 n0 c0, .bool k0, .slice b0 l0 d0]⟩] (Sx.set [] [⟨(w3.heap.size), [.bool r1_m, .slice r1_0 r1_n r1_c, .bool r1_k, .slice r1_1 r1_l r1_d]⟩, ⟨(w.heap.size + 2), [.bool m2, .slice a2 n2 c2, .bool k2, .slice b2 l2 d2]⟩, ⟨(w.heap.size + 1), [.bool m1, .slice a1 n1 c1, .bool k1, .slice b1 l1 d1]⟩, ⟨(w.heap.size), [.bool m0, .slice a0 n0 c0, .bool k0, .slice b0 l0 d0]⟩] S13.out 0 (.bool r3_m)) 1 (.slice r3_0 r3_n r3_c)) 2 (.bool r3_k)) 3 (.slice r3_1 r3_l r3_d))
        clear S13
        refine hK.out _ _ ⟨S14.out.b.t.t.t.t.c4, S14.out.b.t.t.t.c4, S14.out.b.t.c4⟩ (fun h2 => ?_)
        clear hK K hH
        have hH := h2
        clear h2
        try simp only [nrm]
        refine anyH_world (fun w10 hW => ?_)
        rw [← hW] at S14 hH
        clear hW
        refine wpAnyH_done (by kernel_rfl) ?_ _
        clear hH
        go_wp2_with fail
        go_meet
        case rel => exact ⟨_, _, _, _, _, _, _, _, _, _, _, _, _, _, _, _, _, rfl, S14.out⟩
      · go_simp
        have S12 := Lib.hid (S11.out.var (w7.heap.size) [.bool false, .slice none 0 0, .bool false, .slice none 0 0] 26 (by simp))
        clear S11
        refine hK.out _ _ ⟨S12.out.b.t.t.t.t.c4, S12.out.b.t.t.t.c4, S12.out.b.t.c4⟩ (fun h2 => ?_)
        clear hK K hH
        have hH := h2
        clear h2
        try simp only [nrm]
        refine anyH_world (fun w8 hW => ?_)
        rw [← hW] at S12 hH
        clear hW
        refine step_one 4 rfl (by kernel_rfl) (fun K hK => ?_)
        go_simp
        refine (rmul_any S12.out.n.rc.rx S12.out.n.t.rc.rx (by omega) (by omega) (by omega)).mono ?_
        rintro e w9 ⟨r3_m, r3_0, r3_n, r3_c, r3_k, r3_1, r3_l, r3_d, rfl, hX, hB⟩
        have S13 := Lib.hid (((S12.out.step hB).rc hX rfl))
        clear S12 hX hB
        go_wp2_with fail
        refine hK.out _ _ ⟨S13.out.b.t.t.t.t.c4, S13.out.b.t.t.t.c4, S13.out.b.t.c4⟩ (fun h2 => ?_)
        clear hK K hH
        have hH := h2
        clear h2
        try simp only [nrm]
        refine step_one 6 rfl (by kernel_rfl) (fun K hK => ?_)
        obtain ⟨c_b10_0, c_b10_1, c_b10_2, c_b10_3⟩ := S13.out.b.c4
        obtain ⟨f_b10_0, f_b10_1, f_b10_2, f_b10_3⟩ := S13.out.b.f4
        go_simp
        clear c_b10_0 c_b10_1 c_b10_2 c_b10_3 f_b10_0 f_b10_1 f_b10_2 f_b10_3
        have S14 : Hid (Sx w _ [⟨(w7.heap.size), [.bool r3_m, .slice r3_0 r3_n r3_c, .bool r3_k, .slice r3_1 r3_l r3_d]⟩, ⟨(w3.heap.size), [.bool r1_m, .slice r1_0 r1_n r1_c, .bool r1_k, .slice r1_1 r1_l r1_d]⟩, ⟨(w.heap.size + 2), [.bool m2, .slice a2 n2 c2, .bool k2, .slice b2 l2 d2]⟩, ⟨(w.heap.size + 1), [.bool m1, .slice a1 n1 c1, .bool k1, .slice b1 l1 d1]⟩, ⟨(w.heap.size), [.bool m0, .slice a0 n0 c0, .bool k0, .slice b0 l0 d0]⟩] _) := Lib.hid (Sx.set [] [⟨(w3.heap.size), [.bool r1_m, .slice r1_0 r1_n r1_c, .bool r1_k, .slice r1_1 r1_l r1_d]⟩, ⟨(w.heap.size + 2), [.bool m2, .slice a2 n2 c2, .bool k2, .slice b2 l2 d2]⟩, ⟨(w.heap.size + 1), [.bool m1, .slice a1 n1 c1, .bool k1, .slice b1 l1 d1]⟩, ⟨(w.heap.size), [.bool m0, .slice a0 n0 c0, .bool k0, .slice b0 l0 d0]⟩] (Sx.set [] [⟨(w3.heap.size), [.bool r1_m, .slice r1_0 r1_n r1_c, .bool r1_k, .slice r1_1 r1_l r1_d]⟩, ⟨(w.heap.size + 2), [.bool m2, .slice a2 n2 c2, .bool k2, .slice b2 l2 d2]⟩, ⟨(w.heap.size + 1), [.bool m1, .slice a1 n1 c1, .bool k1, .slice b1 l1 d1]⟩, ⟨(w.heap.size), [.bool m0, .slice a0 n0 c0, .bool k0, .slice b0 l0 d0]⟩] (Sx.set [] [⟨(w3.heap.size), [.bool r1_m, .slice r1_0 r1_n r1_c, .bool r1_k, .slice r1_1 r1_l r1_d]⟩, ⟨(w.heap.size + 2), [.bool m2, .slice a2 n2 c2, .bool k2, .slice b2 l2 d2]⟩, ⟨(w.heap.size + 1), [.bool m1, .slice a1 n1 c1, .bool k1, .slice b1 l1 d1]⟩, ⟨(w.heap.size), [.bool m0, .slice a0 n0 c0, .bool k0, .slice b0 l0 d0]⟩] (Sx.set [] [⟨(w3.heap.size), [.bool r1_m, .slice r1_0 r1_n r1_c, .bool r1_k, .slice r1_1 r1_l r1_d]⟩, ⟨(w.heap.size + 2), [.bool m2, .slice a2 n2 c2, .bool k2, .slice b2 l2 d2]⟩, ⟨(w.heap.size + 1), [.bool m1, .slice a1 n1 c1, .bool k1, .slice b1 l1 d1]⟩, ⟨(w.heap.size), [.bool m0, .slice a0 n0 c0, .bool k0, .slice b0 l0 d0]⟩] S13.out 0 (.bool r3_m)) 1 (.slice r3_0 r3_n r3_c)) 2 (.bool r3_k)) 3 (.slice r3_1 r3_l r3_d))
        clear S13
        refine hK.out _ _ ⟨S14.out.b.t.t.t.t.c4, S14.out.b.t.t.t.c4, S14.out.b.t.c4⟩ (fun h2 => ?_)
        clear hK K hH
        have hH := h2
        clear h2
        try simp only [nrm]
        refine anyH_world (fun w10 hW => ?_)
        rw [← hW] at S14 hH
        clear hW
        refine wpAnyH_done (by kernel_rfl) ?_ _
        clear hH
        go_wp2_with fail
        go_meet
        case rel => exact ⟨_, _, _, _, _, _, _, _, _, _, _, _, _, _, _, _, _, rfl, S14.out⟩
    · go_simp
      have S11 := Lib.hid (S10.out.var (w6.heap.size) [.bool false, .slice none 0 0, .bool false, .slice none 0 0] 26 (by simp))
      clear S10
      refine hK.out _ _ ⟨S11.out.b.t.t.t.t.c4, S11.out.b.t.t.t.c4, S11.out.b.t.c4⟩ (fun h2 => ?_)
      clear hK K hH
      have hH := h2
      clear h2
      try simp only [nrm]
      refine anyH_world (fun w7 hW => ?_)
      rw [← hW] at S11 hH
      clear hW
      refine step_one 2 rfl (by kernel_rfl) (fun K hK => ?_)
      go_simp
      refine (radd_any S11.out.n.t.rx S11.out.n.t.t.rx (by omega) (by omega) (by omega)).mono ?_
      rintro e w8 ⟨r2_m, r2_0, r2_n, r2_c, r2_k, r2_1, r2_l, r2_d, rfl, hX, hB⟩
      have S12 := Lib.hid (((S11.out.step hB).rc hX rfl))
      clear S11 hX hB
      go_wp2_with fail
      refine hK.out _ _ ⟨S12.out.b.t.t.t.t.c4, S12.out.b.t.t.t.c4, S12.out.b.t.c4⟩ (fun h2 => ?_)
      clear hK K hH
      have hH := h2
      clear h2
      try simp only [nrm]
      refine step_one 4 rfl (by kernel_rfl) (fun K hK => ?_)
      go_simp
      refine (rmul_any S12.out.n.rc.rx S12.out.n.t.rc.rx (by omega) (by omega) (by omega)).mono ?_
      rintro e w9 ⟨r3_m, r3_0, r3_n, r3_c, r3_k, r3_1, r3_l, r3_d, rfl, hX, hB⟩
      have S13 := Lib.hid (((S12.out.step hB).rc hX rfl))
      clear S12 hX hB
      go_wp2_with fail
      refine hK.out _ _ ⟨S13.out.b.t.t.t.t.c4, S13.out.b.t.t.t.c4, S13.out.b.t.c4⟩ (fun h2 => ?_)
      clear hK K hH
      have hH := h2
      clear h2
      try simp only [nrm]
      refine step_one 6 rfl (by kernel_rfl) (fun K hK => ?_)
      obtain ⟨c_b10_0, c_b10_1, c_b10_2, c_b10_3⟩ := S13.out.b.c4
      obtain ⟨f_b10_0, f_b10_1, f_b10_2, f_b10_3⟩ := S13.out.b.f4
      go_simp
      clear c_b10_0 c_b10_1 c_b10_2 c_b10_3 f_b10_0 f_b10_1 f_b10_2 f_b10_3
      have S14 : Hid (Sx w _ [⟨(w6.heap.size), [.bool r3_m, .slice r3_0 r3_n r3_c, .bool r3_k, .slice r3_1 r3_l r3_d]⟩, ⟨(w3.heap.size), [.bool r1_m, .slice r1_0 r1_n r1_c, .bool r1_k, .slice r1_1 r1_l r1_d]⟩, ⟨(w.heap.size + 2), [.bool m2, .slice a2 n2 c2, .bool k2, .slice b2 l2 d2]⟩, ⟨(w.heap.size + 1), [.bool m1, .slice a1 n1 c1, .bool k1, .slice b1 l1 d1]⟩, ⟨(w.heap.size), [.bool m0, .slice a0 n0 c0, .bool k0, .slice b0 l0 d0]⟩] _) := Lib.hid (Sx.set [] [⟨(w3.heap.size), [.bool r1_m, .slice r1_0 r1_n r1_c, .bool r1_k, .slice r1_1 r1_l r1_d]⟩, ⟨(w.heap.size + 2), [.bool m2, .slice a2 n2 c2, .bool k2, .slice b2 l2 d2]⟩, ⟨(w.heap.size + 1), [.bool m1, .slice a1 n1 c1, .bool k1, .slice b1 l1 d1]⟩, ⟨(w.heap.size), [.bool m0, .slice a0 n0 c0, .bool k0, .slice b0 l0 d0]⟩] (Sx.set [] [⟨(w3.heap.size), [.bool r1_m, .slice r1_0 r1_n r1_c, .bool r1_k, .slice r1_1 r1_l r1_d]⟩, ⟨(w.heap.size + 2), [.bool m2, .slice a2 n2 c2, .bool k2, .slice b2 l2 d2]⟩, ⟨(w.heap.size + 1), [.bool m1, .slice a1 n1 c1, .bool k1, .slice b1 l1 d1]⟩, ⟨(w.heap.size), [.bool m0, .slice a0 n0 c0, .bool k0, .slice b0 l0 d0]⟩] (Sx.set [] [⟨(w3.heap.size), [.bool r1_m, .slice r1_0 r1_n r1_c, .bool r1_k, .slice r1_1 r1_l r1_d]⟩, ⟨(w.heap.size + 2), [.bool m2, .slice a2 n2 c2, .bool k2, .slice b2 l2 d2]⟩, ⟨(w.heap.size + 1), [.bool m1, .slice a1 n1 c1, .bool k1, .slice b1 l1 d1]⟩, ⟨(w.heap.size), [.bool m0, .slice a0 n0 c0, .bool k0, .slice b0 l0 d0]⟩] (Sx.set [] [⟨(w3.heap.size), [.bool r1_m, .slice r1_0 r1_n r1_c, .bool r1_k, .slice r1_1 r1_l r1_d]⟩, ⟨(w.heap.size + 2), [.bool m2, .slice a2 n2 c2, .bool k2, .slice b2 l2 d2]⟩, ⟨(w.heap.size + 1), [.bool m1, .slice a1 n1 c1, .bool k1, .slice b1 l1 d1]⟩, ⟨(w.heap.size), [.bool m0, .slice a0 n0 c0, .bool k0, .slice b0 l0 d0]⟩] S13.out 0 (.bool r3_m)) 1 (.slice r3_0 r3_n r3_c)) 2 (.bool r3_k)) 3 (.slice r3_1 r3_l r3_d))
      clear S13
      refine hK.out _ _ ⟨S14.out.b.t.t.t.t.c4, S14.out.b.t.t.t.c4, S14.out.b.t.c4⟩ (fun h2 => ?_)
      clear hK K hH
      have hH := h2
      clear h2
      try simp only [nrm]
      refine anyH_world (fun w10 hW => ?_)
      rw [← hW] at S14 hH
      clear hW
      refine wpAnyH_done (by kernel_rfl) ?_ _
      clear hH
      go_wp2_with fail
      go_meet
      case rel => exact ⟨_, _, _, _, _, _, _, _, _, _, _, _, _, _, _, _, _, rfl, S14.out⟩
  case rest =>
  clear S9
  obtain ⟨qb10, r3_m, r3_0, r3_n, r3_c, r3_k, r3_1, r3_l, r3_d, r2_m, r2_0, r2_n, r2_c, r2_k, r2_1, r2_l, r2_d, rfl, S10⟩ := hcut
  obtain ⟨w11, hW⟩ : ∃ w11, w11 = wc := ⟨_, rfl⟩
  rw [← hW] at S10 ⊢
  clear hW
  obtain ⟨c_b3_0, c_b3_1, c_b3_2, c_b3_3⟩ := S10.out.b.t.t.t.t.c4
  obtain ⟨c_b10_0, c_b10_1, c_b10_2, c_b10_3⟩ := S10.out.b.c4
  go_wp2_with fail
  clear c_b3_0 c_b3_1 c_b3_2 c_b3_3 c_b10_0 c_b10_1 c_b10_2 c_b10_3
  refine (rcmp_any (c) S10.out.n.t.t.t.rx S10.out.n.rc.rx (by omega) (by omega) (by omega) ((qs_low r0 r1).trans Hc.out)).mono ?_
  rintro e w12 ⟨rfl, hB⟩
  have S11 := Lib.hid ((S10.out.step hB))
  clear S10 hB
  obtain ⟨c_b10_0, c_b10_1, c_b10_2, c_b10_3⟩ := S11.out.b.c4
  obtain ⟨c_b4_0, c_b4_1, c_b4_2, c_b4_3⟩ := S11.out.b.t.t.t.c4
  go_wp2_with fail
  clear c_b10_0 c_b10_1 c_b10_2 c_b10_3 c_b4_0 c_b4_1 c_b4_2 c_b4_3
  refine (rcmp_any (c) S11.out.n.rc.rx S11.out.n.t.t.t.t.rx (by omega) (by omega) (by omega) ((qs_high r0 r1).trans Hc.out)).mono ?_
  rintro e w13 ⟨rfl, hB⟩
  have S12 := Lib.hid ((S11.out.step hB))
  clear S11 hB
  obtain ⟨c_b3_0, c_b3_1, c_b3_2, c_b3_3⟩ := S12.out.b.t.t.t.t.c4
  obtain ⟨c_b4_0, c_b4_1, c_b4_2, c_b4_3⟩ := S12.out.b.t.t.t.c4
  go_wp2_with fail
  clear c_b3_0 c_b3_1 c_b3_2 c_b3_3 c_b4_0 c_b4_1 c_b4_2 c_b4_3
  refine (rsub_any S12.out.n.t.t.t.rx S12.out.n.t.t.t.t.rx (by omega) (by omega) (by omega)).mono ?_
  rintro e w14 ⟨r4_m, r4_0, r4_n, r4_c, r4_k, r4_1, r4_l, r4_d, rfl, hX, hB⟩
  have S13 := Lib.hid (((S12.out.step hB).rc hX rfl))
  clear S12 hX hB
  go_wp2_with fail
  refine (rsign_any (c) S13.out.n.rc.rx (by omega) (Hc.out)).mono ?_
  rintro e w15 ⟨rfl, hB⟩
  have S14 := Lib.hid ((S13.out.step hB))
  clear S13 hB
  go_wp2_with fail
  have S15 := Lib.hid (S14.out.drew)
  clear S14
  refine wp_region_held_drew (S := fun w' => (w'.cell? ⟨(w.heap.size), 0, none⟩ = some (.bool m0) ∧ w'.cell? ⟨(w.heap.size), 1, none⟩ = some (.slice a0 n0 c0) ∧ w'.cell? ⟨(w.heap.size), 2, none⟩ = some (.bool k0) ∧ w'.cell? ⟨(w.heap.size), 3, none⟩ = some (.slice b0 l0 d0)) ∧ (w'.cell? ⟨(w.heap.size + 2), 0, none⟩ = some (.bool m2) ∧ w'.cell? ⟨(w.heap.size + 2), 1, none⟩ = some (.slice a2 n2 c2) ∧ w'.cell? ⟨(w.heap.size + 2), 2, none⟩ = some (.bool k2) ∧ w'.cell? ⟨(w.heap.size + 2), 3, none⟩ = some (.slice b2 l2 d2)) ∧ (w'.cell? ⟨(w.heap.size + 1), 0, none⟩ = some (.bool m1) ∧ w'.cell? ⟨(w.heap.size + 1), 1, none⟩ = some (.slice a1 n1 c1) ∧ w'.cell? ⟨(w.heap.size + 1), 2, none⟩ = some (.bool k1) ∧ w'.cell? ⟨(w.heap.size + 1), 3, none⟩ = some (.slice b1 l1 d1))) (by kernel_rfl) (⟨S15.out.b.t.t.t.t.c4, S15.out.b.t.t.c4, S15.out.b.t.t.t.c4⟩) (fun hH => ?_)
  refine anyH_world (fun w16 hW => ?_)
  rw [← hW] at S15 hH
  clear hW
  refine step_on 0 rfl (by kernel_rfl) (fun _ _ _ h => h) (by rfl) hH (by intro w hS; go_simp <;> with_reducible rfl) ?_
  try simp only [nrm]
  refine step_on 1 rfl (by kernel_rfl) (fun _ _ _ h => h) (by rfl) hH (by intro w hS; go_simp <;> with_reducible rfl) ?_
  try simp only [nrm]
  refine step_on 3 rfl (by kernel_rfl) (fun _ _ _ h => h) (by rfl) hH (by intro w hS; go_simp <;> with_reducible rfl) ?_
  try simp only [nrm]
  refine step_on 4 rfl (by kernel_rfl) (fun _ _ _ h => h) (by rfl) hH (by intro w hS; go_simp <;> with_reducible rfl) ?_
  try simp only [nrm]
  refine step_on 7 rfl (by kernel_rfl) (fun _ _ _ h => h) (by rfl) hH (by intro w hS; go_simp <;> with_reducible rfl) ?_
  try simp only [nrm]
  refine step_on 8 rfl (by kernel_rfl) (fun _ _ _ h => h) (by rfl) hH (by intro w hS; go_simp <;> with_reducible rfl) ?_
  try simp only [nrm]
  refine step_one 2 rfl (by kernel_rfl) (fun K hK => ?_)
  go_simp
  refine (rmul_any S15.out.n.t.t.t.t.rx S15.out.n.t.t.t.t.t.t.rx (by omega) (by omega) (by omega)).mono ?_
  rintro e w17 ⟨r5_m, r5_0, r5_n, r5_c, r5_k, r5_1, r5_l, r5_d, rfl, hX, hB⟩
  have S16 := Lib.hid (((S15.out.step hB).rc hX rfl))
  clear S15 hX hB
  go_wp2_with fail
  refine hK.out _ _ ⟨S16.out.b.t.t.t.t.c4, S16.out.b.t.t.c4, S16.out.b.t.t.t.c4⟩ (fun h2 => ?_)
  clear hK K hH
  have hH := h2
  clear h2
  try simp only [nrm]
  refine step_one 5 rfl (by kernel_rfl) (fun K hK => ?_)
  go_simp
  refine (rmul_any S16.out.n.t.t.t.t.t.t.rx S16.out.n.t.t.t.t.t.t.t.rx (by omega) (by omega) (by omega)).mono ?_
  rintro e w18 ⟨r6_m, r6_0, r6_n, r6_c, r6_k, r6_1, r6_l, r6_d, rfl, hX, hB⟩
  have S17 := Lib.hid (((S16.out.step hB).rc hX rfl))
  clear S16 hX hB
  go_wp2_with fail
  refine hK.out _ _ ⟨S17.out.b.t.t.t.t.c4, S17.out.b.t.t.c4, S17.out.b.t.t.t.c4⟩ (fun h2 => ?_)
  clear hK K hH
  have hH := h2
  clear h2
  try simp only [nrm]
  refine step_one 6 rfl (by kernel_rfl) (fun K hK => ?_)
  go_simp
  refine (rcmp_any (v) S17.out.n.t.rc.rx S17.out.n.rc.rx (by omega) (by omega) (by omega) (Hv.out)).mono ?_
  rintro e w19 ⟨rfl, hB⟩
  have S18 := Lib.hid ((S17.out.step hB))
  clear S17 hB
  go_wp2_with fail
  refine hK.out _ _ ⟨S18.out.b.t.t.t.t.c4, S18.out.b.t.t.c4, S18.out.b.t.t.t.c4⟩ (fun h2 => ?_)
  clear hK K hH
  have hH := h2
  clear h2
  try simp only [nrm]
  refine step_one 9 rfl (by kernel_rfl) (fun K hK => ?_)
  go_simp
  refine (rsign_any (t) S18.out.n.t.t.t.t.t.t.t.t.rx (by omega) (Ht.out)).mono ?_
  rintro e w20 ⟨rfl, hB⟩
  have S19 := Lib.hid ((S18.out.step hB))
  clear S18 hB
  go_wp2_with fail
  refine hK.out _ _ ⟨S19.out.b.t.t.t.t.c4, S19.out.b.t.t.c4, S19.out.b.t.t.t.c4⟩ (fun h2 => ?_)
  clear hK K hH
  have hH := h2
  clear h2
  try simp only [nrm]
  refine step_on 10 rfl (by kernel_rfl) (fun _ _ _ h => h) (by rfl) hH (by intro w hS; go_simp <;> with_reducible rfl) ?_
  try simp only [nrm]
  refine step_on 11 rfl (by kernel_rfl) (fun _ _ _ h => h) (by rfl) hH (by intro w hS; go_simp <;> with_reducible rfl) ?_
  try simp only [nrm]
  refine wpAnyH_done (by kernel_rfl) ?_ _
  clear hH
  go_wp2_with fail
  refine (rsmall_q 1 1 (1 : Rat) _ (by omega) (by omega) (by decide) (by decide +kernel)).mono ?_
  rintro e w21 ⟨r7_m, r7_0, r7_n, r7_c, r7_k, r7_1, r7_l, r7_d, rfl, hX, hB⟩
  have S20 := Lib.hid (((S19.out.step hB).rc hX rfl))
  clear S19 hX hB
  go_upto_region 11 with (fail)
  have S21 := Lib.hid (S20.out.var (w21.heap.size) [.bool r7_m, .slice r7_0 r7_n r7_c, .bool r7_k, .slice r7_1 r7_l r7_d] 26 (by simp))
  clear S20
  refine wp_world (fun w22 hW => ?_)
  rw [← hW] at S21
  clear hW
  obtain ⟨c_b11_0, c_b11_1, c_b11_2, c_b11_3⟩ := S21.out.b.c4
  obtain ⟨c_b3_0, c_b3_1, c_b3_2, c_b3_3⟩ := S21.out.b.t.t.t.t.t.c4
  go_wp2_with fail
  clear c_b11_0 c_b11_1 c_b11_2 c_b11_3 c_b3_0 c_b3_1 c_b3_2 c_b3_3
  refine (rdiv_any S21.out.n.rc.rx S21.out.n.t.t.t.t.t.t.t.rx (by omega) (by omega) (by omega) (HH0.out)).mono ?_
  rintro e w23 ⟨r8_m, r8_0, r8_n, r8_c, r8_k, r8_1, r8_l, r8_d, rfl, hX, hB⟩
  have S22 := Lib.hid (((S21.out.step hB).rc hX rfl))
  clear S21 hX hB
  go_upto_region 12 with (fail)
  have S23 := Lib.hid (S22.out.var (w23.heap.size) [.bool r8_m, .slice r8_0 r8_n r8_c, .bool r8_k, .slice r8_1 r8_l r8_d] 26 (by simp))
  clear S22
  refine wp_world (fun w24 hW => ?_)
  rw [← hW] at S23
  clear hW
  obtain ⟨c_b3_0, c_b3_1, c_b3_2, c_b3_3⟩ := S23.out.b.t.t.t.t.t.t.c4
  go_wp2_with fail
  clear c_b3_0 c_b3_1 c_b3_2 c_b3_3
  refine (rsign_any (s) S23.out.n.t.t.t.t.t.t.t.t.rx (by omega) (Hs.out)).mono ?_
  rintro e w25 ⟨rfl, hB⟩
  have S24 := Lib.hid ((S23.out.step hB))
  clear S23 hB
  go_wp2_with fail
  have S25 := Lib.hid (S24.out.drew)
  clear S24
  refine wp_region_held_drew (S := fun w' => (w'.cell? ⟨(w23.heap.size), 0, none⟩ = some (.bool r8_m) ∧ w'.cell? ⟨(w23.heap.size), 1, none⟩ = some (.slice r8_0 r8_n r8_c) ∧ w'.cell? ⟨(w23.heap.size), 2, none⟩ = some (.bool r8_k) ∧ w'.cell? ⟨(w23.heap.size), 3, none⟩ = some (.slice r8_1 r8_l r8_d)) ∧ (w'.cell? ⟨(w.heap.size), 0, none⟩ = some (.bool m0) ∧ w'.cell? ⟨(w.heap.size), 1, none⟩ = some (.slice a0 n0 c0) ∧ w'.cell? ⟨(w.heap.size), 2, none⟩ = some (.bool k0) ∧ w'.cell? ⟨(w.heap.size), 3, none⟩ = some (.slice b0 l0 d0)) ∧ (w'.cell? ⟨(w21.heap.size), 0, none⟩ = some (.bool r7_m) ∧ w'.cell? ⟨(w21.heap.size), 1, none⟩ = some (.slice r7_0 r7_n r7_c) ∧ w'.cell? ⟨(w21.heap.size), 2, none⟩ = some (.bool r7_k) ∧ w'.cell? ⟨(w21.heap.size), 3, none⟩ = some (.slice r7_1 r7_l r7_d))) (by kernel_rfl) (⟨S25.out.b.c4, S25.out.b.t.t.t.t.t.t.c4, S25.out.b.t.c4⟩) (fun hH => ?_)
  refine anyH_world (fun w26 hW => ?_)
  rw [← hW] at S25 hH
  clear hW
  refine step_on 0 rfl (by kernel_rfl) (fun _ _ _ h => h) (by rfl) hH (by intro w hS; go_simp <;> with_reducible rfl) ?_
  try simp only [nrm]
  refine step_on 1 rfl (by kernel_rfl) (fun _ _ _ h => h) (by rfl) hH (by intro w hS; go_simp <;> with_reducible rfl) ?_
  try simp only [nrm]
  refine step_on 2 rfl (by kernel_rfl) (fun _ _ _ h => h) (by rfl) hH (by intro w hS; go_simp <;> with_reducible rfl) ?_
  try simp only [nrm]
  refine step_on 3 rfl (by kernel_rfl) (fun _ _ _ h => h) (by rfl) hH (by intro w hS; go_simp <;> with_reducible rfl) ?_
  try simp only [nrm]
  refine step_on 4 rfl (by kernel_rfl) (fun _ _ _ h => h) (by rfl) hH (by intro w hS; go_simp <;> with_reducible rfl) ?_
  try simp only [nrm]
  refine step_on 6 rfl (by kernel_rfl) (fun _ _ _ h => h) (by rfl) hH (by intro w hS; go_simp <;> with_reducible rfl) ?_
  try simp only [nrm]
  refine step_one 5 rfl (by kernel_rfl) (fun K hK => ?_)
  go_simp
  refine (rmul_any S25.out.n.rc.rx S25.out.n.t.t.t.t.t.t.t.t.rx (by omega) (by omega) (by omega)).mono ?_
  rintro e w27 ⟨r9_m, r9_0, r9_n, r9_c, r9_k, r9_1, r9_l, r9_d, rfl, hX, hB⟩
  have S26 := Lib.hid (((S25.out.step hB).rc hX rfl))
  clear S25 hX hB
  go_wp2_with fail
  refine hK.out _ _ ⟨S26.out.b.c4, S26.out.b.t.t.t.t.t.t.c4, S26.out.b.t.c4⟩ (fun h2 => ?_)
  clear hK K hH
  have hH := h2
  clear h2
  try simp only [nrm]
  refine step_one 7 rfl (by kernel_rfl) (fun K hK => ?_)
  go_simp
  refine (rcmp_any (0) S26.out.n.rc.rx S26.out.n.t.t.rc.rx (by omega) (by omega) (by omega) (qs_eq0 (q_one _ HH0.out))).mono ?_
  rintro e w28 ⟨rfl, hB⟩
  have S27 := Lib.hid ((S26.out.step hB))
  clear S26 hB
  go_wp2_with fail
  refine hK.out _ _ ⟨S27.out.b.c4, S27.out.b.t.t.t.t.t.t.c4, S27.out.b.t.c4⟩ (fun h2 => ?_)
  clear hK K hH
  have hH := h2
  clear h2
  try simp only [nrm]
  refine step_on 8 rfl (by kernel_rfl) (fun _ _ _ h => h) (by rfl) hH (by intro w hS; go_simp <;> with_reducible rfl) ?_
  try simp only [nrm]
  refine step_on 9 rfl (by kernel_rfl) (fun _ _ _ h => h) (by rfl) hH (by intro w hS; go_simp <;> with_reducible rfl) ?_
  try simp only [nrm]
  refine step_on 10 rfl (by kernel_rfl) (fun _ _ _ h => h) (by rfl) hH (by intro w hS; go_simp <;> with_reducible rfl) ?_
  try simp only [nrm]
  refine step_on 11 rfl (by kernel_rfl) (fun _ _ _ h => h) (by rfl) hH (by intro w hS; go_simp <;> with_reducible rfl) ?_
  try simp only [nrm]
  refine step_on 13 rfl (by kernel_rfl) (fun _ _ _ h => h) (by rfl) hH (by intro w hS; go_simp <;> with_reducible rfl) ?_
  try simp only [nrm]
  refine step_one 12 rfl (by kernel_rfl) (fun K hK => ?_)
  go_simp
  refine (rsign_any (s) S27.out.n.t.rc.rx (by omega) ((qs_inv HH0.out).trans Hs.out)).mono ?_
  rintro e w29 ⟨rfl, hB⟩
  have S28 := Lib.hid ((S27.out.step hB))
  clear S27 hB
  go_wp2_with fail
  refine hK.out _ _ ⟨S28.out.b.c4, S28.out.b.t.t.t.t.t.t.c4, S28.out.b.t.c4⟩ (fun h2 => ?_)
  clear hK K hH
  have hH := h2
  clear h2
  try simp only [nrm]
  refine step_one 14 rfl (by kernel_rfl) (fun K hK => ?_)
  go_simp
  refine (rsign_any (s) S28.out.n.t.t.t.t.t.t.t.t.t.rx (by omega) (Hs.out)).mono ?_
  rintro e w30 ⟨rfl, hB⟩
  have S29 := Lib.hid ((S28.out.step hB))
  clear S28 hB
  go_wp2_with fail
  refine hK.out _ _ ⟨S29.out.b.c4, S29.out.b.t.t.t.t.t.t.c4, S29.out.b.t.c4⟩ (fun h2 => ?_)
  clear hK K hH
  have hH := h2
  clear h2
  try simp only [nrm]
  refine step_on 15 rfl (by kernel_rfl) (fun _ _ _ h => h) (by rfl) hH (by intro w hS; go_simp <;> with_reducible rfl) ?_
  try simp only [nrm]
  refine step_on 16 rfl (by kernel_rfl) (fun _ _ _ h => h) (by rfl) hH (by intro w hS; go_simp <;> with_reducible rfl) ?_
  try simp only [nrm]
  refine step_on 17 rfl (by kernel_rfl) (fun _ _ _ h => h) (by rfl) hH (by intro w hS; go_simp <;> with_reducible rfl) ?_
  try simp only [nrm]
  refine step_one 18 rfl (by kernel_rfl) (fun K hK => ?_)
  go_simp
  refine (known6_any _ (HT.out.below S29.out.h)).mono ?_
  rintro e w31 ⟨rfl, hB⟩
  have S30 := Lib.hid ((S29.out.step hB))
  clear S29 hB
  go_wp2_with fail
  refine hK.out _ _ ⟨S30.out.b.c4, S30.out.b.t.t.t.t.t.t.c4, S30.out.b.t.c4⟩ (fun h2 => ?_)
  clear hK K hH
  have hH := h2
  clear h2
  try simp only [nrm]
  refine step_on 19 rfl (by kernel_rfl) (fun _ _ _ h => h) (by rfl) hH (by intro w hS; go_simp <;> with_reducible rfl) ?_
  try simp only [nrm]
  refine step_on 20 rfl (by kernel_rfl) (fun _ _ _ h => h) (by rfl) hH (by intro w hS; go_simp <;> with_reducible rfl) ?_
  try simp only [nrm]
  refine wpAnyH_done (by kernel_rfl) ?_ _
  clear hH
  go_wp2_with fail
  go_ret
  exact ⟨rfl, S30.out.h⟩

end Go.Proofs.YteceomlbnajihaaGreatDoor
