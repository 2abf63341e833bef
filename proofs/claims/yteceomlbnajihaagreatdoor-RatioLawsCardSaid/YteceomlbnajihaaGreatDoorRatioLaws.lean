/-
  RatioLaws: too many limbs.
-/
import Derived.Test.YteceomlbnajihaaGreatDoorRatioPre
import Derived.Deep.Cut
import Derived.Deep.CutRange
set_option maxRecDepth 8192
namespace Go.Proofs.YteceomlbnajihaaGreatDoor
open Go.RowKit

set_option maxHeartbeats 1000000 in
set_option maxRecDepth 100000 in
theorem ratioLaws_long {m0 k0 : Bool} {a0 b0 : Option Addr} {n0 c0 l0 d0 : Nat} {m1 k1 : Bool} {a1 b1 : Option Addr} {n1 c1 l1 d1 : Nat} {m2 k2 : Bool} {a2 b2 : Option Addr} {n2 c2 l2 d2 : Nat}  {w : World}  (ht : Tab w) (hg : ((decide (8 < n0) || decide (8 < l0)) || (decide (8 < n1) || decide (8 < l1)) || (decide (8 < n2) || decide (8 < l2))) = true)  :
    Calls Tryz.prog 6 #[.agg #[.bool m0, .slice a0 n0 c0, .bool k0, .slice b0 l0 d0], .agg #[.bool m1, .slice a1 n1 c1, .bool k1, .slice b1 l1 d1], .agg #[.bool m2, .slice a2 n2 c2, .bool k2, .slice b2 l2 d2]] w (RetB (.bool true) w) := by
  have HT := Lib.hid ht
  have HG := Lib.hid hg
  clear ht hg
  go_enter Tryz.func6, Tryz.ntmps6
  have S0 := Lib.hid (Sx.start (w := w) (N := []) trivial)
  have S1 := Lib.hid (S0.out.var (w.heap.size) [.bool m0, .slice a0 n0 c0, .bool k0, .slice b0 l0 d0] 26 (by simp))
  clear S0
  have S2 := Lib.hid (S1.out.var (w.heap.size + 1) [.bool m1, .slice a1 n1 c1, .bool k1, .slice b1 l1 d1] 26 (by simp))
  clear S1
  have S3 := Lib.hid (S2.out.var (w.heap.size + 2) [.bool m2, .slice a2 n2 c2, .bool k2, .slice b2 l2 d2] 26 (by simp))
  clear S2
  go_upto_region 1 with (fail)
  refine wp_world (fun w1 hW => ?_)
  rw [← hW] at S3
  clear hW
  obtain ⟨c_b3_0, c_b3_1, c_b3_2, c_b3_3⟩ := S3.out.b.t.t.c4
  obtain ⟨c_b4_0, c_b4_1, c_b4_2, c_b4_3⟩ := S3.out.b.t.c4
  obtain ⟨c_b5_0, c_b5_1, c_b5_2, c_b5_3⟩ := S3.out.b.c4
  go_wp2_with fail
  clear c_b3_0 c_b3_1 c_b3_2 c_b3_3 c_b4_0 c_b4_1 c_b4_2 c_b4_3 c_b5_0 c_b5_1 c_b5_2 c_b5_3
  have S4 := Lib.hid (S3.out.var (w1.heap.size) [.bool m0, .slice a0 n0 c0, .bool k0, .slice b0 l0 d0, .bool m1, .slice a1 n1 c1, .bool k1, .slice b1 l1 d1, .bool m2, .slice a2 n2 c2, .bool k2, .slice b2 l2 d2] 26 (by simp))
  clear S3
  refine (great6_3 true S4.out.b.1 (HG.out)).mono ?_
  rintro e w2 ⟨rfl, hB⟩
  have S5 := Lib.hid ((S4.out.step hB))
  clear S4 hB
  have S6 := Lib.hid (S5.out.pop)
  clear S5
  go_wp2_with fail
  refine (known6_any _ (HT.out.below S6.out.h)).mono ?_
  rintro e w3 ⟨rfl, hB⟩
  have S7 := Lib.hid ((S6.out.step hB))
  clear S6 hB
  go_wp2_with fail
  go_ret
  exact ⟨rfl, S7.out.h⟩

set_option maxHeartbeats 1000000 in
set_option maxRecDepth 100000 in
theorem ratioLaws_zero {m0 k0 : Bool} {a0 b0 : Option Addr} {n0 c0 l0 d0 : Nat} {m1 k1 : Bool} {a1 b1 : Option Addr} {n1 c1 l1 d1 : Nat} {m2 k2 : Bool} {a2 b2 : Option Addr} {n2 c2 l2 d2 : Nat} {xs0 ys0 xs1 ys1 xs2 ys2 : List Nat} {w : World} (hs0 : Sl w a0 n0 c0 xs0) (ht0 : Sl w b0 l0 d0 ys0) (hs1 : Sl w a1 n1 c1 xs1) (ht1 : Sl w b1 l1 d1 ys1) (hs2 : Sl w a2 n2 c2 xs2) (ht2 : Sl w b2 l2 d2 ys2) (ht : Tab w) (p0 : n0 ≤ 8) (q0 : l0 ≤ 8) (p1 : n1 ≤ 8) (q1 : l1 ≤ 8) (p2 : n2 ≤ 8) (q2 : l2 ≤ 8) (h0 : qv (zOf m1 (val xs1)) (zOf k1 (val ys1)) = 0) :
    Calls Tryz.prog 6 #[.agg #[.bool m0, .slice a0 n0 c0, .bool k0, .slice b0 l0 d0], .agg #[.bool m1, .slice a1 n1 c1, .bool k1, .slice b1 l1 d1], .agg #[.bool m2, .slice a2 n2 c2, .bool k2, .slice b2 l2 d2]] w (RetB (.bool true) w) := by
  obtain ⟨x0, hx0⟩ : ∃ x, zOf m0 (val xs0) = x := ⟨_, rfl⟩
  obtain ⟨e0, he0⟩ : ∃ x, zOf k0 (val ys0) = x := ⟨_, rfl⟩
  obtain ⟨r0, hr0⟩ : ∃ q, qv x0 e0 = q := ⟨_, rfl⟩
  have hR0 := rx_of hs0 ht0 hx0 he0 hr0 p0 q0
  have P0 := Lib.hid (lim_no p0)
  have Q0 := Lib.hid (lim_no q0)
  clear hx0 he0 hr0 p0 q0
  obtain ⟨x1, hx1⟩ : ∃ x, zOf m1 (val xs1) = x := ⟨_, rfl⟩
  obtain ⟨e1, he1⟩ : ∃ x, zOf k1 (val ys1) = x := ⟨_, rfl⟩
  obtain ⟨r1, hr1⟩ : ∃ q, qv x1 e1 = q := ⟨_, rfl⟩
  have hR1 := rx_of hs1 ht1 hx1 he1 hr1 p1 q1
  have P1 := Lib.hid (lim_no p1)
  have Q1 := Lib.hid (lim_no q1)
  rw [hx1, he1, hr1] at h0
  clear hx1 he1 hr1 p1 q1
  obtain ⟨x2, hx2⟩ : ∃ x, zOf m2 (val xs2) = x := ⟨_, rfl⟩
  obtain ⟨e2, he2⟩ : ∃ x, zOf k2 (val ys2) = x := ⟨_, rfl⟩
  obtain ⟨r2, hr2⟩ : ∃ q, qv x2 e2 = q := ⟨_, rfl⟩
  have hR2 := rx_of hs2 ht2 hx2 he2 hr2 p2 q2
  have P2 := Lib.hid (lim_no p2)
  have Q2 := Lib.hid (lim_no q2)
  clear hx2 he2 hr2 p2 q2
  have HT := Lib.hid ht
  clear ht
  obtain ⟨c, hc⟩ : ∃ x, qs (r0 - r1) = x := ⟨_, rfl⟩
  have Hc := Lib.hid hc
  clear hc
  obtain ⟨t, ht⟩ : ∃ x, qs r1 = x := ⟨_, rfl⟩
  have f1 : (t == 0) = true := by rw [← ht]; have := qs_zero r1; simp; exact this.2 h0
  have f2 : (t != 0) = false := by unfold bne; rw [f1]; rfl
  have Ht := Lib.hid ht
  clear ht
  have HH0 := Lib.hid h0
  clear h0
  go_enter Tryz.func6, Tryz.ntmps6
  have S0 := Lib.hid (Sx.start (w := w) (N := [.rx m0 a0 n0 c0 k0 b0 l0 d0 x0 e0 r0 8, .rx m1 a1 n1 c1 k1 b1 l1 d1 x1 e1 r1 8, .rx m2 a2 n2 c2 k2 b2 l2 d2 x2 e2 r2 8]) ⟨hR0, hR1, hR2, trivial⟩)
  clear hR0 hR1 hR2
  have S1 := Lib.hid (S0.out.var (w.heap.size) [.bool m0, .slice a0 n0 c0, .bool k0, .slice b0 l0 d0] 26 (by simp))
  clear S0
  have S2 := Lib.hid (S1.out.var (w.heap.size + 1) [.bool m1, .slice a1 n1 c1, .bool k1, .slice b1 l1 d1] 26 (by simp))
  clear S1
  have S3 := Lib.hid (S2.out.var (w.heap.size + 2) [.bool m2, .slice a2 n2 c2, .bool k2, .slice b2 l2 d2] 26 (by simp))
  clear S2
  go_upto_region 1 with (fail)
  refine wp_world (fun w1 hW => ?_)
  rw [← hW] at S3
  clear hW
  obtain ⟨c_b3_0, c_b3_1, c_b3_2, c_b3_3⟩ := S3.out.b.t.t.c4
  obtain ⟨c_b4_0, c_b4_1, c_b4_2, c_b4_3⟩ := S3.out.b.t.c4
  obtain ⟨c_b5_0, c_b5_1, c_b5_2, c_b5_3⟩ := S3.out.b.c4
  go_wp2_with fail
  clear c_b3_0 c_b3_1 c_b3_2 c_b3_3 c_b4_0 c_b4_1 c_b4_2 c_b4_3 c_b5_0 c_b5_1 c_b5_2 c_b5_3
  have S4 := Lib.hid (S3.out.var (w1.heap.size) [.bool m0, .slice a0 n0 c0, .bool k0, .slice b0 l0 d0, .bool m1, .slice a1 n1 c1, .bool k1, .slice b1 l1 d1, .bool m2, .slice a2 n2 c2, .bool k2, .slice b2 l2 d2] 26 (by simp))
  clear S3
  refine (great6_3 false S4.out.b.1 (by rw [P0.out, Q0.out, P1.out, Q1.out, P2.out, Q2.out]; rfl)).mono ?_
  rintro e w2 ⟨rfl, hB⟩
  have S5 := Lib.hid ((S4.out.step hB))
  clear S4 hB
  have S6 := Lib.hid (S5.out.pop)
  clear S5
  go_wp2_with fail
  go_cut [7, 8] from 17 to 23 (fun sl0 sl1 w9 => ∃ (qb7 : Nat) (qb8 : Nat) (r2_m : Bool) (r2_0 : Option Addr) (r2_n : Nat) (r2_c : Nat) (r2_k : Bool) (r2_1 : Option Addr) (r2_l : Nat) (r2_d : Nat) (r1_m : Bool) (r1_0 : Option Addr) (r1_n : Nat) (r1_c : Nat) (r1_k : Bool) (r1_1 : Option Addr) (r1_l : Nat) (r1_d : Nat), sl0 = .pointer (some ⟨qb7, 0, none⟩) ∧ sl1 = .pointer (some ⟨qb8, 0, none⟩) ∧ Hid (Sx w w9 [⟨qb8, [.bool r2_m, .slice r2_0 r2_n r2_c, .bool r2_k, .slice r2_1 r2_l r2_d]⟩, ⟨qb7, [.bool r1_m, .slice r1_0 r1_n r1_c, .bool r1_k, .slice r1_1 r1_l r1_d]⟩, ⟨(w.heap.size + 2), [.bool m2, .slice a2 n2 c2, .bool k2, .slice b2 l2 d2]⟩, ⟨(w.heap.size + 1), [.bool m1, .slice a1 n1 c1, .bool k1, .slice b1 l1 d1]⟩, ⟨(w.heap.size), [.bool m0, .slice a0 n0 c0, .bool k0, .slice b0 l0 d0]⟩] [.rc r2_m r2_0 r2_n r2_c r2_k r2_1 r2_l r2_d (r0 * r1) 16, .rc r1_m r1_0 r1_n r1_c r1_k r1_1 r1_l r1_d (r0 + r1) 17, .rx m0 a0 n0 c0 k0 b0 l0 d0 x0 e0 r0 8, .rx m1 a1 n1 c1 k1 b1 l1 d1 x1 e1 r1 8, .rx m2 a2 n2 c2 k2 b2 l2 d2 x2 e2 r2 8]))
  case first =>
    have S7 := Lib.hid (S6.out.drew)
    clear S6
    refine wp_region_held_drew (S := fun w' => (w'.cell? ⟨(w.heap.size), 0, none⟩ = some (.bool m0) ∧ w'.cell? ⟨(w.heap.size), 1, none⟩ = some (.slice a0 n0 c0) ∧ w'.cell? ⟨(w.heap.size), 2, none⟩ = some (.bool k0) ∧ w'.cell? ⟨(w.heap.size), 3, none⟩ = some (.slice b0 l0 d0)) ∧ (w'.cell? ⟨(w.heap.size + 1), 0, none⟩ = some (.bool m1) ∧ w'.cell? ⟨(w.heap.size + 1), 1, none⟩ = some (.slice a1 n1 c1) ∧ w'.cell? ⟨(w.heap.size + 1), 2, none⟩ = some (.bool k1) ∧ w'.cell? ⟨(w.heap.size + 1), 3, none⟩ = some (.slice b1 l1 d1))) (by kernel_rfl) (⟨S7.out.b.t.t.c4, S7.out.b.t.c4⟩) (fun hH => ?_)
    refine anyH_world (fun w3 hW => ?_)
    rw [← hW] at S7 hH
    clear hW
    refine step_on 0 rfl (by kernel_rfl) (fun _ _ _ h => h) (by rfl) hH (by intro w hS; go_simp <;> with_reducible rfl) ?_
    try simp only [nrm]
    refine step_on 1 rfl (by kernel_rfl) (fun _ _ _ h => h) (by rfl) hH (by intro w hS; go_simp <;> with_reducible rfl) ?_
    try simp only [nrm]
    refine step_on 3 rfl (by kernel_rfl) (fun _ _ _ h => h) (by rfl) hH (by intro w hS; go_simp <;> with_reducible rfl) ?_
    try simp only [nrm]
    refine step_on 4 rfl (by kernel_rfl) (fun _ _ _ h => h) (by rfl) hH (by intro w hS; go_simp <;> with_reducible rfl) ?_
    try simp only [nrm]
    refine wpAnyH_ready (rs := [2, 6, 7]) (by kernel_rfl) (by simp) (ready_cons rfl (fun K hK => ?_) (ready_cons rfl (fun K hK => ?_) (ready_cons rfl (fun K hK => ?_) (AllReadyH.nil))))
    · go_simp
      refine (radd_any S7.out.n.rx S7.out.n.t.rx (by omega) (by omega) (by omega)).mono ?_
      rintro e w4 ⟨r1_m, r1_0, r1_n, r1_c, r1_k, r1_1, r1_l, r1_d, rfl, hX, hB⟩
      have S8 := Lib.hid (((S7.out.step hB).rc hX rfl))
      clear S7 hX hB
      go_wp2_with fail
      refine hK.out _ _ ⟨S8.out.b.t.t.c4, S8.out.b.t.c4⟩ (fun h2 => ?_)
      clear hK K hH
      have hH := h2
      clear h2
      try simp only [nrm]
      refine wpAnyH_ready (rs := [5, 6, 7]) (by kernel_rfl) (by simp) (ready_cons rfl (fun K hK => ?_) (ready_cons rfl (fun K hK => ?_) (ready_cons rfl (fun K hK => ?_) (AllReadyH.nil))))
      · go_simp
        refine (rmul_any S8.out.n.t.rx S8.out.n.t.t.rx (by omega) (by omega) (by omega)).mono ?_
        rintro e w5 ⟨r2_m, r2_0, r2_n, r2_c, r2_k, r2_1, r2_l, r2_d, rfl, hX, hB⟩
        have S9 := Lib.hid (((S8.out.step hB).rc hX rfl))
        clear S8 hX hB
        go_wp2_with fail
        refine hK.out _ _ ⟨S9.out.b.t.t.c4, S9.out.b.t.c4⟩ (fun h2 => ?_)
        clear hK K hH
        have hH := h2
        clear h2
        try simp only [nrm]
        refine wpAnyH_ready (rs := [6, 7]) (by kernel_rfl) (by simp) (ready_cons rfl (fun K hK => ?_) (ready_cons rfl (fun K hK => ?_) (AllReadyH.nil)))
        · go_simp
          have S10 := Lib.hid (S9.out.var (w5.heap.size) [.bool false, .slice none 0 0, .bool false, .slice none 0 0] 26 (by simp))
          clear S9
          refine hK.out _ _ ⟨S10.out.b.t.t.t.c4, S10.out.b.t.t.c4⟩ (fun h2 => ?_)
          clear hK K hH
          have hH := h2
          clear h2
          try simp only [nrm]
          refine anyH_world (fun w6 hW => ?_)
          rw [← hW] at S10 hH
          clear hW
          refine step_one 7 rfl (by kernel_rfl) (fun K hK => ?_)
          go_simp
          have S11 := Lib.hid (S10.out.var (w6.heap.size) [.bool false, .slice none 0 0, .bool false, .slice none 0 0] 26 (by simp))
          clear S10
          refine hK.out _ _ ⟨S11.out.b.t.t.t.t.c4, S11.out.b.t.t.t.c4⟩ (fun h2 => ?_)
          clear hK K hH
          have hH := h2
          clear h2
          try simp only [nrm]
          refine anyH_world (fun w7 hW => ?_)
          rw [← hW] at S11 hH
          clear hW
          refine step_one 8 rfl (by kernel_rfl) (fun K hK => ?_)
          obtain ⟨c_b7_0, c_b7_1, c_b7_2, c_b7_3⟩ := S11.out.b.t.c4
          obtain ⟨f_b7_0, f_b7_1, f_b7_2, f_b7_3⟩ := S11.out.b.t.f4
          go_simp
          clear c_b7_0 c_b7_1 c_b7_2 c_b7_3 f_b7_0 f_b7_1 f_b7_2 f_b7_3
          have S12 : Hid (Sx w _ [⟨(w6.heap.size), [.bool false, .slice none 0 0, .bool false, .slice none 0 0]⟩, ⟨(w5.heap.size), [.bool r1_m, .slice r1_0 r1_n r1_c, .bool r1_k, .slice r1_1 r1_l r1_d]⟩, ⟨(w.heap.size + 2), [.bool m2, .slice a2 n2 c2, .bool k2, .slice b2 l2 d2]⟩, ⟨(w.heap.size + 1), [.bool m1, .slice a1 n1 c1, .bool k1, .slice b1 l1 d1]⟩, ⟨(w.heap.size), [.bool m0, .slice a0 n0 c0, .bool k0, .slice b0 l0 d0]⟩] _) := Lib.hid (Sx.set [⟨(w6.heap.size), [.bool false, .slice none 0 0, .bool false, .slice none 0 0]⟩] [⟨(w.heap.size + 2), [.bool m2, .slice a2 n2 c2, .bool k2, .slice b2 l2 d2]⟩, ⟨(w.heap.size + 1), [.bool m1, .slice a1 n1 c1, .bool k1, .slice b1 l1 d1]⟩, ⟨(w.heap.size), [.bool m0, .slice a0 n0 c0, .bool k0, .slice b0 l0 d0]⟩] (Sx.set [⟨(w6.heap.size), [.bool false, .slice none 0 0, .bool false, .slice none 0 0]⟩] [⟨(w.heap.size + 2), [.bool m2, .slice a2 n2 c2, .bool k2, .slice b2 l2 d2]⟩, ⟨(w.heap.size + 1), [.bool m1, .slice a1 n1 c1, .bool k1, .slice b1 l1 d1]⟩, ⟨(w.heap.size), [.bool m0, .slice a0 n0 c0, .bool k0, .slice b0 l0 d0]⟩] (Sx.set [⟨(w6.heap.size), [.bool false, .slice none 0 0, .bool false, .slice none 0 0]⟩] [⟨(w.heap.size + 2), [.bool m2, .slice a2 n2 c2, .bool k2, .slice b2 l2 d2]⟩, ⟨(w.heap.size + 1), [.bool m1, .slice a1 n1 c1, .bool k1, .slice b1 l1 d1]⟩, ⟨(w.heap.size), [.bool m0, .slice a0 n0 c0, .bool k0, .slice b0 l0 d0]⟩] (Sx.set [⟨(w6.heap.size), [.bool false, .slice none 0 0, .bool false, .slice none 0 0]⟩] [⟨(w.heap.size + 2), [.bool m2, .slice a2 n2 c2, .bool k2, .slice b2 l2 d2]⟩, ⟨(w.heap.size + 1), [.bool m1, .slice a1 n1 c1, .bool k1, .slice b1 l1 d1]⟩, ⟨(w.heap.size), [.bool m0, .slice a0 n0 c0, .bool k0, .slice b0 l0 d0]⟩] S11.out 0 (.bool r1_m)) 1 (.slice r1_0 r1_n r1_c)) 2 (.bool r1_k)) 3 (.slice r1_1 r1_l r1_d))
          clear S11
          refine hK.out _ _ ⟨S12.out.b.t.t.t.t.c4, S12.out.b.t.t.t.c4⟩ (fun h2 => ?_)
          clear hK K hH
          have hH := h2
          clear h2
          try simp only [nrm]
          refine anyH_world (fun w8 hW => ?_)
          rw [← hW] at S12 hH
          clear hW
          refine step_one 9 rfl (by kernel_rfl) (fun K hK => ?_)
          obtain ⟨c_b8_0, c_b8_1, c_b8_2, c_b8_3⟩ := S12.out.b.c4
          obtain ⟨f_b8_0, f_b8_1, f_b8_2, f_b8_3⟩ := S12.out.b.f4
          go_simp
          clear c_b8_0 c_b8_1 c_b8_2 c_b8_3 f_b8_0 f_b8_1 f_b8_2 f_b8_3
          have S13 : Hid (Sx w _ [⟨(w6.heap.size), [.bool r2_m, .slice r2_0 r2_n r2_c, .bool r2_k, .slice r2_1 r2_l r2_d]⟩, ⟨(w5.heap.size), [.bool r1_m, .slice r1_0 r1_n r1_c, .bool r1_k, .slice r1_1 r1_l r1_d]⟩, ⟨(w.heap.size + 2), [.bool m2, .slice a2 n2 c2, .bool k2, .slice b2 l2 d2]⟩, ⟨(w.heap.size + 1), [.bool m1, .slice a1 n1 c1, .bool k1, .slice b1 l1 d1]⟩, ⟨(w.heap.size), [.bool m0, .slice a0 n0 c0, .bool k0, .slice b0 l0 d0]⟩] _) := Lib.hid (Sx.set [] [⟨(w5.heap.size), [.bool r1_m, .slice r1_0 r1_n r1_c, .bool r1_k, .slice r1_1 r1_l r1_d]⟩, ⟨(w.heap.size + 2), [.bool m2, .slice a2 n2 c2, .bool k2, .slice b2 l2 d2]⟩, ⟨(w.heap.size + 1), [.bool m1, .slice a1 n1 c1, .bool k1, .slice b1 l1 d1]⟩, ⟨(w.heap.size), [.bool m0, .slice a0 n0 c0, .bool k0, .slice b0 l0 d0]⟩] (Sx.set [] [⟨(w5.heap.size), [.bool r1_m, .slice r1_0 r1_n r1_c, .bool r1_k, .slice r1_1 r1_l r1_d]⟩, ⟨(w.heap.size + 2), [.bool m2, .slice a2 n2 c2, .bool k2, .slice b2 l2 d2]⟩, ⟨(w.heap.size + 1), [.bool m1, .slice a1 n1 c1, .bool k1, .slice b1 l1 d1]⟩, ⟨(w.heap.size), [.bool m0, .slice a0 n0 c0, .bool k0, .slice b0 l0 d0]⟩] (Sx.set [] [⟨(w5.heap.size), [.bool r1_m, .slice r1_0 r1_n r1_c, .bool r1_k, .slice r1_1 r1_l r1_d]⟩, ⟨(w.heap.size + 2), [.bool m2, .slice a2 n2 c2, .bool k2, .slice b2 l2 d2]⟩, ⟨(w.heap.size + 1), [.bool m1, .slice a1 n1 c1, .bool k1, .slice b1 l1 d1]⟩, ⟨(w.heap.size), [.bool m0, .slice a0 n0 c0, .bool k0, .slice b0 l0 d0]⟩] (Sx.set [] [⟨(w5.heap.size), [.bool r1_m, .slice r1_0 r1_n r1_c, .bool r1_k, .slice r1_1 r1_l r1_d]⟩, ⟨(w.heap.size + 2), [.bool m2, .slice a2 n2 c2, .bool k2, .slice b2 l2 d2]⟩, ⟨(w.heap.size + 1), [.bool m1, .slice a1 n1 c1, .bool k1, .slice b1 l1 d1]⟩, ⟨(w.heap.size), [.bool m0, .slice a0 n0 c0, .bool k0, .slice b0 l0 d0]⟩] S12.out 0 (.bool r2_m)) 1 (.slice r2_0 r2_n r2_c)) 2 (.bool r2_k)) 3 (.slice r2_1 r2_l r2_d))
          clear S12
          refine hK.out _ _ ⟨S13.out.b.t.t.t.t.c4, S13.out.b.t.t.t.c4⟩ (fun h2 => ?_)
          clear hK K hH
          have hH := h2
          clear h2
          try simp only [nrm]
          refine anyH_world (fun w9 hW => ?_)
          rw [← hW] at S13 hH
          clear hW
          refine wpAnyH_done (by kernel_rfl) ?_ _
          clear hH
          go_wp2_with fail
          go_meet
          case rel => exact ⟨_, _, _, _, _, _, _, _, _, _, _, _, _, _, _, _, _, _, rfl, rfl, S13.out⟩
        · go_simp
          have S10 := Lib.hid (S9.out.var (w5.heap.size) [.bool false, .slice none 0 0, .bool false, .slice none 0 0] 26 (by simp))
          clear S9
          refine hK.out _ _ ⟨S10.out.b.t.t.t.c4, S10.out.b.t.t.c4⟩ (fun h2 => ?_)
          clear hK K hH
          have hH := h2
          clear h2
          try simp only [nrm]
          refine anyH_world (fun w6 hW => ?_)
          rw [← hW] at S10 hH
          clear hW
          refine step_one 6 rfl (by kernel_rfl) (fun K hK => ?_)
          go_simp
          have S11 := Lib.hid (S10.out.var (w6.heap.size) [.bool false, .slice none 0 0, .bool false, .slice none 0 0] 26 (by simp))
          clear S10
          refine hK.out _ _ ⟨S11.out.b.t.t.t.t.c4, S11.out.b.t.t.t.c4⟩ (fun h2 => ?_)
          clear hK K hH
          have hH := h2
          clear h2
          try simp only [nrm]
          refine anyH_world (fun w7 hW => ?_)
          rw [← hW] at S11 hH
          clear hW
          refine step_one 8 rfl (by kernel_rfl) (fun K hK => ?_)
          obtain ⟨c_b7_0, c_b7_1, c_b7_2, c_b7_3⟩ := S11.out.b.c4
          obtain ⟨f_b7_0, f_b7_1, f_b7_2, f_b7_3⟩ := S11.out.b.f4
          go_simp
          clear c_b7_0 c_b7_1 c_b7_2 c_b7_3 f_b7_0 f_b7_1 f_b7_2 f_b7_3
          have S12 : Hid (Sx w _ [⟨(w6.heap.size), [.bool r1_m, .slice r1_0 r1_n r1_c, .bool r1_k, .slice r1_1 r1_l r1_d]⟩, ⟨(w5.heap.size), [.bool false, .slice none 0 0, .bool false, .slice none 0 0]⟩, ⟨(w.heap.size + 2), [.bool m2, .slice a2 n2 c2, .bool k2, .slice b2 l2 d2]⟩, ⟨(w.heap.size + 1), [.bool m1, .slice a1 n1 c1, .bool k1, .slice b1 l1 d1]⟩, ⟨(w.heap.size), [.bool m0, .slice a0 n0 c0, .bool k0, .slice b0 l0 d0]⟩] _) := Lib.hid (Sx.set [] [⟨(w5.heap.size), [.bool false, .slice none 0 0, .bool false, .slice none 0 0]⟩, ⟨(w.heap.size + 2), [.bool m2, .slice a2 n2 c2, .bool k2, .slice b2 l2 d2]⟩, ⟨(w.heap.size + 1), [.bool m1, .slice a1 n1 c1, .bool k1, .slice b1 l1 d1]⟩, ⟨(w.heap.size), [.bool m0, .slice a0 n0 c0, .bool k0, .slice b0 l0 d0]⟩] (Sx.set [] [⟨(w5.heap.size), [.bool false, .slice none 0 0, .bool false, .slice none 0 0]⟩, ⟨(w.heap.size + 2), [.bool m2, .slice a2 n2 c2, .bool k2, .slice b2 l2 d2]⟩, ⟨(w.heap.size + 1), [.bool m1, .slice a1 n1 c1, .bool k1, .slice b1 l1 d1]⟩, ⟨(w.heap.size), [.bool m0, .slice a0 n0 c0, .bool k0, .slice b0 l0 d0]⟩] (Sx.set [] [⟨(w5.heap.size), [.bool false, .slice none 0 0, .bool false, .slice none 0 0]⟩, ⟨(w.heap.size + 2), [.bool m2, .slice a2 n2 c2, .bool k2, .slice b2 l2 d2]⟩, ⟨(w.heap.size + 1), [.bool m1, .slice a1 n1 c1, .bool k1, .slice b1 l1 d1]⟩, ⟨(w.heap.size), [.bool m0, .slice a0 n0 c0, .bool k0, .slice b0 l0 d0]⟩] (Sx.set [] [⟨(w5.heap.size), [.bool false, .slice none 0 0, .bool false, .slice none 0 0]⟩, ⟨(w.heap.size + 2), [.bool m2, .slice a2 n2 c2, .bool k2, .slice b2 l2 d2]⟩, ⟨(w.heap.size + 1), [.bool m1, .slice a1 n1 c1, .bool k1, .slice b1 l1 d1]⟩, ⟨(w.heap.size), [.bool m0, .slice a0 n0 c0, .bool k0, .slice b0 l0 d0]⟩] S11.out 0 (.bool r1_m)) 1 (.slice r1_0 r1_n r1_c)) 2 (.bool r1_k)) 3 (.slice r1_1 r1_l r1_d))
          clear S11
          refine hK.out _ _ ⟨S12.out.b.t.t.t.t.c4, S12.out.b.t.t.t.c4⟩ (fun h2 => ?_)
          clear hK K hH
          have hH := h2
          clear h2
          try simp only [nrm]
          refine anyH_world (fun w8 hW => ?_)
          rw [← hW] at S12 hH
          clear hW
          refine step_one 9 rfl (by kernel_rfl) (fun K hK => ?_)
          obtain ⟨c_b8_0, c_b8_1, c_b8_2, c_b8_3⟩ := S12.out.b.t.c4
          obtain ⟨f_b8_0, f_b8_1, f_b8_2, f_b8_3⟩ := S12.out.b.t.f4
          go_simp
          clear c_b8_0 c_b8_1 c_b8_2 c_b8_3 f_b8_0 f_b8_1 f_b8_2 f_b8_3
          have S13 : Hid (Sx w _ [⟨(w6.heap.size), [.bool r1_m, .slice r1_0 r1_n r1_c, .bool r1_k, .slice r1_1 r1_l r1_d]⟩, ⟨(w5.heap.size), [.bool r2_m, .slice r2_0 r2_n r2_c, .bool r2_k, .slice r2_1 r2_l r2_d]⟩, ⟨(w.heap.size + 2), [.bool m2, .slice a2 n2 c2, .bool k2, .slice b2 l2 d2]⟩, ⟨(w.heap.size + 1), [.bool m1, .slice a1 n1 c1, .bool k1, .slice b1 l1 d1]⟩, ⟨(w.heap.size), [.bool m0, .slice a0 n0 c0, .bool k0, .slice b0 l0 d0]⟩] _) := Lib.hid (Sx.set [⟨(w6.heap.size), [.bool r1_m, .slice r1_0 r1_n r1_c, .bool r1_k, .slice r1_1 r1_l r1_d]⟩] [⟨(w.heap.size + 2), [.bool m2, .slice a2 n2 c2, .bool k2, .slice b2 l2 d2]⟩, ⟨(w.heap.size + 1), [.bool m1, .slice a1 n1 c1, .bool k1, .slice b1 l1 d1]⟩, ⟨(w.heap.size), [.bool m0, .slice a0 n0 c0, .bool k0, .slice b0 l0 d0]⟩] (Sx.set [⟨(w6.heap.size), [.bool r1_m, .slice r1_0 r1_n r1_c, .bool r1_k, .slice r1_1 r1_l r1_d]⟩] [⟨(w.heap.size + 2), [.bool m2, .slice a2 n2 c2, .bool k2, .slice b2 l2 d2]⟩, ⟨(w.heap.size + 1), [.bool m1, .slice a1 n1 c1, .bool k1, .slice b1 l1 d1]⟩, ⟨(w.heap.size), [.bool m0, .slice a0 n0 c0, .bool k0, .slice b0 l0 d0]⟩] (Sx.set [⟨(w6.heap.size), [.bool r1_m, .slice r1_0 r1_n r1_c, .bool r1_k, .slice r1_1 r1_l r1_d]⟩] [⟨(w.heap.size + 2), [.bool m2, .slice a2 n2 c2, .bool k2, .slice b2 l2 d2]⟩, ⟨(w.heap.size + 1), [.bool m1, .slice a1 n1 c1, .bool k1, .slice b1 l1 d1]⟩, ⟨(w.heap.size), [.bool m0, .slice a0 n0 c0, .bool k0, .slice b0 l0 d0]⟩] (Sx.set [⟨(w6.heap.size), [.bool r1_m, .slice r1_0 r1_n r1_c, .bool r1_k, .slice r1_1 r1_l r1_d]⟩] [⟨(w.heap.size + 2), [.bool m2, .slice a2 n2 c2, .bool k2, .slice b2 l2 d2]⟩, ⟨(w.heap.size + 1), [.bool m1, .slice a1 n1 c1, .bool k1, .slice b1 l1 d1]⟩, ⟨(w.heap.size), [.bool m0, .slice a0 n0 c0, .bool k0, .slice b0 l0 d0]⟩] S12.out 0 (.bool r2_m)) 1 (.slice r2_0 r2_n r2_c)) 2 (.bool r2_k)) 3 (.slice r2_1 r2_l r2_d))
          clear S12
          refine hK.out _ _ ⟨S13.out.b.t.t.t.t.c4, S13.out.b.t.t.t.c4⟩ (fun h2 => ?_)
          clear hK K hH
          have hH := h2
          clear h2
          try simp only [nrm]
          refine anyH_world (fun w9 hW => ?_)
          rw [← hW] at S13 hH
          clear hW
          refine wpAnyH_done (by kernel_rfl) ?_ _
          clear hH
          go_wp2_with fail
          go_meet
          case rel => exact ⟨_, _, _, _, _, _, _, _, _, _, _, _, _, _, _, _, _, _, rfl, rfl, S13.out.swap⟩
      · go_simp
        have S9 := Lib.hid (S8.out.var (w4.heap.size) [.bool false, .slice none 0 0, .bool false, .slice none 0 0] 26 (by simp))
        clear S8
        refine hK.out _ _ ⟨S9.out.b.t.t.t.c4, S9.out.b.t.t.c4⟩ (fun h2 => ?_)
        clear hK K hH
        have hH := h2
        clear h2
        try simp only [nrm]
        refine anyH_world (fun w5 hW => ?_)
        rw [← hW] at S9 hH
        clear hW
        refine wpAnyH_ready (rs := [5, 7]) (by kernel_rfl) (by simp) (ready_cons rfl (fun K hK => ?_) (ready_cons rfl (fun K hK => ?_) (AllReadyH.nil)))
        · go_simp
          refine (rmul_any S9.out.n.t.rx S9.out.n.t.t.rx (by omega) (by omega) (by omega)).mono ?_
          rintro e w6 ⟨r2_m, r2_0, r2_n, r2_c, r2_k, r2_1, r2_l, r2_d, rfl, hX, hB⟩
          have S10 := Lib.hid (((S9.out.step hB).rc hX rfl))
          clear S9 hX hB
          go_wp2_with fail
          refine hK.out _ _ ⟨S10.out.b.t.t.t.c4, S10.out.b.t.t.c4⟩ (fun h2 => ?_)
          clear hK K hH
          have hH := h2
          clear h2
          try simp only [nrm]
          refine step_one 7 rfl (by kernel_rfl) (fun K hK => ?_)
          go_simp
          have S11 := Lib.hid (S10.out.var (w6.heap.size) [.bool false, .slice none 0 0, .bool false, .slice none 0 0] 26 (by simp))
          clear S10
          refine hK.out _ _ ⟨S11.out.b.t.t.t.t.c4, S11.out.b.t.t.t.c4⟩ (fun h2 => ?_)
          clear hK K hH
          have hH := h2
          clear h2
          try simp only [nrm]
          refine anyH_world (fun w7 hW => ?_)
          rw [← hW] at S11 hH
          clear hW
          refine step_one 8 rfl (by kernel_rfl) (fun K hK => ?_)
          obtain ⟨c_b7_0, c_b7_1, c_b7_2, c_b7_3⟩ := S11.out.b.t.c4
          obtain ⟨f_b7_0, f_b7_1, f_b7_2, f_b7_3⟩ := S11.out.b.t.f4
          go_simp
          clear c_b7_0 c_b7_1 c_b7_2 c_b7_3 f_b7_0 f_b7_1 f_b7_2 f_b7_3
          have S12 : Hid (Sx w _ [⟨(w6.heap.size), [.bool false, .slice none 0 0, .bool false, .slice none 0 0]⟩, ⟨(w4.heap.size), [.bool r1_m, .slice r1_0 r1_n r1_c, .bool r1_k, .slice r1_1 r1_l r1_d]⟩, ⟨(w.heap.size + 2), [.bool m2, .slice a2 n2 c2, .bool k2, .slice b2 l2 d2]⟩, ⟨(w.heap.size + 1), [.bool m1, .slice a1 n1 c1, .bool k1, .slice b1 l1 d1]⟩, ⟨(w.heap.size), [.bool m0, .slice a0 n0 c0, .bool k0, .slice b0 l0 d0]⟩] _) := Lib.hid (Sx.set [⟨(w6.heap.size), [.bool false, .slice none 0 0, .bool false, .slice none 0 0]⟩] [⟨(w.heap.size + 2), [.bool m2, .slice a2 n2 c2, .bool k2, .slice b2 l2 d2]⟩, ⟨(w.heap.size + 1), [.bool m1, .slice a1 n1 c1, .bool k1, .slice b1 l1 d1]⟩, ⟨(w.heap.size), [.bool m0, .slice a0 n0 c0, .bool k0, .slice b0 l0 d0]⟩] (Sx.set [⟨(w6.heap.size), [.bool false, .slice none 0 0, .bool false, .slice none 0 0]⟩] [⟨(w.heap.size + 2), [.bool m2, .slice a2 n2 c2, .bool k2, .slice b2 l2 d2]⟩, ⟨(w.heap.size + 1), [.bool m1, .slice a1 n1 c1, .bool k1, .slice b1 l1 d1]⟩, ⟨(w.heap.size), [.bool m0, .slice a0 n0 c0, .bool k0, .slice b0 l0 d0]⟩] (Sx.set [⟨(w6.heap.size), [.bool false, .slice none 0 0, .bool false, .slice none 0 0]⟩] [⟨(w.heap.size + 2), [.bool m2, .slice a2 n2 c2, .bool k2, .slice b2 l2 d2]⟩, ⟨(w.heap.size + 1), [.bool m1, .slice a1 n1 c1, .bool k1, .slice b1 l1 d1]⟩, ⟨(w.heap.size), [.bool m0, .slice a0 n0 c0, .bool k0, .slice b0 l0 d0]⟩] (Sx.set [⟨(w6.heap.size), [.bool false, .slice none 0 0, .bool false, .slice none 0 0]⟩] [⟨(w.heap.size + 2), [.bool m2, .slice a2 n2 c2, .bool k2, .slice b2 l2 d2]⟩, ⟨(w.heap.size + 1), [.bool m1, .slice a1 n1 c1, .bool k1, .slice b1 l1 d1]⟩, ⟨(w.heap.size), [.bool m0, .slice a0 n0 c0, .bool k0, .slice b0 l0 d0]⟩] S11.out 0 (.bool r1_m)) 1 (.slice r1_0 r1_n r1_c)) 2 (.bool r1_k)) 3 (.slice r1_1 r1_l r1_d))
          clear S11
          refine hK.out _ _ ⟨S12.out.b.t.t.t.t.c4, S12.out.b.t.t.t.c4⟩ (fun h2 => ?_)
          clear hK K hH
          have hH := h2
          clear h2
          try simp only [nrm]
          refine anyH_world (fun w8 hW => ?_)
          rw [← hW] at S12 hH
          clear hW
          refine step_one 9 rfl (by kernel_rfl) (fun K hK => ?_)
          obtain ⟨c_b8_0, c_b8_1, c_b8_2, c_b8_3⟩ := S12.out.b.c4
          obtain ⟨f_b8_0, f_b8_1, f_b8_2, f_b8_3⟩ := S12.out.b.f4
          go_simp
          clear c_b8_0 c_b8_1 c_b8_2 c_b8_3 f_b8_0 f_b8_1 f_b8_2 f_b8_3
          have S13 : Hid (Sx w _ [⟨(w6.heap.size), [.bool r2_m, .slice r2_0 r2_n r2_c, .bool r2_k, .slice r2_1 r2_l r2_d]⟩, ⟨(w4.heap.size), [.bool r1_m, .slice r1_0 r1_n r1_c, .bool r1_k, .slice r1_1 r1_l r1_d]⟩, ⟨(w.heap.size + 2), [.bool m2, .slice a2 n2 c2, .bool k2, .slice b2 l2 d2]⟩, ⟨(w.heap.size + 1), [.bool m1, .slice a1 n1 c1, .bool k1, .slice b1 l1 d1]⟩, ⟨(w.heap.size), [.bool m0, .slice a0 n0 c0, .bool k0, .slice b0 l0 d0]⟩] _) := Lib.hid (Sx.set [] [⟨(w4.heap.size), [.bool r1_m, .slice r1_0 r1_n r1_c, .bool r1_k, .slice r1_1 r1_l r1_d]⟩, ⟨(w.heap.size + 2), [.bool m2, .slice a2 n2 c2, .bool k2, .slice b2 l2 d2]⟩, ⟨(w.heap.size + 1), [.bool m1, .slice a1 n1 c1, .bool k1, .slice b1 l1 d1]⟩, ⟨(w.heap.size), [.bool m0, .slice a0 n0 c0, .bool k0, .slice b0 l0 d0]⟩] (Sx.set [] [⟨(w4.heap.size), [.bool r1_m, .slice r1_0 r1_n r1_c, .bool r1_k, .slice r1_1 r1_l r1_d]⟩, ⟨(w.heap.size + 2), [.bool m2, .slice a2 n2 c2, .bool k2, .slice b2 l2 d2]⟩, ⟨(w.heap.size + 1), [.bool m1, .slice a1 n1 c1, .bool k1, .slice b1 l1 d1]⟩, ⟨(w.heap.size), [.bool m0, .slice a0 n0 c0, .bool k0, .slice b0 l0 d0]⟩] (Sx.set [] [⟨(w4.heap.size), [.bool r1_m, .slice r1_0 r1_n r1_c, .bool r1_k, .slice r1_1 r1_l r1_d]⟩, ⟨(w.heap.size + 2), [.bool m2, .slice a2 n2 c2, .bool k2, .slice b2 l2 d2]⟩, ⟨(w.heap.size + 1), [.bool m1, .slice a1 n1 c1, .bool k1, .slice b1 l1 d1]⟩, ⟨(w.heap.size), [.bool m0, .slice a0 n0 c0, .bool k0, .slice b0 l0 d0]⟩] (Sx.set [] [⟨(w4.heap.size), [.bool r1_m, .slice r1_0 r1_n r1_c, .bool r1_k, .slice r1_1 r1_l r1_d]⟩, ⟨(w.heap.size + 2), [.bool m2, .slice a2 n2 c2, .bool k2, .slice b2 l2 d2]⟩, ⟨(w.heap.size + 1), [.bool m1, .slice a1 n1 c1, .bool k1, .slice b1 l1 d1]⟩, ⟨(w.heap.size), [.bool m0, .slice a0 n0 c0, .bool k0, .slice b0 l0 d0]⟩] S12.out 0 (.bool r2_m)) 1 (.slice r2_0 r2_n r2_c)) 2 (.bool r2_k)) 3 (.slice r2_1 r2_l r2_d))
          clear S12
          refine hK.out _ _ ⟨S13.out.b.t.t.t.t.c4, S13.out.b.t.t.t.c4⟩ (fun h2 => ?_)
          clear hK K hH
          have hH := h2
          clear h2
          try simp only [nrm]
          refine anyH_world (fun w9 hW => ?_)
          rw [← hW] at S13 hH
          clear hW
          refine wpAnyH_done (by kernel_rfl) ?_ _
          clear hH
          go_wp2_with fail
          go_meet
          case rel => exact ⟨_, _, _, _, _, _, _, _, _, _, _, _, _, _, _, _, _, _, rfl, rfl, S13.out⟩
        · go_simp
          have S10 := Lib.hid (S9.out.var (w5.heap.size) [.bool false, .slice none 0 0, .bool false, .slice none 0 0] 26 (by simp))
          clear S9
          refine hK.out _ _ ⟨S10.out.b.t.t.t.t.c4, S10.out.b.t.t.t.c4⟩ (fun h2 => ?_)
          clear hK K hH
          have hH := h2
          clear h2
          try simp only [nrm]
          refine anyH_world (fun w6 hW => ?_)
          rw [← hW] at S10 hH
          clear hW
          refine step_one 5 rfl (by kernel_rfl) (fun K hK => ?_)
          go_simp
          refine (rmul_any S10.out.n.t.rx S10.out.n.t.t.rx (by omega) (by omega) (by omega)).mono ?_
          rintro e w7 ⟨r2_m, r2_0, r2_n, r2_c, r2_k, r2_1, r2_l, r2_d, rfl, hX, hB⟩
          have S11 := Lib.hid (((S10.out.step hB).rc hX rfl))
          clear S10 hX hB
          go_wp2_with fail
          refine hK.out _ _ ⟨S11.out.b.t.t.t.t.c4, S11.out.b.t.t.t.c4⟩ (fun h2 => ?_)
          clear hK K hH
          have hH := h2
          clear h2
          try simp only [nrm]
          refine step_one 8 rfl (by kernel_rfl) (fun K hK => ?_)
          obtain ⟨c_b7_0, c_b7_1, c_b7_2, c_b7_3⟩ := S11.out.b.t.c4
          obtain ⟨f_b7_0, f_b7_1, f_b7_2, f_b7_3⟩ := S11.out.b.t.f4
          go_simp
          clear c_b7_0 c_b7_1 c_b7_2 c_b7_3 f_b7_0 f_b7_1 f_b7_2 f_b7_3
          have S12 : Hid (Sx w _ [⟨(w5.heap.size), [.bool false, .slice none 0 0, .bool false, .slice none 0 0]⟩, ⟨(w4.heap.size), [.bool r1_m, .slice r1_0 r1_n r1_c, .bool r1_k, .slice r1_1 r1_l r1_d]⟩, ⟨(w.heap.size + 2), [.bool m2, .slice a2 n2 c2, .bool k2, .slice b2 l2 d2]⟩, ⟨(w.heap.size + 1), [.bool m1, .slice a1 n1 c1, .bool k1, .slice b1 l1 d1]⟩, ⟨(w.heap.size), [.bool m0, .slice a0 n0 c0, .bool k0, .slice b0 l0 d0]⟩] _) := Lib.hid (Sx.set [⟨(w5.heap.size), [.bool false, .slice none 0 0, .bool false, .slice none 0 0]⟩] [⟨(w.heap.size + 2), [.bool m2, .slice a2 n2 c2, .bool k2, .slice b2 l2 d2]⟩, ⟨(w.heap.size + 1), [.bool m1, .slice a1 n1 c1, .bool k1, .slice b1 l1 d1]⟩, ⟨(w.heap.size), [.bool m0, .slice a0 n0 c0, .bool k0, .slice b0 l0 d0]⟩] (Sx.set [⟨(w5.heap.size), [.bool false, .slice none 0 0, .bool false, .slice none 0 0]⟩] [⟨(w.heap.size + 2), [.bool m2, .slice a2 n2 c2, .bool k2, .slice b2 l2 d2]⟩, ⟨(w.heap.size + 1), [.bool m1, .slice a1 n1 c1, .bool k1, .slice b1 l1 d1]⟩, ⟨(w.heap.size), [.bool m0, .slice a0 n0 c0, .bool k0, .slice b0 l0 d0]⟩] (Sx.set [⟨(w5.heap.size), [.bool false, .slice none 0 0, .bool false, .slice none 0 0]⟩] [⟨(w.heap.size + 2), [.bool m2, .slice a2 n2 c2, .bool k2, .slice b2 l2 d2]⟩, ⟨(w.heap.size + 1), [.bool m1, .slice a1 n1 c1, .bool k1, .slice b1 l1 d1]⟩, ⟨(w.heap.size), [.bool m0, .slice a0 n0 c0, .bool k0, .slice b0 l0 d0]⟩] (Sx.set [⟨(w5.heap.size), [.bool false, .slice none 0 0, .bool false, .slice none 0 0]⟩] [⟨(w.heap.size + 2), [.bool m2, .slice a2 n2 c2, .bool k2, .slice b2 l2 d2]⟩, ⟨(w.heap.size + 1), [.bool m1, .slice a1 n1 c1, .bool k1, .slice b1 l1 d1]⟩, ⟨(w.heap.size), [.bool m0, .slice a0 n0 c0, .bool k0, .slice b0 l0 d0]⟩] S11.out 0 (.bool r1_m)) 1 (.slice r1_0 r1_n r1_c)) 2 (.bool r1_k)) 3 (.slice r1_1 r1_l r1_d))
          clear S11
          refine hK.out _ _ ⟨S12.out.b.t.t.t.t.c4, S12.out.b.t.t.t.c4⟩ (fun h2 => ?_)
          clear hK K hH
          have hH := h2
          clear h2
          try simp only [nrm]
          refine anyH_world (fun w8 hW => ?_)
          rw [← hW] at S12 hH
          clear hW
          refine step_one 9 rfl (by kernel_rfl) (fun K hK => ?_)
          obtain ⟨c_b8_0, c_b8_1, c_b8_2, c_b8_3⟩ := S12.out.b.c4
          obtain ⟨f_b8_0, f_b8_1, f_b8_2, f_b8_3⟩ := S12.out.b.f4
          go_simp
          clear c_b8_0 c_b8_1 c_b8_2 c_b8_3 f_b8_0 f_b8_1 f_b8_2 f_b8_3
          have S13 : Hid (Sx w _ [⟨(w5.heap.size), [.bool r2_m, .slice r2_0 r2_n r2_c, .bool r2_k, .slice r2_1 r2_l r2_d]⟩, ⟨(w4.heap.size), [.bool r1_m, .slice r1_0 r1_n r1_c, .bool r1_k, .slice r1_1 r1_l r1_d]⟩, ⟨(w.heap.size + 2), [.bool m2, .slice a2 n2 c2, .bool k2, .slice b2 l2 d2]⟩, ⟨(w.heap.size + 1), [.bool m1, .slice a1 n1 c1, .bool k1, .slice b1 l1 d1]⟩, ⟨(w.heap.size), [.bool m0, .slice a0 n0 c0, .bool k0, .slice b0 l0 d0]⟩] _) := Lib.hid (Sx.set [] [⟨(w4.heap.size), [.bool r1_m, .slice r1_0 r1_n r1_c, .bool r1_k, .slice r1_1 r1_l r1_d]⟩, ⟨(w.heap.size + 2), [.bool m2, .slice a2 n2 c2, .bool k2, .slice b2 l2 d2]⟩, ⟨(w.heap.size + 1), [.bool m1, .slice a1 n1 c1, .bool k1, .slice b1 l1 d1]⟩, ⟨(w.heap.size), [.bool m0, .slice a0 n0 c0, .bool k0, .slice b0 l0 d0]⟩] (Sx.set [] [⟨(w4.heap.size), [.bool r1_m, .slice r1_0 r1_n r1_c, .bool r1_k, .slice r1_1 r1_l r1_d]⟩, ⟨(w.heap.size + 2), [.bool m2, .slice a2 n2 c2, .bool k2, .slice b2 l2 d2]⟩, ⟨(w.heap.size + 1), [.bool m1, .slice a1 n1 c1, .bool k1, .slice b1 l1 d1]⟩, ⟨(w.heap.size), [.bool m0, .slice a0 n0 c0, .bool k0, .slice b0 l0 d0]⟩] (Sx.set [] [⟨(w4.heap.size), [.bool r1_m, .slice r1_0 r1_n r1_c, .bool r1_k, .slice r1_1 r1_l r1_d]⟩, ⟨(w.heap.size + 2), [.bool m2, .slice a2 n2 c2, .bool k2, .slice b2 l2 d2]⟩, ⟨(w.heap.size + 1), [.bool m1, .slice a1 n1 c1, .bool k1, .slice b1 l1 d1]⟩, ⟨(w.heap.size), [.bool m0, .slice a0 n0 c0, .bool k0, .slice b0 l0 d0]⟩] (Sx.set [] [⟨(w4.heap.size), [.bool r1_m, .slice r1_0 r1_n r1_c, .bool r1_k, .slice r1_1 r1_l r1_d]⟩, ⟨(w.heap.size + 2), [.bool m2, .slice a2 n2 c2, .bool k2, .slice b2 l2 d2]⟩, ⟨(w.heap.size + 1), [.bool m1, .slice a1 n1 c1, .bool k1, .slice b1 l1 d1]⟩, ⟨(w.heap.size), [.bool m0, .slice a0 n0 c0, .bool k0, .slice b0 l0 d0]⟩] S12.out 0 (.bool r2_m)) 1 (.slice r2_0 r2_n r2_c)) 2 (.bool r2_k)) 3 (.slice r2_1 r2_l r2_d))
          clear S12
          refine hK.out _ _ ⟨S13.out.b.t.t.t.t.c4, S13.out.b.t.t.t.c4⟩ (fun h2 => ?_)
          clear hK K hH
          have hH := h2
          clear h2
          try simp only [nrm]
          refine anyH_world (fun w9 hW => ?_)
          rw [← hW] at S13 hH
          clear hW
          refine wpAnyH_done (by kernel_rfl) ?_ _
          clear hH
          go_wp2_with fail
          go_meet
          case rel => exact ⟨_, _, _, _, _, _, _, _, _, _, _, _, _, _, _, _, _, _, rfl, rfl, S13.out⟩
      · go_simp
        have S9 := Lib.hid (S8.out.var (w4.heap.size) [.bool false, .slice none 0 0, .bool false, .slice none 0 0] 26 (by simp))
        clear S8
        refine hK.out _ _ ⟨S9.out.b.t.t.t.c4, S9.out.b.t.t.c4⟩ (fun h2 => ?_)
        clear hK K hH
        have hH := h2
        clear h2
        try simp only [nrm]
        refine anyH_world (fun w5 hW => ?_)
        rw [← hW] at S9 hH
        clear hW
        refine wpAnyH_ready (rs := [5, 6]) (by kernel_rfl) (by simp) (ready_cons rfl (fun K hK => ?_) (ready_cons rfl (fun K hK => ?_) (AllReadyH.nil)))
        · go_simp
          refine (rmul_any S9.out.n.t.rx S9.out.n.t.t.rx (by omega) (by omega) (by omega)).mono ?_
          rintro e w6 ⟨r2_m, r2_0, r2_n, r2_c, r2_k, r2_1, r2_l, r2_d, rfl, hX, hB⟩
          have S10 := Lib.hid (((S9.out.step hB).rc hX rfl))
          clear S9 hX hB
          go_wp2_with fail
          refine hK.out _ _ ⟨S10.out.b.t.t.t.c4, S10.out.b.t.t.c4⟩ (fun h2 => ?_)
          clear hK K hH
          have hH := h2
          clear h2
          try simp only [nrm]
          refine step_one 6 rfl (by kernel_rfl) (fun K hK => ?_)
          go_simp
          have S11 := Lib.hid (S10.out.var (w6.heap.size) [.bool false, .slice none 0 0, .bool false, .slice none 0 0] 26 (by simp))
          clear S10
          refine hK.out _ _ ⟨S11.out.b.t.t.t.t.c4, S11.out.b.t.t.t.c4⟩ (fun h2 => ?_)
          clear hK K hH
          have hH := h2
          clear h2
          try simp only [nrm]
          refine anyH_world (fun w7 hW => ?_)
          rw [← hW] at S11 hH
          clear hW
          refine step_one 8 rfl (by kernel_rfl) (fun K hK => ?_)
          obtain ⟨c_b7_0, c_b7_1, c_b7_2, c_b7_3⟩ := S11.out.b.c4
          obtain ⟨f_b7_0, f_b7_1, f_b7_2, f_b7_3⟩ := S11.out.b.f4
          go_simp
          clear c_b7_0 c_b7_1 c_b7_2 c_b7_3 f_b7_0 f_b7_1 f_b7_2 f_b7_3
          have S12 : Hid (Sx w _ [⟨(w6.heap.size), [.bool r1_m, .slice r1_0 r1_n r1_c, .bool r1_k, .slice r1_1 r1_l r1_d]⟩, ⟨(w4.heap.size), [.bool false, .slice none 0 0, .bool false, .slice none 0 0]⟩, ⟨(w.heap.size + 2), [.bool m2, .slice a2 n2 c2, .bool k2, .slice b2 l2 d2]⟩, ⟨(w.heap.size + 1), [.bool m1, .slice a1 n1 c1, .bool k1, .slice b1 l1 d1]⟩, ⟨(w.heap.size), [.bool m0, .slice a0 n0 c0, .bool k0, .slice b0 l0 d0]⟩] _) := Lib.hid (Sx.set [] [⟨(w4.heap.size), [.bool false, .slice none 0 0, .bool false, .slice none 0 0]⟩, ⟨(w.heap.size + 2), [.bool m2, .slice a2 n2 c2, .bool k2, .slice b2 l2 d2]⟩, ⟨(w.heap.size + 1), [.bool m1, .slice a1 n1 c1, .bool k1, .slice b1 l1 d1]⟩, ⟨(w.heap.size), [.bool m0, .slice a0 n0 c0, .bool k0, .slice b0 l0 d0]⟩] (Sx.set [] [⟨(w4.heap.size), [.bool false, .slice none 0 0, .bool false, .slice none 0 0]⟩, ⟨(w.heap.size + 2), [.bool m2, .slice a2 n2 c2, .bool k2, .slice b2 l2 d2]⟩, ⟨(w.heap.size + 1), [.bool m1, .slice a1 n1 c1, .bool k1, .slice b1 l1 d1]⟩, ⟨(w.heap.size), [.bool m0, .slice a0 n0 c0, .bool k0, .slice b0 l0 d0]⟩] (Sx.set [] [⟨(w4.heap.size), [.bool false, .slice none 0 0, .bool false, .slice none 0 0]⟩, ⟨(w.heap.size + 2), [.bool m2, .slice a2 n2 c2, .bool k2, .slice b2 l2 d2]⟩, ⟨(w.heap.size + 1), [.bool m1, .slice a1 n1 c1, .bool k1, .slice b1 l1 d1]⟩, ⟨(w.heap.size), [.bool m0, .slice a0 n0 c0, .bool k0, .slice b0 l0 d0]⟩] (Sx.set [] [⟨(w4.heap.size), [.bool false, .slice none 0 0, .bool false, .slice none 0 0]⟩, ⟨(w.heap.size + 2), [.bool m2, .slice a2 n2 c2, .bool k2, .slice b2 l2 d2]⟩, ⟨(w.heap.size + 1), [.bool m1, .slice a1 n1 c1, .bool k1, .slice b1 l1 d1]⟩, ⟨(w.heap.size), [.bool m0, .slice a0 n0 c0, .bool k0, .slice b0 l0 d0]⟩] S11.out 0 (.bool r1_m)) 1 (.slice r1_0 r1_n r1_c)) 2 (.bool r1_k)) 3 (.slice r1_1 r1_l r1_d))
          clear S11
          refine hK.out _ _ ⟨S12.out.b.t.t.t.t.c4, S12.out.b.t.t.t.c4⟩ (fun h2 => ?_)
          clear hK K hH
          have hH := h2
          clear h2
          try simp only [nrm]
          refine anyH_world (fun w8 hW => ?_)
          rw [← hW] at S12 hH
          clear hW
          refine step_one 9 rfl (by kernel_rfl) (fun K hK => ?_)
          obtain ⟨c_b8_0, c_b8_1, c_b8_2, c_b8_3⟩ := S12.out.b.t.c4
          obtain ⟨f_b8_0, f_b8_1, f_b8_2, f_b8_3⟩ := S12.out.b.t.f4
          go_simp
          clear c_b8_0 c_b8_1 c_b8_2 c_b8_3 f_b8_0 f_b8_1 f_b8_2 f_b8_3
          have S13 : Hid (Sx w _ [⟨(w6.heap.size), [.bool r1_m, .slice r1_0 r1_n r1_c, .bool r1_k, .slice r1_1 r1_l r1_d]⟩, ⟨(w4.heap.size), [.bool r2_m, .slice r2_0 r2_n r2_c, .bool r2_k, .slice r2_1 r2_l r2_d]⟩, ⟨(w.heap.size + 2), [.bool m2, .slice a2 n2 c2, .bool k2, .slice b2 l2 d2]⟩, ⟨(w.heap.size + 1), [.bool m1, .slice a1 n1 c1, .bool k1, .slice b1 l1 d1]⟩, ⟨(w.heap.size), [.bool m0, .slice a0 n0 c0, .bool k0, .slice b0 l0 d0]⟩] _) := Lib.hid (Sx.set [⟨(w6.heap.size), [.bool r1_m, .slice r1_0 r1_n r1_c, .bool r1_k, .slice r1_1 r1_l r1_d]⟩] [⟨(w.heap.size + 2), [.bool m2, .slice a2 n2 c2, .bool k2, .slice b2 l2 d2]⟩, ⟨(w.heap.size + 1), [.bool m1, .slice a1 n1 c1, .bool k1, .slice b1 l1 d1]⟩, ⟨(w.heap.size), [.bool m0, .slice a0 n0 c0, .bool k0, .slice b0 l0 d0]⟩] (Sx.set [⟨(w6.heap.size), [.bool r1_m, .slice r1_0 r1_n r1_c, .bool r1_k, .slice r1_1 r1_l r1_d]⟩] [⟨(w.heap.size + 2), [.bool m2, .slice a2 n2 c2, .bool k2, .slice b2 l2 d2]⟩, ⟨(w.heap.size + 1), [.bool m1, .slice a1 n1 c1, .bool k1, .slice b1 l1 d1]⟩, ⟨(w.heap.size), [.bool m0, .slice a0 n0 c0, .bool k0, .slice b0 l0 d0]⟩] (Sx.set [⟨(w6.heap.size), [.bool r1_m, .slice r1_0 r1_n r1_c, .bool r1_k, .slice r1_1 r1_l r1_d]⟩] [⟨(w.heap.size + 2), [.bool m2, .slice a2 n2 c2, .bool k2, .slice b2 l2 d2]⟩, ⟨(w.heap.size + 1), [.bool m1, .slice a1 n1 c1, .bool k1, .slice b1 l1 d1]⟩, ⟨(w.heap.size), [.bool m0, .slice a0 n0 c0, .bool k0, .slice b0 l0 d0]⟩] (Sx.set [⟨(w6.heap.size), [.bool r1_m, .slice r1_0 r1_n r1_c, .bool r1_k, .slice r1_1 r1_l r1_d]⟩] [⟨(w.heap.size + 2), [.bool m2, .slice a2 n2 c2, .bool k2, .slice b2 l2 d2]⟩, ⟨(w.heap.size + 1), [.bool m1, .slice a1 n1 c1, .bool k1, .slice b1 l1 d1]⟩, ⟨(w.heap.size), [.bool m0, .slice a0 n0 c0, .bool k0, .slice b0 l0 d0]⟩] S12.out 0 (.bool r2_m)) 1 (.slice r2_0 r2_n r2_c)) 2 (.bool r2_k)) 3 (.slice r2_1 r2_l r2_d))
          clear S12
          refine hK.out _ _ ⟨S13.out.b.t.t.t.t.c4, S13.out.b.t.t.t.c4⟩ (fun h2 => ?_)
          clear hK K hH
          have hH := h2
          clear h2
          try simp only [nrm]
          refine anyH_world (fun w9 hW => ?_)
          rw [← hW] at S13 hH
          clear hW
          refine wpAnyH_done (by kernel_rfl) ?_ _
          clear hH
          go_wp2_with fail
          go_meet
          case rel => exact ⟨_, _, _, _, _, _, _, _, _, _, _, _, _, _, _, _, _, _, rfl, rfl, S13.out.swap⟩
        · go_simp
          have S10 := Lib.hid (S9.out.var (w5.heap.size) [.bool false, .slice none 0 0, .bool false, .slice none 0 0] 26 (by simp))
          clear S9
          refine hK.out _ _ ⟨S10.out.b.t.t.t.t.c4, S10.out.b.t.t.t.c4⟩ (fun h2 => ?_)
          clear hK K hH
          have hH := h2
          clear h2
          try simp only [nrm]
          refine anyH_world (fun w6 hW => ?_)
          rw [← hW] at S10 hH
          clear hW
          refine step_one 5 rfl (by kernel_rfl) (fun K hK => ?_)
          go_simp
          refine (rmul_any S10.out.n.t.rx S10.out.n.t.t.rx (by omega) (by omega) (by omega)).mono ?_
          rintro e w7 ⟨r2_m, r2_0, r2_n, r2_c, r2_k, r2_1, r2_l, r2_d, rfl, hX, hB⟩
          have S11 := Lib.hid (((S10.out.step hB).rc hX rfl))
          clear S10 hX hB
          go_wp2_with fail
          refine hK.out _ _ ⟨S11.out.b.t.t.t.t.c4, S11.out.b.t.t.t.c4⟩ (fun h2 => ?_)
          clear hK K hH
          have hH := h2
          clear h2
          try simp only [nrm]
          refine step_one 8 rfl (by kernel_rfl) (fun K hK => ?_)
          obtain ⟨c_b7_0, c_b7_1, c_b7_2, c_b7_3⟩ := S11.out.b.c4
          obtain ⟨f_b7_0, f_b7_1, f_b7_2, f_b7_3⟩ := S11.out.b.f4
          go_simp
          clear c_b7_0 c_b7_1 c_b7_2 c_b7_3 f_b7_0 f_b7_1 f_b7_2 f_b7_3
          have S12 : Hid (Sx w _ [⟨(w5.heap.size), [.bool r1_m, .slice r1_0 r1_n r1_c, .bool r1_k, .slice r1_1 r1_l r1_d]⟩, ⟨(w4.heap.size), [.bool false, .slice none 0 0, .bool false, .slice none 0 0]⟩, ⟨(w.heap.size + 2), [.bool m2, .slice a2 n2 c2, .bool k2, .slice b2 l2 d2]⟩, ⟨(w.heap.size + 1), [.bool m1, .slice a1 n1 c1, .bool k1, .slice b1 l1 d1]⟩, ⟨(w.heap.size), [.bool m0, .slice a0 n0 c0, .bool k0, .slice b0 l0 d0]⟩] _) := Lib.hid (Sx.set [] [⟨(w4.heap.size), [.bool false, .slice none 0 0, .bool false, .slice none 0 0]⟩, ⟨(w.heap.size + 2), [.bool m2, .slice a2 n2 c2, .bool k2, .slice b2 l2 d2]⟩, ⟨(w.heap.size + 1), [.bool m1, .slice a1 n1 c1, .bool k1, .slice b1 l1 d1]⟩, ⟨(w.heap.size), [.bool m0, .slice a0 n0 c0, .bool k0, .slice b0 l0 d0]⟩] (Sx.set [] [⟨(w4.heap.size), [.bool false, .slice none 0 0, .bool false, .slice none 0 0]⟩, ⟨(w.heap.size + 2), [.bool m2, .slice a2 n2 c2, .bool k2, .slice b2 l2 d2]⟩, ⟨(w.heap.size + 1), [.bool m1, .slice a1 n1 c1, .bool k1, .slice b1 l1 d1]⟩, ⟨(w.heap.size), [.bool m0, .slice a0 n0 c0, .bool k0, .slice b0 l0 d0]⟩] (Sx.set [] [⟨(w4.heap.size), [.bool false, .slice none 0 0, .bool false, .slice none 0 0]⟩, ⟨(w.heap.size + 2), [.bool m2, .slice a2 n2 c2, .bool k2, .slice b2 l2 d2]⟩, ⟨(w.heap.size + 1), [.bool m1, .slice a1 n1 c1, .bool k1, .slice b1 l1 d1]⟩, ⟨(w.heap.size), [.bool m0, .slice a0 n0 c0, .bool k0, .slice b0 l0 d0]⟩] (Sx.set [] [⟨(w4.heap.size), [.bool false, .slice none 0 0, .bool false, .slice none 0 0]⟩, ⟨(w.heap.size + 2), [.bool m2, .slice a2 n2 c2, .bool k2, .slice b2 l2 d2]⟩, ⟨(w.heap.size + 1), [.bool m1, .slice a1 n1 c1, .bool k1, .slice b1 l1 d1]⟩, ⟨(w.heap.size), [.bool m0, .slice a0 n0 c0, .bool k0, .slice b0 l0 d0]⟩] S11.out 0 (.bool r1_m)) 1 (.slice r1_0 r1_n r1_c)) 2 (.bool r1_k)) 3 (.slice r1_1 r1_l r1_d))
          clear S11
          refine hK.out _ _ ⟨S12.out.b.t.t.t.t.c4, S12.out.b.t.t.t.c4⟩ (fun h2 => ?_)
          clear hK K hH
          have hH := h2
          clear h2
          try simp only [nrm]
          refine anyH_world (fun w8 hW => ?_)
          rw [← hW] at S12 hH
          clear hW
          refine step_one 9 rfl (by kernel_rfl) (fun K hK => ?_)
          obtain ⟨c_b8_0, c_b8_1, c_b8_2, c_b8_3⟩ := S12.out.b.t.c4
          obtain ⟨f_b8_0, f_b8_1, f_b8_2, f_b8_3⟩ := S12.out.b.t.f4
          go_simp
          clear c_b8_0 c_b8_1 c_b8_2 c_b8_3 f_b8_0 f_b8_1 f_b8_2 f_b8_3
          have S13 : Hid (Sx w _ [⟨(w5.heap.size), [.bool r1_m, .slice r1_0 r1_n r1_c, .bool r1_k, .slice r1_1 r1_l r1_d]⟩, ⟨(w4.heap.size), [.bool r2_m, .slice r2_0 r2_n r2_c, .bool r2_k, .slice r2_1 r2_l r2_d]⟩, ⟨(w.heap.size + 2), [.bool m2, .slice a2 n2 c2, .bool k2, .slice b2 l2 d2]⟩, ⟨(w.heap.size + 1), [.bool m1, .slice a1 n1 c1, .bool k1, .slice b1 l1 d1]⟩, ⟨(w.heap.size), [.bool m0, .slice a0 n0 c0, .bool k0, .slice b0 l0 d0]⟩] _) := Lib.hid (Sx.set [⟨(w5.heap.size), [.bool r1_m, .slice r1_0 r1_n r1_c, .bool r1_k, .slice r1_1 r1_l r1_d]⟩] [⟨(w.heap.size + 2), [.bool m2, .slice a2 n2 c2, .bool k2, .slice b2 l2 d2]⟩, ⟨(w.heap.size + 1), [.bool m1, .slice a1 n1 c1, .bool k1, .slice b1 l1 d1]⟩, ⟨(w.heap.size), [.bool m0, .slice a0 n0 c0, .bool k0, .slice b0 l0 d0]⟩] (Sx.set [⟨(w5.heap.size), [.bool r1_m, .slice r1_0 r1_n r1_c, .bool r1_k, .slice r1_1 r1_l r1_d]⟩] [⟨(w.heap.size + 2), [.bool m2, .slice a2 n2 c2, .bool k2, .slice b2 l2 d2]⟩, ⟨(w.heap.size + 1), [.bool m1, .slice a1 n1 c1, .bool k1, .slice b1 l1 d1]⟩, ⟨(w.heap.size), [.bool m0, .slice a0 n0 c0, .bool k0, .slice b0 l0 d0]⟩] (Sx.set [⟨(w5.heap.size), [.bool r1_m, .slice r1_0 r1_n r1_c, .bool r1_k, .slice r1_1 r1_l r1_d]⟩] [⟨(w.heap.size + 2), [.bool m2, .slice a2 n2 c2, .bool k2, .slice b2 l2 d2]⟩, ⟨(w.heap.size + 1), [.bool m1, .slice a1 n1 c1, .bool k1, .slice b1 l1 d1]⟩, ⟨(w.heap.size), [.bool m0, .slice a0 n0 c0, .bool k0, .slice b0 l0 d0]⟩] (Sx.set [⟨(w5.heap.size), [.bool r1_m, .slice r1_0 r1_n r1_c, .bool r1_k, .slice r1_1 r1_l r1_d]⟩] [⟨(w.heap.size + 2), [.bool m2, .slice a2 n2 c2, .bool k2, .slice b2 l2 d2]⟩, ⟨(w.heap.size + 1), [.bool m1, .slice a1 n1 c1, .bool k1, .slice b1 l1 d1]⟩, ⟨(w.heap.size), [.bool m0, .slice a0 n0 c0, .bool k0, .slice b0 l0 d0]⟩] S12.out 0 (.bool r2_m)) 1 (.slice r2_0 r2_n r2_c)) 2 (.bool r2_k)) 3 (.slice r2_1 r2_l r2_d))
          clear S12
          refine hK.out _ _ ⟨S13.out.b.t.t.t.t.c4, S13.out.b.t.t.t.c4⟩ (fun h2 => ?_)
          clear hK K hH
          have hH := h2
          clear h2
          try simp only [nrm]
          refine anyH_world (fun w9 hW => ?_)
          rw [← hW] at S13 hH
          clear hW
          refine wpAnyH_done (by kernel_rfl) ?_ _
          clear hH
          go_wp2_with fail
          go_meet
          case rel => exact ⟨_, _, _, _, _, _, _, _, _, _, _, _, _, _, _, _, _, _, rfl, rfl, S13.out.swap⟩
    · go_simp
      have S8 := Lib.hid (S7.out.var (w3.heap.size) [.bool false, .slice none 0 0, .bool false, .slice none 0 0] 26 (by simp))
      clear S7
      refine hK.out _ _ ⟨S8.out.b.t.t.t.c4, S8.out.b.t.t.c4⟩ (fun h2 => ?_)
      clear hK K hH
      have hH := h2
      clear h2
      try simp only [nrm]
      refine anyH_world (fun w4 hW => ?_)
      rw [← hW] at S8 hH
      clear hW
      refine wpAnyH_ready (rs := [2, 7]) (by kernel_rfl) (by simp) (ready_cons rfl (fun K hK => ?_) (ready_cons rfl (fun K hK => ?_) (AllReadyH.nil)))
      · go_simp
        refine (radd_any S8.out.n.rx S8.out.n.t.rx (by omega) (by omega) (by omega)).mono ?_
        rintro e w5 ⟨r1_m, r1_0, r1_n, r1_c, r1_k, r1_1, r1_l, r1_d, rfl, hX, hB⟩
        have S9 := Lib.hid (((S8.out.step hB).rc hX rfl))
        clear S8 hX hB
        go_wp2_with fail
        refine hK.out _ _ ⟨S9.out.b.t.t.t.c4, S9.out.b.t.t.c4⟩ (fun h2 => ?_)
        clear hK K hH
        have hH := h2
        clear h2
        try simp only [nrm]
        refine wpAnyH_ready (rs := [5, 7]) (by kernel_rfl) (by simp) (ready_cons rfl (fun K hK => ?_) (ready_cons rfl (fun K hK => ?_) (AllReadyH.nil)))
        · go_simp
          refine (rmul_any S9.out.n.t.rx S9.out.n.t.t.rx (by omega) (by omega) (by omega)).mono ?_
          rintro e w6 ⟨r2_m, r2_0, r2_n, r2_c, r2_k, r2_1, r2_l, r2_d, rfl, hX, hB⟩
          have S10 := Lib.hid (((S9.out.step hB).rc hX rfl))
          clear S9 hX hB
          go_wp2_with fail
          refine hK.out _ _ ⟨S10.out.b.t.t.t.c4, S10.out.b.t.t.c4⟩ (fun h2 => ?_)
          clear hK K hH
          have hH := h2
          clear h2
          try simp only [nrm]
          refine step_one 7 rfl (by kernel_rfl) (fun K hK => ?_)
          go_simp
          have S11 := Lib.hid (S10.out.var (w6.heap.size) [.bool false, .slice none 0 0, .bool false, .slice none 0 0] 26 (by simp))
          clear S10
          refine hK.out _ _ ⟨S11.out.b.t.t.t.t.c4, S11.out.b.t.t.t.c4⟩ (fun h2 => ?_)
          clear hK K hH
          have hH := h2
          clear h2
          try simp only [nrm]
          refine anyH_world (fun w7 hW => ?_)
          rw [← hW] at S11 hH
          clear hW
          refine step_one 8 rfl (by kernel_rfl) (fun K hK => ?_)
          obtain ⟨c_b7_0, c_b7_1, c_b7_2, c_b7_3⟩ := S11.out.b.t.c4
          obtain ⟨f_b7_0, f_b7_1, f_b7_2, f_b7_3⟩ := S11.out.b.t.f4
          go_simp
          clear c_b7_0 c_b7_1 c_b7_2 c_b7_3 f_b7_0 f_b7_1 f_b7_2 f_b7_3
          have S12 : Hid (Sx w _ [⟨(w6.heap.size), [.bool false, .slice none 0 0, .bool false, .slice none 0 0]⟩, ⟨(w3.heap.size), [.bool r1_m, .slice r1_0 r1_n r1_c, .bool r1_k, .slice r1_1 r1_l r1_d]⟩, ⟨(w.heap.size + 2), [.bool m2, .slice a2 n2 c2, .bool k2, .slice b2 l2 d2]⟩, ⟨(w.heap.size + 1), [.bool m1, .slice a1 n1 c1, .bool k1, .slice b1 l1 d1]⟩, ⟨(w.heap.size), [.bool m0, .slice a0 n0 c0, .bool k0, .slice b0 l0 d0]⟩] _) := Lib.hid (Sx.set [⟨(w6.heap.size), [.bool false, .slice none 0 0, .bool false, .slice none 0 0]⟩] [⟨(w.heap.size + 2), [.bool m2, .slice a2 n2 c2, .bool k2, .slice b2 l2 d2]⟩, ⟨(w.heap.size + 1), [.bool m1, .slice a1 n1 c1, .bool k1, .slice b1 l1 d1]⟩, ⟨(w.heap.size), [.bool m0, .slice a0 n0 c0, .bool k0, .slice b0 l0 d0]⟩] (Sx.set [⟨(w6.heap.size), [.bool false, .slice none 0 0, .bool false, .slice none 0 0]⟩] [⟨(w.heap.size + 2), [.bool m2, .slice a2 n2 c2, .bool k2, .slice b2 l2 d2]⟩, ⟨(w.heap.size + 1), [.bool m1, .slice a1 n1 c1, .bool k1, .slice b1 l1 d1]⟩, ⟨(w.heap.size), [.bool m0, .slice a0 n0 c0, .bool k0, .slice b0 l0 d0]⟩] (Sx.set [⟨(w6.heap.size), [.bool false, .slice none 0 0, .bool false, .slice none 0 0]⟩] [⟨(w.heap.size + 2), [.bool m2, .slice a2 n2 c2, .bool k2, .slice b2 l2 d2]⟩, ⟨(w.heap.size + 1), [.bool m1, .slice a1 n1 c1, .bool k1, .slice b1 l1 d1]⟩, ⟨(w.heap.size), [.bool m0, .slice a0 n0 c0, .bool k0, .slice b0 l0 d0]⟩] (Sx.set [⟨(w6.heap.size), [.bool false, .slice none 0 0, .bool false, .slice none 0 0]⟩] [⟨(w.heap.size + 2), [.bool m2, .slice a2 n2 c2, .bool k2, .slice b2 l2 d2]⟩, ⟨(w.heap.size + 1), [.bool m1, .slice a1 n1 c1, .bool k1, .slice b1 l1 d1]⟩, ⟨(w.heap.size), [.bool m0, .slice a0 n0 c0, .bool k0, .slice b0 l0 d0]⟩] S11.out 0 (.bool r1_m)) 1 (.slice r1_0 r1_n r1_c)) 2 (.bool r1_k)) 3 (.slice r1_1 r1_l r1_d))
          clear S11
          refine hK.out _ _ ⟨S12.out.b.t.t.t.t.c4, S12.out.b.t.t.t.c4⟩ (fun h2 => ?_)
          clear hK K hH
          have hH := h2
          clear h2
          try simp only [nrm]
          refine anyH_world (fun w8 hW => ?_)
          rw [← hW] at S12 hH
          clear hW
          refine step_one 9 rfl (by kernel_rfl) (fun K hK => ?_)
          obtain ⟨c_b8_0, c_b8_1, c_b8_2, c_b8_3⟩ := S12.out.b.c4
          obtain ⟨f_b8_0, f_b8_1, f_b8_2, f_b8_3⟩ := S12.out.b.f4
          go_simp
          clear c_b8_0 c_b8_1 c_b8_2 c_b8_3 f_b8_0 f_b8_1 f_b8_2 f_b8_3
          have S13 : Hid (Sx w _ [⟨(w6.heap.size), [.bool r2_m, .slice r2_0 r2_n r2_c, .bool r2_k, .slice r2_1 r2_l r2_d]⟩, ⟨(w3.heap.size), [.bool r1_m, .slice r1_0 r1_n r1_c, .bool r1_k, .slice r1_1 r1_l r1_d]⟩, ⟨(w.heap.size + 2), [.bool m2, .slice a2 n2 c2, .bool k2, .slice b2 l2 d2]⟩, ⟨(w.heap.size + 1), [.bool m1, .slice a1 n1 c1, .bool k1, .slice b1 l1 d1]⟩, ⟨(w.heap.size), [.bool m0, .slice a0 n0 c0, .bool k0, .slice b0 l0 d0]⟩] _) := Lib.hid (Sx.set [] [⟨(w3.heap.size), [.bool r1_m, .slice r1_0 r1_n r1_c, .bool r1_k, .slice r1_1 r1_l r1_d]⟩, ⟨(w.heap.size + 2), [.bool m2, .slice a2 n2 c2, .bool k2, .slice b2 l2 d2]⟩, ⟨(w.heap.size + 1), [.bool m1, .slice a1 n1 c1, .bool k1, .slice b1 l1 d1]⟩, ⟨(w.heap.size), [.bool m0, .slice a0 n0 c0, .bool k0, .slice b0 l0 d0]⟩] (Sx.set [] [⟨(w3.heap.size), [.bool r1_m, .slice r1_0 r1_n r1_c, .bool r1_k, .slice r1_1 r1_l r1_d]⟩, ⟨(w.heap.size + 2), [.bool m2, .slice a2 n2 c2, .bool k2, .slice b2 l2 d2]⟩, ⟨(w.heap.size + 1), [.bool m1, .slice a1 n1 c1, .bool k1, .slice b1 l1 d1]⟩, ⟨(w.heap.size), [.bool m0, .slice a0 n0 c0, .bool k0, .slice b0 l0 d0]⟩] (Sx.set [] [⟨(w3.heap.size), [.bool r1_m, .slice r1_0 r1_n r1_c, .bool r1_k, .slice r1_1 r1_l r1_d]⟩, ⟨(w.heap.size + 2), [.bool m2, .slice a2 n2 c2, .bool k2, .slice b2 l2 d2]⟩, ⟨(w.heap.size + 1), [.bool m1, .slice a1 n1 c1, .bool k1, .slice b1 l1 d1]⟩, ⟨(w.heap.size), [.bool m0, .slice a0 n0 c0, .bool k0, .slice b0 l0 d0]⟩] (Sx.set [] [⟨(w3.heap.size), [.bool r1_m, .slice r1_0 r1_n r1_c, .bool r1_k, .slice r1_1 r1_l r1_d]⟩, ⟨(w.heap.size + 2), [.bool m2, .slice a2 n2 c2, .bool k2, .slice b2 l2 d2]⟩, ⟨(w.heap.size + 1), [.bool m1, .slice a1 n1 c1, .bool k1, .slice b1 l1 d1]⟩, ⟨(w.heap.size), [.bool m0, .slice a0 n0 c0, .bool k0, .slice b0 l0 d0]⟩] S12.out 0 (.bool r2_m)) 1 (.slice r2_0 r2_n r2_c)) 2 (.bool r2_k)) 3 (.slice r2_1 r2_l r2_d))
          clear S12
          refine hK.out _ _ ⟨S13.out.b.t.t.t.t.c4, S13.out.b.t.t.t.c4⟩ (fun h2 => ?_)
          clear hK K hH
          have hH := h2
          clear h2
          try simp only [nrm]
          refine anyH_world (fun w9 hW => ?_)
          rw [← hW] at S13 hH
          clear hW
          refine wpAnyH_done (by kernel_rfl) ?_ _
          clear hH
          go_wp2_with fail
          go_meet
          case rel => exact ⟨_, _, _, _, _, _, _, _, _, _, _, _, _, _, _, _, _, _, rfl, rfl, S13.out⟩
        · go_simp
          have S10 := Lib.hid (S9.out.var (w5.heap.size) [.bool false, .slice none 0 0, .bool false, .slice none 0 0] 26 (by simp))
          clear S9
          refine hK.out _ _ ⟨S10.out.b.t.t.t.t.c4, S10.out.b.t.t.t.c4⟩ (fun h2 => ?_)
          clear hK K hH
          have hH := h2
          clear h2
          try simp only [nrm]
          refine anyH_world (fun w6 hW => ?_)
          rw [← hW] at S10 hH
          clear hW
          refine step_one 5 rfl (by kernel_rfl) (fun K hK => ?_)
          go_simp
          refine (rmul_any S10.out.n.t.rx S10.out.n.t.t.rx (by omega) (by omega) (by omega)).mono ?_
          rintro e w7 ⟨r2_m, r2_0, r2_n, r2_c, r2_k, r2_1, r2_l, r2_d, rfl, hX, hB⟩
          have S11 := Lib.hid (((S10.out.step hB).rc hX rfl))
          clear S10 hX hB
          go_wp2_with fail
          refine hK.out _ _ ⟨S11.out.b.t.t.t.t.c4, S11.out.b.t.t.t.c4⟩ (fun h2 => ?_)
          clear hK K hH
          have hH := h2
          clear h2
          try simp only [nrm]
          refine step_one 8 rfl (by kernel_rfl) (fun K hK => ?_)
          obtain ⟨c_b7_0, c_b7_1, c_b7_2, c_b7_3⟩ := S11.out.b.t.c4
          obtain ⟨f_b7_0, f_b7_1, f_b7_2, f_b7_3⟩ := S11.out.b.t.f4
          go_simp
          clear c_b7_0 c_b7_1 c_b7_2 c_b7_3 f_b7_0 f_b7_1 f_b7_2 f_b7_3
          have S12 : Hid (Sx w _ [⟨(w5.heap.size), [.bool false, .slice none 0 0, .bool false, .slice none 0 0]⟩, ⟨(w3.heap.size), [.bool r1_m, .slice r1_0 r1_n r1_c, .bool r1_k, .slice r1_1 r1_l r1_d]⟩, ⟨(w.heap.size + 2), [.bool m2, .slice a2 n2 c2, .bool k2, .slice b2 l2 d2]⟩, ⟨(w.heap.size + 1), [.bool m1, .slice a1 n1 c1, .bool k1, .slice b1 l1 d1]⟩, ⟨(w.heap.size), [.bool m0, .slice a0 n0 c0, .bool k0, .slice b0 l0 d0]⟩] _) := Lib.hid (Sx.set [⟨(w5.heap.size), [.bool false, .slice none 0 0, .bool false, .slice none 0 0]⟩] [⟨(w.heap.size + 2), [.bool m2, .slice a2 n2 c2, .bool k2, .slice b2 l2 d2]⟩, ⟨(w.heap.size + 1), [.bool m1, .slice a1 n1 c1, .bool k1, .slice b1 l1 d1]⟩, ⟨(w.heap.size), [.bool m0, .slice a0 n0 c0, .bool k0, .slice b0 l0 d0]⟩] (Sx.set [⟨(w5.heap.size), [.bool false, .slice none 0 0, .bool false, .slice none 0 0]⟩] [⟨(w.heap.size + 2), [.bool m2, .slice a2 n2 c2, .bool k2, .slice b2 l2 d2]⟩, ⟨(w.heap.size + 1), [.bool m1, .slice a1 n1 c1, .bool k1, .slice b1 l1 d1]⟩, ⟨(w.heap.size), [.bool m0, .slice a0 n0 c0, .bool k0, .slice b0 l0 d0]⟩] (Sx.set [⟨(w5.heap.size), [.bool false, .slice none 0 0, .bool false, .slice none 0 0]⟩] [⟨(w.heap.size + 2), [.bool m2, .slice a2 n2 c2, .bool k2, .slice b2 l2 d2]⟩, ⟨(w.heap.size + 1), [.bool m1, .slice a1 n1 c1, .bool k1, .slice b1 l1 d1]⟩, ⟨(w.heap.size), [.bool m0, .slice a0 n0 c0, .bool k0, .slice b0 l0 d0]⟩] (Sx.set [⟨(w5.heap.size), [.bool false, .slice none 0 0, .bool false, .slice none 0 0]⟩] [⟨(w.heap.size + 2), [.bool m2, .slice a2 n2 c2, .bool k2, .slice b2 l2 d2]⟩, ⟨(w.heap.size + 1), [.bool m1, .slice a1 n1 c1, .bool k1, .slice b1 l1 d1]⟩, ⟨(w.heap.size), [.bool m0, .slice a0 n0 c0, .bool k0, .slice b0 l0 d0]⟩] S11.out 0 (.bool r1_m)) 1 (.slice r1_0 r1_n r1_c)) 2 (.bool r1_k)) 3 (.slice r1_1 r1_l r1_d))
          clear S11
          refine hK.out _ _ ⟨S12.out.b.t.t.t.t.c4, S12.out.b.t.t.t.c4⟩ (fun h2 => ?_)
          clear hK K hH
          have hH := h2
          clear h2
          try simp only [nrm]
          refine anyH_world (fun w8 hW => ?_)
          rw [← hW] at S12 hH
          clear hW
          refine step_one 9 rfl (by kernel_rfl) (fun K hK => ?_)
          obtain ⟨c_b8_0, c_b8_1, c_b8_2, c_b8_3⟩ := S12.out.b.c4
          obtain ⟨f_b8_0, f_b8_1, f_b8_2, f_b8_3⟩ := S12.out.b.f4
          go_simp
          clear c_b8_0 c_b8_1 c_b8_2 c_b8_3 f_b8_0 f_b8_1 f_b8_2 f_b8_3
          have S13 : Hid (Sx w _ [⟨(w5.heap.size), [.bool r2_m, .slice r2_0 r2_n r2_c, .bool r2_k, .slice r2_1 r2_l r2_d]⟩, ⟨(w3.heap.size), [.bool r1_m, .slice r1_0 r1_n r1_c, .bool r1_k, .slice r1_1 r1_l r1_d]⟩, ⟨(w.heap.size + 2), [.bool m2, .slice a2 n2 c2, .bool k2, .slice b2 l2 d2]⟩, ⟨(w.heap.size + 1), [.bool m1, .slice a1 n1 c1, .bool k1, .slice b1 l1 d1]⟩, ⟨(w.heap.size), [.bool m0, .slice a0 n0 c0, .bool k0, .slice b0 l0 d0]⟩] _) := Lib.hid (Sx.set [] [⟨(w3.heap.size), [.bool r1_m, .slice r1_0 r1_n r1_c, .bool r1_k, .slice r1_1 r1_l r1_d]⟩, ⟨(w.heap.size + 2), [.bool m2, .slice a2 n2 c2, .bool k2, .slice b2 l2 d2]⟩, ⟨(w.heap.size + 1), [.bool m1, .slice a1 n1 c1, .bool k1, .slice b1 l1 d1]⟩, ⟨(w.heap.size), [.bool m0, .slice a0 n0 c0, .bool k0, .slice b0 l0 d0]⟩] (Sx.set [] [⟨(w3.heap.size), [.bool r1_m, .slice r1_0 r1_n r1_c, .bool r1_k, .slice r1_1 r1_l r1_d]⟩, ⟨(w.heap.size + 2), [.bool m2, .slice a2 n2 c2, .bool k2, .slice b2 l2 d2]⟩, ⟨(w.heap.size + 1), [.bool m1, .slice a1 n1 c1, .bool k1, .slice b1 l1 d1]⟩, ⟨(w.heap.size), [.bool m0, .slice a0 n0 c0, .bool k0, .slice b0 l0 d0]⟩] (Sx.set [] [⟨(w3.heap.size), [.bool r1_m, .slice r1_0 r1_n r1_c, .bool r1_k, .slice r1_1 r1_l r1_d]⟩, ⟨(w.heap.size + 2), [.bool m2, .slice a2 n2 c2, .bool k2, .slice b2 l2 d2]⟩, ⟨(w.heap.size + 1), [.bool m1, .slice a1 n1 c1, .bool k1, .slice b1 l1 d1]⟩, ⟨(w.heap.size), [.bool m0, .slice a0 n0 c0, .bool k0, .slice b0 l0 d0]⟩] (Sx.set [] [⟨(w3.heap.size), [.bool r1_m, .slice r1_0 r1_n r1_c, .bool r1_k, .slice r1_1 r1_l r1_d]⟩, ⟨(w.heap.size + 2), [.bool m2, .slice a2 n2 c2, .bool k2, .slice b2 l2 d2]⟩, ⟨(w.heap.size + 1), [.bool m1, .slice a1 n1 c1, .bool k1, .slice b1 l1 d1]⟩, ⟨(w.heap.size), [.bool m0, .slice a0 n0 c0, .bool k0, .slice b0 l0 d0]⟩] S12.out 0 (.bool r2_m)) 1 (.slice r2_0 r2_n r2_c)) 2 (.bool r2_k)) 3 (.slice r2_1 r2_l r2_d))
          clear S12
          refine hK.out _ _ ⟨S13.out.b.t.t.t.t.c4, S13.out.b.t.t.t.c4⟩ (fun h2 => ?_)
          clear hK K hH
          have hH := h2
          clear h2
          try simp only [nrm]
          refine anyH_world (fun w9 hW => ?_)
          rw [← hW] at S13 hH
          clear hW
          refine wpAnyH_done (by kernel_rfl) ?_ _
          clear hH
          go_wp2_with fail
          go_meet
          case rel => exact ⟨_, _, _, _, _, _, _, _, _, _, _, _, _, _, _, _, _, _, rfl, rfl, S13.out⟩
      · go_simp
        have S9 := Lib.hid (S8.out.var (w4.heap.size) [.bool false, .slice none 0 0, .bool false, .slice none 0 0] 26 (by simp))
        clear S8
        refine hK.out _ _ ⟨S9.out.b.t.t.t.t.c4, S9.out.b.t.t.t.c4⟩ (fun h2 => ?_)
        clear hK K hH
        have hH := h2
        clear h2
        try simp only [nrm]
        refine anyH_world (fun w5 hW => ?_)
        rw [← hW] at S9 hH
        clear hW
        refine step_one 2 rfl (by kernel_rfl) (fun K hK => ?_)
        go_simp
        refine (radd_any S9.out.n.rx S9.out.n.t.rx (by omega) (by omega) (by omega)).mono ?_
        rintro e w6 ⟨r1_m, r1_0, r1_n, r1_c, r1_k, r1_1, r1_l, r1_d, rfl, hX, hB⟩
        have S10 := Lib.hid (((S9.out.step hB).rc hX rfl))
        clear S9 hX hB
        go_wp2_with fail
        refine hK.out _ _ ⟨S10.out.b.t.t.t.t.c4, S10.out.b.t.t.t.c4⟩ (fun h2 => ?_)
        clear hK K hH
        have hH := h2
        clear h2
        try simp only [nrm]
        refine step_one 5 rfl (by kernel_rfl) (fun K hK => ?_)
        go_simp
        refine (rmul_any S10.out.n.t.rx S10.out.n.t.t.rx (by omega) (by omega) (by omega)).mono ?_
        rintro e w7 ⟨r2_m, r2_0, r2_n, r2_c, r2_k, r2_1, r2_l, r2_d, rfl, hX, hB⟩
        have S11 := Lib.hid (((S10.out.step hB).rc hX rfl))
        clear S10 hX hB
        go_wp2_with fail
        refine hK.out _ _ ⟨S11.out.b.t.t.t.t.c4, S11.out.b.t.t.t.c4⟩ (fun h2 => ?_)
        clear hK K hH
        have hH := h2
        clear h2
        try simp only [nrm]
        refine step_one 8 rfl (by kernel_rfl) (fun K hK => ?_)
        obtain ⟨c_b7_0, c_b7_1, c_b7_2, c_b7_3⟩ := S11.out.b.t.c4
        obtain ⟨f_b7_0, f_b7_1, f_b7_2, f_b7_3⟩ := S11.out.b.t.f4
        go_simp
        clear c_b7_0 c_b7_1 c_b7_2 c_b7_3 f_b7_0 f_b7_1 f_b7_2 f_b7_3
        have S12 : Hid (Sx w _ [⟨(w4.heap.size), [.bool false, .slice none 0 0, .bool false, .slice none 0 0]⟩, ⟨(w3.heap.size), [.bool r1_m, .slice r1_0 r1_n r1_c, .bool r1_k, .slice r1_1 r1_l r1_d]⟩, ⟨(w.heap.size + 2), [.bool m2, .slice a2 n2 c2, .bool k2, .slice b2 l2 d2]⟩, ⟨(w.heap.size + 1), [.bool m1, .slice a1 n1 c1, .bool k1, .slice b1 l1 d1]⟩, ⟨(w.heap.size), [.bool m0, .slice a0 n0 c0, .bool k0, .slice b0 l0 d0]⟩] _) := Lib.hid (Sx.set [⟨(w4.heap.size), [.bool false, .slice none 0 0, .bool false, .slice none 0 0]⟩] [⟨(w.heap.size + 2), [.bool m2, .slice a2 n2 c2, .bool k2, .slice b2 l2 d2]⟩, ⟨(w.heap.size + 1), [.bool m1, .slice a1 n1 c1, .bool k1, .slice b1 l1 d1]⟩, ⟨(w.heap.size), [.bool m0, .slice a0 n0 c0, .bool k0, .slice b0 l0 d0]⟩] (Sx.set [⟨(w4.heap.size), [.bool false, .slice none 0 0, .bool false, .slice none 0 0]⟩] [⟨(w.heap.size + 2), [.bool m2, .slice a2 n2 c2, .bool k2, .slice b2 l2 d2]⟩, ⟨(w.heap.size + 1), [.bool m1, .slice a1 n1 c1, .bool k1, .slice b1 l1 d1]⟩, ⟨(w.heap.size), [.bool m0, .slice a0 n0 c0, .bool k0, .slice b0 l0 d0]⟩] (Sx.set [⟨(w4.heap.size), [.bool false, .slice none 0 0, .bool false, .slice none 0 0]⟩] [⟨(w.heap.size + 2), [.bool m2, .slice a2 n2 c2, .bool k2, .slice b2 l2 d2]⟩, ⟨(w.heap.size + 1), [.bool m1, .slice a1 n1 c1, .bool k1, .slice b1 l1 d1]⟩, ⟨(w.heap.size), [.bool m0, .slice a0 n0 c0, .bool k0, .slice b0 l0 d0]⟩] (Sx.set [⟨(w4.heap.size), [.bool false, .slice none 0 0, .bool false, .slice none 0 0]⟩] [⟨(w.heap.size + 2), [.bool m2, .slice a2 n2 c2, .bool k2, .slice b2 l2 d2]⟩, ⟨(w.heap.size + 1), [.bool m1, .slice a1 n1 c1, .bool k1, .slice b1 l1 d1]⟩, ⟨(w.heap.size), [.bool m0, .slice a0 n0 c0, .bool k0, .slice b0 l0 d0]⟩] S11.out 0 (.bool r1_m)) 1 (.slice r1_0 r1_n r1_c)) 2 (.bool r1_k)) 3 (.slice r1_1 r1_l r1_d))
        clear S11
        refine hK.out _ _ ⟨S12.out.b.t.t.t.t.c4, S12.out.b.t.t.t.c4⟩ (fun h2 => ?_)
        clear hK K hH
        have hH := h2
        clear h2
        try simp only [nrm]
        refine anyH_world (fun w8 hW => ?_)
        rw [← hW] at S12 hH
        clear hW
        refine step_one 9 rfl (by kernel_rfl) (fun K hK => ?_)
        obtain ⟨c_b8_0, c_b8_1, c_b8_2, c_b8_3⟩ := S12.out.b.c4
        obtain ⟨f_b8_0, f_b8_1, f_b8_2, f_b8_3⟩ := S12.out.b.f4
        go_simp
        clear c_b8_0 c_b8_1 c_b8_2 c_b8_3 f_b8_0 f_b8_1 f_b8_2 f_b8_3
        have S13 : Hid (Sx w _ [⟨(w4.heap.size), [.bool r2_m, .slice r2_0 r2_n r2_c, .bool r2_k, .slice r2_1 r2_l r2_d]⟩, ⟨(w3.heap.size), [.bool r1_m, .slice r1_0 r1_n r1_c, .bool r1_k, .slice r1_1 r1_l r1_d]⟩, ⟨(w.heap.size + 2), [.bool m2, .slice a2 n2 c2, .bool k2, .slice b2 l2 d2]⟩, ⟨(w.heap.size + 1), [.bool m1, .slice a1 n1 c1, .bool k1, .slice b1 l1 d1]⟩, ⟨(w.heap.size), [.bool m0, .slice a0 n0 c0, .bool k0, .slice b0 l0 d0]⟩] _) := Lib.hid (Sx.set [] [⟨(w3.heap.size), [.bool r1_m, .slice r1_0 r1_n r1_c, .bool r1_k, .slice r1_1 r1_l r1_d]⟩, ⟨(w.heap.size + 2), [.bool m2, .slice a2 n2 c2, .bool k2, .slice b2 l2 d2]⟩, ⟨(w.heap.size + 1), [.bool m1, .slice a1 n1 c1, .bool k1, .slice b1 l1 d1]⟩, ⟨(w.heap.size), [.bool m0, .slice a0 n0 c0, .bool k0, .slice b0 l0 d0]⟩] (Sx.set [] [⟨(w3.heap.size), [.bool r1_m, .slice r1_0 r1_n r1_c, .bool r1_k, .slice r1_1 r1_l r1_d]⟩, ⟨(w.heap.size + 2), [.bool m2, .slice a2 n2 c2, .bool k2, .slice b2 l2 d2]⟩, ⟨(w.heap.size + 1), [.bool m1, .slice a1 n1 c1, .bool k1, .slice b1 l1 d1]⟩, ⟨(w.heap.size), [.bool m0, .slice a0 n0 c0, .bool k0, .slice b0 l0 d0]⟩] (Sx.set [] [⟨(w3.heap.size), [.bool r1_m, .slice r1_0 r1_n r1_c, .bool r1_k, .slice r1_1 r1_l r1_d]⟩, ⟨(w.heap.size + 2), [.bool m2, .slice a2 n2 c2, .bool k2, .slice b2 l2 d2]⟩, ⟨(w.heap.size + 1), [.bool m1, .slice a1 n1 c1, .bool k1, .slice b1 l1 d1]⟩, ⟨(w.heap.size), [.bool m0, .slice a0 n0 c0, .bool k0, .slice b0 l0 d0]⟩] (Sx.set [] [⟨(w3.heap.size), [.bool r1_m, .slice r1_0 r1_n r1_c, .bool r1_k, .slice r1_1 r1_l r1_d]⟩, ⟨(w.heap.size + 2), [.bool m2, .slice a2 n2 c2, .bool k2, .slice b2 l2 d2]⟩, ⟨(w.heap.size + 1), [.bool m1, .slice a1 n1 c1, .bool k1, .slice b1 l1 d1]⟩, ⟨(w.heap.size), [.bool m0, .slice a0 n0 c0, .bool k0, .slice b0 l0 d0]⟩] S12.out 0 (.bool r2_m)) 1 (.slice r2_0 r2_n r2_c)) 2 (.bool r2_k)) 3 (.slice r2_1 r2_l r2_d))
        clear S12
        refine hK.out _ _ ⟨S13.out.b.t.t.t.t.c4, S13.out.b.t.t.t.c4⟩ (fun h2 => ?_)
        clear hK K hH
        have hH := h2
        clear h2
        try simp only [nrm]
        refine anyH_world (fun w9 hW => ?_)
        rw [← hW] at S13 hH
        clear hW
        refine wpAnyH_done (by kernel_rfl) ?_ _
        clear hH
        go_wp2_with fail
        go_meet
        case rel => exact ⟨_, _, _, _, _, _, _, _, _, _, _, _, _, _, _, _, _, _, rfl, rfl, S13.out⟩
    · go_simp
      have S8 := Lib.hid (S7.out.var (w3.heap.size) [.bool false, .slice none 0 0, .bool false, .slice none 0 0] 26 (by simp))
      clear S7
      refine hK.out _ _ ⟨S8.out.b.t.t.t.c4, S8.out.b.t.t.c4⟩ (fun h2 => ?_)
      clear hK K hH
      have hH := h2
      clear h2
      try simp only [nrm]
      refine anyH_world (fun w4 hW => ?_)
      rw [← hW] at S8 hH
      clear hW
      refine wpAnyH_ready (rs := [2, 6]) (by kernel_rfl) (by simp) (ready_cons rfl (fun K hK => ?_) (ready_cons rfl (fun K hK => ?_) (AllReadyH.nil)))
      · go_simp
        refine (radd_any S8.out.n.rx S8.out.n.t.rx (by omega) (by omega) (by omega)).mono ?_
        rintro e w5 ⟨r1_m, r1_0, r1_n, r1_c, r1_k, r1_1, r1_l, r1_d, rfl, hX, hB⟩
        have S9 := Lib.hid (((S8.out.step hB).rc hX rfl))
        clear S8 hX hB
        go_wp2_with fail
        refine hK.out _ _ ⟨S9.out.b.t.t.t.c4, S9.out.b.t.t.c4⟩ (fun h2 => ?_)
        clear hK K hH
        have hH := h2
        clear h2
        try simp only [nrm]
        refine wpAnyH_ready (rs := [5, 6]) (by kernel_rfl) (by simp) (ready_cons rfl (fun K hK => ?_) (ready_cons rfl (fun K hK => ?_) (AllReadyH.nil)))
        · go_simp
          refine (rmul_any S9.out.n.t.rx S9.out.n.t.t.rx (by omega) (by omega) (by omega)).mono ?_
          rintro e w6 ⟨r2_m, r2_0, r2_n, r2_c, r2_k, r2_1, r2_l, r2_d, rfl, hX, hB⟩
          have S10 := Lib.hid (((S9.out.step hB).rc hX rfl))
          clear S9 hX hB
          go_wp2_with fail
          refine hK.out _ _ ⟨S10.out.b.t.t.t.c4, S10.out.b.t.t.c4⟩ (fun h2 => ?_)
          clear hK K hH
          have hH := h2
          clear h2
          try simp only [nrm]
          refine step_one 6 rfl (by kernel_rfl) (fun K hK => ?_)
          go_simp
          have S11 := Lib.hid (S10.out.var (w6.heap.size) [.bool false, .slice none 0 0, .bool false, .slice none 0 0] 26 (by simp))
          clear S10
          refine hK.out _ _ ⟨S11.out.b.t.t.t.t.c4, S11.out.b.t.t.t.c4⟩ (fun h2 => ?_)
          clear hK K hH
          have hH := h2
          clear h2
          try simp only [nrm]
          refine anyH_world (fun w7 hW => ?_)
          rw [← hW] at S11 hH
          clear hW
          refine step_one 8 rfl (by kernel_rfl) (fun K hK => ?_)
          obtain ⟨c_b7_0, c_b7_1, c_b7_2, c_b7_3⟩ := S11.out.b.c4
          obtain ⟨f_b7_0, f_b7_1, f_b7_2, f_b7_3⟩ := S11.out.b.f4
          go_simp
          clear c_b7_0 c_b7_1 c_b7_2 c_b7_3 f_b7_0 f_b7_1 f_b7_2 f_b7_3
          have S12 : Hid (Sx w _ [⟨(w6.heap.size), [.bool r1_m, .slice r1_0 r1_n r1_c, .bool r1_k, .slice r1_1 r1_l r1_d]⟩, ⟨(w3.heap.size), [.bool false, .slice none 0 0, .bool false, .slice none 0 0]⟩, ⟨(w.heap.size + 2), [.bool m2, .slice a2 n2 c2, .bool k2, .slice b2 l2 d2]⟩, ⟨(w.heap.size + 1), [.bool m1, .slice a1 n1 c1, .bool k1, .slice b1 l1 d1]⟩, ⟨(w.heap.size), [.bool m0, .slice a0 n0 c0, .bool k0, .slice b0 l0 d0]⟩] _) := Lib.hid (Sx.set [] [⟨(w3.heap.size), [.bool false, .slice none 0 0, .bool false, .slice none 0 0]⟩, ⟨(w.heap.size + 2), [.bool m2, .slice a2 n2 c2, .bool k2, .slice b2 l2 d2]⟩, ⟨(w.heap.size + 1), [.bool m1, .slice a1 n1 c1, .bool k1, .slice b1 l1 d1]⟩, ⟨(w.heap.size), [.bool m0, .slice a0 n0 c0, .bool k0, .slice b0 l0 d0]⟩] (Sx.set [] [⟨(w3.heap.size), [.bool false, .slice none 0 0, .bool false, .slice none 0 0]⟩, ⟨(w.heap.size + 2), [.bool m2, .slice a2 n2 c2, .bool k2, .slice b2 l2 d2]⟩, ⟨(w.heap.size + 1), [.bool m1, .slice a1 n1 c1, .bool k1, .slice b1 l1 d1]⟩, ⟨(w.heap.size), [.bool m0, .slice a0 n0 c0, .bool k0, .slice b0 l0 d0]⟩] (Sx.set [] [⟨(w3.heap.size), [.bool false, .slice none 0 0, .bool false, .slice none 0 0]⟩, ⟨(w.heap.size + 2), [.bool m2, .slice a2 n2 c2, .bool k2, .slice b2 l2 d2]⟩, ⟨(w.heap.size + 1), [.bool m1, .slice a1 n1 c1, .bool k1, .slice b1 l1 d1]⟩, ⟨(w.heap.size), [.bool m0, .slice a0 n0 c0, .bool k0, .slice b0 l0 d0]⟩] (Sx.set [] [⟨(w3.heap.size), [.bool false, .slice none 0 0, .bool false, .slice none 0 0]⟩, ⟨(w.heap.size + 2), [.bool m2, .slice a2 n2 c2, .bool k2, .slice b2 l2 d2]⟩, ⟨(w.heap.size + 1), [.bool m1, .slice a1 n1 c1, .bool k1, .slice b1 l1 d1]⟩, ⟨(w.heap.size), [.bool m0, .slice a0 n0 c0, .bool k0, .slice b0 l0 d0]⟩] S11.out 0 (.bool r1_m)) 1 (.slice r1_0 r1_n r1_c)) 2 (.bool r1_k)) 3 (.slice r1_1 r1_l r1_d))
          clear S11
          refine hK.out _ _ ⟨S12.out.b.t.t.t.t.c4, S12.out.b.t.t.t.c4⟩ (fun h2 => ?_)
          clear hK K hH
          have hH := h2
          clear h2
          try simp only [nrm]
          refine anyH_world (fun w8 hW => ?_)
          rw [← hW] at S12 hH
          clear hW
          refine step_one 9 rfl (by kernel_rfl) (fun K hK => ?_)
          obtain ⟨c_b8_0, c_b8_1, c_b8_2, c_b8_3⟩ := S12.out.b.t.c4
          obtain ⟨f_b8_0, f_b8_1, f_b8_2, f_b8_3⟩ := S12.out.b.t.f4
          go_simp
          clear c_b8_0 c_b8_1 c_b8_2 c_b8_3 f_b8_0 f_b8_1 f_b8_2 f_b8_3
          have S13 : Hid (Sx w _ [⟨(w6.heap.size), [.bool r1_m, .slice r1_0 r1_n r1_c, .bool r1_k, .slice r1_1 r1_l r1_d]⟩, ⟨(w3.heap.size), [.bool r2_m, .slice r2_0 r2_n r2_c, .bool r2_k, .slice r2_1 r2_l r2_d]⟩, ⟨(w.heap.size + 2), [.bool m2, .slice a2 n2 c2, .bool k2, .slice b2 l2 d2]⟩, ⟨(w.heap.size + 1), [.bool m1, .slice a1 n1 c1, .bool k1, .slice b1 l1 d1]⟩, ⟨(w.heap.size), [.bool m0, .slice a0 n0 c0, .bool k0, .slice b0 l0 d0]⟩] _) := Lib.hid (Sx.set [⟨(w6.heap.size), [.bool r1_m, .slice r1_0 r1_n r1_c, .bool r1_k, .slice r1_1 r1_l r1_d]⟩] [⟨(w.heap.size + 2), [.bool m2, .slice a2 n2 c2, .bool k2, .slice b2 l2 d2]⟩, ⟨(w.heap.size + 1), [.bool m1, .slice a1 n1 c1, .bool k1, .slice b1 l1 d1]⟩, ⟨(w.heap.size), [.bool m0, .slice a0 n0 c0, .bool k0, .slice b0 l0 d0]⟩] (Sx.set [⟨(w6.heap.size), [.bool r1_m, .slice r1_0 r1_n r1_c, .bool r1_k, .slice r1_1 r1_l r1_d]⟩] [⟨(w.heap.size + 2), [.bool m2, .slice a2 n2 c2, .bool k2, .slice b2 l2 d2]⟩, ⟨(w.heap.size + 1), [.bool m1, .slice a1 n1 c1, .bool k1, .slice b1 l1 d1]⟩, ⟨(w.heap.size), [.bool m0, .slice a0 n0 c0, .bool k0, .slice b0 l0 d0]⟩] (Sx.set [⟨(w6.heap.size), [.bool r1_m, .slice r1_0 r1_n r1_c, .bool r1_k, .slice r1_1 r1_l r1_d]⟩] [⟨(w.heap.size + 2), [.bool m2, .slice a2 n2 c2, .bool k2, .slice b2 l2 d2]⟩, ⟨(w.heap.size + 1), [.bool m1, .slice a1 n1 c1, .bool k1, .slice b1 l1 d1]⟩, ⟨(w.heap.size), [.bool m0, .slice a0 n0 c0, .bool k0, .slice b0 l0 d0]⟩] (Sx.set [⟨(w6.heap.size), [.bool r1_m, .slice r1_0 r1_n r1_c, .bool r1_k, .slice r1_1 r1_l r1_d]⟩] [⟨(w.heap.size + 2), [.bool m2, .slice a2 n2 c2, .bool k2, .slice b2 l2 d2]⟩, ⟨(w.heap.size + 1), [.bool m1, .slice a1 n1 c1, .bool k1, .slice b1 l1 d1]⟩, ⟨(w.heap.size), [.bool m0, .slice a0 n0 c0, .bool k0, .slice b0 l0 d0]⟩] S12.out 0 (.bool r2_m)) 1 (.slice r2_0 r2_n r2_c)) 2 (.bool r2_k)) 3 (.slice r2_1 r2_l r2_d))
          clear S12
          refine hK.out _ _ ⟨S13.out.b.t.t.t.t.c4, S13.out.b.t.t.t.c4⟩ (fun h2 => ?_)
          clear hK K hH
          have hH := h2
          clear h2
          try simp only [nrm]
          refine anyH_world (fun w9 hW => ?_)
          rw [← hW] at S13 hH
          clear hW
          refine wpAnyH_done (by kernel_rfl) ?_ _
          clear hH
          go_wp2_with fail
          go_meet
          case rel => exact ⟨_, _, _, _, _, _, _, _, _, _, _, _, _, _, _, _, _, _, rfl, rfl, S13.out.swap⟩
        · go_simp
          have S10 := Lib.hid (S9.out.var (w5.heap.size) [.bool false, .slice none 0 0, .bool false, .slice none 0 0] 26 (by simp))
          clear S9
          refine hK.out _ _ ⟨S10.out.b.t.t.t.t.c4, S10.out.b.t.t.t.c4⟩ (fun h2 => ?_)
          clear hK K hH
          have hH := h2
          clear h2
          try simp only [nrm]
          refine anyH_world (fun w6 hW => ?_)
          rw [← hW] at S10 hH
          clear hW
          refine step_one 5 rfl (by kernel_rfl) (fun K hK => ?_)
          go_simp
          refine (rmul_any S10.out.n.t.rx S10.out.n.t.t.rx (by omega) (by omega) (by omega)).mono ?_
          rintro e w7 ⟨r2_m, r2_0, r2_n, r2_c, r2_k, r2_1, r2_l, r2_d, rfl, hX, hB⟩
          have S11 := Lib.hid (((S10.out.step hB).rc hX rfl))
          clear S10 hX hB
          go_wp2_with fail
          refine hK.out _ _ ⟨S11.out.b.t.t.t.t.c4, S11.out.b.t.t.t.c4⟩ (fun h2 => ?_)
          clear hK K hH
          have hH := h2
          clear h2
          try simp only [nrm]
          refine step_one 8 rfl (by kernel_rfl) (fun K hK => ?_)
          obtain ⟨c_b7_0, c_b7_1, c_b7_2, c_b7_3⟩ := S11.out.b.c4
          obtain ⟨f_b7_0, f_b7_1, f_b7_2, f_b7_3⟩ := S11.out.b.f4
          go_simp
          clear c_b7_0 c_b7_1 c_b7_2 c_b7_3 f_b7_0 f_b7_1 f_b7_2 f_b7_3
          have S12 : Hid (Sx w _ [⟨(w5.heap.size), [.bool r1_m, .slice r1_0 r1_n r1_c, .bool r1_k, .slice r1_1 r1_l r1_d]⟩, ⟨(w3.heap.size), [.bool false, .slice none 0 0, .bool false, .slice none 0 0]⟩, ⟨(w.heap.size + 2), [.bool m2, .slice a2 n2 c2, .bool k2, .slice b2 l2 d2]⟩, ⟨(w.heap.size + 1), [.bool m1, .slice a1 n1 c1, .bool k1, .slice b1 l1 d1]⟩, ⟨(w.heap.size), [.bool m0, .slice a0 n0 c0, .bool k0, .slice b0 l0 d0]⟩] _) := Lib.hid (Sx.set [] [⟨(w3.heap.size), [.bool false, .slice none 0 0, .bool false, .slice none 0 0]⟩, ⟨(w.heap.size + 2), [.bool m2, .slice a2 n2 c2, .bool k2, .slice b2 l2 d2]⟩, ⟨(w.heap.size + 1), [.bool m1, .slice a1 n1 c1, .bool k1, .slice b1 l1 d1]⟩, ⟨(w.heap.size), [.bool m0, .slice a0 n0 c0, .bool k0, .slice b0 l0 d0]⟩] (Sx.set [] [⟨(w3.heap.size), [.bool false, .slice none 0 0, .bool false, .slice none 0 0]⟩, ⟨(w.heap.size + 2), [.bool m2, .slice a2 n2 c2, .bool k2, .slice b2 l2 d2]⟩, ⟨(w.heap.size + 1), [.bool m1, .slice a1 n1 c1, .bool k1, .slice b1 l1 d1]⟩, ⟨(w.heap.size), [.bool m0, .slice a0 n0 c0, .bool k0, .slice b0 l0 d0]⟩] (Sx.set [] [⟨(w3.heap.size), [.bool false, .slice none 0 0, .bool false, .slice none 0 0]⟩, ⟨(w.heap.size + 2), [.bool m2, .slice a2 n2 c2, .bool k2, .slice b2 l2 d2]⟩, ⟨(w.heap.size + 1), [.bool m1, .slice a1 n1 c1, .bool k1, .slice b1 l1 d1]⟩, ⟨(w.heap.size), [.bool m0, .slice a0 n0 c0, .bool k0, .slice b0 l0 d0]⟩] (Sx.set [] [⟨(w3.heap.size), [.bool false, .slice none 0 0, .bool false, .slice none 0 0]⟩, ⟨(w.heap.size + 2), [.bool m2, .slice a2 n2 c2, .bool k2, .slice b2 l2 d2]⟩, ⟨(w.heap.size + 1), [.bool m1, .slice a1 n1 c1, .bool k1, .slice b1 l1 d1]⟩, ⟨(w.heap.size), [.bool m0, .slice a0 n0 c0, .bool k0, .slice b0 l0 d0]⟩] S11.out 0 (.bool r1_m)) 1 (.slice r1_0 r1_n r1_c)) 2 (.bool r1_k)) 3 (.slice r1_1 r1_l r1_d))
          clear S11
          refine hK.out _ _ ⟨S12.out.b.t.t.t.t.c4, S12.out.b.t.t.t.c4⟩ (fun h2 => ?_)
          clear hK K hH
          have hH := h2
          clear h2
          try simp only [nrm]
          refine anyH_world (fun w8 hW => ?_)
          rw [← hW] at S12 hH
          clear hW
          refine step_one 9 rfl (by kernel_rfl) (fun K hK => ?_)
          obtain ⟨c_b8_0, c_b8_1, c_b8_2, c_b8_3⟩ := S12.out.b.t.c4
          obtain ⟨f_b8_0, f_b8_1, f_b8_2, f_b8_3⟩ := S12.out.b.t.f4
          go_simp
          clear c_b8_0 c_b8_1 c_b8_2 c_b8_3 f_b8_0 f_b8_1 f_b8_2 f_b8_3
          have S13 : Hid (Sx w _ [⟨(w5.heap.size), [.bool r1_m, .slice r1_0 r1_n r1_c, .bool r1_k, .slice r1_1 r1_l r1_d]⟩, ⟨(w3.heap.size), [.bool r2_m, .slice r2_0 r2_n r2_c, .bool r2_k, .slice r2_1 r2_l r2_d]⟩, ⟨(w.heap.size + 2), [.bool m2, .slice a2 n2 c2, .bool k2, .slice b2 l2 d2]⟩, ⟨(w.heap.size + 1), [.bool m1, .slice a1 n1 c1, .bool k1, .slice b1 l1 d1]⟩, ⟨(w.heap.size), [.bool m0, .slice a0 n0 c0, .bool k0, .slice b0 l0 d0]⟩] _) := Lib.hid (Sx.set [⟨(w5.heap.size), [.bool r1_m, .slice r1_0 r1_n r1_c, .bool r1_k, .slice r1_1 r1_l r1_d]⟩] [⟨(w.heap.size + 2), [.bool m2, .slice a2 n2 c2, .bool k2, .slice b2 l2 d2]⟩, ⟨(w.heap.size + 1), [.bool m1, .slice a1 n1 c1, .bool k1, .slice b1 l1 d1]⟩, ⟨(w.heap.size), [.bool m0, .slice a0 n0 c0, .bool k0, .slice b0 l0 d0]⟩] (Sx.set [⟨(w5.heap.size), [.bool r1_m, .slice r1_0 r1_n r1_c, .bool r1_k, .slice r1_1 r1_l r1_d]⟩] [⟨(w.heap.size + 2), [.bool m2, .slice a2 n2 c2, .bool k2, .slice b2 l2 d2]⟩, ⟨(w.heap.size + 1), [.bool m1, .slice a1 n1 c1, .bool k1, .slice b1 l1 d1]⟩, ⟨(w.heap.size), [.bool m0, .slice a0 n0 c0, .bool k0, .slice b0 l0 d0]⟩] (Sx.set [⟨(w5.heap.size), [.bool r1_m, .slice r1_0 r1_n r1_c, .bool r1_k, .slice r1_1 r1_l r1_d]⟩] [⟨(w.heap.size + 2), [.bool m2, .slice a2 n2 c2, .bool k2, .slice b2 l2 d2]⟩, ⟨(w.heap.size + 1), [.bool m1, .slice a1 n1 c1, .bool k1, .slice b1 l1 d1]⟩, ⟨(w.heap.size), [.bool m0, .slice a0 n0 c0, .bool k0, .slice b0 l0 d0]⟩] (Sx.set [⟨(w5.heap.size), [.bool r1_m, .slice r1_0 r1_n r1_c, .bool r1_k, .slice r1_1 r1_l r1_d]⟩] [⟨(w.heap.size + 2), [.bool m2, .slice a2 n2 c2, .bool k2, .slice b2 l2 d2]⟩, ⟨(w.heap.size + 1), [.bool m1, .slice a1 n1 c1, .bool k1, .slice b1 l1 d1]⟩, ⟨(w.heap.size), [.bool m0, .slice a0 n0 c0, .bool k0, .slice b0 l0 d0]⟩] S12.out 0 (.bool r2_m)) 1 (.slice r2_0 r2_n r2_c)) 2 (.bool r2_k)) 3 (.slice r2_1 r2_l r2_d))
          clear S12
          refine hK.out _ _ ⟨S13.out.b.t.t.t.t.c4, S13.out.b.t.t.t.c4⟩ (fun h2 => ?_)
          clear hK K hH
          have hH := h2
          clear h2
          try simp only [nrm]
          refine anyH_world (fun w9 hW => ?_)
          rw [← hW] at S13 hH
          clear hW
          refine wpAnyH_done (by kernel_rfl) ?_ _
          clear hH
          go_wp2_with fail
          go_meet
          case rel => exact ⟨_, _, _, _, _, _, _, _, _, _, _, _, _, _, _, _, _, _, rfl, rfl, S13.out.swap⟩
      · go_simp
        have S9 := Lib.hid (S8.out.var (w4.heap.size) [.bool false, .slice none 0 0, .bool false, .slice none 0 0] 26 (by simp))
        clear S8
        refine hK.out _ _ ⟨S9.out.b.t.t.t.t.c4, S9.out.b.t.t.t.c4⟩ (fun h2 => ?_)
        clear hK K hH
        have hH := h2
        clear h2
        try simp only [nrm]
        refine anyH_world (fun w5 hW => ?_)
        rw [← hW] at S9 hH
        clear hW
        refine step_one 2 rfl (by kernel_rfl) (fun K hK => ?_)
        go_simp
        refine (radd_any S9.out.n.rx S9.out.n.t.rx (by omega) (by omega) (by omega)).mono ?_
        rintro e w6 ⟨r1_m, r1_0, r1_n, r1_c, r1_k, r1_1, r1_l, r1_d, rfl, hX, hB⟩
        have S10 := Lib.hid (((S9.out.step hB).rc hX rfl))
        clear S9 hX hB
        go_wp2_with fail
        refine hK.out _ _ ⟨S10.out.b.t.t.t.t.c4, S10.out.b.t.t.t.c4⟩ (fun h2 => ?_)
        clear hK K hH
        have hH := h2
        clear h2
        try simp only [nrm]
        refine step_one 5 rfl (by kernel_rfl) (fun K hK => ?_)
        go_simp
        refine (rmul_any S10.out.n.t.rx S10.out.n.t.t.rx (by omega) (by omega) (by omega)).mono ?_
        rintro e w7 ⟨r2_m, r2_0, r2_n, r2_c, r2_k, r2_1, r2_l, r2_d, rfl, hX, hB⟩
        have S11 := Lib.hid (((S10.out.step hB).rc hX rfl))
        clear S10 hX hB
        go_wp2_with fail
        refine hK.out _ _ ⟨S11.out.b.t.t.t.t.c4, S11.out.b.t.t.t.c4⟩ (fun h2 => ?_)
        clear hK K hH
        have hH := h2
        clear h2
        try simp only [nrm]
        refine step_one 8 rfl (by kernel_rfl) (fun K hK => ?_)
        obtain ⟨c_b7_0, c_b7_1, c_b7_2, c_b7_3⟩ := S11.out.b.c4
        obtain ⟨f_b7_0, f_b7_1, f_b7_2, f_b7_3⟩ := S11.out.b.f4
        go_simp
        clear c_b7_0 c_b7_1 c_b7_2 c_b7_3 f_b7_0 f_b7_1 f_b7_2 f_b7_3
        have S12 : Hid (Sx w _ [⟨(w4.heap.size), [.bool r1_m, .slice r1_0 r1_n r1_c, .bool r1_k, .slice r1_1 r1_l r1_d]⟩, ⟨(w3.heap.size), [.bool false, .slice none 0 0, .bool false, .slice none 0 0]⟩, ⟨(w.heap.size + 2), [.bool m2, .slice a2 n2 c2, .bool k2, .slice b2 l2 d2]⟩, ⟨(w.heap.size + 1), [.bool m1, .slice a1 n1 c1, .bool k1, .slice b1 l1 d1]⟩, ⟨(w.heap.size), [.bool m0, .slice a0 n0 c0, .bool k0, .slice b0 l0 d0]⟩] _) := Lib.hid (Sx.set [] [⟨(w3.heap.size), [.bool false, .slice none 0 0, .bool false, .slice none 0 0]⟩, ⟨(w.heap.size + 2), [.bool m2, .slice a2 n2 c2, .bool k2, .slice b2 l2 d2]⟩, ⟨(w.heap.size + 1), [.bool m1, .slice a1 n1 c1, .bool k1, .slice b1 l1 d1]⟩, ⟨(w.heap.size), [.bool m0, .slice a0 n0 c0, .bool k0, .slice b0 l0 d0]⟩] (Sx.set [] [⟨(w3.heap.size), [.bool false, .slice none 0 0, .bool false, .slice none 0 0]⟩, ⟨(w.heap.size + 2), [.bool m2, .slice a2 n2 c2, .bool k2, .slice b2 l2 d2]⟩, ⟨(w.heap.size + 1), [.bool m1, .slice a1 n1 c1, .bool k1, .slice b1 l1 d1]⟩, ⟨(w.heap.size), [.bool m0, .slice a0 n0 c0, .bool k0, .slice b0 l0 d0]⟩] (Sx.set [] [⟨(w3.heap.size), [.bool false, .slice none 0 0, .bool false, .slice none 0 0]⟩, ⟨(w.heap.size + 2), [.bool m2, .slice a2 n2 c2, .bool k2, .slice b2 l2 d2]⟩, ⟨(w.heap.size + 1), [.bool m1, .slice a1 n1 c1, .bool k1, .slice b1 l1 d1]⟩, ⟨(w.heap.size), [.bool m0, .slice a0 n0 c0, .bool k0, .slice b0 l0 d0]⟩] (Sx.set [] [⟨(w3.heap.size), [.bool false, .slice none 0 0, .bool false, .slice none 0 0]⟩, ⟨(w.heap.size + 2), [.bool m2, .slice a2 n2 c2, .bool k2, .slice b2 l2 d2]⟩, ⟨(w.heap.size + 1), [.bool m1, .slice a1 n1 c1, .bool k1, .slice b1 l1 d1]⟩, ⟨(w.heap.size), [.bool m0, .slice a0 n0 c0, .bool k0, .slice b0 l0 d0]⟩] S11.out 0 (.bool r1_m)) 1 (.slice r1_0 r1_n r1_c)) 2 (.bool r1_k)) 3 (.slice r1_1 r1_l r1_d))
        clear S11
        refine hK.out _ _ ⟨S12.out.b.t.t.t.t.c4, S12.out.b.t.t.t.c4⟩ (fun h2 => ?_)
        clear hK K hH
        have hH := h2
        clear h2
        try simp only [nrm]
        refine anyH_world (fun w8 hW => ?_)
        rw [← hW] at S12 hH
        clear hW
        refine step_one 9 rfl (by kernel_rfl) (fun K hK => ?_)
        obtain ⟨c_b8_0, c_b8_1, c_b8_2, c_b8_3⟩ := S12.out.b.t.c4
        obtain ⟨f_b8_0, f_b8_1, f_b8_2, f_b8_3⟩ := S12.out.b.t.f4
        go_simp
        clear c_b8_0 c_b8_1 c_b8_2 c_b8_3 f_b8_0 f_b8_1 f_b8_2 f_b8_3
        have S13 : Hid (Sx w _ [⟨(w4.heap.size), [.bool r1_m, .slice r1_0 r1_n r1_c, .bool r1_k, .slice r1_1 r1_l r1_d]⟩, ⟨(w3.heap.size), [.bool r2_m, .slice r2_0 r2_n r2_c, .bool r2_k, .slice r2_1 r2_l r2_d]⟩, ⟨(w.heap.size + 2), [.bool m2, .slice a2 n2 c2, .bool k2, .slice b2 l2 d2]⟩, ⟨(w.heap.size + 1), [.bool m1, .slice a1 n1 c1, .bool k1, .slice b1 l1 d1]⟩, ⟨(w.heap.size), [.bool m0, .slice a0 n0 c0, .bool k0, .slice b0 l0 d0]⟩] _) := Lib.hid (Sx.set [⟨(w4.heap.size), [.bool r1_m, .slice r1_0 r1_n r1_c, .bool r1_k, .slice r1_1 r1_l r1_d]⟩] [⟨(w.heap.size + 2), [.bool m2, .slice a2 n2 c2, .bool k2, .slice b2 l2 d2]⟩, ⟨(w.heap.size + 1), [.bool m1, .slice a1 n1 c1, .bool k1, .slice b1 l1 d1]⟩, ⟨(w.heap.size), [.bool m0, .slice a0 n0 c0, .bool k0, .slice b0 l0 d0]⟩] (Sx.set [⟨(w4.heap.size), [.bool r1_m, .slice r1_0 r1_n r1_c, .bool r1_k, .slice r1_1 r1_l r1_d]⟩] [⟨(w.heap.size + 2), [.bool m2, .slice a2 n2 c2, .bool k2, .slice b2 l2 d2]⟩, ⟨(w.heap.size + 1), [.bool m1, .slice a1 n1 c1, .bool k1, .slice b1 l1 d1]⟩, ⟨(w.heap.size), [.bool m0, .slice a0 n0 c0, .bool k0, .slice b0 l0 d0]⟩] (Sx.set [⟨(w4.heap.size), [.bool r1_m, .slice r1_0 r1_n r1_c, .bool r1_k, .slice r1_1 r1_l r1_d]⟩] [⟨(w.heap.size + 2), [.bool m2, .slice a2 n2 c2, .bool k2, .slice b2 l2 d2]⟩, ⟨(w.heap.size + 1), [.bool m1, .slice a1 n1 c1, .bool k1, .slice b1 l1 d1]⟩, ⟨(w.heap.size), [.bool m0, .slice a0 n0 c0, .bool k0, .slice b0 l0 d0]⟩] (Sx.set [⟨(w4.heap.size), [.bool r1_m, .slice r1_0 r1_n r1_c, .bool r1_k, .slice r1_1 r1_l r1_d]⟩] [⟨(w.heap.size + 2), [.bool m2, .slice a2 n2 c2, .bool k2, .slice b2 l2 d2]⟩, ⟨(w.heap.size + 1), [.bool m1, .slice a1 n1 c1, .bool k1, .slice b1 l1 d1]⟩, ⟨(w.heap.size), [.bool m0, .slice a0 n0 c0, .bool k0, .slice b0 l0 d0]⟩] S12.out 0 (.bool r2_m)) 1 (.slice r2_0 r2_n r2_c)) 2 (.bool r2_k)) 3 (.slice r2_1 r2_l r2_d))
        clear S12
        refine hK.out _ _ ⟨S13.out.b.t.t.t.t.c4, S13.out.b.t.t.t.c4⟩ (fun h2 => ?_)
        clear hK K hH
        have hH := h2
        clear h2
        try simp only [nrm]
        refine anyH_world (fun w9 hW => ?_)
        rw [← hW] at S13 hH
        clear hW
        refine wpAnyH_done (by kernel_rfl) ?_ _
        clear hH
        go_wp2_with fail
        go_meet
        case rel => exact ⟨_, _, _, _, _, _, _, _, _, _, _, _, _, _, _, _, _, _, rfl, rfl, S13.out.swap⟩
  case rest =>
  clear S6
  obtain ⟨qb7, qb8, r2_m, r2_0, r2_n, r2_c, r2_k, r2_1, r2_l, r2_d, r1_m, r1_0, r1_n, r1_c, r1_k, r1_1, r1_l, r1_d, rfl, rfl, S7⟩ := hcut
  obtain ⟨w10, hW⟩ : ∃ w10, w10 = wc := ⟨_, rfl⟩
  rw [← hW] at S7 ⊢
  clear hW
  go_wp2_with fail
  have S8 := Lib.hid (S7.out.drew)
  clear S7
  refine wp_region_held_drew (S := fun w' => (w'.cell? ⟨qb7, 0, none⟩ = some (.bool r1_m) ∧ w'.cell? ⟨qb7, 1, none⟩ = some (.slice r1_0 r1_n r1_c) ∧ w'.cell? ⟨qb7, 2, none⟩ = some (.bool r1_k) ∧ w'.cell? ⟨qb7, 3, none⟩ = some (.slice r1_1 r1_l r1_d)) ∧ (w'.cell? ⟨qb8, 0, none⟩ = some (.bool r2_m) ∧ w'.cell? ⟨qb8, 1, none⟩ = some (.slice r2_0 r2_n r2_c) ∧ w'.cell? ⟨qb8, 2, none⟩ = some (.bool r2_k) ∧ w'.cell? ⟨qb8, 3, none⟩ = some (.slice r2_1 r2_l r2_d)) ∧ (w'.cell? ⟨(w.heap.size + 1), 0, none⟩ = some (.bool m1) ∧ w'.cell? ⟨(w.heap.size + 1), 1, none⟩ = some (.slice a1 n1 c1) ∧ w'.cell? ⟨(w.heap.size + 1), 2, none⟩ = some (.bool k1) ∧ w'.cell? ⟨(w.heap.size + 1), 3, none⟩ = some (.slice b1 l1 d1)) ∧ (w'.cell? ⟨(w.heap.size), 0, none⟩ = some (.bool m0) ∧ w'.cell? ⟨(w.heap.size), 1, none⟩ = some (.slice a0 n0 c0) ∧ w'.cell? ⟨(w.heap.size), 2, none⟩ = some (.bool k0) ∧ w'.cell? ⟨(w.heap.size), 3, none⟩ = some (.slice b0 l0 d0)) ∧ (w'.cell? ⟨(w.heap.size + 2), 0, none⟩ = some (.bool m2) ∧ w'.cell? ⟨(w.heap.size + 2), 1, none⟩ = some (.slice a2 n2 c2) ∧ w'.cell? ⟨(w.heap.size + 2), 2, none⟩ = some (.bool k2) ∧ w'.cell? ⟨(w.heap.size + 2), 3, none⟩ = some (.slice b2 l2 d2))) (by kernel_rfl) (⟨S8.out.b.t.c4, S8.out.b.c4, S8.out.b.t.t.t.c4, S8.out.b.t.t.t.t.c4, S8.out.b.t.t.c4⟩) (fun hH => ?_)
  refine anyH_world (fun w11 hW => ?_)
  rw [← hW] at S8 hH
  clear hW
  refine step_on 0 rfl (by kernel_rfl) (fun _ _ _ h => h) (by rfl) hH (by intro w hS; go_simp <;> with_reducible rfl) ?_
  try simp only [nrm]
  refine step_one 1 rfl (by kernel_rfl) (fun K hK => ?_)
  go_simp
  refine (rmay_can S8.out.n.t.rc).mono ?_
  rintro e w12 ⟨rfl, hB⟩
  have S9 := Lib.hid ((S8.out.step hB))
  clear S8 hB
  go_wp2_with fail
  refine hK.out _ _ ⟨S9.out.b.t.c4, S9.out.b.c4, S9.out.b.t.t.t.c4, S9.out.b.t.t.t.t.c4, S9.out.b.t.t.c4⟩ (fun h2 => ?_)
  clear hK K hH
  have hH := h2
  clear h2
  try simp only [nrm]
  refine step_on 2 rfl (by kernel_rfl) (fun _ _ _ h => h) (by rfl) hH (by intro w hS; go_simp <;> with_reducible rfl) ?_
  try simp only [nrm]
  refine step_on 3 rfl (by kernel_rfl) (fun _ _ _ h => h) (by rfl) hH (by intro w hS; go_simp <;> with_reducible rfl) ?_
  try simp only [nrm]
  refine step_on 4 rfl (by kernel_rfl) (fun _ _ _ h => h) (by rfl) hH (by intro w hS; go_simp <;> with_reducible rfl) ?_
  try simp only [nrm]
  refine step_one 5 rfl (by kernel_rfl) (fun K hK => ?_)
  go_simp
  refine (rmay_can S9.out.n.rc).mono ?_
  rintro e w13 ⟨rfl, hB⟩
  have S10 := Lib.hid ((S9.out.step hB))
  clear S9 hB
  go_wp2_with fail
  refine hK.out _ _ ⟨S10.out.b.t.c4, S10.out.b.c4, S10.out.b.t.t.t.c4, S10.out.b.t.t.t.t.c4, S10.out.b.t.t.c4⟩ (fun h2 => ?_)
  clear hK K hH
  have hH := h2
  clear h2
  try simp only [nrm]
  refine step_on 6 rfl (by kernel_rfl) (fun _ _ _ h => h) (by rfl) hH (by intro w hS; go_simp <;> with_reducible rfl) ?_
  try simp only [nrm]
  refine step_on 7 rfl (by kernel_rfl) (fun _ _ _ h => h) (by rfl) hH (by intro w hS; go_simp <;> with_reducible rfl) ?_
  try simp only [nrm]
  refine step_on 8 rfl (by kernel_rfl) (fun _ _ _ h => h) (by rfl) hH (by intro w hS; go_simp <;> with_reducible rfl) ?_
  try simp only [nrm]
  refine step_on 9 rfl (by kernel_rfl) (fun _ _ _ h => h) (by rfl) hH (by intro w hS; go_simp <;> with_reducible rfl) ?_
  try simp only [nrm]
  refine step_on 10 rfl (by kernel_rfl) (fun _ _ _ h => h) (by rfl) hH (by intro w hS; go_simp <;> with_reducible rfl) ?_
  try simp only [nrm]
  refine step_on 12 rfl (by kernel_rfl) (fun _ _ _ h => h) (by rfl) hH (by intro w hS; go_simp <;> with_reducible rfl) ?_
  try simp only [nrm]
  refine step_one 11 rfl (by kernel_rfl) (fun K hK => ?_)
  go_simp
  refine (rsub_any S10.out.n.t.rc.rx S10.out.n.t.t.t.rx (by omega) (by omega) (by omega)).mono ?_
  rintro e w14 ⟨r3_m, r3_0, r3_n, r3_c, r3_k, r3_1, r3_l, r3_d, rfl, hX, hB⟩
  have S11 := Lib.hid (((S10.out.step hB).rc hX rfl))
  clear S10 hX hB
  go_wp2_with fail
  refine hK.out _ _ ⟨S11.out.b.t.c4, S11.out.b.c4, S11.out.b.t.t.t.c4, S11.out.b.t.t.t.t.c4, S11.out.b.t.t.c4⟩ (fun h2 => ?_)
  clear hK K hH
  have hH := h2
  clear h2
  try simp only [nrm]
  refine step_one 13 rfl (by kernel_rfl) (fun K hK => ?_)
  go_simp
  refine (rcmp_any (0) S11.out.n.rc.rx S11.out.n.t.t.t.rx (by omega) (by omega) (by omega) (qs_eq0 (by grind))).mono ?_
  rintro e w15 ⟨rfl, hB⟩
  have S12 := Lib.hid ((S11.out.step hB))
  clear S11 hB
  go_wp2_with fail
  refine hK.out _ _ ⟨S12.out.b.t.c4, S12.out.b.c4, S12.out.b.t.t.t.c4, S12.out.b.t.t.t.t.c4, S12.out.b.t.t.c4⟩ (fun h2 => ?_)
  clear hK K hH
  have hH := h2
  clear h2
  try simp only [nrm]
  refine step_on 14 rfl (by kernel_rfl) (fun _ _ _ h => h) (by rfl) hH (by intro w hS; go_simp <;> with_reducible rfl) ?_
  try simp only [nrm]
  refine step_on 15 rfl (by kernel_rfl) (fun _ _ _ h => h) (by rfl) hH (by intro w hS; go_simp <;> with_reducible rfl) ?_
  try simp only [nrm]
  refine step_on 16 rfl (by kernel_rfl) (fun _ _ _ h => h) (by rfl) hH (by intro w hS; go_simp <;> with_reducible rfl) ?_
  try simp only [nrm]
  refine step_on 17 rfl (by kernel_rfl) (fun _ _ _ h => h) (by rfl) hH (by intro w hS; go_simp <;> with_reducible rfl) ?_
  try simp only [nrm]
  refine step_on 18 rfl (by kernel_rfl) (fun _ _ _ h => h) (by rfl) hH (by intro w hS; go_simp <;> with_reducible rfl) ?_
  try simp only [nrm]
  refine step_on 20 rfl (by kernel_rfl) (fun _ _ _ h => h) (by rfl) hH (by intro w hS; go_simp <;> with_reducible rfl) ?_
  try simp only [nrm]
  refine step_on 21 rfl (by kernel_rfl) (fun _ _ _ h => h) (by rfl) hH (by intro w hS; go_simp <;> with_reducible rfl) ?_
  try simp only [nrm]
  refine step_on 22 rfl (by kernel_rfl) (fun _ _ _ h => h) (by rfl) hH (by intro w hS; go_simp <;> with_reducible rfl) ?_
  try simp only [nrm]
  refine step_one 19 rfl (by kernel_rfl) (fun K hK => ?_)
  go_simp
  refine (radd_any S12.out.n.t.t.rc.rx S12.out.n.t.t.t.t.t.rx (by omega) (by omega) (by omega)).mono ?_
  rintro e w16 ⟨r4_m, r4_0, r4_n, r4_c, r4_k, r4_1, r4_l, r4_d, rfl, hX, hB⟩
  have S13 := Lib.hid (((S12.out.step hB).rc hX rfl))
  clear S12 hX hB
  go_wp2_with fail
  refine hK.out _ _ ⟨S13.out.b.t.c4, S13.out.b.c4, S13.out.b.t.t.t.c4, S13.out.b.t.t.t.t.c4, S13.out.b.t.t.c4⟩ (fun h2 => ?_)
  clear hK K hH
  have hH := h2
  clear h2
  try simp only [nrm]
  refine step_one 23 rfl (by kernel_rfl) (fun K hK => ?_)
  go_simp
  refine (radd_any S13.out.n.t.t.t.t.t.rx S13.out.n.t.t.t.t.t.t.rx (by omega) (by omega) (by omega)).mono ?_
  rintro e w17 ⟨r5_m, r5_0, r5_n, r5_c, r5_k, r5_1, r5_l, r5_d, rfl, hX, hB⟩
  have S14 := Lib.hid (((S13.out.step hB).rc hX rfl))
  clear S13 hX hB
  go_wp2_with fail
  refine hK.out _ _ ⟨S14.out.b.t.c4, S14.out.b.c4, S14.out.b.t.t.t.c4, S14.out.b.t.t.t.t.c4, S14.out.b.t.t.c4⟩ (fun h2 => ?_)
  clear hK K hH
  have hH := h2
  clear h2
  try simp only [nrm]
  refine step_one 24 rfl (by kernel_rfl) (fun K hK => ?_)
  go_simp
  refine (radd_any S14.out.n.t.t.t.t.t.rx S14.out.n.rc.rx (by omega) (by omega) (by omega)).mono ?_
  rintro e w18 ⟨r6_m, r6_0, r6_n, r6_c, r6_k, r6_1, r6_l, r6_d, rfl, hX, hB⟩
  have S15 := Lib.hid (((S14.out.step hB).rc hX rfl))
  clear S14 hX hB
  go_wp2_with fail
  refine hK.out _ _ ⟨S15.out.b.t.c4, S15.out.b.c4, S15.out.b.t.t.t.c4, S15.out.b.t.t.t.t.c4, S15.out.b.t.t.c4⟩ (fun h2 => ?_)
  clear hK K hH
  have hH := h2
  clear h2
  try simp only [nrm]
  refine step_one 25 rfl (by kernel_rfl) (fun K hK => ?_)
  go_simp
  refine (rcmp_any (0) S15.out.n.t.t.rc.rx S15.out.n.rc.rx (by omega) (by omega) (by omega) (qs_eq0 (by grind))).mono ?_
  rintro e w19 ⟨rfl, hB⟩
  have S16 := Lib.hid ((S15.out.step hB))
  clear S15 hB
  go_wp2_with fail
  refine hK.out _ _ ⟨S16.out.b.t.c4, S16.out.b.c4, S16.out.b.t.t.t.c4, S16.out.b.t.t.t.t.c4, S16.out.b.t.t.c4⟩ (fun h2 => ?_)
  clear hK K hH
  have hH := h2
  clear h2
  try simp only [nrm]
  refine step_on 26 rfl (by kernel_rfl) (fun _ _ _ h => h) (by rfl) hH (by intro w hS; go_simp <;> with_reducible rfl) ?_
  try simp only [nrm]
  refine step_on 27 rfl (by kernel_rfl) (fun _ _ _ h => h) (by rfl) hH (by intro w hS; go_simp <;> with_reducible rfl) ?_
  try simp only [nrm]
  refine step_on 28 rfl (by kernel_rfl) (fun _ _ _ h => h) (by rfl) hH (by intro w hS; go_simp <;> with_reducible rfl) ?_
  try simp only [nrm]
  refine step_on 29 rfl (by kernel_rfl) (fun _ _ _ h => h) (by rfl) hH (by intro w hS; go_simp <;> with_reducible rfl) ?_
  try simp only [nrm]
  refine step_on 30 rfl (by kernel_rfl) (fun _ _ _ h => h) (by rfl) hH (by intro w hS; go_simp <;> with_reducible rfl) ?_
  try simp only [nrm]
  refine step_on 32 rfl (by kernel_rfl) (fun _ _ _ h => h) (by rfl) hH (by intro w hS; go_simp <;> with_reducible rfl) ?_
  try simp only [nrm]
  refine step_on 33 rfl (by kernel_rfl) (fun _ _ _ h => h) (by rfl) hH (by intro w hS; go_simp <;> with_reducible rfl) ?_
  try simp only [nrm]
  refine step_on 34 rfl (by kernel_rfl) (fun _ _ _ h => h) (by rfl) hH (by intro w hS; go_simp <;> with_reducible rfl) ?_
  try simp only [nrm]
  refine step_one 31 rfl (by kernel_rfl) (fun K hK => ?_)
  go_simp
  refine (rmul_any S16.out.n.t.t.t.t.rc.rx S16.out.n.t.t.t.t.t.t.t.t.rx (by omega) (by omega) (by omega)).mono ?_
  rintro e w20 ⟨r7_m, r7_0, r7_n, r7_c, r7_k, r7_1, r7_l, r7_d, rfl, hX, hB⟩
  have S17 := Lib.hid (((S16.out.step hB).rc hX rfl))
  clear S16 hX hB
  go_wp2_with fail
  refine hK.out _ _ ⟨S17.out.b.t.c4, S17.out.b.c4, S17.out.b.t.t.t.c4, S17.out.b.t.t.t.t.c4, S17.out.b.t.t.c4⟩ (fun h2 => ?_)
  clear hK K hH
  have hH := h2
  clear h2
  try simp only [nrm]
  refine step_one 35 rfl (by kernel_rfl) (fun K hK => ?_)
  go_simp
  refine (rmul_any S17.out.n.t.t.t.t.t.t.t.t.rx S17.out.n.t.t.t.t.t.t.t.t.t.rx (by omega) (by omega) (by omega)).mono ?_
  rintro e w21 ⟨r8_m, r8_0, r8_n, r8_c, r8_k, r8_1, r8_l, r8_d, rfl, hX, hB⟩
  have S18 := Lib.hid (((S17.out.step hB).rc hX rfl))
  clear S17 hX hB
  go_wp2_with fail
  refine hK.out _ _ ⟨S18.out.b.t.c4, S18.out.b.c4, S18.out.b.t.t.t.c4, S18.out.b.t.t.t.t.c4, S18.out.b.t.t.c4⟩ (fun h2 => ?_)
  clear hK K hH
  have hH := h2
  clear h2
  try simp only [nrm]
  refine step_one 36 rfl (by kernel_rfl) (fun K hK => ?_)
  go_simp
  refine (rmul_any S18.out.n.t.t.t.t.t.t.t.t.rx S18.out.n.rc.rx (by omega) (by omega) (by omega)).mono ?_
  rintro e w22 ⟨r9_m, r9_0, r9_n, r9_c, r9_k, r9_1, r9_l, r9_d, rfl, hX, hB⟩
  have S19 := Lib.hid (((S18.out.step hB).rc hX rfl))
  clear S18 hX hB
  go_wp2_with fail
  refine hK.out _ _ ⟨S19.out.b.t.c4, S19.out.b.c4, S19.out.b.t.t.t.c4, S19.out.b.t.t.t.t.c4, S19.out.b.t.t.c4⟩ (fun h2 => ?_)
  clear hK K hH
  have hH := h2
  clear h2
  try simp only [nrm]
  refine step_one 37 rfl (by kernel_rfl) (fun K hK => ?_)
  go_simp
  refine (rcmp_any (0) S19.out.n.t.t.rc.rx S19.out.n.rc.rx (by omega) (by omega) (by omega) (qs_eq0 (by grind))).mono ?_
  rintro e w23 ⟨rfl, hB⟩
  have S20 := Lib.hid ((S19.out.step hB))
  clear S19 hB
  go_wp2_with fail
  refine hK.out _ _ ⟨S20.out.b.t.c4, S20.out.b.c4, S20.out.b.t.t.t.c4, S20.out.b.t.t.t.t.c4, S20.out.b.t.t.c4⟩ (fun h2 => ?_)
  clear hK K hH
  have hH := h2
  clear h2
  try simp only [nrm]
  refine step_on 38 rfl (by kernel_rfl) (fun _ _ _ h => h) (by rfl) hH (by intro w hS; go_simp <;> with_reducible rfl) ?_
  try simp only [nrm]
  refine step_on 39 rfl (by kernel_rfl) (fun _ _ _ h => h) (by rfl) hH (by intro w hS; go_simp <;> with_reducible rfl) ?_
  try simp only [nrm]
  refine step_on 40 rfl (by kernel_rfl) (fun _ _ _ h => h) (by rfl) hH (by intro w hS; go_simp <;> with_reducible rfl) ?_
  try simp only [nrm]
  refine step_on 41 rfl (by kernel_rfl) (fun _ _ _ h => h) (by rfl) hH (by intro w hS; go_simp <;> with_reducible rfl) ?_
  try simp only [nrm]
  refine step_on 42 rfl (by kernel_rfl) (fun _ _ _ h => h) (by rfl) hH (by intro w hS; go_simp <;> with_reducible rfl) ?_
  try simp only [nrm]
  refine step_on 43 rfl (by kernel_rfl) (fun _ _ _ h => h) (by rfl) hH (by intro w hS; go_simp <;> with_reducible rfl) ?_
  try simp only [nrm]
  refine step_on 46 rfl (by kernel_rfl) (fun _ _ _ h => h) (by rfl) hH (by intro w hS; go_simp <;> with_reducible rfl) ?_
  try simp only [nrm]
  refine step_on 47 rfl (by kernel_rfl) (fun _ _ _ h => h) (by rfl) hH (by intro w hS; go_simp <;> with_reducible rfl) ?_
  try simp only [nrm]
  refine step_on 48 rfl (by kernel_rfl) (fun _ _ _ h => h) (by rfl) hH (by intro w hS; go_simp <;> with_reducible rfl) ?_
  try simp only [nrm]
  refine step_one 44 rfl (by kernel_rfl) (fun K hK => ?_)
  go_simp
  refine (radd_any S20.out.n.t.t.t.t.t.t.t.t.t.t.rx S20.out.n.t.t.t.t.t.t.t.t.t.t.t.rx (by omega) (by omega) (by omega)).mono ?_
  rintro e w24 ⟨r10_m, r10_0, r10_n, r10_c, r10_k, r10_1, r10_l, r10_d, rfl, hX, hB⟩
  have S21 := Lib.hid (((S20.out.step hB).rc hX rfl))
  clear S20 hX hB
  go_wp2_with fail
  refine hK.out _ _ ⟨S21.out.b.t.c4, S21.out.b.c4, S21.out.b.t.t.t.c4, S21.out.b.t.t.t.t.c4, S21.out.b.t.t.c4⟩ (fun h2 => ?_)
  clear hK K hH
  have hH := h2
  clear h2
  try simp only [nrm]
  refine step_one 45 rfl (by kernel_rfl) (fun K hK => ?_)
  go_simp
  refine (rmul_any S21.out.n.t.t.t.t.t.t.t.t.t.t.rx S21.out.n.rc.rx (by omega) (by omega) (by omega)).mono ?_
  rintro e w25 ⟨r11_m, r11_0, r11_n, r11_c, r11_k, r11_1, r11_l, r11_d, rfl, hX, hB⟩
  have S22 := Lib.hid (((S21.out.step hB).rc hX rfl))
  clear S21 hX hB
  go_wp2_with fail
  refine hK.out _ _ ⟨S22.out.b.t.c4, S22.out.b.c4, S22.out.b.t.t.t.c4, S22.out.b.t.t.t.t.c4, S22.out.b.t.t.c4⟩ (fun h2 => ?_)
  clear hK K hH
  have hH := h2
  clear h2
  try simp only [nrm]
  refine step_one 49 rfl (by kernel_rfl) (fun K hK => ?_)
  go_simp
  refine (rmul_any S22.out.n.t.t.t.t.t.t.t.t.t.t.t.rx S22.out.n.t.t.t.t.t.t.t.t.t.t.t.t.t.rx (by omega) (by omega) (by omega)).mono ?_
  rintro e w26 ⟨r12_m, r12_0, r12_n, r12_c, r12_k, r12_1, r12_l, r12_d, rfl, hX, hB⟩
  have S23 := Lib.hid (((S22.out.step hB).rc hX rfl))
  clear S22 hX hB
  go_wp2_with fail
  refine hK.out _ _ ⟨S23.out.b.t.c4, S23.out.b.c4, S23.out.b.t.t.t.c4, S23.out.b.t.t.t.t.c4, S23.out.b.t.t.c4⟩ (fun h2 => ?_)
  clear hK K hH
  have hH := h2
  clear h2
  try simp only [nrm]
  refine step_one 50 rfl (by kernel_rfl) (fun K hK => ?_)
  go_simp
  refine (radd_any S23.out.n.t.t.t.t.t.t.t.t.t.t.rc.rx S23.out.n.rc.rx (by omega) (by omega) (by omega)).mono ?_
  rintro e w27 ⟨r13_m, r13_0, r13_n, r13_c, r13_k, r13_1, r13_l, r13_d, rfl, hX, hB⟩
  have S24 := Lib.hid (((S23.out.step hB).rc hX rfl))
  clear S23 hX hB
  go_wp2_with fail
  refine hK.out _ _ ⟨S24.out.b.t.c4, S24.out.b.c4, S24.out.b.t.t.t.c4, S24.out.b.t.t.t.t.c4, S24.out.b.t.t.c4⟩ (fun h2 => ?_)
  clear hK K hH
  have hH := h2
  clear h2
  try simp only [nrm]
  refine step_one 51 rfl (by kernel_rfl) (fun K hK => ?_)
  go_simp
  refine (rcmp_any (0) S24.out.n.t.t.rc.rx S24.out.n.rc.rx (by omega) (by omega) (by omega) (qs_eq0 (by grind))).mono ?_
  rintro e w28 ⟨rfl, hB⟩
  have S25 := Lib.hid ((S24.out.step hB))
  clear S24 hB
  go_wp2_with fail
  refine hK.out _ _ ⟨S25.out.b.t.c4, S25.out.b.c4, S25.out.b.t.t.t.c4, S25.out.b.t.t.t.t.c4, S25.out.b.t.t.c4⟩ (fun h2 => ?_)
  clear hK K hH
  have hH := h2
  clear h2
  try simp only [nrm]
  refine step_on 52 rfl (by kernel_rfl) (fun _ _ _ h => h) (by rfl) hH (by intro w hS; go_simp <;> with_reducible rfl) ?_
  try simp only [nrm]
  refine step_on 53 rfl (by kernel_rfl) (fun _ _ _ h => h) (by rfl) hH (by intro w hS; go_simp <;> with_reducible rfl) ?_
  try simp only [nrm]
  refine wpAnyH_done (by kernel_rfl) ?_ _
  clear hH
  obtain ⟨c_b8_0, c_b8_1, c_b8_2, c_b8_3⟩ := S25.out.b.c4
  obtain ⟨c_b4_0, c_b4_1, c_b4_2, c_b4_3⟩ := S25.out.b.t.t.t.c4
  go_wp2_with fail
  clear c_b8_0 c_b8_1 c_b8_2 c_b8_3 c_b4_0 c_b4_1 c_b4_2 c_b4_3
  refine (rdiv_zero S25.out.n.t.t.t.t.t.t.t.t.t.t.t.rc.rx S25.out.n.t.t.t.t.t.t.t.t.t.t.t.t.t.t.rx (by omega) (by omega) (by omega) (HH0.out)).mono ?_
  rintro e w29 ⟨rfl, hB⟩
  have S26 := Lib.hid ((S25.out.step hB))
  clear S25 hB
  go_upto_region 7 with (fail)
  have S27 := Lib.hid (S26.out.var (w29.heap.size) [.bool false, .slice none 0 0, .bool false, .slice none 0 0] 26 (by simp))
  clear S26
  refine wp_world (fun w30 hW => ?_)
  rw [← hW] at S27
  clear hW
  obtain ⟨c_b4_0, c_b4_1, c_b4_2, c_b4_3⟩ := S27.out.b.t.t.t.t.c4
  go_wp2_with fail
  clear c_b4_0 c_b4_1 c_b4_2 c_b4_3
  refine (rsign_any (t) S27.out.n.t.t.t.t.t.t.t.t.t.t.t.t.t.t.rx (by omega) (Ht.out)).mono ?_
  rintro e w31 ⟨rfl, hB⟩
  have S28 := Lib.hid ((S27.out.step hB))
  clear S27 hB
  go_wp2_with fail
  have S29 := Lib.hid (S28.out.drew)
  clear S28
  refine wp_region_held_drew (S := fun w' => (w'.cell? ⟨(w.heap.size), 0, none⟩ = some (.bool m0) ∧ w'.cell? ⟨(w.heap.size), 1, none⟩ = some (.slice a0 n0 c0) ∧ w'.cell? ⟨(w.heap.size), 2, none⟩ = some (.bool k0) ∧ w'.cell? ⟨(w.heap.size), 3, none⟩ = some (.slice b0 l0 d0)) ∧ (w'.cell? ⟨(w.heap.size + 1), 0, none⟩ = some (.bool m1) ∧ w'.cell? ⟨(w.heap.size + 1), 1, none⟩ = some (.slice a1 n1 c1) ∧ w'.cell? ⟨(w.heap.size + 1), 2, none⟩ = some (.bool k1) ∧ w'.cell? ⟨(w.heap.size + 1), 3, none⟩ = some (.slice b1 l1 d1)) ∧ (w'.cell? ⟨(w.heap.size + 2), 0, none⟩ = some (.bool m2) ∧ w'.cell? ⟨(w.heap.size + 2), 1, none⟩ = some (.slice a2 n2 c2) ∧ w'.cell? ⟨(w.heap.size + 2), 2, none⟩ = some (.bool k2) ∧ w'.cell? ⟨(w.heap.size + 2), 3, none⟩ = some (.slice b2 l2 d2))) (by kernel_rfl) (⟨S29.out.b.t.t.t.t.t.c4, S29.out.b.t.t.t.t.c4, S29.out.b.t.t.t.c4⟩) (fun hH => ?_)
  refine anyH_world (fun w32 hW => ?_)
  rw [← hW] at S29 hH
  clear hW
  refine step_on 0 rfl (by kernel_rfl) (fun _ _ _ h => h) (by rfl) hH (by intro w hS; go_simp <;> with_reducible rfl) ?_
  try simp only [nrm]
  refine step_on 1 rfl (by kernel_rfl) (fun _ _ _ h => h) (by rfl) hH (by intro w hS; go_simp <;> with_reducible rfl) ?_
  try simp only [nrm]
  refine step_on 3 rfl (by kernel_rfl) (fun _ _ _ h => h) (by rfl) hH (by intro w hS; go_simp <;> with_reducible rfl) ?_
  try simp only [nrm]
  refine step_on 4 rfl (by kernel_rfl) (fun _ _ _ h => h) (by rfl) hH (by intro w hS; go_simp <;> with_reducible rfl) ?_
  try simp only [nrm]
  refine step_on 6 rfl (by kernel_rfl) (fun _ _ _ h => h) (by rfl) hH (by intro w hS; go_simp <;> with_reducible rfl) ?_
  try simp only [nrm]
  refine step_on 7 rfl (by kernel_rfl) (fun _ _ _ h => h) (by rfl) hH (by intro w hS; go_simp <;> with_reducible rfl) ?_
  try simp only [nrm]
  refine step_one 2 rfl (by kernel_rfl) (fun K hK => ?_)
  go_simp
  refine (rcmp_any (c) S29.out.n.t.t.t.t.t.t.t.t.t.t.t.t.t.rx S29.out.n.t.t.t.t.t.t.t.t.t.t.t.t.t.t.rx (by omega) (by omega) (by omega) (Hc.out)).mono ?_
  rintro e w33 ⟨rfl, hB⟩
  have S30 := Lib.hid ((S29.out.step hB))
  clear S29 hB
  go_wp2_with fail
  refine hK.out _ _ ⟨S30.out.b.t.t.t.t.t.c4, S30.out.b.t.t.t.t.c4, S30.out.b.t.t.t.c4⟩ (fun h2 => ?_)
  clear hK K hH
  have hH := h2
  clear h2
  try simp only [nrm]
  refine step_one 5 rfl (by kernel_rfl) (fun K hK => ?_)
  go_simp
  refine (radd_any S30.out.n.t.t.t.t.t.t.t.t.t.t.t.t.t.rx S30.out.n.t.t.t.t.t.t.t.t.t.t.t.t.t.t.t.rx (by omega) (by omega) (by omega)).mono ?_
  rintro e w34 ⟨r14_m, r14_0, r14_n, r14_c, r14_k, r14_1, r14_l, r14_d, rfl, hX, hB⟩
  have S31 := Lib.hid (((S30.out.step hB).rc hX rfl))
  clear S30 hX hB
  go_wp2_with fail
  refine hK.out _ _ ⟨S31.out.b.t.t.t.t.t.c4, S31.out.b.t.t.t.t.c4, S31.out.b.t.t.t.c4⟩ (fun h2 => ?_)
  clear hK K hH
  have hH := h2
  clear h2
  try simp only [nrm]
  refine step_one 8 rfl (by kernel_rfl) (fun K hK => ?_)
  go_simp
  refine (radd_any S31.out.n.t.t.t.t.t.t.t.t.t.t.t.t.t.t.t.rx S31.out.n.t.t.t.t.t.t.t.t.t.t.t.t.t.t.t.t.rx (by omega) (by omega) (by omega)).mono ?_
  rintro e w35 ⟨r15_m, r15_0, r15_n, r15_c, r15_k, r15_1, r15_l, r15_d, rfl, hX, hB⟩
  have S32 := Lib.hid (((S31.out.step hB).rc hX rfl))
  clear S31 hX hB
  go_wp2_with fail
  refine hK.out _ _ ⟨S32.out.b.t.t.t.t.t.c4, S32.out.b.t.t.t.t.c4, S32.out.b.t.t.t.c4⟩ (fun h2 => ?_)
  clear hK K hH
  have hH := h2
  clear h2
  try simp only [nrm]
  refine step_one 9 rfl (by kernel_rfl) (fun K hK => ?_)
  go_simp
  refine (rcmp_any (c) S32.out.n.t.rc.rx S32.out.n.rc.rx (by omega) (by omega) (by omega) ((qs_plus r0 r1 r2).trans Hc.out)).mono ?_
  rintro e w36 ⟨rfl, hB⟩
  have S33 := Lib.hid ((S32.out.step hB))
  clear S32 hB
  go_wp2_with fail
  refine hK.out _ _ ⟨S33.out.b.t.t.t.t.t.c4, S33.out.b.t.t.t.t.c4, S33.out.b.t.t.t.c4⟩ (fun h2 => ?_)
  clear hK K hH
  have hH := h2
  clear h2
  try simp only [nrm]
  refine step_on 10 rfl (by kernel_rfl) (fun _ _ _ h => h) (by rfl) hH (by intro w hS; go_simp <;> with_reducible rfl) ?_
  try simp only [nrm]
  refine step_on 11 rfl (by kernel_rfl) (fun _ _ _ h => h) (by rfl) hH (by intro w hS; go_simp <;> with_reducible rfl) ?_
  try simp only [nrm]
  refine step_one 12 rfl (by kernel_rfl) (fun K hK => ?_)
  go_simp
  refine (known6_any _ (HT.out.below S33.out.h)).mono ?_
  rintro e w37 ⟨rfl, hB⟩
  have S34 := Lib.hid ((S33.out.step hB))
  clear S33 hB
  go_wp2_with fail
  refine hK.out _ _ ⟨S34.out.b.t.t.t.t.t.c4, S34.out.b.t.t.t.t.c4, S34.out.b.t.t.t.c4⟩ (fun h2 => ?_)
  clear hK K hH
  have hH := h2
  clear h2
  try simp only [nrm]
  refine step_on 13 rfl (by kernel_rfl) (fun _ _ _ h => h) (by rfl) hH (by intro w hS; go_simp <;> with_reducible rfl) ?_
  try simp only [nrm]
  refine step_on 14 rfl (by kernel_rfl) (fun _ _ _ h => h) (by rfl) hH (by intro w hS; go_simp <;> with_reducible rfl) ?_
  try simp only [nrm]
  refine wpAnyH_done (by kernel_rfl) ?_ _
  clear hH
  go_wp2_with fail
  go_ret
  exact ⟨rfl, S34.out.h⟩

set_option maxHeartbeats 1000000 in
set_option maxRecDepth 100000 in
theorem ratioLaws_some {m0 k0 : Bool} {a0 b0 : Option Addr} {n0 c0 l0 d0 : Nat} {m1 k1 : Bool} {a1 b1 : Option Addr} {n1 c1 l1 d1 : Nat} {m2 k2 : Bool} {a2 b2 : Option Addr} {n2 c2 l2 d2 : Nat} {xs0 ys0 xs1 ys1 xs2 ys2 : List Nat} {w : World} (hs0 : Sl w a0 n0 c0 xs0) (ht0 : Sl w b0 l0 d0 ys0) (hs1 : Sl w a1 n1 c1 xs1) (ht1 : Sl w b1 l1 d1 ys1) (hs2 : Sl w a2 n2 c2 xs2) (ht2 : Sl w b2 l2 d2 ys2) (ht : Tab w) (p0 : n0 ≤ 8) (q0 : l0 ≤ 8) (p1 : n1 ≤ 8) (q1 : l1 ≤ 8) (p2 : n2 ≤ 8) (q2 : l2 ≤ 8) (h0 : qv (zOf m1 (val xs1)) (zOf k1 (val ys1)) ≠ 0) :
    Calls Tryz.prog 6 #[.agg #[.bool m0, .slice a0 n0 c0, .bool k0, .slice b0 l0 d0], .agg #[.bool m1, .slice a1 n1 c1, .bool k1, .slice b1 l1 d1], .agg #[.bool m2, .slice a2 n2 c2, .bool k2, .slice b2 l2 d2]] w (RetB (.bool true) w) := by
  obtain ⟨x0, hx0⟩ : ∃ x, zOf m0 (val xs0) = x := ⟨_, rfl⟩
  obtain ⟨e0, he0⟩ : ∃ x, zOf k0 (val ys0) = x := ⟨_, rfl⟩
  obtain ⟨r0, hr0⟩ : ∃ q, qv x0 e0 = q := ⟨_, rfl⟩
  have hR0 := rx_of hs0 ht0 hx0 he0 hr0 p0 q0
  have P0 := Lib.hid (lim_no p0)
  have Q0 := Lib.hid (lim_no q0)
  clear hx0 he0 hr0 p0 q0
  obtain ⟨x1, hx1⟩ : ∃ x, zOf m1 (val xs1) = x := ⟨_, rfl⟩
  obtain ⟨e1, he1⟩ : ∃ x, zOf k1 (val ys1) = x := ⟨_, rfl⟩
  obtain ⟨r1, hr1⟩ : ∃ q, qv x1 e1 = q := ⟨_, rfl⟩
  have hR1 := rx_of hs1 ht1 hx1 he1 hr1 p1 q1
  have P1 := Lib.hid (lim_no p1)
  have Q1 := Lib.hid (lim_no q1)
  rw [hx1, he1, hr1] at h0
  clear hx1 he1 hr1 p1 q1
  obtain ⟨x2, hx2⟩ : ∃ x, zOf m2 (val xs2) = x := ⟨_, rfl⟩
  obtain ⟨e2, he2⟩ : ∃ x, zOf k2 (val ys2) = x := ⟨_, rfl⟩
  obtain ⟨r2, hr2⟩ : ∃ q, qv x2 e2 = q := ⟨_, rfl⟩
  have hR2 := rx_of hs2 ht2 hx2 he2 hr2 p2 q2
  have P2 := Lib.hid (lim_no p2)
  have Q2 := Lib.hid (lim_no q2)
  clear hx2 he2 hr2 p2 q2
  have HT := Lib.hid ht
  clear ht
  obtain ⟨c, hc⟩ : ∃ x, qs (r0 - r1) = x := ⟨_, rfl⟩
  have Hc := Lib.hid hc
  clear hc
  obtain ⟨t, ht⟩ : ∃ x, qs r1 = x := ⟨_, rfl⟩
  have f1 : (t == 0) = false := by rw [← ht]; have := qs_zero r1; simp; exact fun e => h0 (this.1 e)
  have f2 : (t != 0) = true := by unfold bne; rw [f1]; rfl
  have Ht := Lib.hid ht
  clear ht
  have HH0 := Lib.hid h0
  clear h0
  go_enter Tryz.func6, Tryz.ntmps6
  have S0 := Lib.hid (Sx.start (w := w) (N := [.rx m0 a0 n0 c0 k0 b0 l0 d0 x0 e0 r0 8, .rx m1 a1 n1 c1 k1 b1 l1 d1 x1 e1 r1 8, .rx m2 a2 n2 c2 k2 b2 l2 d2 x2 e2 r2 8]) ⟨hR0, hR1, hR2, trivial⟩)
  clear hR0 hR1 hR2
  have S1 := Lib.hid (S0.out.var (w.heap.size) [.bool m0, .slice a0 n0 c0, .bool k0, .slice b0 l0 d0] 26 (by simp))
  clear S0
  have S2 := Lib.hid (S1.out.var (w.heap.size + 1) [.bool m1, .slice a1 n1 c1, .bool k1, .slice b1 l1 d1] 26 (by simp))
  clear S1
  have S3 := Lib.hid (S2.out.var (w.heap.size + 2) [.bool m2, .slice a2 n2 c2, .bool k2, .slice b2 l2 d2] 26 (by simp))
  clear S2
  go_upto_region 1 with (fail)
  refine wp_world (fun w1 hW => ?_)
  rw [← hW] at S3
  clear hW
  obtain ⟨c_b3_0, c_b3_1, c_b3_2, c_b3_3⟩ := S3.out.b.t.t.c4
  obtain ⟨c_b4_0, c_b4_1, c_b4_2, c_b4_3⟩ := S3.out.b.t.c4
  obtain ⟨c_b5_0, c_b5_1, c_b5_2, c_b5_3⟩ := S3.out.b.c4
  go_wp2_with fail
  clear c_b3_0 c_b3_1 c_b3_2 c_b3_3 c_b4_0 c_b4_1 c_b4_2 c_b4_3 c_b5_0 c_b5_1 c_b5_2 c_b5_3
  have S4 := Lib.hid (S3.out.var (w1.heap.size) [.bool m0, .slice a0 n0 c0, .bool k0, .slice b0 l0 d0, .bool m1, .slice a1 n1 c1, .bool k1, .slice b1 l1 d1, .bool m2, .slice a2 n2 c2, .bool k2, .slice b2 l2 d2] 26 (by simp))
  clear S3
  refine (great6_3 false S4.out.b.1 (by rw [P0.out, Q0.out, P1.out, Q1.out, P2.out, Q2.out]; rfl)).mono ?_
  rintro e w2 ⟨rfl, hB⟩
  have S5 := Lib.hid ((S4.out.step hB))
  clear S4 hB
  have S6 := Lib.hid (S5.out.pop)
  clear S5
  go_wp2_with fail
  go_cut [7, 8] from 17 to 23 (fun sl0 sl1 w9 => ∃ (qb7 : Nat) (qb8 : Nat) (r2_m : Bool) (r2_0 : Option Addr) (r2_n : Nat) (r2_c : Nat) (r2_k : Bool) (r2_1 : Option Addr) (r2_l : Nat) (r2_d : Nat) (r1_m : Bool) (r1_0 : Option Addr) (r1_n : Nat) (r1_c : Nat) (r1_k : Bool) (r1_1 : Option Addr) (r1_l : Nat) (r1_d : Nat), sl0 = .pointer (some ⟨qb7, 0, none⟩) ∧ sl1 = .pointer (some ⟨qb8, 0, none⟩) ∧ Hid (Sx w w9 [⟨qb8, [.bool r2_m, .slice r2_0 r2_n r2_c, .bool r2_k, .slice r2_1 r2_l r2_d]⟩, ⟨qb7, [.bool r1_m, .slice r1_0 r1_n r1_c, .bool r1_k, .slice r1_1 r1_l r1_d]⟩, ⟨(w.heap.size + 2), [.bool m2, .slice a2 n2 c2, .bool k2, .slice b2 l2 d2]⟩, ⟨(w.heap.size + 1), [.bool m1, .slice a1 n1 c1, .bool k1, .slice b1 l1 d1]⟩, ⟨(w.heap.size), [.bool m0, .slice a0 n0 c0, .bool k0, .slice b0 l0 d0]⟩] [.rc r2_m r2_0 r2_n r2_c r2_k r2_1 r2_l r2_d (r0 * r1) 16, .rc r1_m r1_0 r1_n r1_c r1_k r1_1 r1_l r1_d (r0 + r1) 17, .rx m0 a0 n0 c0 k0 b0 l0 d0 x0 e0 r0 8, .rx m1 a1 n1 c1 k1 b1 l1 d1 x1 e1 r1 8, .rx m2 a2 n2 c2 k2 b2 l2 d2 x2 e2 r2 8]))
  case first =>
    have S7 := Lib.hid (S6.out.drew)
    clear S6
    refine wp_region_held_drew (S := fun w' => (w'.cell? ⟨(w.heap.size), 0, none⟩ = some (.bool m0) ∧ w'.cell? ⟨(w.heap.size), 1, none⟩ = some (.slice a0 n0 c0) ∧ w'.cell? ⟨(w.heap.size), 2, none⟩ = some (.bool k0) ∧ w'.cell? ⟨(w.heap.size), 3, none⟩ = some (.slice b0 l0 d0)) ∧ (w'.cell? ⟨(w.heap.size + 1), 0, none⟩ = some (.bool m1) ∧ w'.cell? ⟨(w.heap.size + 1), 1, none⟩ = some (.slice a1 n1 c1) ∧ w'.cell? ⟨(w.heap.size + 1), 2, none⟩ = some (.bool k1) ∧ w'.cell? ⟨(w.heap.size + 1), 3, none⟩ = some (.slice b1 l1 d1))) (by kernel_rfl) (⟨S7.out.b.t.t.c4, S7.out.b.t.c4⟩) (fun hH => ?_)
    refine anyH_world (fun w3 hW => ?_)
    rw [← hW] at S7 hH
    clear hW
    refine step_on 0 rfl (by kernel_rfl) (fun _ _ _ h => h) (by rfl) hH (by intro w hS; go_simp <;> with_reducible rfl) ?_
    try simp only [nrm]
    refine step_on 1 rfl (by kernel_rfl) (fun _ _ _ h => h) (by rfl) hH (by intro w hS; go_simp <;> with_reducible rfl) ?_
    try simp only [nrm]
    refine step_on 3 rfl (by kernel_rfl) (fun _ _ _ h => h) (by rfl) hH (by intro w hS; go_simp <;> with_reducible rfl) ?_
    try simp only [nrm]
    refine step_on 4 rfl (by kernel_rfl) (fun _ _ _ h => h) (by rfl) hH (by intro w hS; go_simp <;> with_reducible rfl) ?_
    try simp only [nrm]
    refine wpAnyH_ready (rs := [2, 6, 7]) (by kernel_rfl) (by simp) (ready_cons rfl (fun K hK => ?_) (ready_cons rfl (fun K hK => ?_) (ready_cons rfl (fun K hK => ?_) (AllReadyH.nil))))
    · go_simp
      refine (radd_any S7.out.n.rx S7.out.n.t.rx (by omega) (by omega) (by omega)).mono ?_
      rintro e w4 ⟨r1_m, r1_0, r1_n, r1_c, r1_k, r1_1, r1_l, r1_d, rfl, hX, hB⟩
      have S8 := Lib.hid (((S7.out.step hB).rc hX rfl))
      clear S7 hX hB
      go_wp2_with fail
      refine hK.out _ _ ⟨S8.out.b.t.t.c4, S8.out.b.t.c4⟩ (fun h2 => ?_)
      clear hK K hH
      have hH := h2
      clear h2
      try simp only [nrm]
      refine wpAnyH_ready (rs := [5, 6, 7]) (by kernel_rfl) (by simp) (ready_cons rfl (fun K hK => ?_) (ready_cons rfl (fun K hK => ?_) (ready_cons rfl (fun K hK => ?_) (AllReadyH.nil))))
      · go_simp
        refine (rmul_any S8.out.n.t.rx S8.out.n.t.t.rx (by omega) (by omega) (by omega)).mono ?_
        rintro e w5 ⟨r2_m, r2_0, r2_n, r2_c, r2_k, r2_1, r2_l, r2_d, rfl, hX, hB⟩
        have S9 := Lib.hid (((S8.out.step hB).rc hX rfl))
        clear S8 hX hB
        go_wp2_with fail
        refine hK.out _ _ ⟨S9.out.b.t.t.c4, S9.out.b.t.c4⟩ (fun h2 => ?_)
        clear hK K hH
        have hH := h2
        clear h2
        try simp only [nrm]
        refine wpAnyH_ready (rs := [6, 7]) (by kernel_rfl) (by simp) (ready_cons rfl (fun K hK => ?_) (ready_cons rfl (fun K hK => ?_) (AllReadyH.nil)))
        · go_simp
          have S10 := Lib.hid (S9.out.var (w5.heap.size) [.bool false, .slice none 0 0, .bool false, .slice none 0 0] 26 (by simp))
          clear S9
          refine hK.out _ _ ⟨S10.out.b.t.t.t.c4, S10.out.b.t.t.c4⟩ (fun h2 => ?_)
          clear hK K hH
          have hH := h2
          clear h2
          try simp only [nrm]
          refine anyH_world (fun w6 hW => ?_)
          rw [← hW] at S10 hH
          clear hW
          refine step_one 7 rfl (by kernel_rfl) (fun K hK => ?_)
          go_simp
          have S11 := Lib.hid (S10.out.var (w6.heap.size) [.bool false, .slice none 0 0, .bool false, .slice none 0 0] 26 (by simp))
          clear S10
          refine hK.out _ _ ⟨S11.out.b.t.t.t.t.c4, S11.out.b.t.t.t.c4⟩ (fun h2 => ?_)
          clear hK K hH
          have hH := h2
          clear h2
          try simp only [nrm]
          refine anyH_world (fun w7 hW => ?_)
          rw [← hW] at S11 hH
          clear hW
          refine step_one 8 rfl (by kernel_rfl) (fun K hK => ?_)
          obtain ⟨c_b7_0, c_b7_1, c_b7_2, c_b7_3⟩ := S11.out.b.t.c4
          obtain ⟨f_b7_0, f_b7_1, f_b7_2, f_b7_3⟩ := S11.out.b.t.f4
          go_simp
          clear c_b7_0 c_b7_1 c_b7_2 c_b7_3 f_b7_0 f_b7_1 f_b7_2 f_b7_3
          have S12 : Hid (Sx w _ [⟨(w6.heap.size), [.bool false, .slice none 0 0, .bool false, .slice none 0 0]⟩, ⟨(w5.heap.size), [.bool r1_m, .slice r1_0 r1_n r1_c, .bool r1_k, .slice r1_1 r1_l r1_d]⟩, ⟨(w.heap.size + 2), [.bool m2, .slice a2 n2 c2, .bool k2, .slice b2 l2 d2]⟩, ⟨(w.heap.size + 1), [.bool m1, .slice a1 n1 c1, .bool k1, .slice b1 l1 d1]⟩, ⟨(w.heap.size), [.bool m0, .slice a0 n0 c0, .bool k0, .slice b0 l0 d0]⟩] _) := Lib.hid (Sx.set [⟨(w6.heap.size), [.bool false, .slice none 0 0, .bool false, .slice none 0 0]⟩] [⟨(w.heap.size + 2), [.bool m2, .slice a2 n2 c2, .bool k2, .slice b2 l2 d2]⟩, ⟨(w.heap.size + 1), [.bool m1, .slice a1 n1 c1, .bool k1, .slice b1 l1 d1]⟩, ⟨(w.heap.size), [.bool m0, .slice a0 n0 c0, .bool k0, .slice b0 l0 d0]⟩] (Sx.set [⟨(w6.heap.size), [.bool false, .slice none 0 0, .bool false, .slice none 0 0]⟩] [⟨(w.heap.size + 2), [.bool m2, .slice a2 n2 c2, .bool k2, .slice b2 l2 d2]⟩, ⟨(w.heap.size + 1), [.bool m1, .slice a1 n1 c1, .bool k1, .slice b1 l1 d1]⟩, ⟨(w.heap.size), [.bool m0, .slice a0 n0 c0, .bool k0, .slice b0 l0 d0]⟩] (Sx.set [⟨(w6.heap.size), [.bool false, .slice none 0 0, .bool false, .slice none 0 0]⟩] [⟨(w.heap.size + 2), [.bool m2, .slice a2 n2 c2, .bool k2, .slice b2 l2 d2]⟩, ⟨(w.heap.size + 1), [.bool m1, .slice a1 n1 c1, .bool k1, .slice b1 l1 d1]⟩, ⟨(w.heap.size), [.bool m0, .slice a0 n0 c0, .bool k0, .slice b0 l0 d0]⟩] (Sx.set [⟨(w6.heap.size), [.bool false, .slice none 0 0, .bool false, .slice none 0 0]⟩] [⟨(w.heap.size + 2), [.bool m2, .slice a2 n2 c2, .bool k2, .slice b2 l2 d2]⟩, ⟨(w.heap.size + 1), [.bool m1, .slice a1 n1 c1, .bool k1, .slice b1 l1 d1]⟩, ⟨(w.heap.size), [.bool m0, .slice a0 n0 c0, .bool k0, .slice b0 l0 d0]⟩] S11.out 0 (.bool r1_m)) 1 (.slice r1_0 r1_n r1_c)) 2 (.bool r1_k)) 3 (.slice r1_1 r1_l r1_d))
          clear S11
          refine hK.out _ _ ⟨S12.out.b.t.t.t.t.c4, S12.out.b.t.t.t.c4⟩ (fun h2 => ?_)
          clear hK K hH
          have hH := h2
          clear h2
          try simp only [nrm]
          refine anyH_world (fun w8 hW => ?_)
          rw [← hW] at S12 hH
          clear hW
          refine step_one 9 rfl (by kernel_rfl) (fun K hK => ?_)
          obtain ⟨c_b8_0, c_b8_1, c_b8_2, c_b8_3⟩ := S12.out.b.c4
          obtain ⟨f_b8_0, f_b8_1, f_b8_2, f_b8_3⟩ := S12.out.b.f4
          go_simp
          clear c_b8_0 c_b8_1 c_b8_2 c_b8_3 f_b8_0 f_b8_1 f_b8_2 f_b8_3
          have S13 : Hid (Sx w _ [⟨(w6.heap.size), [.bool r2_m, .slice r2_0 r2_n r2_c, .bool r2_k, .slice r2_1 r2_l r2_d]⟩, ⟨(w5.heap.size), [.bool r1_m, .slice r1_0 r1_n r1_c, .bool r1_k, .slice r1_1 r1_l r1_d]⟩, ⟨(w.heap.size + 2), [.bool m2, .slice a2 n2 c2, .bool k2, .slice b2 l2 d2]⟩, ⟨(w.heap.size + 1), [.bool m1, .slice a1 n1 c1, .bool k1, .slice b1 l1 d1]⟩, ⟨(w.heap.size), [.bool m0, .slice a0 n0 c0, .bool k0, .slice b0 l0 d0]⟩] _) := Lib.hid (Sx.set [] [⟨(w5.heap.size), [.bool r1_m, .slice r1_0 r1_n r1_c, .bool r1_k, .slice r1_1 r1_l r1_d]⟩, ⟨(w.heap.size + 2), [.bool m2, .slice a2 n2 c2, .bool k2, .slice b2 l2 d2]⟩, ⟨(w.heap.size + 1), [.bool m1, .slice a1 n1 c1, .bool k1, .slice b1 l1 d1]⟩, ⟨(w.heap.size), [.bool m0, .slice a0 n0 c0, .bool k0, .slice b0 l0 d0]⟩] (Sx.set [] [⟨(w5.heap.size), [.bool r1_m, .slice r1_0 r1_n r1_c, .bool r1_k, .slice r1_1 r1_l r1_d]⟩, ⟨(w.heap.size + 2), [.bool m2, .slice a2 n2 c2, .bool k2, .slice b2 l2 d2]⟩, ⟨(w.heap.size + 1), [.bool m1, .slice a1 n1 c1, .bool k1, .slice b1 l1 d1]⟩, ⟨(w.heap.size), [.bool m0, .slice a0 n0 c0, .bool k0, .slice b0 l0 d0]⟩] (Sx.set [] [⟨(w5.heap.size), [.bool r1_m, .slice r1_0 r1_n r1_c, .bool r1_k, .slice r1_1 r1_l r1_d]⟩, ⟨(w.heap.size + 2), [.bool m2, .slice a2 n2 c2, .bool k2, .slice b2 l2 d2]⟩, ⟨(w.heap.size + 1), [.bool m1, .slice a1 n1 c1, .bool k1, .slice b1 l1 d1]⟩, ⟨(w.heap.size), [.bool m0, .slice a0 n0 c0, .bool k0, .slice b0 l0 d0]⟩] (Sx.set [] [⟨(w5.heap.size), [.bool r1_m, .slice r1_0 r1_n r1_c, .bool r1_k, .slice r1_1 r1_l r1_d]⟩, ⟨(w.heap.size + 2), [.bool m2, .slice a2 n2 c2, .bool k2, .slice b2 l2 d2]⟩, ⟨(w.heap.size + 1), [.bool m1, .slice a1 n1 c1, .bool k1, .slice b1 l1 d1]⟩, ⟨(w.heap.size), [.bool m0, .slice a0 n0 c0, .bool k0, .slice b0 l0 d0]⟩] S12.out 0 (.bool r2_m)) 1 (.slice r2_0 r2_n r2_c)) 2 (.bool r2_k)) 3 (.slice r2_1 r2_l r2_d))
          clear S12
          refine hK.out _ _ ⟨S13.out.b.t.t.t.t.c4, S13.out.b.t.t.t.c4⟩ (fun h2 => ?_)
          clear hK K hH
          have hH := h2
          clear h2
          try simp only [nrm]
          refine anyH_world (fun w9 hW => ?_)
          rw [← hW] at S13 hH
          clear hW
          refine wpAnyH_done (by kernel_rfl) ?_ _
          clear hH
          go_wp2_with fail
          go_meet
          case rel => exact ⟨_, _, _, _, _, _, _, _, _, _, _, _, _, _, _, _, _, _, rfl, rfl, S13.out⟩
        · go_simp
          have S10 := Lib.hid (S9.out.var (w5.heap.size) [.bool false, .slice none 0 0, .bool false, .slice none 0 0] 26 (by simp))
          clear S9
          refine hK.out _ _ ⟨S10.out.b.t.t.t.c4, S10.out.b.t.t.c4⟩ (fun h2 => ?_)
          clear hK K hH
          have hH := h2
          clear h2
          try simp only [nrm]
          refine anyH_world (fun w6 hW => ?_)
          rw [← hW] at S10 hH
          clear hW
          refine step_one 6 rfl (by kernel_rfl) (fun K hK => ?_)
          go_simp
          have S11 := Lib.hid (S10.out.var (w6.heap.size) [.bool false, .slice none 0 0, .bool false, .slice none 0 0] 26 (by simp))
          clear S10
          refine hK.out _ _ ⟨S11.out.b.t.t.t.t.c4, S11.out.b.t.t.t.c4⟩ (fun h2 => ?_)
          clear hK K hH
          have hH := h2
          clear h2
          try simp only [nrm]
          refine anyH_world (fun w7 hW => ?_)
          rw [← hW] at S11 hH
          clear hW
          refine step_one 8 rfl (by kernel_rfl) (fun K hK => ?_)
          obtain ⟨c_b7_0, c_b7_1, c_b7_2, c_b7_3⟩ := S11.out.b.c4
          obtain ⟨f_b7_0, f_b7_1, f_b7_2, f_b7_3⟩ := S11.out.b.f4
          go_simp
          clear c_b7_0 c_b7_1 c_b7_2 c_b7_3 f_b7_0 f_b7_1 f_b7_2 f_b7_3
          have S12 : Hid (Sx w _ [⟨(w6.heap.size), [.bool r1_m, .slice r1_0 r1_n r1_c, .bool r1_k, .slice r1_1 r1_l r1_d]⟩, ⟨(w5.heap.size), [.bool false, .slice none 0 0, .bool false, .slice none 0 0]⟩, ⟨(w.heap.size + 2), [.bool m2, .slice a2 n2 c2, .bool k2, .slice b2 l2 d2]⟩, ⟨(w.heap.size + 1), [.bool m1, .slice a1 n1 c1, .bool k1, .slice b1 l1 d1]⟩, ⟨(w.heap.size), [.bool m0, .slice a0 n0 c0, .bool k0, .slice b0 l0 d0]⟩] _) := Lib.hid (Sx.set [] [⟨(w5.heap.size), [.bool false, .slice none 0 0, .bool false, .slice none 0 0]⟩, ⟨(w.heap.size + 2), [.bool m2, .slice a2 n2 c2, .bool k2, .slice b2 l2 d2]⟩, ⟨(w.heap.size + 1), [.bool m1, .slice a1 n1 c1, .bool k1, .slice b1 l1 d1]⟩, ⟨(w.heap.size), [.bool m0, .slice a0 n0 c0, .bool k0, .slice b0 l0 d0]⟩] (Sx.set [] [⟨(w5.heap.size), [.bool false, .slice none 0 0, .bool false, .slice none 0 0]⟩, ⟨(w.heap.size + 2), [.bool m2, .slice a2 n2 c2, .bool k2, .slice b2 l2 d2]⟩, ⟨(w.heap.size + 1), [.bool m1, .slice a1 n1 c1, .bool k1, .slice b1 l1 d1]⟩, ⟨(w.heap.size), [.bool m0, .slice a0 n0 c0, .bool k0, .slice b0 l0 d0]⟩] (Sx.set [] [⟨(w5.heap.size), [.bool false, .slice none 0 0, .bool false, .slice none 0 0]⟩, ⟨(w.heap.size + 2), [.bool m2, .slice a2 n2 c2, .bool k2, .slice b2 l2 d2]⟩, ⟨(w.heap.size + 1), [.bool m1, .slice a1 n1 c1, .bool k1, .slice b1 l1 d1]⟩, ⟨(w.heap.size), [.bool m0, .slice a0 n0 c0, .bool k0, .slice b0 l0 d0]⟩] (Sx.set [] [⟨(w5.heap.size), [.bool false, .slice none 0 0, .bool false, .slice none 0 0]⟩, ⟨(w.heap.size + 2), [.bool m2, .slice a2 n2 c2, .bool k2, .slice b2 l2 d2]⟩, ⟨(w.heap.size + 1), [.bool m1, .slice a1 n1 c1, .bool k1, .slice b1 l1 d1]⟩, ⟨(w.heap.size), [.bool m0, .slice a0 n0 c0, .bool k0, .slice b0 l0 d0]⟩] S11.out 0 (.bool r1_m)) 1 (.slice r1_0 r1_n r1_c)) 2 (.bool r1_k)) 3 (.slice r1_1 r1_l r1_d))
          clear S11
          refine hK.out _ _ ⟨S12.out.b.t.t.t.t.c4, S12.out.b.t.t.t.c4⟩ (fun h2 => ?_)
          clear hK K hH
          have hH := h2
          clear h2
          try simp only [nrm]
          refine anyH_world (fun w8 hW => ?_)
          rw [← hW] at S12 hH
          clear hW
          refine step_one 9 rfl (by kernel_rfl) (fun K hK => ?_)
          obtain ⟨c_b8_0, c_b8_1, c_b8_2, c_b8_3⟩ := S12.out.b.t.c4
          obtain ⟨f_b8_0, f_b8_1, f_b8_2, f_b8_3⟩ := S12.out.b.t.f4
          go_simp
          clear c_b8_0 c_b8_1 c_b8_2 c_b8_3 f_b8_0 f_b8_1 f_b8_2 f_b8_3
          have S13 : Hid (Sx w _ [⟨(w6.heap.size), [.bool r1_m, .slice r1_0 r1_n r1_c, .bool r1_k, .slice r1_1 r1_l r1_d]⟩, ⟨(w5.heap.size), [.bool r2_m, .slice r2_0 r2_n r2_c, .bool r2_k, .slice r2_1 r2_l r2_d]⟩, ⟨(w.heap.size + 2), [.bool m2, .slice a2 n2 c2, .bool k2, .slice b2 l2 d2]⟩, ⟨(w.heap.size + 1), [.bool m1, .slice a1 n1 c1, .bool k1, .slice b1 l1 d1]⟩, ⟨(w.heap.size), [.bool m0, .slice a0 n0 c0, .bool k0, .slice b0 l0 d0]⟩] _) := Lib.hid (Sx.set [⟨(w6.heap.size), [.bool r1_m, .slice r1_0 r1_n r1_c, .bool r1_k, .slice r1_1 r1_l r1_d]⟩] [⟨(w.heap.size + 2), [.bool m2, .slice a2 n2 c2, .bool k2, .slice b2 l2 d2]⟩, ⟨(w.heap.size + 1), [.bool m1, .slice a1 n1 c1, .bool k1, .slice b1 l1 d1]⟩, ⟨(w.heap.size), [.bool m0, .slice a0 n0 c0, .bool k0, .slice b0 l0 d0]⟩] (Sx.set [⟨(w6.heap.size), [.bool r1_m, .slice r1_0 r1_n r1_c, .bool r1_k, .slice r1_1 r1_l r1_d]⟩] [⟨(w.heap.size + 2), [.bool m2, .slice a2 n2 c2, .bool k2, .slice b2 l2 d2]⟩, ⟨(w.heap.size + 1), [.bool m1, .slice a1 n1 c1, .bool k1, .slice b1 l1 d1]⟩, ⟨(w.heap.size), [.bool m0, .slice a0 n0 c0, .bool k0, .slice b0 l0 d0]⟩] (Sx.set [⟨(w6.heap.size), [.bool r1_m, .slice r1_0 r1_n r1_c, .bool r1_k, .slice r1_1 r1_l r1_d]⟩] [⟨(w.heap.size + 2), [.bool m2, .slice a2 n2 c2, .bool k2, .slice b2 l2 d2]⟩, ⟨(w.heap.size + 1), [.bool m1, .slice a1 n1 c1, .bool k1, .slice b1 l1 d1]⟩, ⟨(w.heap.size), [.bool m0, .slice a0 n0 c0, .bool k0, .slice b0 l0 d0]⟩] (Sx.set [⟨(w6.heap.size), [.bool r1_m, .slice r1_0 r1_n r1_c, .bool r1_k, .slice r1_1 r1_l r1_d]⟩] [⟨(w.heap.size + 2), [.bool m2, .slice a2 n2 c2, .bool k2, .slice b2 l2 d2]⟩, ⟨(w.heap.size + 1), [.bool m1, .slice a1 n1 c1, .bool k1, .slice b1 l1 d1]⟩, ⟨(w.heap.size), [.bool m0, .slice a0 n0 c0, .bool k0, .slice b0 l0 d0]⟩] S12.out 0 (.bool r2_m)) 1 (.slice r2_0 r2_n r2_c)) 2 (.bool r2_k)) 3 (.slice r2_1 r2_l r2_d))
          clear S12
          refine hK.out _ _ ⟨S13.out.b.t.t.t.t.c4, S13.out.b.t.t.t.c4⟩ (fun h2 => ?_)
          clear hK K hH
          have hH := h2
          clear h2
          try simp only [nrm]
          refine anyH_world (fun w9 hW => ?_)
          rw [← hW] at S13 hH
          clear hW
          refine wpAnyH_done (by kernel_rfl) ?_ _
          clear hH
          go_wp2_with fail
          go_meet
          case rel => exact ⟨_, _, _, _, _, _, _, _, _, _, _, _, _, _, _, _, _, _, rfl, rfl, S13.out.swap⟩
      · go_simp
        have S9 := Lib.hid (S8.out.var (w4.heap.size) [.bool false, .slice none 0 0, .bool false, .slice none 0 0] 26 (by simp))
        clear S8
        refine hK.out _ _ ⟨S9.out.b.t.t.t.c4, S9.out.b.t.t.c4⟩ (fun h2 => ?_)
        clear hK K hH
        have hH := h2
        clear h2
        try simp only [nrm]
        refine anyH_world (fun w5 hW => ?_)
        rw [← hW] at S9 hH
        clear hW
        refine wpAnyH_ready (rs := [5, 7]) (by kernel_rfl) (by simp) (ready_cons rfl (fun K hK => ?_) (ready_cons rfl (fun K hK => ?_) (AllReadyH.nil)))
        · go_simp
          refine (rmul_any S9.out.n.t.rx S9.out.n.t.t.rx (by omega) (by omega) (by omega)).mono ?_
          rintro e w6 ⟨r2_m, r2_0, r2_n, r2_c, r2_k, r2_1, r2_l, r2_d, rfl, hX, hB⟩
          have S10 := Lib.hid (((S9.out.step hB).rc hX rfl))
          clear S9 hX hB
          go_wp2_with fail
          refine hK.out _ _ ⟨S10.out.b.t.t.t.c4, S10.out.b.t.t.c4⟩ (fun h2 => ?_)
          clear hK K hH
          have hH := h2
          clear h2
          try simp only [nrm]
          refine step_one 7 rfl (by kernel_rfl) (fun K hK => ?_)
          go_simp
          have S11 := Lib.hid (S10.out.var (w6.heap.size) [.bool false, .slice none 0 0, .bool false, .slice none 0 0] 26 (by simp))
          clear S10
          refine hK.out _ _ ⟨S11.out.b.t.t.t.t.c4, S11.out.b.t.t.t.c4⟩ (fun h2 => ?_)
          clear hK K hH
          have hH := h2
          clear h2
          try simp only [nrm]
          refine anyH_world (fun w7 hW => ?_)
          rw [← hW] at S11 hH
          clear hW
          refine step_one 8 rfl (by kernel_rfl) (fun K hK => ?_)
          obtain ⟨c_b7_0, c_b7_1, c_b7_2, c_b7_3⟩ := S11.out.b.t.c4
          obtain ⟨f_b7_0, f_b7_1, f_b7_2, f_b7_3⟩ := S11.out.b.t.f4
          go_simp
          clear c_b7_0 c_b7_1 c_b7_2 c_b7_3 f_b7_0 f_b7_1 f_b7_2 f_b7_3
          have S12 : Hid (Sx w _ [⟨(w6.heap.size), [.bool false, .slice none 0 0, .bool false, .slice none 0 0]⟩, ⟨(w4.heap.size), [.bool r1_m, .slice r1_0 r1_n r1_c, .bool r1_k, .slice r1_1 r1_l r1_d]⟩, ⟨(w.heap.size + 2), [.bool m2, .slice a2 n2 c2, .bool k2, .slice b2 l2 d2]⟩, ⟨(w.heap.size + 1), [.bool m1, .slice a1 n1 c1, .bool k1, .slice b1 l1 d1]⟩, ⟨(w.heap.size), [.bool m0, .slice a0 n0 c0, .bool k0, .slice b0 l0 d0]⟩] _) := Lib.hid (Sx.set [⟨(w6.heap.size), [.bool false, .slice none 0 0, .bool false, .slice none 0 0]⟩] [⟨(w.heap.size + 2), [.bool m2, .slice a2 n2 c2, .bool k2, .slice b2 l2 d2]⟩, ⟨(w.heap.size + 1), [.bool m1, .slice a1 n1 c1, .bool k1, .slice b1 l1 d1]⟩, ⟨(w.heap.size), [.bool m0, .slice a0 n0 c0, .bool k0, .slice b0 l0 d0]⟩] (Sx.set [⟨(w6.heap.size), [.bool false, .slice none 0 0, .bool false, .slice none 0 0]⟩] [⟨(w.heap.size + 2), [.bool m2, .slice a2 n2 c2, .bool k2, .slice b2 l2 d2]⟩, ⟨(w.heap.size + 1), [.bool m1, .slice a1 n1 c1, .bool k1, .slice b1 l1 d1]⟩, ⟨(w.heap.size), [.bool m0, .slice a0 n0 c0, .bool k0, .slice b0 l0 d0]⟩] (Sx.set [⟨(w6.heap.size), [.bool false, .slice none 0 0, .bool false, .slice none 0 0]⟩] [⟨(w.heap.size + 2), [.bool m2, .slice a2 n2 c2, .bool k2, .slice b2 l2 d2]⟩, ⟨(w.heap.size + 1), [.bool m1, .slice a1 n1 c1, .bool k1, .slice b1 l1 d1]⟩, ⟨(w.heap.size), [.bool m0, .slice a0 n0 c0, .bool k0, .slice b0 l0 d0]⟩] (Sx.set [⟨(w6.heap.size), [.bool false, .slice none 0 0, .bool false, .slice none 0 0]⟩] [⟨(w.heap.size + 2), [.bool m2, .slice a2 n2 c2, .bool k2, .slice b2 l2 d2]⟩, ⟨(w.heap.size + 1), [.bool m1, .slice a1 n1 c1, .bool k1, .slice b1 l1 d1]⟩, ⟨(w.heap.size), [.bool m0, .slice a0 n0 c0, .bool k0, .slice b0 l0 d0]⟩] S11.out 0 (.bool r1_m)) 1 (.slice r1_0 r1_n r1_c)) 2 (.bool r1_k)) 3 (.slice r1_1 r1_l r1_d))
          clear S11
          refine hK.out _ _ ⟨S12.out.b.t.t.t.t.c4, S12.out.b.t.t.t.c4⟩ (fun h2 => ?_)
          clear hK K hH
          have hH := h2
          clear h2
          try simp only [nrm]
          refine anyH_world (fun w8 hW => ?_)
          rw [← hW] at S12 hH
          clear hW
          refine step_one 9 rfl (by kernel_rfl) (fun K hK => ?_)
          obtain ⟨c_b8_0, c_b8_1, c_b8_2, c_b8_3⟩ := S12.out.b.c4
          obtain ⟨f_b8_0, f_b8_1, f_b8_2, f_b8_3⟩ := S12.out.b.f4
          go_simp
          clear c_b8_0 c_b8_1 c_b8_2 c_b8_3 f_b8_0 f_b8_1 f_b8_2 f_b8_3
          have S13 : Hid (Sx w _ [⟨(w6.heap.size), [.bool r2_m, .slice r2_0 r2_n r2_c, .bool r2_k, .slice r2_1 r2_l r2_d]⟩, ⟨(w4.heap.size), [.bool r1_m, .slice r1_0 r1_n r1_c, .bool r1_k, .slice r1_1 r1_l r1_d]⟩, ⟨(w.heap.size + 2), [.bool m2, .slice a2 n2 c2, .bool k2, .slice b2 l2 d2]⟩, ⟨(w.heap.size + 1), [.bool m1, .slice a1 n1 c1, .bool k1, .slice b1 l1 d1]⟩, ⟨(w.heap.size), [.bool m0, .slice a0 n0 c0, .bool k0, .slice b0 l0 d0]⟩] _) := Lib.hid (Sx.set [] [⟨(w4.heap.size), [.bool r1_m, .slice r1_0 r1_n r1_c, .bool r1_k, .slice r1_1 r1_l r1_d]⟩, ⟨(w.heap.size + 2), [.bool m2, .slice a2 n2 c2, .bool k2, .slice b2 l2 d2]⟩, ⟨(w.heap.size + 1), [.bool m1, .slice a1 n1 c1, .bool k1, .slice b1 l1 d1]⟩, ⟨(w.heap.size), [.bool m0, .slice a0 n0 c0, .bool k0, .slice b0 l0 d0]⟩] (Sx.set [] [⟨(w4.heap.size), [.bool r1_m, .slice r1_0 r1_n r1_c, .bool r1_k, .slice r1_1 r1_l r1_d]⟩, ⟨(w.heap.size + 2), [.bool m2, .slice a2 n2 c2, .bool k2, .slice b2 l2 d2]⟩, ⟨(w.heap.size + 1), [.bool m1, .slice a1 n1 c1, .bool k1, .slice b1 l1 d1]⟩, ⟨(w.heap.size), [.bool m0, .slice a0 n0 c0, .bool k0, .slice b0 l0 d0]⟩] (Sx.set [] [⟨(w4.heap.size), [.bool r1_m, .slice r1_0 r1_n r1_c, .bool r1_k, .slice r1_1 r1_l r1_d]⟩, ⟨(w.heap.size + 2), [.bool m2, .slice a2 n2 c2, .bool k2, .slice b2 l2 d2]⟩, ⟨(w.heap.size + 1), [.bool m1, .slice a1 n1 c1, .bool k1, .slice b1 l1 d1]⟩, ⟨(w.heap.size), [.bool m0, .slice a0 n0 c0, .bool k0, .slice b0 l0 d0]⟩] (Sx.set [] [⟨(w4.heap.size), [.bool r1_m, .slice r1_0 r1_n r1_c, .bool r1_k, .slice r1_1 r1_l r1_d]⟩, ⟨(w.heap.size + 2), [.bool m2, .slice a2 n2 c2, .bool k2, .slice b2 l2 d2]⟩, ⟨(w.heap.size + 1), [.bool m1, .slice a1 n1 c1, .bool k1, .slice b1 l1 d1]⟩, ⟨(w.heap.size), [.bool m0, .slice a0 n0 c0, .bool k0, .slice b0 l0 d0]⟩] S12.out 0 (.bool r2_m)) 1 (.slice r2_0 r2_n r2_c)) 2 (.bool r2_k)) 3 (.slice r2_1 r2_l r2_d))
          clear S12
          refine hK.out _ _ ⟨S13.out.b.t.t.t.t.c4, S13.out.b.t.t.t.c4⟩ (fun h2 => ?_)
          clear hK K hH
          have hH := h2
          clear h2
          try simp only [nrm]
          refine anyH_world (fun w9 hW => ?_)
          rw [← hW] at S13 hH
          clear hW
          refine wpAnyH_done (by kernel_rfl) ?_ _
          clear hH
          go_wp2_with fail
          go_meet
          case rel => exact ⟨_, _, _, _, _, _, _, _, _, _, _, _, _, _, _, _, _, _, rfl, rfl, S13.out⟩
        · go_simp
          have S10 := Lib.hid (S9.out.var (w5.heap.size) [.bool false, .slice none 0 0, .bool false, .slice none 0 0] 26 (by simp))
          clear S9
          refine hK.out _ _ ⟨S10.out.b.t.t.t.t.c4, S10.out.b.t.t.t.c4⟩ (fun h2 => ?_)
          clear hK K hH
          have hH := h2
          clear h2
          try simp only [nrm]
          refine anyH_world (fun w6 hW => ?_)
          rw [← hW] at S10 hH
          clear hW
          refine step_one 5 rfl (by kernel_rfl) (fun K hK => ?_)
          go_simp
          refine (rmul_any S10.out.n.t.rx S10.out.n.t.t.rx (by omega) (by omega) (by omega)).mono ?_
          rintro e w7 ⟨r2_m, r2_0, r2_n, r2_c, r2_k, r2_1, r2_l, r2_d, rfl, hX, hB⟩
          have S11 := Lib.hid (((S10.out.step hB).rc hX rfl))
          clear S10 hX hB
          go_wp2_with fail
          refine hK.out _ _ ⟨S11.out.b.t.t.t.t.c4, S11.out.b.t.t.t.c4⟩ (fun h2 => ?_)
          clear hK K hH
          have hH := h2
          clear h2
          try simp only [nrm]
          refine step_one 8 rfl (by kernel_rfl) (fun K hK => ?_)
          obtain ⟨c_b7_0, c_b7_1, c_b7_2, c_b7_3⟩ := S11.out.b.t.c4
          obtain ⟨f_b7_0, f_b7_1, f_b7_2, f_b7_3⟩ := S11.out.b.t.f4
          go_simp
          clear c_b7_0 c_b7_1 c_b7_2 c_b7_3 f_b7_0 f_b7_1 f_b7_2 f_b7_3
          have S12 : Hid (Sx w _ [⟨(w5.heap.size), [.bool false, .slice none 0 0, .bool false, .slice none 0 0]⟩, ⟨(w4.heap.size), [.bool r1_m, .slice r1_0 r1_n r1_c, .bool r1_k, .slice r1_1 r1_l r1_d]⟩, ⟨(w.heap.size + 2), [.bool m2, .slice a2 n2 c2, .bool k2, .slice b2 l2 d2]⟩, ⟨(w.heap.size + 1), [.bool m1, .slice a1 n1 c1, .bool k1, .slice b1 l1 d1]⟩, ⟨(w.heap.size), [.bool m0, .slice a0 n0 c0, .bool k0, .slice b0 l0 d0]⟩] _) := Lib.hid (Sx.set [⟨(w5.heap.size), [.bool false, .slice none 0 0, .bool false, .slice none 0 0]⟩] [⟨(w.heap.size + 2), [.bool m2, .slice a2 n2 c2, .bool k2, .slice b2 l2 d2]⟩, ⟨(w.heap.size + 1), [.bool m1, .slice a1 n1 c1, .bool k1, .slice b1 l1 d1]⟩, ⟨(w.heap.size), [.bool m0, .slice a0 n0 c0, .bool k0, .slice b0 l0 d0]⟩] (Sx.set [⟨(w5.heap.size), [.bool false, .slice none 0 0, .bool false, .slice none 0 0]⟩] [⟨(w.heap.size + 2), [.bool m2, .slice a2 n2 c2, .bool k2, .slice b2 l2 d2]⟩, ⟨(w.heap.size + 1), [.bool m1, .slice a1 n1 c1, .bool k1, .slice b1 l1 d1]⟩, ⟨(w.heap.size), [.bool m0, .slice a0 n0 c0, .bool k0, .slice b0 l0 d0]⟩] (Sx.set [⟨(w5.heap.size), [.bool false, .slice none 0 0, .bool false, .slice none 0 0]⟩] [⟨(w.heap.size + 2), [.bool m2, .slice a2 n2 c2, .bool k2, .slice b2 l2 d2]⟩, ⟨(w.heap.size + 1), [.bool m1, .slice a1 n1 c1, .bool k1, .slice b1 l1 d1]⟩, ⟨(w.heap.size), [.bool m0, .slice a0 n0 c0, .bool k0, .slice b0 l0 d0]⟩] (Sx.set [⟨(w5.heap.size), [.bool false, .slice none 0 0, .bool false, .slice none 0 0]⟩] [⟨(w.heap.size + 2), [.bool m2, .slice a2 n2 c2, .bool k2, .slice b2 l2 d2]⟩, ⟨(w.heap.size + 1), [.bool m1, .slice a1 n1 c1, .bool k1, .slice b1 l1 d1]⟩, ⟨(w.heap.size), [.bool m0, .slice a0 n0 c0, .bool k0, .slice b0 l0 d0]⟩] S11.out 0 (.bool r1_m)) 1 (.slice r1_0 r1_n r1_c)) 2 (.bool r1_k)) 3 (.slice r1_1 r1_l r1_d))
          clear S11
          refine hK.out _ _ ⟨S12.out.b.t.t.t.t.c4, S12.out.b.t.t.t.c4⟩ (fun h2 => ?_)
          clear hK K hH
          have hH := h2
          clear h2
          try simp only [nrm]
          refine anyH_world (fun w8 hW => ?_)
          rw [← hW] at S12 hH
          clear hW
          refine step_one 9 rfl (by kernel_rfl) (fun K hK => ?_)
          obtain ⟨c_b8_0, c_b8_1, c_b8_2, c_b8_3⟩ := S12.out.b.c4
          obtain ⟨f_b8_0, f_b8_1, f_b8_2, f_b8_3⟩ := S12.out.b.f4
          go_simp
          clear c_b8_0 c_b8_1 c_b8_2 c_b8_3 f_b8_0 f_b8_1 f_b8_2 f_b8_3
          have S13 : Hid (Sx w _ [⟨(w5.heap.size), [.bool r2_m, .slice r2_0 r2_n r2_c, .bool r2_k, .slice r2_1 r2_l r2_d]⟩, ⟨(w4.heap.size), [.bool r1_m, .slice r1_0 r1_n r1_c, .bool r1_k, .slice r1_1 r1_l r1_d]⟩, ⟨(w.heap.size + 2), [.bool m2, .slice a2 n2 c2, .bool k2, .slice b2 l2 d2]⟩, ⟨(w.heap.size + 1), [.bool m1, .slice a1 n1 c1, .bool k1, .slice b1 l1 d1]⟩, ⟨(w.heap.size), [.bool m0, .slice a0 n0 c0, .bool k0, .slice b0 l0 d0]⟩] _) := Lib.hid (Sx.set [] [⟨(w4.heap.size), [.bool r1_m, .slice r1_0 r1_n r1_c, .bool r1_k, .slice r1_1 r1_l r1_d]⟩, ⟨(w.heap.size + 2), [.bool m2, .slice a2 n2 c2, .bool k2, .slice b2 l2 d2]⟩, ⟨(w.heap.size + 1), [.bool m1, .slice a1 n1 c1, .bool k1, .slice b1 l1 d1]⟩, ⟨(w.heap.size), [.bool m0, .slice a0 n0 c0, .bool k0, .slice b0 l0 d0]⟩] (Sx.set [] [⟨(w4.heap.size), [.bool r1_m, .slice r1_0 r1_n r1_c, .bool r1_k, .slice r1_1 r1_l r1_d]⟩, ⟨(w.heap.size + 2), [.bool m2, .slice a2 n2 c2, .bool k2, .slice b2 l2 d2]⟩, ⟨(w.heap.size + 1), [.bool m1, .slice a1 n1 c1, .bool k1, .slice b1 l1 d1]⟩, ⟨(w.heap.size), [.bool m0, .slice a0 n0 c0, .bool k0, .slice b0 l0 d0]⟩] (Sx.set [] [⟨(w4.heap.size), [.bool r1_m, .slice r1_0 r1_n r1_c, .bool r1_k, .slice r1_1 r1_l r1_d]⟩, ⟨(w.heap.size + 2), [.bool m2, .slice a2 n2 c2, .bool k2, .slice b2 l2 d2]⟩, ⟨(w.heap.size + 1), [.bool m1, .slice a1 n1 c1, .bool k1, .slice b1 l1 d1]⟩, ⟨(w.heap.size), [.bool m0, .slice a0 n0 c0, .bool k0, .slice b0 l0 d0]⟩] (Sx.set [] [⟨(w4.heap.size), [.bool r1_m, .slice r1_0 r1_n r1_c, .bool r1_k, .slice r1_1 r1_l r1_d]⟩, ⟨(w.heap.size + 2), [.bool m2, .slice a2 n2 c2, .bool k2, .slice b2 l2 d2]⟩, ⟨(w.heap.size + 1), [.bool m1, .slice a1 n1 c1, .bool k1, .slice b1 l1 d1]⟩, ⟨(w.heap.size), [.bool m0, .slice a0 n0 c0, .bool k0, .slice b0 l0 d0]⟩] S12.out 0 (.bool r2_m)) 1 (.slice r2_0 r2_n r2_c)) 2 (.bool r2_k)) 3 (.slice r2_1 r2_l r2_d))
          clear S12
          refine hK.out _ _ ⟨S13.out.b.t.t.t.t.c4, S13.out.b.t.t.t.c4⟩ (fun h2 => ?_)
          clear hK K hH
          have hH := h2
          clear h2
          try simp only [nrm]
          refine anyH_world (fun w9 hW => ?_)
          rw [← hW] at S13 hH
          clear hW
          refine wpAnyH_done (by kernel_rfl) ?_ _
          clear hH
          go_wp2_with fail
          go_meet
          case rel => exact ⟨_, _, _, _, _, _, _, _, _, _, _, _, _, _, _, _, _, _, rfl, rfl, S13.out⟩
      · go_simp
        have S9 := Lib.hid (S8.out.var (w4.heap.size) [.bool false, .slice none 0 0, .bool false, .slice none 0 0] 26 (by simp))
        clear S8
        refine hK.out _ _ ⟨S9.out.b.t.t.t.c4, S9.out.b.t.t.c4⟩ (fun h2 => ?_)
        clear hK K hH
        have hH := h2
        clear h2
        try simp only [nrm]
        refine anyH_world (fun w5 hW => ?_)
        rw [← hW] at S9 hH
        clear hW
        refine wpAnyH_ready (rs := [5, 6]) (by kernel_rfl) (by simp) (ready_cons rfl (fun K hK => ?_) (ready_cons rfl (fun K hK => ?_) (AllReadyH.nil)))
        · go_simp
          refine (rmul_any S9.out.n.t.rx S9.out.n.t.t.rx (by omega) (by omega) (by omega)).mono ?_
          rintro e w6 ⟨r2_m, r2_0, r2_n, r2_c, r2_k, r2_1, r2_l, r2_d, rfl, hX, hB⟩
          have S10 := Lib.hid (((S9.out.step hB).rc hX rfl))
          clear S9 hX hB
          go_wp2_with fail
          refine hK.out _ _ ⟨S10.out.b.t.t.t.c4, S10.out.b.t.t.c4⟩ (fun h2 => ?_)
          clear hK K hH
          have hH := h2
          clear h2
          try simp only [nrm]
          refine step_one 6 rfl (by kernel_rfl) (fun K hK => ?_)
          go_simp
          have S11 := Lib.hid (S10.out.var (w6.heap.size) [.bool false, .slice none 0 0, .bool false, .slice none 0 0] 26 (by simp))
          clear S10
          refine hK.out _ _ ⟨S11.out.b.t.t.t.t.c4, S11.out.b.t.t.t.c4⟩ (fun h2 => ?_)
          clear hK K hH
          have hH := h2
          clear h2
          try simp only [nrm]
          refine anyH_world (fun w7 hW => ?_)
          rw [← hW] at S11 hH
          clear hW
          refine step_one 8 rfl (by kernel_rfl) (fun K hK => ?_)
          obtain ⟨c_b7_0, c_b7_1, c_b7_2, c_b7_3⟩ := S11.out.b.c4
          obtain ⟨f_b7_0, f_b7_1, f_b7_2, f_b7_3⟩ := S11.out.b.f4
          go_simp
          clear c_b7_0 c_b7_1 c_b7_2 c_b7_3 f_b7_0 f_b7_1 f_b7_2 f_b7_3
          have S12 : Hid (Sx w _ [⟨(w6.heap.size), [.bool r1_m, .slice r1_0 r1_n r1_c, .bool r1_k, .slice r1_1 r1_l r1_d]⟩, ⟨(w4.heap.size), [.bool false, .slice none 0 0, .bool false, .slice none 0 0]⟩, ⟨(w.heap.size + 2), [.bool m2, .slice a2 n2 c2, .bool k2, .slice b2 l2 d2]⟩, ⟨(w.heap.size + 1), [.bool m1, .slice a1 n1 c1, .bool k1, .slice b1 l1 d1]⟩, ⟨(w.heap.size), [.bool m0, .slice a0 n0 c0, .bool k0, .slice b0 l0 d0]⟩] _) := Lib.hid (Sx.set [] [⟨(w4.heap.size), [.bool false, .slice none 0 0, .bool false, .slice none 0 0]⟩, ⟨(w.heap.size + 2), [.bool m2, .slice a2 n2 c2, .bool k2, .slice b2 l2 d2]⟩, ⟨(w.heap.size + 1), [.bool m1, .slice a1 n1 c1, .bool k1, .slice b1 l1 d1]⟩, ⟨(w.heap.size), [.bool m0, .slice a0 n0 c0, .bool k0, .slice b0 l0 d0]⟩] (Sx.set [] [⟨(w4.heap.size), [.bool false, .slice none 0 0, .bool false, .slice none 0 0]⟩, ⟨(w.heap.size + 2), [.bool m2, .slice a2 n2 c2, .bool k2, .slice b2 l2 d2]⟩, ⟨(w.heap.size + 1), [.bool m1, .slice a1 n1 c1, .bool k1, .slice b1 l1 d1]⟩, ⟨(w.heap.size), [.bool m0, .slice a0 n0 c0, .bool k0, .slice b0 l0 d0]⟩] (Sx.set [] [⟨(w4.heap.size), [.bool false, .slice none 0 0, .bool false, .slice none 0 0]⟩, ⟨(w.heap.size + 2), [.bool m2, .slice a2 n2 c2, .bool k2, .slice b2 l2 d2]⟩, ⟨(w.heap.size + 1), [.bool m1, .slice a1 n1 c1, .bool k1, .slice b1 l1 d1]⟩, ⟨(w.heap.size), [.bool m0, .slice a0 n0 c0, .bool k0, .slice b0 l0 d0]⟩] (Sx.set [] [⟨(w4.heap.size), [.bool false, .slice none 0 0, .bool false, .slice none 0 0]⟩, ⟨(w.heap.size + 2), [.bool m2, .slice a2 n2 c2, .bool k2, .slice b2 l2 d2]⟩, ⟨(w.heap.size + 1), [.bool m1, .slice a1 n1 c1, .bool k1, .slice b1 l1 d1]⟩, ⟨(w.heap.size), [.bool m0, .slice a0 n0 c0, .bool k0, .slice b0 l0 d0]⟩] S11.out 0 (.bool r1_m)) 1 (.slice r1_0 r1_n r1_c)) 2 (.bool r1_k)) 3 (.slice r1_1 r1_l r1_d))
          clear S11
          refine hK.out _ _ ⟨S12.out.b.t.t.t.t.c4, S12.out.b.t.t.t.c4⟩ (fun h2 => ?_)
          clear hK K hH
          have hH := h2
          clear h2
          try simp only [nrm]
          refine anyH_world (fun w8 hW => ?_)
          rw [← hW] at S12 hH
          clear hW
          refine step_one 9 rfl (by kernel_rfl) (fun K hK => ?_)
          obtain ⟨c_b8_0, c_b8_1, c_b8_2, c_b8_3⟩ := S12.out.b.t.c4
          obtain ⟨f_b8_0, f_b8_1, f_b8_2, f_b8_3⟩ := S12.out.b.t.f4
          go_simp
          clear c_b8_0 c_b8_1 c_b8_2 c_b8_3 f_b8_0 f_b8_1 f_b8_2 f_b8_3
          have S13 : Hid (Sx w _ [⟨(w6.heap.size), [.bool r1_m, .slice r1_0 r1_n r1_c, .bool r1_k, .slice r1_1 r1_l r1_d]⟩, ⟨(w4.heap.size), [.bool r2_m, .slice r2_0 r2_n r2_c, .bool r2_k, .slice r2_1 r2_l r2_d]⟩, ⟨(w.heap.size + 2), [.bool m2, .slice a2 n2 c2, .bool k2, .slice b2 l2 d2]⟩, ⟨(w.heap.size + 1), [.bool m1, .slice a1 n1 c1, .bool k1, .slice b1 l1 d1]⟩, ⟨(w.heap.size), [.bool m0, .slice a0 n0 c0, .bool k0, .slice b0 l0 d0]⟩] _) := Lib.hid (Sx.set [⟨(w6.heap.size), [.bool r1_m, .slice r1_0 r1_n r1_c, .bool r1_k, .slice r1_1 r1_l r1_d]⟩] [⟨(w.heap.size + 2), [.bool m2, .slice a2 n2 c2, .bool k2, .slice b2 l2 d2]⟩, ⟨(w.heap.size + 1), [.bool m1, .slice a1 n1 c1, .bool k1, .slice b1 l1 d1]⟩, ⟨(w.heap.size), [.bool m0, .slice a0 n0 c0, .bool k0, .slice b0 l0 d0]⟩] (Sx.set [⟨(w6.heap.size), [.bool r1_m, .slice r1_0 r1_n r1_c, .bool r1_k, .slice r1_1 r1_l r1_d]⟩] [⟨(w.heap.size + 2), [.bool m2, .slice a2 n2 c2, .bool k2, .slice b2 l2 d2]⟩, ⟨(w.heap.size + 1), [.bool m1, .slice a1 n1 c1, .bool k1, .slice b1 l1 d1]⟩, ⟨(w.heap.size), [.bool m0, .slice a0 n0 c0, .bool k0, .slice b0 l0 d0]⟩] (Sx.set [⟨(w6.heap.size), [.bool r1_m, .slice r1_0 r1_n r1_c, .bool r1_k, .slice r1_1 r1_l r1_d]⟩] [⟨(w.heap.size + 2), [.bool m2, .slice a2 n2 c2, .bool k2, .slice b2 l2 d2]⟩, ⟨(w.heap.size + 1), [.bool m1, .slice a1 n1 c1, .bool k1, .slice b1 l1 d1]⟩, ⟨(w.heap.size), [.bool m0, .slice a0 n0 c0, .bool k0, .slice b0 l0 d0]⟩] (Sx.set [⟨(w6.heap.size), [.bool r1_m, .slice r1_0 r1_n r1_c, .bool r1_k, .slice r1_1 r1_l r1_d]⟩] [⟨(w.heap.size + 2), [.bool m2, .slice a2 n2 c2, .bool k2, .slice b2 l2 d2]⟩, ⟨(w.heap.size + 1), [.bool m1, .slice a1 n1 c1, .bool k1, .slice b1 l1 d1]⟩, ⟨(w.heap.size), [.bool m0, .slice a0 n0 c0, .bool k0, .slice b0 l0 d0]⟩] S12.out 0 (.bool r2_m)) 1 (.slice r2_0 r2_n r2_c)) 2 (.bool r2_k)) 3 (.slice r2_1 r2_l r2_d))
          clear S12
          refine hK.out _ _ ⟨S13.out.b.t.t.t.t.c4, S13.out.b.t.t.t.c4⟩ (fun h2 => ?_)
          clear hK K hH
          have hH := h2
          clear h2
          try simp only [nrm]
          refine anyH_world (fun w9 hW => ?_)
          rw [← hW] at S13 hH
          clear hW
          refine wpAnyH_done (by kernel_rfl) ?_ _
          clear hH
          go_wp2_with fail
          go_meet
          case rel => exact ⟨_, _, _, _, _, _, _, _, _, _, _, _, _, _, _, _, _, _, rfl, rfl, S13.out.swap⟩
        · go_simp
          have S10 := Lib.hid (S9.out.var (w5.heap.size) [.bool false, .slice none 0 0, .bool false, .slice none 0 0] 26 (by simp))
          clear S9
          refine hK.out _ _ ⟨S10.out.b.t.t.t.t.c4, S10.out.b.t.t.t.c4⟩ (fun h2 => ?_)
          clear hK K hH
          have hH := h2
          clear h2
          try simp only [nrm]
          refine anyH_world (fun w6 hW => ?_)
          rw [← hW] at S10 hH
          clear hW
          refine step_one 5 rfl (by kernel_rfl) (fun K hK => ?_)
          go_simp
          refine (rmul_any S10.out.n.t.rx S10.out.n.t.t.rx (by omega) (by omega) (by omega)).mono ?_
          rintro e w7 ⟨r2_m, r2_0, r2_n, r2_c, r2_k, r2_1, r2_l, r2_d, rfl, hX, hB⟩
          have S11 := Lib.hid (((S10.out.step hB).rc hX rfl))
          clear S10 hX hB
          go_wp2_with fail
          refine hK.out _ _ ⟨S11.out.b.t.t.t.t.c4, S11.out.b.t.t.t.c4⟩ (fun h2 => ?_)
          clear hK K hH
          have hH := h2
          clear h2
          try simp only [nrm]
          refine step_one 8 rfl (by kernel_rfl) (fun K hK => ?_)
          obtain ⟨c_b7_0, c_b7_1, c_b7_2, c_b7_3⟩ := S11.out.b.c4
          obtain ⟨f_b7_0, f_b7_1, f_b7_2, f_b7_3⟩ := S11.out.b.f4
          go_simp
          clear c_b7_0 c_b7_1 c_b7_2 c_b7_3 f_b7_0 f_b7_1 f_b7_2 f_b7_3
          have S12 : Hid (Sx w _ [⟨(w5.heap.size), [.bool r1_m, .slice r1_0 r1_n r1_c, .bool r1_k, .slice r1_1 r1_l r1_d]⟩, ⟨(w4.heap.size), [.bool false, .slice none 0 0, .bool false, .slice none 0 0]⟩, ⟨(w.heap.size + 2), [.bool m2, .slice a2 n2 c2, .bool k2, .slice b2 l2 d2]⟩, ⟨(w.heap.size + 1), [.bool m1, .slice a1 n1 c1, .bool k1, .slice b1 l1 d1]⟩, ⟨(w.heap.size), [.bool m0, .slice a0 n0 c0, .bool k0, .slice b0 l0 d0]⟩] _) := Lib.hid (Sx.set [] [⟨(w4.heap.size), [.bool false, .slice none 0 0, .bool false, .slice none 0 0]⟩, ⟨(w.heap.size + 2), [.bool m2, .slice a2 n2 c2, .bool k2, .slice b2 l2 d2]⟩, ⟨(w.heap.size + 1), [.bool m1, .slice a1 n1 c1, .bool k1, .slice b1 l1 d1]⟩, ⟨(w.heap.size), [.bool m0, .slice a0 n0 c0, .bool k0, .slice b0 l0 d0]⟩] (Sx.set [] [⟨(w4.heap.size), [.bool false, .slice none 0 0, .bool false, .slice none 0 0]⟩, ⟨(w.heap.size + 2), [.bool m2, .slice a2 n2 c2, .bool k2, .slice b2 l2 d2]⟩, ⟨(w.heap.size + 1), [.bool m1, .slice a1 n1 c1, .bool k1, .slice b1 l1 d1]⟩, ⟨(w.heap.size), [.bool m0, .slice a0 n0 c0, .bool k0, .slice b0 l0 d0]⟩] (Sx.set [] [⟨(w4.heap.size), [.bool false, .slice none 0 0, .bool false, .slice none 0 0]⟩, ⟨(w.heap.size + 2), [.bool m2, .slice a2 n2 c2, .bool k2, .slice b2 l2 d2]⟩, ⟨(w.heap.size + 1), [.bool m1, .slice a1 n1 c1, .bool k1, .slice b1 l1 d1]⟩, ⟨(w.heap.size), [.bool m0, .slice a0 n0 c0, .bool k0, .slice b0 l0 d0]⟩] (Sx.set [] [⟨(w4.heap.size), [.bool false, .slice none 0 0, .bool false, .slice none 0 0]⟩, ⟨(w.heap.size + 2), [.bool m2, .slice a2 n2 c2, .bool k2, .slice b2 l2 d2]⟩, ⟨(w.heap.size + 1), [.bool m1, .slice a1 n1 c1, .bool k1, .slice b1 l1 d1]⟩, ⟨(w.heap.size), [.bool m0, .slice a0 n0 c0, .bool k0, .slice b0 l0 d0]⟩] S11.out 0 (.bool r1_m)) 1 (.slice r1_0 r1_n r1_c)) 2 (.bool r1_k)) 3 (.slice r1_1 r1_l r1_d))
          clear S11
          refine hK.out _ _ ⟨S12.out.b.t.t.t.t.c4, S12.out.b.t.t.t.c4⟩ (fun h2 => ?_)
          clear hK K hH
          have hH := h2
          clear h2
          try simp only [nrm]
          refine anyH_world (fun w8 hW => ?_)
          rw [← hW] at S12 hH
          clear hW
          refine step_one 9 rfl (by kernel_rfl) (fun K hK => ?_)
          obtain ⟨c_b8_0, c_b8_1, c_b8_2, c_b8_3⟩ := S12.out.b.t.c4
          obtain ⟨f_b8_0, f_b8_1, f_b8_2, f_b8_3⟩ := S12.out.b.t.f4
          go_simp
          clear c_b8_0 c_b8_1 c_b8_2 c_b8_3 f_b8_0 f_b8_1 f_b8_2 f_b8_3
          have S13 : Hid (Sx w _ [⟨(w5.heap.size), [.bool r1_m, .slice r1_0 r1_n r1_c, .bool r1_k, .slice r1_1 r1_l r1_d]⟩, ⟨(w4.heap.size), [.bool r2_m, .slice r2_0 r2_n r2_c, .bool r2_k, .slice r2_1 r2_l r2_d]⟩, ⟨(w.heap.size + 2), [.bool m2, .slice a2 n2 c2, .bool k2, .slice b2 l2 d2]⟩, ⟨(w.heap.size + 1), [.bool m1, .slice a1 n1 c1, .bool k1, .slice b1 l1 d1]⟩, ⟨(w.heap.size), [.bool m0, .slice a0 n0 c0, .bool k0, .slice b0 l0 d0]⟩] _) := Lib.hid (Sx.set [⟨(w5.heap.size), [.bool r1_m, .slice r1_0 r1_n r1_c, .bool r1_k, .slice r1_1 r1_l r1_d]⟩] [⟨(w.heap.size + 2), [.bool m2, .slice a2 n2 c2, .bool k2, .slice b2 l2 d2]⟩, ⟨(w.heap.size + 1), [.bool m1, .slice a1 n1 c1, .bool k1, .slice b1 l1 d1]⟩, ⟨(w.heap.size), [.bool m0, .slice a0 n0 c0, .bool k0, .slice b0 l0 d0]⟩] (Sx.set [⟨(w5.heap.size), [.bool r1_m, .slice r1_0 r1_n r1_c, .bool r1_k, .slice r1_1 r1_l r1_d]⟩] [⟨(w.heap.size + 2), [.bool m2, .slice a2 n2 c2, .bool k2, .slice b2 l2 d2]⟩, ⟨(w.heap.size + 1), [.bool m1, .slice a1 n1 c1, .bool k1, .slice b1 l1 d1]⟩, ⟨(w.heap.size), [.bool m0, .slice a0 n0 c0, .bool k0, .slice b0 l0 d0]⟩] (Sx.set [⟨(w5.heap.size), [.bool r1_m, .slice r1_0 r1_n r1_c, .bool r1_k, .slice r1_1 r1_l r1_d]⟩] [⟨(w.heap.size + 2), [.bool m2, .slice a2 n2 c2, .bool k2, .slice b2 l2 d2]⟩, ⟨(w.heap.size + 1), [.bool m1, .slice a1 n1 c1, .bool k1, .slice b1 l1 d1]⟩, ⟨(w.heap.size), [.bool m0, .slice a0 n0 c0, .bool k0, .slice b0 l0 d0]⟩] (Sx.set [⟨(w5.heap.size), [.bool r1_m, .slice r1_0 r1_n r1_c, .bool r1_k, .slice r1_1 r1_l r1_d]⟩] [⟨(w.heap.size + 2), [.bool m2, .slice a2 n2 c2, .bool k2, .slice b2 l2 d2]⟩, ⟨(w.heap.size + 1), [.bool m1, .slice a1 n1 c1, .bool k1, .slice b1 l1 d1]⟩, ⟨(w.heap.size), [.bool m0, .slice a0 n0 c0, .bool k0, .slice b0 l0 d0]⟩] S12.out 0 (.bool r2_m)) 1 (.slice r2_0 r2_n r2_c)) 2 (.bool r2_k)) 3 (.slice r2_1 r2_l r2_d))
          clear S12
          refine hK.out _ _ ⟨S13.out.b.t.t.t.t.c4, S13.out.b.t.t.t.c4⟩ (fun h2 => ?_)
          clear hK K hH
          have hH := h2
          clear h2
          try simp only [nrm]
          refine anyH_world (fun w9 hW => ?_)
          rw [← hW] at S13 hH
          clear hW
          refine wpAnyH_done (by kernel_rfl) ?_ _
          clear hH
          go_wp2_with fail
          go_meet
          case rel => exact ⟨_, _, _, _, _, _, _, _, _, _, _, _, _, _, _, _, _, _, rfl, rfl, S13.out.swap⟩
    · go_simp
      have S8 := Lib.hid (S7.out.var (w3.heap.size) [.bool false, .slice none 0 0, .bool false, .slice none 0 0] 26 (by simp))
      clear S7
      refine hK.out _ _ ⟨S8.out.b.t.t.t.c4, S8.out.b.t.t.c4⟩ (fun h2 => ?_)
      clear hK K hH
      have hH := h2
      clear h2
      try simp only [nrm]
      refine anyH_world (fun w4 hW => ?_)
      rw [← hW] at S8 hH
      clear hW
      refine wpAnyH_ready (rs := [2, 7]) (by kernel_rfl) (by simp) (ready_cons rfl (fun K hK => ?_) (ready_cons rfl (fun K hK => ?_) (AllReadyH.nil)))
      · go_simp
        refine (radd_any S8.out.n.rx S8.out.n.t.rx (by omega) (by omega) (by omega)).mono ?_
        rintro e w5 ⟨r1_m, r1_0, r1_n, r1_c, r1_k, r1_1, r1_l, r1_d, rfl, hX, hB⟩
        have S9 := Lib.hid (((S8.out.step hB).rc hX rfl))
        clear S8 hX hB
        go_wp2_with fail
        refine hK.out _ _ ⟨S9.out.b.t.t.t.c4, S9.out.b.t.t.c4⟩ (fun h2 => ?_)
        clear hK K hH
        have hH := h2
        clear h2
        try simp only [nrm]
        refine wpAnyH_ready (rs := [5, 7]) (by kernel_rfl) (by simp) (ready_cons rfl (fun K hK => ?_) (ready_cons rfl (fun K hK => ?_) (AllReadyH.nil)))
        · go_simp
          refine (rmul_any S9.out.n.t.rx S9.out.n.t.t.rx (by omega) (by omega) (by omega)).mono ?_
          rintro e w6 ⟨r2_m, r2_0, r2_n, r2_c, r2_k, r2_1, r2_l, r2_d, rfl, hX, hB⟩
          have S10 := Lib.hid (((S9.out.step hB).rc hX rfl))
          clear S9 hX hB
          go_wp2_with fail
          refine hK.out _ _ ⟨S10.out.b.t.t.t.c4, S10.out.b.t.t.c4⟩ (fun h2 => ?_)
          clear hK K hH
          have hH := h2
          clear h2
          try simp only [nrm]
          refine step_one 7 rfl (by kernel_rfl) (fun K hK => ?_)
          go_simp
          have S11 := Lib.hid (S10.out.var (w6.heap.size) [.bool false, .slice none 0 0, .bool false, .slice none 0 0] 26 (by simp))
          clear S10
          refine hK.out _ _ ⟨S11.out.b.t.t.t.t.c4, S11.out.b.t.t.t.c4⟩ (fun h2 => ?_)
          clear hK K hH
          have hH := h2
          clear h2
          try simp only [nrm]
          refine anyH_world (fun w7 hW => ?_)
          rw [← hW] at S11 hH
          clear hW
          refine step_one 8 rfl (by kernel_rfl) (fun K hK => ?_)
          obtain ⟨c_b7_0, c_b7_1, c_b7_2, c_b7_3⟩ := S11.out.b.t.c4
          obtain ⟨f_b7_0, f_b7_1, f_b7_2, f_b7_3⟩ := S11.out.b.t.f4
          go_simp
          clear c_b7_0 c_b7_1 c_b7_2 c_b7_3 f_b7_0 f_b7_1 f_b7_2 f_b7_3
          have S12 : Hid (Sx w _ [⟨(w6.heap.size), [.bool false, .slice none 0 0, .bool false, .slice none 0 0]⟩, ⟨(w3.heap.size), [.bool r1_m, .slice r1_0 r1_n r1_c, .bool r1_k, .slice r1_1 r1_l r1_d]⟩, ⟨(w.heap.size + 2), [.bool m2, .slice a2 n2 c2, .bool k2, .slice b2 l2 d2]⟩, ⟨(w.heap.size + 1), [.bool m1, .slice a1 n1 c1, .bool k1, .slice b1 l1 d1]⟩, ⟨(w.heap.size), [.bool m0, .slice a0 n0 c0, .bool k0, .slice b0 l0 d0]⟩] _) := Lib.hid (Sx.set [⟨(w6.heap.size), [.bool false, .slice none 0 0, .bool false, .slice none 0 0]⟩] [⟨(w.heap.size + 2), [.bool m2, .slice a2 n2 c2, .bool k2, .slice b2 l2 d2]⟩, ⟨(w.heap.size + 1), [.bool m1, .slice a1 n1 c1, .bool k1, .slice b1 l1 d1]⟩, ⟨(w.heap.size), [.bool m0, .slice a0 n0 c0, .bool k0, .slice b0 l0 d0]⟩] (Sx.set [⟨(w6.heap.size), [.bool false, .slice none 0 0, .bool false, .slice none 0 0]⟩] [⟨(w.heap.size + 2), [.bool m2, .slice a2 n2 c2, .bool k2, .slice b2 l2 d2]⟩, ⟨(w.heap.size + 1), [.bool m1, .slice a1 n1 c1, .bool k1, .slice b1 l1 d1]⟩, ⟨(w.heap.size), [.bool m0, .slice a0 n0 c0, .bool k0, .slice b0 l0 d0]⟩] (Sx.set [⟨(w6.heap.size), [.bool false, .slice none 0 0, .bool false, .slice none 0 0]⟩] [⟨(w.heap.size + 2), [.bool m2, .slice a2 n2 c2, .bool k2, .slice b2 l2 d2]⟩, ⟨(w.heap.size + 1), [.bool m1, .slice a1 n1 c1, .bool k1, .slice b1 l1 d1]⟩, ⟨(w.heap.size), [.bool m0, .slice a0 n0 c0, .bool k0, .slice b0 l0 d0]⟩] (Sx.set [⟨(w6.heap.size), [.bool false, .slice none 0 0, .bool false, .slice none 0 0]⟩] [⟨(w.heap.size + 2), [.bool m2, .slice a2 n2 c2, .bool k2, .slice b2 l2 d2]⟩, ⟨(w.heap.size + 1), [.bool m1, .slice a1 n1 c1, .bool k1, .slice b1 l1 d1]⟩, ⟨(w.heap.size), [.bool m0, .slice a0 n0 c0, .bool k0, .slice b0 l0 d0]⟩] S11.out 0 (.bool r1_m)) 1 (.slice r1_0 r1_n r1_c)) 2 (.bool r1_k)) 3 (.slice r1_1 r1_l r1_d))
          clear S11
          refine hK.out _ _ ⟨S12.out.b.t.t.t.t.c4, S12.out.b.t.t.t.c4⟩ (fun h2 => ?_)
          clear hK K hH
          have hH := h2
          clear h2
          try simp only [nrm]
          refine anyH_world (fun w8 hW => ?_)
          rw [← hW] at S12 hH
          clear hW
          refine step_one 9 rfl (by kernel_rfl) (fun K hK => ?_)
          obtain ⟨c_b8_0, c_b8_1, c_b8_2, c_b8_3⟩ := S12.out.b.c4
          obtain ⟨f_b8_0, f_b8_1, f_b8_2, f_b8_3⟩ := S12.out.b.f4
          go_simp
          clear c_b8_0 c_b8_1 c_b8_2 c_b8_3 f_b8_0 f_b8_1 f_b8_2 f_b8_3
          have S13 : Hid (Sx w _ [⟨(w6.heap.size), [.bool r2_m, .slice r2_0 r2_n r2_c, .bool r2_k, .slice r2_1 r2_l r2_d]⟩, ⟨(w3.heap.size), [.bool r1_m, .slice r1_0 r1_n r1_c, .bool r1_k, .slice r1_1 r1_l r1_d]⟩, ⟨(w.heap.size + 2), [.bool m2, .slice a2 n2 c2, .bool k2, .slice b2 l2 d2]⟩, ⟨(w.heap.size + 1), [.bool m1, .slice a1 n1 c1, .bool k1, .slice b1 l1 d1]⟩, ⟨(w.heap.size), [.bool m0, .slice a0 n0 c0, .bool k0, .slice b0 l0 d0]⟩] _) := Lib.hid (Sx.set [] [⟨(w3.heap.size), [.bool r1_m, .slice r1_0 r1_n r1_c, .bool r1_k, .slice r1_1 r1_l r1_d]⟩, ⟨(w.heap.size + 2), [.bool m2, .slice a2 n2 c2, .bool k2, .slice b2 l2 d2]⟩, ⟨(w.heap.size + 1), [.bool m1, .slice a1 n1 c1, .bool k1, .slice b1 l1 d1]⟩, ⟨(w.heap.size), [.bool m0, .slice a0 n0 c0, .bool k0, .slice b0 l0 d0]⟩] (Sx.set [] [⟨(w3.heap.size), [.bool r1_m, .slice r1_0 r1_n r1_c, .bool r1_k, .slice r1_1 r1_l r1_d]⟩, ⟨(w.heap.size + 2), [.bool m2, .slice a2 n2 c2, .bool k2, .slice b2 l2 d2]⟩, ⟨(w.heap.size + 1), [.bool m1, .slice a1 n1 c1, .bool k1, .slice b1 l1 d1]⟩, ⟨(w.heap.size), [.bool m0, .slice a0 n0 c0, .bool k0, .slice b0 l0 d0]⟩] (Sx.set [] [⟨(w3.heap.size), [.bool r1_m, .slice r1_0 r1_n r1_c, .bool r1_k, .slice r1_1 r1_l r1_d]⟩, ⟨(w.heap.size + 2), [.bool m2, .slice a2 n2 c2, .bool k2, .slice b2 l2 d2]⟩, ⟨(w.heap.size + 1), [.bool m1, .slice a1 n1 c1, .bool k1, .slice b1 l1 d1]⟩, ⟨(w.heap.size), [.bool m0, .slice a0 n0 c0, .bool k0, .slice b0 l0 d0]⟩] (Sx.set [] [⟨(w3.heap.size), [.bool r1_m, .slice r1_0 r1_n r1_c, .bool r1_k, .slice r1_1 r1_l r1_d]⟩, ⟨(w.heap.size + 2), [.bool m2, .slice a2 n2 c2, .bool k2, .slice b2 l2 d2]⟩, ⟨(w.heap.size + 1), [.bool m1, .slice a1 n1 c1, .bool k1, .slice b1 l1 d1]⟩, ⟨(w.heap.size), [.bool m0, .slice a0 n0 c0, .bool k0, .slice b0 l0 d0]⟩] S12.out 0 (.bool r2_m)) 1 (.slice r2_0 r2_n r2_c)) 2 (.bool r2_k)) 3 (.slice r2_1 r2_l r2_d))
          clear S12
          refine hK.out _ _ ⟨S13.out.b.t.t.t.t.c4, S13.out.b.t.t.t.c4⟩ (fun h2 => ?_)
          clear hK K hH
          have hH := h2
          clear h2
          try simp only [nrm]
          refine anyH_world (fun w9 hW => ?_)
          rw [← hW] at S13 hH
          clear hW
          refine wpAnyH_done (by kernel_rfl) ?_ _
          clear hH
          go_wp2_with fail
          go_meet
          case rel => exact ⟨_, _, _, _, _, _, _, _, _, _, _, _, _, _, _, _, _, _, rfl, rfl, S13.out⟩
        · go_simp
          have S10 := Lib.hid (S9.out.var (w5.heap.size) [.bool false, .slice none 0 0, .bool false, .slice none 0 0] 26 (by simp))
          clear S9
          refine hK.out _ _ ⟨S10.out.b.t.t.t.t.c4, S10.out.b.t.t.t.c4⟩ (fun h2 => ?_)
          clear hK K hH
          have hH := h2
          clear h2
          try simp only [nrm]
          refine anyH_world (fun w6 hW => ?_)
          rw [← hW] at S10 hH
          clear hW
          refine step_one 5 rfl (by kernel_rfl) (fun K hK => ?_)
          go_simp
          refine (rmul_any S10.out.n.t.rx S10.out.n.t.t.rx (by omega) (by omega) (by omega)).mono ?_
          rintro e w7 ⟨r2_m, r2_0, r2_n, r2_c, r2_k, r2_1, r2_l, r2_d, rfl, hX, hB⟩
          have S11 := Lib.hid (((S10.out.step hB).rc hX rfl))
          clear S10 hX hB
          go_wp2_with fail
          refine hK.out _ _ ⟨S11.out.b.t.t.t.t.c4, S11.out.b.t.t.t.c4⟩ (fun h2 => ?_)
          clear hK K hH
          have hH := h2
          clear h2
          try simp only [nrm]
          refine step_one 8 rfl (by kernel_rfl) (fun K hK => ?_)
          obtain ⟨c_b7_0, c_b7_1, c_b7_2, c_b7_3⟩ := S11.out.b.t.c4
          obtain ⟨f_b7_0, f_b7_1, f_b7_2, f_b7_3⟩ := S11.out.b.t.f4
          go_simp
          clear c_b7_0 c_b7_1 c_b7_2 c_b7_3 f_b7_0 f_b7_1 f_b7_2 f_b7_3
          have S12 : Hid (Sx w _ [⟨(w5.heap.size), [.bool false, .slice none 0 0, .bool false, .slice none 0 0]⟩, ⟨(w3.heap.size), [.bool r1_m, .slice r1_0 r1_n r1_c, .bool r1_k, .slice r1_1 r1_l r1_d]⟩, ⟨(w.heap.size + 2), [.bool m2, .slice a2 n2 c2, .bool k2, .slice b2 l2 d2]⟩, ⟨(w.heap.size + 1), [.bool m1, .slice a1 n1 c1, .bool k1, .slice b1 l1 d1]⟩, ⟨(w.heap.size), [.bool m0, .slice a0 n0 c0, .bool k0, .slice b0 l0 d0]⟩] _) := Lib.hid (Sx.set [⟨(w5.heap.size), [.bool false, .slice none 0 0, .bool false, .slice none 0 0]⟩] [⟨(w.heap.size + 2), [.bool m2, .slice a2 n2 c2, .bool k2, .slice b2 l2 d2]⟩, ⟨(w.heap.size + 1), [.bool m1, .slice a1 n1 c1, .bool k1, .slice b1 l1 d1]⟩, ⟨(w.heap.size), [.bool m0, .slice a0 n0 c0, .bool k0, .slice b0 l0 d0]⟩] (Sx.set [⟨(w5.heap.size), [.bool false, .slice none 0 0, .bool false, .slice none 0 0]⟩] [⟨(w.heap.size + 2), [.bool m2, .slice a2 n2 c2, .bool k2, .slice b2 l2 d2]⟩, ⟨(w.heap.size + 1), [.bool m1, .slice a1 n1 c1, .bool k1, .slice b1 l1 d1]⟩, ⟨(w.heap.size), [.bool m0, .slice a0 n0 c0, .bool k0, .slice b0 l0 d0]⟩] (Sx.set [⟨(w5.heap.size), [.bool false, .slice none 0 0, .bool false, .slice none 0 0]⟩] [⟨(w.heap.size + 2), [.bool m2, .slice a2 n2 c2, .bool k2, .slice b2 l2 d2]⟩, ⟨(w.heap.size + 1), [.bool m1, .slice a1 n1 c1, .bool k1, .slice b1 l1 d1]⟩, ⟨(w.heap.size), [.bool m0, .slice a0 n0 c0, .bool k0, .slice b0 l0 d0]⟩] (Sx.set [⟨(w5.heap.size), [.bool false, .slice none 0 0, .bool false, .slice none 0 0]⟩] [⟨(w.heap.size + 2), [.bool m2, .slice a2 n2 c2, .bool k2, .slice b2 l2 d2]⟩, ⟨(w.heap.size + 1), [.bool m1, .slice a1 n1 c1, .bool k1, .slice b1 l1 d1]⟩, ⟨(w.heap.size), [.bool m0, .slice a0 n0 c0, .bool k0, .slice b0 l0 d0]⟩] S11.out 0 (.bool r1_m)) 1 (.slice r1_0 r1_n r1_c)) 2 (.bool r1_k)) 3 (.slice r1_1 r1_l r1_d))
          clear S11
          refine hK.out _ _ ⟨S12.out.b.t.t.t.t.c4, S12.out.b.t.t.t.c4⟩ (fun h2 => ?_)
          clear hK K hH
          have hH := h2
          clear h2
          try simp only [nrm]
          refine anyH_world (fun w8 hW => ?_)
          rw [← hW] at S12 hH
          clear hW
          refine step_one 9 rfl (by kernel_rfl) (fun K hK => ?_)
          obtain ⟨c_b8_0, c_b8_1, c_b8_2, c_b8_3⟩ := S12.out.b.c4
          obtain ⟨f_b8_0, f_b8_1, f_b8_2, f_b8_3⟩ := S12.out.b.f4
          go_simp
          clear c_b8_0 c_b8_1 c_b8_2 c_b8_3 f_b8_0 f_b8_1 f_b8_2 f_b8_3
          have S13 : Hid (Sx w _ [⟨(w5.heap.size), [.bool r2_m, .slice r2_0 r2_n r2_c, .bool r2_k, .slice r2_1 r2_l r2_d]⟩, ⟨(w3.heap.size), [.bool r1_m, .slice r1_0 r1_n r1_c, .bool r1_k, .slice r1_1 r1_l r1_d]⟩, ⟨(w.heap.size + 2), [.bool m2, .slice a2 n2 c2, .bool k2, .slice b2 l2 d2]⟩, ⟨(w.heap.size + 1), [.bool m1, .slice a1 n1 c1, .bool k1, .slice b1 l1 d1]⟩, ⟨(w.heap.size), [.bool m0, .slice a0 n0 c0, .bool k0, .slice b0 l0 d0]⟩] _) := Lib.hid (Sx.set [] [⟨(w3.heap.size), [.bool r1_m, .slice r1_0 r1_n r1_c, .bool r1_k, .slice r1_1 r1_l r1_d]⟩, ⟨(w.heap.size + 2), [.bool m2, .slice a2 n2 c2, .bool k2, .slice b2 l2 d2]⟩, ⟨(w.heap.size + 1), [.bool m1, .slice a1 n1 c1, .bool k1, .slice b1 l1 d1]⟩, ⟨(w.heap.size), [.bool m0, .slice a0 n0 c0, .bool k0, .slice b0 l0 d0]⟩] (Sx.set [] [⟨(w3.heap.size), [.bool r1_m, .slice r1_0 r1_n r1_c, .bool r1_k, .slice r1_1 r1_l r1_d]⟩, ⟨(w.heap.size + 2), [.bool m2, .slice a2 n2 c2, .bool k2, .slice b2 l2 d2]⟩, ⟨(w.heap.size + 1), [.bool m1, .slice a1 n1 c1, .bool k1, .slice b1 l1 d1]⟩, ⟨(w.heap.size), [.bool m0, .slice a0 n0 c0, .bool k0, .slice b0 l0 d0]⟩] (Sx.set [] [⟨(w3.heap.size), [.bool r1_m, .slice r1_0 r1_n r1_c, .bool r1_k, .slice r1_1 r1_l r1_d]⟩, ⟨(w.heap.size + 2), [.bool m2, .slice a2 n2 c2, .bool k2, .slice b2 l2 d2]⟩, ⟨(w.heap.size + 1), [.bool m1, .slice a1 n1 c1, .bool k1, .slice b1 l1 d1]⟩, ⟨(w.heap.size), [.bool m0, .slice a0 n0 c0, .bool k0, .slice b0 l0 d0]⟩] (Sx.set [] [⟨(w3.heap.size), [.bool r1_m, .slice r1_0 r1_n r1_c, .bool r1_k, .slice r1_1 r1_l r1_d]⟩, ⟨(w.heap.size + 2), [.bool m2, .slice a2 n2 c2, .bool k2, .slice b2 l2 d2]⟩, ⟨(w.heap.size + 1), [.bool m1, .slice a1 n1 c1, .bool k1, .slice b1 l1 d1]⟩, ⟨(w.heap.size), [.bool m0, .slice a0 n0 c0, .bool k0, .slice b0 l0 d0]⟩] S12.out 0 (.bool r2_m)) 1 (.slice r2_0 r2_n r2_c)) 2 (.bool r2_k)) 3 (.slice r2_1 r2_l r2_d))
          clear S12
          refine hK.out _ _ ⟨S13.out.b.t.t.t.t.c4, S13.out.b.t.t.t.c4⟩ (fun h2 => ?_)
          clear hK K hH
          have hH := h2
          clear h2
          try simp only [nrm]
          refine anyH_world (fun w9 hW => ?_)
          rw [← hW] at S13 hH
          clear hW
          refine wpAnyH_done (by kernel_rfl) ?_ _
          clear hH
          go_wp2_with fail
          go_meet
          case rel => exact ⟨_, _, _, _, _, _, _, _, _, _, _, _, _, _, _, _, _, _, rfl, rfl, S13.out⟩
      · go_simp
        have S9 := Lib.hid (S8.out.var (w4.heap.size) [.bool false, .slice none 0 0, .bool false, .slice none 0 0] 26 (by simp))
        clear S8
        refine hK.out _ _ ⟨S9.out.b.t.t.t.t.c4, S9.out.b.t.t.t.c4⟩ (fun h2 => ?_)
        clear hK K hH
        have hH := h2
        clear h2
        try simp only [nrm]
        refine anyH_world (fun w5 hW => ?_)
        rw [← hW] at S9 hH
        clear hW
        refine step_one 2 rfl (by kernel_rfl) (fun K hK => ?_)
        go_simp
        refine (radd_any S9.out.n.rx S9.out.n.t.rx (by omega) (by omega) (by omega)).mono ?_
        rintro e w6 ⟨r1_m, r1_0, r1_n, r1_c, r1_k, r1_1, r1_l, r1_d, rfl, hX, hB⟩
        have S10 := Lib.hid (((S9.out.step hB).rc hX rfl))
        clear S9 hX hB
        go_wp2_with fail
        refine hK.out _ _ ⟨S10.out.b.t.t.t.t.c4, S10.out.b.t.t.t.c4⟩ (fun h2 => ?_)
        clear hK K hH
        have hH := h2
        clear h2
        try simp only [nrm]
        refine step_one 5 rfl (by kernel_rfl) (fun K hK => ?_)
        go_simp
        refine (rmul_any S10.out.n.t.rx S10.out.n.t.t.rx (by omega) (by omega) (by omega)).mono ?_
        rintro e w7 ⟨r2_m, r2_0, r2_n, r2_c, r2_k, r2_1, r2_l, r2_d, rfl, hX, hB⟩
        have S11 := Lib.hid (((S10.out.step hB).rc hX rfl))
        clear S10 hX hB
        go_wp2_with fail
        refine hK.out _ _ ⟨S11.out.b.t.t.t.t.c4, S11.out.b.t.t.t.c4⟩ (fun h2 => ?_)
        clear hK K hH
        have hH := h2
        clear h2
        try simp only [nrm]
        refine step_one 8 rfl (by kernel_rfl) (fun K hK => ?_)
        obtain ⟨c_b7_0, c_b7_1, c_b7_2, c_b7_3⟩ := S11.out.b.t.c4
        obtain ⟨f_b7_0, f_b7_1, f_b7_2, f_b7_3⟩ := S11.out.b.t.f4
        go_simp
        clear c_b7_0 c_b7_1 c_b7_2 c_b7_3 f_b7_0 f_b7_1 f_b7_2 f_b7_3
        have S12 : Hid (Sx w _ [⟨(w4.heap.size), [.bool false, .slice none 0 0, .bool false, .slice none 0 0]⟩, ⟨(w3.heap.size), [.bool r1_m, .slice r1_0 r1_n r1_c, .bool r1_k, .slice r1_1 r1_l r1_d]⟩, ⟨(w.heap.size + 2), [.bool m2, .slice a2 n2 c2, .bool k2, .slice b2 l2 d2]⟩, ⟨(w.heap.size + 1), [.bool m1, .slice a1 n1 c1, .bool k1, .slice b1 l1 d1]⟩, ⟨(w.heap.size), [.bool m0, .slice a0 n0 c0, .bool k0, .slice b0 l0 d0]⟩] _) := Lib.hid (Sx.set [⟨(w4.heap.size), [.bool false, .slice none 0 0, .bool false, .slice none 0 0]⟩] [⟨(w.heap.size + 2), [.bool m2, .slice a2 n2 c2, .bool k2, .slice b2 l2 d2]⟩, ⟨(w.heap.size + 1), [.bool m1, .slice a1 n1 c1, .bool k1, .slice b1 l1 d1]⟩, ⟨(w.heap.size), [.bool m0, .slice a0 n0 c0, .bool k0, .slice b0 l0 d0]⟩] (Sx.set [⟨(w4.heap.size), [.bool false, .slice none 0 0, .bool false, .slice none 0 0]⟩] [⟨(w.heap.size + 2), [.bool m2, .slice a2 n2 c2, .bool k2, .slice b2 l2 d2]⟩, ⟨(w.heap.size + 1), [.bool m1, .slice a1 n1 c1, .bool k1, .slice b1 l1 d1]⟩, ⟨(w.heap.size), [.bool m0, .slice a0 n0 c0, .bool k0, .slice b0 l0 d0]⟩] (Sx.set [⟨(w4.heap.size), [.bool false, .slice none 0 0, .bool false, .slice none 0 0]⟩] [⟨(w.heap.size + 2), [.bool m2, .slice a2 n2 c2, .bool k2, .slice b2 l2 d2]⟩, ⟨(w.heap.size + 1), [.bool m1, .slice a1 n1 c1, .bool k1, .slice b1 l1 d1]⟩, ⟨(w.heap.size), [.bool m0, .slice a0 n0 c0, .bool k0, .slice b0 l0 d0]⟩] (Sx.set [⟨(w4.heap.size), [.bool false, .slice none 0 0, .bool false, .slice none 0 0]⟩] [⟨(w.heap.size + 2), [.bool m2, .slice a2 n2 c2, .bool k2, .slice b2 l2 d2]⟩, ⟨(w.heap.size + 1), [.bool m1, .slice a1 n1 c1, .bool k1, .slice b1 l1 d1]⟩, ⟨(w.heap.size), [.bool m0, .slice a0 n0 c0, .bool k0, .slice b0 l0 d0]⟩] S11.out 0 (.bool r1_m)) 1 (.slice r1_0 r1_n r1_c)) 2 (.bool r1_k)) 3 (.slice r1_1 r1_l r1_d))
        clear S11
        refine hK.out _ _ ⟨S12.out.b.t.t.t.t.c4, S12.out.b.t.t.t.c4⟩ (fun h2 => ?_)
        clear hK K hH
        have hH := h2
        clear h2
        try simp only [nrm]
        refine anyH_world (fun w8 hW => ?_)
        rw [← hW] at S12 hH
        clear hW
        refine step_one 9 rfl (by kernel_rfl) (fun K hK => ?_)
        obtain ⟨c_b8_0, c_b8_1, c_b8_2, c_b8_3⟩ := S12.out.b.c4
        obtain ⟨f_b8_0, f_b8_1, f_b8_2, f_b8_3⟩ := S12.out.b.f4
        go_simp
        clear c_b8_0 c_b8_1 c_b8_2 c_b8_3 f_b8_0 f_b8_1 f_b8_2 f_b8_3
        have S13 : Hid (Sx w _ [⟨(w4.heap.size), [.bool r2_m, .slice r2_0 r2_n r2_c, .bool r2_k, .slice r2_1 r2_l r2_d]⟩, ⟨(w3.heap.size), [.bool r1_m, .slice r1_0 r1_n r1_c, .bool r1_k, .slice r1_1 r1_l r1_d]⟩, ⟨(w.heap.size + 2), [.bool m2, .slice a2 n2 c2, .bool k2, .slice b2 l2 d2]⟩, ⟨(w.heap.size + 1), [.bool m1, .slice a1 n1 c1, .bool k1, .slice b1 l1 d1]⟩, ⟨(w.heap.size), [.bool m0, .slice a0 n0 c0, .bool k0, .slice b0 l0 d0]⟩] _) := Lib.hid (Sx.set [] [⟨(w3.heap.size), [.bool r1_m, .slice r1_0 r1_n r1_c, .bool r1_k, .slice r1_1 r1_l r1_d]⟩, ⟨(w.heap.size + 2), [.bool m2, .slice a2 n2 c2, .bool k2, .slice b2 l2 d2]⟩, ⟨(w.heap.size + 1), [.bool m1, .slice a1 n1 c1, .bool k1, .slice b1 l1 d1]⟩, ⟨(w.heap.size), [.bool m0, .slice a0 n0 c0, .bool k0, .slice b0 l0 d0]⟩] (Sx.set [] [⟨(w3.heap.size), [.bool r1_m, .slice r1_0 r1_n r1_c, .bool r1_k, .slice r1_1 r1_l r1_d]⟩, ⟨(w.heap.size + 2), [.bool m2, .slice a2 n2 c2, .bool k2, .slice b2 l2 d2]⟩, ⟨(w.heap.size + 1), [.bool m1, .slice a1 n1 c1, .bool k1, .slice b1 l1 d1]⟩, ⟨(w.heap.size), [.bool m0, .slice a0 n0 c0, .bool k0, .slice b0 l0 d0]⟩] (Sx.set [] [⟨(w3.heap.size), [.bool r1_m, .slice r1_0 r1_n r1_c, .bool r1_k, .slice r1_1 r1_l r1_d]⟩, ⟨(w.heap.size + 2), [.bool m2, .slice a2 n2 c2, .bool k2, .slice b2 l2 d2]⟩, ⟨(w.heap.size + 1), [.bool m1, .slice a1 n1 c1, .bool k1, .slice b1 l1 d1]⟩, ⟨(w.heap.size), [.bool m0, .slice a0 n0 c0, .bool k0, .slice b0 l0 d0]⟩] (Sx.set [] [⟨(w3.heap.size), [.bool r1_m, .slice r1_0 r1_n r1_c, .bool r1_k, .slice r1_1 r1_l r1_d]⟩, ⟨(w.heap.size + 2), [.bool m2, .slice a2 n2 c2, .bool k2, .slice b2 l2 d2]⟩, ⟨(w.heap.size + 1), [.bool m1, .slice a1 n1 c1, .bool k1, .slice b1 l1 d1]⟩, ⟨(w.heap.size), [.bool m0, .slice a0 n0 c0, .bool k0, .slice b0 l0 d0]⟩] S12.out 0 (.bool r2_m)) 1 (.slice r2_0 r2_n r2_c)) 2 (.bool r2_k)) 3 (.slice r2_1 r2_l r2_d))
        clear S12
        refine hK.out _ _ ⟨S13.out.b.t.t.t.t.c4, S13.out.b.t.t.t.c4⟩ (fun h2 => ?_)
        clear hK K hH
        have hH := h2
        clear h2
        try simp only [nrm]
        refine anyH_world (fun w9 hW => ?_)
        rw [← hW] at S13 hH
        clear hW
        refine wpAnyH_done (by kernel_rfl) ?_ _
        clear hH
        go_wp2_with fail
        go_meet
        case rel => exact ⟨_, _, _, _, _, _, _, _, _, _, _, _, _, _, _, _, _, _, rfl, rfl, S13.out⟩
    · go_simp
      have S8 := Lib.hid (S7.out.var (w3.heap.size) [.bool false, .slice none 0 0, .bool false, .slice none 0 0] 26 (by simp))
      clear S7
      refine hK.out _ _ ⟨S8.out.b.t.t.t.c4, S8.out.b.t.t.c4⟩ (fun h2 => ?_)
      clear hK K hH
      have hH := h2
      clear h2
      try simp only [nrm]
      refine anyH_world (fun w4 hW => ?_)
      rw [← hW] at S8 hH
      clear hW
      refine wpAnyH_ready (rs := [2, 6]) (by kernel_rfl) (by simp) (ready_cons rfl (fun K hK => ?_) (ready_cons rfl (fun K hK => ?_) (AllReadyH.nil)))
      · go_simp
        refine (radd_any S8.out.n.rx S8.out.n.t.rx (by omega) (by omega) (by omega)).mono ?_
        rintro e w5 ⟨r1_m, r1_0, r1_n, r1_c, r1_k, r1_1, r1_l, r1_d, rfl, hX, hB⟩
        have S9 := Lib.hid (((S8.out.step hB).rc hX rfl))
        clear S8 hX hB
        go_wp2_with fail
        refine hK.out _ _ ⟨S9.out.b.t.t.t.c4, S9.out.b.t.t.c4⟩ (fun h2 => ?_)
        clear hK K hH
        have hH := h2
        clear h2
        try simp only [nrm]
        refine wpAnyH_ready (rs := [5, 6]) (by kernel_rfl) (by simp) (ready_cons rfl (fun K hK => ?_) (ready_cons rfl (fun K hK => ?_) (AllReadyH.nil)))
        · go_simp
          refine (rmul_any S9.out.n.t.rx S9.out.n.t.t.rx (by omega) (by omega) (by omega)).mono ?_
          rintro e w6 ⟨r2_m, r2_0, r2_n, r2_c, r2_k, r2_1, r2_l, r2_d, rfl, hX, hB⟩
          have S10 := Lib.hid (((S9.out.step hB).rc hX rfl))
          clear S9 hX hB
          go_wp2_with fail
          refine hK.out _ _ ⟨S10.out.b.t.t.t.c4, S10.out.b.t.t.c4⟩ (fun h2 => ?_)
          clear hK K hH
          have hH := h2
          clear h2
          try simp only [nrm]
          refine step_one 6 rfl (by kernel_rfl) (fun K hK => ?_)
          go_simp
          have S11 := Lib.hid (S10.out.var (w6.heap.size) [.bool false, .slice none 0 0, .bool false, .slice none 0 0] 26 (by simp))
          clear S10
          refine hK.out _ _ ⟨S11.out.b.t.t.t.t.c4, S11.out.b.t.t.t.c4⟩ (fun h2 => ?_)
          clear hK K hH
          have hH := h2
          clear h2
          try simp only [nrm]
          refine anyH_world (fun w7 hW => ?_)
          rw [← hW] at S11 hH
          clear hW
          refine step_one 8 rfl (by kernel_rfl) (fun K hK => ?_)
          obtain ⟨c_b7_0, c_b7_1, c_b7_2, c_b7_3⟩ := S11.out.b.c4
          obtain ⟨f_b7_0, f_b7_1, f_b7_2, f_b7_3⟩ := S11.out.b.f4
          go_simp
          clear c_b7_0 c_b7_1 c_b7_2 c_b7_3 f_b7_0 f_b7_1 f_b7_2 f_b7_3
          have S12 : Hid (Sx w _ [⟨(w6.heap.size), [.bool r1_m, .slice r1_0 r1_n r1_c, .bool r1_k, .slice r1_1 r1_l r1_d]⟩, ⟨(w3.heap.size), [.bool false, .slice none 0 0, .bool false, .slice none 0 0]⟩, ⟨(w.heap.size + 2), [.bool m2, .slice a2 n2 c2, .bool k2, .slice b2 l2 d2]⟩, ⟨(w.heap.size + 1), [.bool m1, .slice a1 n1 c1, .bool k1, .slice b1 l1 d1]⟩, ⟨(w.heap.size), [.bool m0, .slice a0 n0 c0, .bool k0, .slice b0 l0 d0]⟩] _) := Lib.hid (Sx.set [] [⟨(w3.heap.size), [.bool false, .slice none 0 0, .bool false, .slice none 0 0]⟩, ⟨(w.heap.size + 2), [.bool m2, .slice a2 n2 c2, .bool k2, .slice b2 l2 d2]⟩, ⟨(w.heap.size + 1), [.bool m1, .slice a1 n1 c1, .bool k1, .slice b1 l1 d1]⟩, ⟨(w.heap.size), [.bool m0, .slice a0 n0 c0, .bool k0, .slice b0 l0 d0]⟩] (Sx.set [] [⟨(w3.heap.size), [.bool false, .slice none 0 0, .bool false, .slice none 0 0]⟩, ⟨(w.heap.size + 2), [.bool m2, .slice a2 n2 c2, .bool k2, .slice b2 l2 d2]⟩, ⟨(w.heap.size + 1), [.bool m1, .slice a1 n1 c1, .bool k1, .slice b1 l1 d1]⟩, ⟨(w.heap.size), [.bool m0, .slice a0 n0 c0, .bool k0, .slice b0 l0 d0]⟩] (Sx.set [] [⟨(w3.heap.size), [.bool false, .slice none 0 0, .bool false, .slice none 0 0]⟩, ⟨(w.heap.size + 2), [.bool m2, .slice a2 n2 c2, .bool k2, .slice b2 l2 d2]⟩, ⟨(w.heap.size + 1), [.bool m1, .slice a1 n1 c1, .bool k1, .slice b1 l1 d1]⟩, ⟨(w.heap.size), [.bool m0, .slice a0 n0 c0, .bool k0, .slice b0 l0 d0]⟩] (Sx.set [] [⟨(w3.heap.size), [.bool false, .slice none 0 0, .bool false, .slice none 0 0]⟩, ⟨(w.heap.size + 2), [.bool m2, .slice a2 n2 c2, .bool k2, .slice b2 l2 d2]⟩, ⟨(w.heap.size + 1), [.bool m1, .slice a1 n1 c1, .bool k1, .slice b1 l1 d1]⟩, ⟨(w.heap.size), [.bool m0, .slice a0 n0 c0, .bool k0, .slice b0 l0 d0]⟩] S11.out 0 (.bool r1_m)) 1 (.slice r1_0 r1_n r1_c)) 2 (.bool r1_k)) 3 (.slice r1_1 r1_l r1_d))
          clear S11
          refine hK.out _ _ ⟨S12.out.b.t.t.t.t.c4, S12.out.b.t.t.t.c4⟩ (fun h2 => ?_)
          clear hK K hH
          have hH := h2
          clear h2
          try simp only [nrm]
          refine anyH_world (fun w8 hW => ?_)
          rw [← hW] at S12 hH
          clear hW
          refine step_one 9 rfl (by kernel_rfl) (fun K hK => ?_)
          obtain ⟨c_b8_0, c_b8_1, c_b8_2, c_b8_3⟩ := S12.out.b.t.c4
          obtain ⟨f_b8_0, f_b8_1, f_b8_2, f_b8_3⟩ := S12.out.b.t.f4
          go_simp
          clear c_b8_0 c_b8_1 c_b8_2 c_b8_3 f_b8_0 f_b8_1 f_b8_2 f_b8_3
          have S13 : Hid (Sx w _ [⟨(w6.heap.size), [.bool r1_m, .slice r1_0 r1_n r1_c, .bool r1_k, .slice r1_1 r1_l r1_d]⟩, ⟨(w3.heap.size), [.bool r2_m, .slice r2_0 r2_n r2_c, .bool r2_k, .slice r2_1 r2_l r2_d]⟩, ⟨(w.heap.size + 2), [.bool m2, .slice a2 n2 c2, .bool k2, .slice b2 l2 d2]⟩, ⟨(w.heap.size + 1), [.bool m1, .slice a1 n1 c1, .bool k1, .slice b1 l1 d1]⟩, ⟨(w.heap.size), [.bool m0, .slice a0 n0 c0, .bool k0, .slice b0 l0 d0]⟩] _) := Lib.hid (Sx.set [⟨(w6.heap.size), [.bool r1_m, .slice r1_0 r1_n r1_c, .bool r1_k, .slice r1_1 r1_l r1_d]⟩] [⟨(w.heap.size + 2), [.bool m2, .slice a2 n2 c2, .bool k2, .slice b2 l2 d2]⟩, ⟨(w.heap.size + 1), [.bool m1, .slice a1 n1 c1, .bool k1, .slice b1 l1 d1]⟩, ⟨(w.heap.size), [.bool m0, .slice a0 n0 c0, .bool k0, .slice b0 l0 d0]⟩] (Sx.set [⟨(w6.heap.size), [.bool r1_m, .slice r1_0 r1_n r1_c, .bool r1_k, .slice r1_1 r1_l r1_d]⟩] [⟨(w.heap.size + 2), [.bool m2, .slice a2 n2 c2, .bool k2, .slice b2 l2 d2]⟩, ⟨(w.heap.size + 1), [.bool m1, .slice a1 n1 c1, .bool k1, .slice b1 l1 d1]⟩, ⟨(w.heap.size), [.bool m0, .slice a0 n0 c0, .bool k0, .slice b0 l0 d0]⟩] (Sx.set [⟨(w6.heap.size), [.bool r1_m, .slice r1_0 r1_n r1_c, .bool r1_k, .slice r1_1 r1_l r1_d]⟩] [⟨(w.heap.size + 2), [.bool m2, .slice a2 n2 c2, .bool k2, .slice b2 l2 d2]⟩, ⟨(w.heap.size + 1), [.bool m1, .slice a1 n1 c1, .bool k1, .slice b1 l1 d1]⟩, ⟨(w.heap.size), [.bool m0, .slice a0 n0 c0, .bool k0, .slice b0 l0 d0]⟩] (Sx.set [⟨(w6.heap.size), [.bool r1_m, .slice r1_0 r1_n r1_c, .bool r1_k, .slice r1_1 r1_l r1_d]⟩] [⟨(w.heap.size + 2), [.bool m2, .slice a2 n2 c2, .bool k2, .slice b2 l2 d2]⟩, ⟨(w.heap.size + 1), [.bool m1, .slice a1 n1 c1, .bool k1, .slice b1 l1 d1]⟩, ⟨(w.heap.size), [.bool m0, .slice a0 n0 c0, .bool k0, .slice b0 l0 d0]⟩] S12.out 0 (.bool r2_m)) 1 (.slice r2_0 r2_n r2_c)) 2 (.bool r2_k)) 3 (.slice r2_1 r2_l r2_d))
          clear S12
          refine hK.out _ _ ⟨S13.out.b.t.t.t.t.c4, S13.out.b.t.t.t.c4⟩ (fun h2 => ?_)
          clear hK K hH
          have hH := h2
          clear h2
          try simp only [nrm]
          refine anyH_world (fun w9 hW => ?_)
          rw [← hW] at S13 hH
          clear hW
          refine wpAnyH_done (by kernel_rfl) ?_ _
          clear hH
          go_wp2_with fail
          go_meet
          case rel => exact ⟨_, _, _, _, _, _, _, _, _, _, _, _, _, _, _, _, _, _, rfl, rfl, S13.out.swap⟩
        · go_simp
          have S10 := Lib.hid (S9.out.var (w5.heap.size) [.bool false, .slice none 0 0, .bool false, .slice none 0 0] 26 (by simp))
          clear S9
          refine hK.out _ _ ⟨S10.out.b.t.t.t.t.c4, S10.out.b.t.t.t.c4⟩ (fun h2 => ?_)
          clear hK K hH
          have hH := h2
          clear h2
          try simp only [nrm]
          refine anyH_world (fun w6 hW => ?_)
          rw [← hW] at S10 hH
          clear hW
          refine step_one 5 rfl (by kernel_rfl) (fun K hK => ?_)
          go_simp
          refine (rmul_any S10.out.n.t.rx S10.out.n.t.t.rx (by omega) (by omega) (by omega)).mono ?_
          rintro e w7 ⟨r2_m, r2_0, r2_n, r2_c, r2_k, r2_1, r2_l, r2_d, rfl, hX, hB⟩
          have S11 := Lib.hid (((S10.out.step hB).rc hX rfl))
          clear S10 hX hB
          go_wp2_with fail
          refine hK.out _ _ ⟨S11.out.b.t.t.t.t.c4, S11.out.b.t.t.t.c4⟩ (fun h2 => ?_)
          clear hK K hH
          have hH := h2
          clear h2
          try simp only [nrm]
          refine step_one 8 rfl (by kernel_rfl) (fun K hK => ?_)
          obtain ⟨c_b7_0, c_b7_1, c_b7_2, c_b7_3⟩ := S11.out.b.c4
          obtain ⟨f_b7_0, f_b7_1, f_b7_2, f_b7_3⟩ := S11.out.b.f4
          go_simp
          clear c_b7_0 c_b7_1 c_b7_2 c_b7_3 f_b7_0 f_b7_1 f_b7_2 f_b7_3
          have S12 : Hid (Sx w _ [⟨(w5.heap.size), [.bool r1_m, .slice r1_0 r1_n r1_c, .bool r1_k, .slice r1_1 r1_l r1_d]⟩, ⟨(w3.heap.size), [.bool false, .slice none 0 0, .bool false, .slice none 0 0]⟩, ⟨(w.heap.size + 2), [.bool m2, .slice a2 n2 c2, .bool k2, .slice b2 l2 d2]⟩, ⟨(w.heap.size + 1), [.bool m1, .slice a1 n1 c1, .bool k1, .slice b1 l1 d1]⟩, ⟨(w.heap.size), [.bool m0, .slice a0 n0 c0, .bool k0, .slice b0 l0 d0]⟩] _) := Lib.hid (Sx.set [] [⟨(w3.heap.size), [.bool false, .slice none 0 0, .bool false, .slice none 0 0]⟩, ⟨(w.heap.size + 2), [.bool m2, .slice a2 n2 c2, .bool k2, .slice b2 l2 d2]⟩, ⟨(w.heap.size + 1), [.bool m1, .slice a1 n1 c1, .bool k1, .slice b1 l1 d1]⟩, ⟨(w.heap.size), [.bool m0, .slice a0 n0 c0, .bool k0, .slice b0 l0 d0]⟩] (Sx.set [] [⟨(w3.heap.size), [.bool false, .slice none 0 0, .bool false, .slice none 0 0]⟩, ⟨(w.heap.size + 2), [.bool m2, .slice a2 n2 c2, .bool k2, .slice b2 l2 d2]⟩, ⟨(w.heap.size + 1), [.bool m1, .slice a1 n1 c1, .bool k1, .slice b1 l1 d1]⟩, ⟨(w.heap.size), [.bool m0, .slice a0 n0 c0, .bool k0, .slice b0 l0 d0]⟩] (Sx.set [] [⟨(w3.heap.size), [.bool false, .slice none 0 0, .bool false, .slice none 0 0]⟩, ⟨(w.heap.size + 2), [.bool m2, .slice a2 n2 c2, .bool k2, .slice b2 l2 d2]⟩, ⟨(w.heap.size + 1), [.bool m1, .slice a1 n1 c1, .bool k1, .slice b1 l1 d1]⟩, ⟨(w.heap.size), [.bool m0, .slice a0 n0 c0, .bool k0, .slice b0 l0 d0]⟩] (Sx.set [] [⟨(w3.heap.size), [.bool false, .slice none 0 0, .bool false, .slice none 0 0]⟩, ⟨(w.heap.size + 2), [.bool m2, .slice a2 n2 c2, .bool k2, .slice b2 l2 d2]⟩, ⟨(w.heap.size + 1), [.bool m1, .slice a1 n1 c1, .bool k1, .slice b1 l1 d1]⟩, ⟨(w.heap.size), [.bool m0, .slice a0 n0 c0, .bool k0, .slice b0 l0 d0]⟩] S11.out 0 (.bool r1_m)) 1 (.slice r1_0 r1_n r1_c)) 2 (.bool r1_k)) 3 (.slice r1_1 r1_l r1_d))
          clear S11
          refine hK.out _ _ ⟨S12.out.b.t.t.t.t.c4, S12.out.b.t.t.t.c4⟩ (fun h2 => ?_)
          clear hK K hH
          have hH := h2
          clear h2
          try simp only [nrm]
          refine anyH_world (fun w8 hW => ?_)
          rw [← hW] at S12 hH
          clear hW
          refine step_one 9 rfl (by kernel_rfl) (fun K hK => ?_)
          obtain ⟨c_b8_0, c_b8_1, c_b8_2, c_b8_3⟩ := S12.out.b.t.c4
          obtain ⟨f_b8_0, f_b8_1, f_b8_2, f_b8_3⟩ := S12.out.b.t.f4
          go_simp
          clear c_b8_0 c_b8_1 c_b8_2 c_b8_3 f_b8_0 f_b8_1 f_b8_2 f_b8_3
          have S13 : Hid (Sx w _ [⟨(w5.heap.size), [.bool r1_m, .slice r1_0 r1_n r1_c, .bool r1_k, .slice r1_1 r1_l r1_d]⟩, ⟨(w3.heap.size), [.bool r2_m, .slice r2_0 r2_n r2_c, .bool r2_k, .slice r2_1 r2_l r2_d]⟩, ⟨(w.heap.size + 2), [.bool m2, .slice a2 n2 c2, .bool k2, .slice b2 l2 d2]⟩, ⟨(w.heap.size + 1), [.bool m1, .slice a1 n1 c1, .bool k1, .slice b1 l1 d1]⟩, ⟨(w.heap.size), [.bool m0, .slice a0 n0 c0, .bool k0, .slice b0 l0 d0]⟩] _) := Lib.hid (Sx.set [⟨(w5.heap.size), [.bool r1_m, .slice r1_0 r1_n r1_c, .bool r1_k, .slice r1_1 r1_l r1_d]⟩] [⟨(w.heap.size + 2), [.bool m2, .slice a2 n2 c2, .bool k2, .slice b2 l2 d2]⟩, ⟨(w.heap.size + 1), [.bool m1, .slice a1 n1 c1, .bool k1, .slice b1 l1 d1]⟩, ⟨(w.heap.size), [.bool m0, .slice a0 n0 c0, .bool k0, .slice b0 l0 d0]⟩] (Sx.set [⟨(w5.heap.size), [.bool r1_m, .slice r1_0 r1_n r1_c, .bool r1_k, .slice r1_1 r1_l r1_d]⟩] [⟨(w.heap.size + 2), [.bool m2, .slice a2 n2 c2, .bool k2, .slice b2 l2 d2]⟩, ⟨(w.heap.size + 1), [.bool m1, .slice a1 n1 c1, .bool k1, .slice b1 l1 d1]⟩, ⟨(w.heap.size), [.bool m0, .slice a0 n0 c0, .bool k0, .slice b0 l0 d0]⟩] (Sx.set [⟨(w5.heap.size), [.bool r1_m, .slice r1_0 r1_n r1_c, .bool r1_k, .slice r1_1 r1_l r1_d]⟩] [⟨(w.heap.size + 2), [.bool m2, .slice a2 n2 c2, .bool k2, .slice b2 l2 d2]⟩, ⟨(w.heap.size + 1), [.bool m1, .slice a1 n1 c1, .bool k1, .slice b1 l1 d1]⟩, ⟨(w.heap.size), [.bool m0, .slice a0 n0 c0, .bool k0, .slice b0 l0 d0]⟩] (Sx.set [⟨(w5.heap.size), [.bool r1_m, .slice r1_0 r1_n r1_c, .bool r1_k, .slice r1_1 r1_l r1_d]⟩] [⟨(w.heap.size + 2), [.bool m2, .slice a2 n2 c2, .bool k2, .slice b2 l2 d2]⟩, ⟨(w.heap.size + 1), [.bool m1, .slice a1 n1 c1, .bool k1, .slice b1 l1 d1]⟩, ⟨(w.heap.size), [.bool m0, .slice a0 n0 c0, .bool k0, .slice b0 l0 d0]⟩] S12.out 0 (.bool r2_m)) 1 (.slice r2_0 r2_n r2_c)) 2 (.bool r2_k)) 3 (.slice r2_1 r2_l r2_d))
          clear S12
          refine hK.out _ _ ⟨S13.out.b.t.t.t.t.c4, S13.out.b.t.t.t.c4⟩ (fun h2 => ?_)
          clear hK K hH
          have hH := h2
          clear h2
          try simp only [nrm]
          refine anyH_world (fun w9 hW => ?_)
          rw [← hW] at S13 hH
          clear hW
          refine wpAnyH_done (by kernel_rfl) ?_ _
          clear hH
          go_wp2_with fail
          go_meet
          case rel => exact ⟨_, _, _, _, _, _, _, _, _, _, _, _, _, _, _, _, _, _, rfl, rfl, S13.out.swap⟩
      · go_simp
        have S9 := Lib.hid (S8.out.var (w4.heap.size) [.bool false, .slice none 0 0, .bool false, .slice none 0 0] 26 (by simp))
        clear S8
        refine hK.out _ _ ⟨S9.out.b.t.t.t.t.c4, S9.out.b.t.t.t.c4⟩ (fun h2 => ?_)
        clear hK K hH
        have hH := h2
        clear h2
        try simp only [nrm]
        refine anyH_world (fun w5 hW => ?_)
        rw [← hW] at S9 hH
        clear hW
        refine step_one 2 rfl (by kernel_rfl) (fun K hK => ?_)
        go_simp
        refine (radd_any S9.out.n.rx S9.out.n.t.rx (by omega) (by omega) (by omega)).mono ?_
        rintro e w6 ⟨r1_m, r1_0, r1_n, r1_c, r1_k, r1_1, r1_l, r1_d, rfl, hX, hB⟩
        have S10 := Lib.hid (((S9.out.step hB).rc hX rfl))
        clear S9 hX hB
        go_wp2_with fail
        refine hK.out _ _ ⟨S10.out.b.t.t.t.t.c4, S10.out.b.t.t.t.c4⟩ (fun h2 => ?_)
        clear hK K hH
        have hH := h2
        clear h2
        try simp only [nrm]
        refine step_one 5 rfl (by kernel_rfl) (fun K hK => ?_)
        go_simp
        refine (rmul_any S10.out.n.t.rx S10.out.n.t.t.rx (by omega) (by omega) (by omega)).mono ?_
        rintro e w7 ⟨r2_m, r2_0, r2_n, r2_c, r2_k, r2_1, r2_l, r2_d, rfl, hX, hB⟩
        have S11 := Lib.hid (((S10.out.step hB).rc hX rfl))
        clear S10 hX hB
        go_wp2_with fail
        refine hK.out _ _ ⟨S11.out.b.t.t.t.t.c4, S11.out.b.t.t.t.c4⟩ (fun h2 => ?_)
        clear hK K hH
        have hH := h2
        clear h2
        try simp only [nrm]
        refine step_one 8 rfl (by kernel_rfl) (fun K hK => ?_)
        obtain ⟨c_b7_0, c_b7_1, c_b7_2, c_b7_3⟩ := S11.out.b.c4
        obtain ⟨f_b7_0, f_b7_1, f_b7_2, f_b7_3⟩ := S11.out.b.f4
        go_simp
        clear c_b7_0 c_b7_1 c_b7_2 c_b7_3 f_b7_0 f_b7_1 f_b7_2 f_b7_3
        have S12 : Hid (Sx w _ [⟨(w4.heap.size), [.bool r1_m, .slice r1_0 r1_n r1_c, .bool r1_k, .slice r1_1 r1_l r1_d]⟩, ⟨(w3.heap.size), [.bool false, .slice none 0 0, .bool false, .slice none 0 0]⟩, ⟨(w.heap.size + 2), [.bool m2, .slice a2 n2 c2, .bool k2, .slice b2 l2 d2]⟩, ⟨(w.heap.size + 1), [.bool m1, .slice a1 n1 c1, .bool k1, .slice b1 l1 d1]⟩, ⟨(w.heap.size), [.bool m0, .slice a0 n0 c0, .bool k0, .slice b0 l0 d0]⟩] _) := Lib.hid (Sx.set [] [⟨(w3.heap.size), [.bool false, .slice none 0 0, .bool false, .slice none 0 0]⟩, ⟨(w.heap.size + 2), [.bool m2, .slice a2 n2 c2, .bool k2, .slice b2 l2 d2]⟩, ⟨(w.heap.size + 1), [.bool m1, .slice a1 n1 c1, .bool k1, .slice b1 l1 d1]⟩, ⟨(w.heap.size), [.bool m0, .slice a0 n0 c0, .bool k0, .slice b0 l0 d0]⟩] (Sx.set [] [⟨(w3.heap.size), [.bool false, .slice none 0 0, .bool false, .slice none 0 0]⟩, ⟨(w.heap.size + 2), [.bool m2, .slice a2 n2 c2, .bool k2, .slice b2 l2 d2]⟩, ⟨(w.heap.size + 1), [.bool m1, .slice a1 n1 c1, .bool k1, .slice b1 l1 d1]⟩, ⟨(w.heap.size), [.bool m0, .slice a0 n0 c0, .bool k0, .slice b0 l0 d0]⟩] (Sx.set [] [⟨(w3.heap.size), [.bool false, .slice none 0 0, .bool false, .slice none 0 0]⟩, ⟨(w.heap.size + 2), [.bool m2, .slice a2 n2 c2, .bool k2, .slice b2 l2 d2]⟩, ⟨(w.heap.size + 1), [.bool m1, .slice a1 n1 c1, .bool k1, .slice b1 l1 d1]⟩, ⟨(w.heap.size), [.bool m0, .slice a0 n0 c0, .bool k0, .slice b0 l0 d0]⟩] (Sx.set [] [⟨(w3.heap.size), [.bool false, .slice none 0 0, .bool false, .slice none 0 0]⟩, ⟨(w.heap.size + 2), [.bool m2, .slice a2 n2 c2, .bool k2, .slice b2 l2 d2]⟩, ⟨(w.heap.size + 1), [.bool m1, .slice a1 n1 c1, .bool k1, .slice b1 l1 d1]⟩, ⟨(w.heap.size), [.bool m0, .slice a0 n0 c0, .bool k0, .slice b0 l0 d0]⟩] S11.out 0 (.bool r1_m)) 1 (.slice r1_0 r1_n r1_c)) 2 (.bool r1_k)) 3 (.slice r1_1 r1_l r1_d))
        clear S11
        refine hK.out _ _ ⟨S12.out.b.t.t.t.t.c4, S12.out.b.t.t.t.c4⟩ (fun h2 => ?_)
        clear hK K hH
        have hH := h2
        clear h2
        try simp only [nrm]
        refine anyH_world (fun w8 hW => ?_)
        rw [← hW] at S12 hH
        clear hW
        refine step_one 9 rfl (by kernel_rfl) (fun K hK => ?_)
        obtain ⟨c_b8_0, c_b8_1, c_b8_2, c_b8_3⟩ := S12.out.b.t.c4
        obtain ⟨f_b8_0, f_b8_1, f_b8_2, f_b8_3⟩ := S12.out.b.t.f4
        go_simp
        clear c_b8_0 c_b8_1 c_b8_2 c_b8_3 f_b8_0 f_b8_1 f_b8_2 f_b8_3
        have S13 : Hid (Sx w _ [⟨(w4.heap.size), [.bool r1_m, .slice r1_0 r1_n r1_c, .bool r1_k, .slice r1_1 r1_l r1_d]⟩, ⟨(w3.heap.size), [.bool r2_m, .slice r2_0 r2_n r2_c, .bool r2_k, .slice r2_1 r2_l r2_d]⟩, ⟨(w.heap.size + 2), [.bool m2, .slice a2 n2 c2, .bool k2, .slice b2 l2 d2]⟩, ⟨(w.heap.size + 1), [.bool m1, .slice a1 n1 c1, .bool k1, .slice b1 l1 d1]⟩, ⟨(w.heap.size), [.bool m0, .slice a0 n0 c0, .bool k0, .slice b0 l0 d0]⟩] _) := Lib.hid (Sx.set [⟨(w4.heap.size), [.bool r1_m, .slice r1_0 r1_n r1_c, .bool r1_k, .slice r1_1 r1_l r1_d]⟩] [⟨(w.heap.size + 2), [.bool m2, .slice a2 n2 c2, .bool k2, .slice b2 l2 d2]⟩, ⟨(w.heap.size + 1), [.bool m1, .slice a1 n1 c1, .bool k1, .slice b1 l1 d1]⟩, ⟨(w.heap.size), [.bool m0, .slice a0 n0 c0, .bool k0, .slice b0 l0 d0]⟩] (Sx.set [⟨(w4.heap.size), [.bool r1_m, .slice r1_0 r1_n r1_c, .bool r1_k, .slice r1_1 r1_l r1_d]⟩] [⟨(w.heap.size + 2), [.bool m2, .slice a2 n2 c2, .bool k2, .slice b2 l2 d2]⟩, ⟨(w.heap.size + 1), [.bool m1, .slice a1 n1 c1, .bool k1, .slice b1 l1 d1]⟩, ⟨(w.heap.size), [.bool m0, .slice a0 n0 c0, .bool k0, .slice b0 l0 d0]⟩] (Sx.set [⟨(w4.heap.size), [.bool r1_m, .slice r1_0 r1_n r1_c, .bool r1_k, .slice r1_1 r1_l r1_d]⟩] [⟨(w.heap.size + 2), [.bool m2, .slice a2 n2 c2, .bool k2, .slice b2 l2 d2]⟩, ⟨(w.heap.size + 1), [.bool m1, .slice a1 n1 c1, .bool k1, .slice b1 l1 d1]⟩, ⟨(w.heap.size), [.bool m0, .slice a0 n0 c0, .bool k0, .slice b0 l0 d0]⟩] (Sx.set [⟨(w4.heap.size), [.bool r1_m, .slice r1_0 r1_n r1_c, .bool r1_k, .slice r1_1 r1_l r1_d]⟩] [⟨(w.heap.size + 2), [.bool m2, .slice a2 n2 c2, .bool k2, .slice b2 l2 d2]⟩, ⟨(w.heap.size + 1), [.bool m1, .slice a1 n1 c1, .bool k1, .slice b1 l1 d1]⟩, ⟨(w.heap.size), [.bool m0, .slice a0 n0 c0, .bool k0, .slice b0 l0 d0]⟩] S12.out 0 (.bool r2_m)) 1 (.slice r2_0 r2_n r2_c)) 2 (.bool r2_k)) 3 (.slice r2_1 r2_l r2_d))
        clear S12
        refine hK.out _ _ ⟨S13.out.b.t.t.t.t.c4, S13.out.b.t.t.t.c4⟩ (fun h2 => ?_)
        clear hK K hH
        have hH := h2
        clear h2
        try simp only [nrm]
        refine anyH_world (fun w9 hW => ?_)
        rw [← hW] at S13 hH
        clear hW
        refine wpAnyH_done (by kernel_rfl) ?_ _
        clear hH
        go_wp2_with fail
        go_meet
        case rel => exact ⟨_, _, _, _, _, _, _, _, _, _, _, _, _, _, _, _, _, _, rfl, rfl, S13.out.swap⟩
  case rest =>
  clear S6
  obtain ⟨qb7, qb8, r2_m, r2_0, r2_n, r2_c, r2_k, r2_1, r2_l, r2_d, r1_m, r1_0, r1_n, r1_c, r1_k, r1_1, r1_l, r1_d, rfl, rfl, S7⟩ := hcut
  obtain ⟨w10, hW⟩ : ∃ w10, w10 = wc := ⟨_, rfl⟩
  rw [← hW] at S7 ⊢
  clear hW
  go_wp2_with fail
  have S8 := Lib.hid (S7.out.drew)
  clear S7
  refine wp_region_held_drew (S := fun w' => (w'.cell? ⟨qb7, 0, none⟩ = some (.bool r1_m) ∧ w'.cell? ⟨qb7, 1, none⟩ = some (.slice r1_0 r1_n r1_c) ∧ w'.cell? ⟨qb7, 2, none⟩ = some (.bool r1_k) ∧ w'.cell? ⟨qb7, 3, none⟩ = some (.slice r1_1 r1_l r1_d)) ∧ (w'.cell? ⟨qb8, 0, none⟩ = some (.bool r2_m) ∧ w'.cell? ⟨qb8, 1, none⟩ = some (.slice r2_0 r2_n r2_c) ∧ w'.cell? ⟨qb8, 2, none⟩ = some (.bool r2_k) ∧ w'.cell? ⟨qb8, 3, none⟩ = some (.slice r2_1 r2_l r2_d)) ∧ (w'.cell? ⟨(w.heap.size + 1), 0, none⟩ = some (.bool m1) ∧ w'.cell? ⟨(w.heap.size + 1), 1, none⟩ = some (.slice a1 n1 c1) ∧ w'.cell? ⟨(w.heap.size + 1), 2, none⟩ = some (.bool k1) ∧ w'.cell? ⟨(w.heap.size + 1), 3, none⟩ = some (.slice b1 l1 d1)) ∧ (w'.cell? ⟨(w.heap.size), 0, none⟩ = some (.bool m0) ∧ w'.cell? ⟨(w.heap.size), 1, none⟩ = some (.slice a0 n0 c0) ∧ w'.cell? ⟨(w.heap.size), 2, none⟩ = some (.bool k0) ∧ w'.cell? ⟨(w.heap.size), 3, none⟩ = some (.slice b0 l0 d0)) ∧ (w'.cell? ⟨(w.heap.size + 2), 0, none⟩ = some (.bool m2) ∧ w'.cell? ⟨(w.heap.size + 2), 1, none⟩ = some (.slice a2 n2 c2) ∧ w'.cell? ⟨(w.heap.size + 2), 2, none⟩ = some (.bool k2) ∧ w'.cell? ⟨(w.heap.size + 2), 3, none⟩ = some (.slice b2 l2 d2))) (by kernel_rfl) (⟨S8.out.b.t.c4, S8.out.b.c4, S8.out.b.t.t.t.c4, S8.out.b.t.t.t.t.c4, S8.out.b.t.t.c4⟩) (fun hH => ?_)
  refine anyH_world (fun w11 hW => ?_)
  rw [← hW] at S8 hH
  clear hW
  refine step_on 0 rfl (by kernel_rfl) (fun _ _ _ h => h) (by rfl) hH (by intro w hS; go_simp <;> with_reducible rfl) ?_
  try simp only [nrm]
  refine step_one 1 rfl (by kernel_rfl) (fun K hK => ?_)
  go_simp
  refine (rmay_can S8.out.n.t.rc).mono ?_
  rintro e w12 ⟨rfl, hB⟩
  have S9 := Lib.hid ((S8.out.step hB))
  clear S8 hB
  go_wp2_with fail
  refine hK.out _ _ ⟨S9.out.b.t.c4, S9.out.b.c4, S9.out.b.t.t.t.c4, S9.out.b.t.t.t.t.c4, S9.out.b.t.t.c4⟩ (fun h2 => ?_)
  clear hK K hH
  have hH := h2
  clear h2
  try simp only [nrm]
  refine step_on 2 rfl (by kernel_rfl) (fun _ _ _ h => h) (by rfl) hH (by intro w hS; go_simp <;> with_reducible rfl) ?_
  try simp only [nrm]
  refine step_on 3 rfl (by kernel_rfl) (fun _ _ _ h => h) (by rfl) hH (by intro w hS; go_simp <;> with_reducible rfl) ?_
  try simp only [nrm]
  refine step_on 4 rfl (by kernel_rfl) (fun _ _ _ h => h) (by rfl) hH (by intro w hS; go_simp <;> with_reducible rfl) ?_
  try simp only [nrm]
  refine step_one 5 rfl (by kernel_rfl) (fun K hK => ?_)
  go_simp
  refine (rmay_can S9.out.n.rc).mono ?_
  rintro e w13 ⟨rfl, hB⟩
  have S10 := Lib.hid ((S9.out.step hB))
  clear S9 hB
  go_wp2_with fail
  refine hK.out _ _ ⟨S10.out.b.t.c4, S10.out.b.c4, S10.out.b.t.t.t.c4, S10.out.b.t.t.t.t.c4, S10.out.b.t.t.c4⟩ (fun h2 => ?_)
  clear hK K hH
  have hH := h2
  clear h2
  try simp only [nrm]
  refine step_on 6 rfl (by kernel_rfl) (fun _ _ _ h => h) (by rfl) hH (by intro w hS; go_simp <;> with_reducible rfl) ?_
  try simp only [nrm]
  refine step_on 7 rfl (by kernel_rfl) (fun _ _ _ h => h) (by rfl) hH (by intro w hS; go_simp <;> with_reducible rfl) ?_
  try simp only [nrm]
  refine step_on 8 rfl (by kernel_rfl) (fun _ _ _ h => h) (by rfl) hH (by intro w hS; go_simp <;> with_reducible rfl) ?_
  try simp only [nrm]
  refine step_on 9 rfl (by kernel_rfl) (fun _ _ _ h => h) (by rfl) hH (by intro w hS; go_simp <;> with_reducible rfl) ?_
  try simp only [nrm]
  refine step_on 10 rfl (by kernel_rfl) (fun _ _ _ h => h) (by rfl) hH (by intro w hS; go_simp <;> with_reducible rfl) ?_
  try simp only [nrm]
  refine step_on 12 rfl (by kernel_rfl) (fun _ _ _ h => h) (by rfl) hH (by intro w hS; go_simp <;> with_reducible rfl) ?_
  try simp only [nrm]
  refine step_one 11 rfl (by kernel_rfl) (fun K hK => ?_)
  go_simp
  refine (rsub_any S10.out.n.t.rc.rx S10.out.n.t.t.t.rx (by omega) (by omega) (by omega)).mono ?_
  rintro e w14 ⟨r3_m, r3_0, r3_n, r3_c, r3_k, r3_1, r3_l, r3_d, rfl, hX, hB⟩
  have S11 := Lib.hid (((S10.out.step hB).rc hX rfl))
  clear S10 hX hB
  go_wp2_with fail
  refine hK.out _ _ ⟨S11.out.b.t.c4, S11.out.b.c4, S11.out.b.t.t.t.c4, S11.out.b.t.t.t.t.c4, S11.out.b.t.t.c4⟩ (fun h2 => ?_)
  clear hK K hH
  have hH := h2
  clear h2
  try simp only [nrm]
  refine step_one 13 rfl (by kernel_rfl) (fun K hK => ?_)
  go_simp
  refine (rcmp_any (0) S11.out.n.rc.rx S11.out.n.t.t.t.rx (by omega) (by omega) (by omega) (qs_eq0 (by grind))).mono ?_
  rintro e w15 ⟨rfl, hB⟩
  have S12 := Lib.hid ((S11.out.step hB))
  clear S11 hB
  go_wp2_with fail
  refine hK.out _ _ ⟨S12.out.b.t.c4, S12.out.b.c4, S12.out.b.t.t.t.c4, S12.out.b.t.t.t.t.c4, S12.out.b.t.t.c4⟩ (fun h2 => ?_)
  clear hK K hH
  have hH := h2
  clear h2
  try simp only [nrm]
  refine step_on 14 rfl (by kernel_rfl) (fun _ _ _ h => h) (by rfl) hH (by intro w hS; go_simp <;> with_reducible rfl) ?_
  try simp only [nrm]
  refine step_on 15 rfl (by kernel_rfl) (fun _ _ _ h => h) (by rfl) hH (by intro w hS; go_simp <;> with_reducible rfl) ?_
  try simp only [nrm]
  refine step_on 16 rfl (by kernel_rfl) (fun _ _ _ h => h) (by rfl) hH (by intro w hS; go_simp <;> with_reducible rfl) ?_
  try simp only [nrm]
  refine step_on 17 rfl (by kernel_rfl) (fun _ _ _ h => h) (by rfl) hH (by intro w hS; go_simp <;> with_reducible rfl) ?_
  try simp only [nrm]
  refine step_on 18 rfl (by kernel_rfl) (fun _ _ _ h => h) (by rfl) hH (by intro w hS; go_simp <;> with_reducible rfl) ?_
  try simp only [nrm]
  refine step_on 20 rfl (by kernel_rfl) (fun _ _ _ h => h) (by rfl) hH (by intro w hS; go_simp <;> with_reducible rfl) ?_
  try simp only [nrm]
  refine step_on 21 rfl (by kernel_rfl) (fun _ _ _ h => h) (by rfl) hH (by intro w hS; go_simp <;> with_reducible rfl) ?_
  try simp only [nrm]
  refine step_on 22 rfl (by kernel_rfl) (fun _ _ _ h => h) (by rfl) hH (by intro w hS; go_simp <;> with_reducible rfl) ?_
  try simp only [nrm]
  refine step_one 19 rfl (by kernel_rfl) (fun K hK => ?_)
  go_simp
  refine (radd_any S12.out.n.t.t.rc.rx S12.out.n.t.t.t.t.t.rx (by omega) (by omega) (by omega)).mono ?_
  rintro e w16 ⟨r4_m, r4_0, r4_n, r4_c, r4_k, r4_1, r4_l, r4_d, rfl, hX, hB⟩
  have S13 := Lib.hid (((S12.out.step hB).rc hX rfl))
  clear S12 hX hB
  go_wp2_with fail
  refine hK.out _ _ ⟨S13.out.b.t.c4, S13.out.b.c4, S13.out.b.t.t.t.c4, S13.out.b.t.t.t.t.c4, S13.out.b.t.t.c4⟩ (fun h2 => ?_)
  clear hK K hH
  have hH := h2
  clear h2
  try simp only [nrm]
  refine step_one 23 rfl (by kernel_rfl) (fun K hK => ?_)
  go_simp
  refine (radd_any S13.out.n.t.t.t.t.t.rx S13.out.n.t.t.t.t.t.t.rx (by omega) (by omega) (by omega)).mono ?_
  rintro e w17 ⟨r5_m, r5_0, r5_n, r5_c, r5_k, r5_1, r5_l, r5_d, rfl, hX, hB⟩
  have S14 := Lib.hid (((S13.out.step hB).rc hX rfl))
  clear S13 hX hB
  go_wp2_with fail
  refine hK.out _ _ ⟨S14.out.b.t.c4, S14.out.b.c4, S14.out.b.t.t.t.c4, S14.out.b.t.t.t.t.c4, S14.out.b.t.t.c4⟩ (fun h2 => ?_)
  clear hK K hH
  have hH := h2
  clear h2
  try simp only [nrm]
  refine step_one 24 rfl (by kernel_rfl) (fun K hK => ?_)
  go_simp
  refine (radd_any S14.out.n.t.t.t.t.t.rx S14.out.n.rc.rx (by omega) (by omega) (by omega)).mono ?_
  rintro e w18 ⟨r6_m, r6_0, r6_n, r6_c, r6_k, r6_1, r6_l, r6_d, rfl, hX, hB⟩
  have S15 := Lib.hid (((S14.out.step hB).rc hX rfl))
  clear S14 hX hB
  go_wp2_with fail
  refine hK.out _ _ ⟨S15.out.b.t.c4, S15.out.b.c4, S15.out.b.t.t.t.c4, S15.out.b.t.t.t.t.c4, S15.out.b.t.t.c4⟩ (fun h2 => ?_)
  clear hK K hH
  have hH := h2
  clear h2
  try simp only [nrm]
  refine step_one 25 rfl (by kernel_rfl) (fun K hK => ?_)
  go_simp
  refine (rcmp_any (0) S15.out.n.t.t.rc.rx S15.out.n.rc.rx (by omega) (by omega) (by omega) (qs_eq0 (by grind))).mono ?_
  rintro e w19 ⟨rfl, hB⟩
  have S16 := Lib.hid ((S15.out.step hB))
  clear S15 hB
  go_wp2_with fail
  refine hK.out _ _ ⟨S16.out.b.t.c4, S16.out.b.c4, S16.out.b.t.t.t.c4, S16.out.b.t.t.t.t.c4, S16.out.b.t.t.c4⟩ (fun h2 => ?_)
  clear hK K hH
  have hH := h2
  clear h2
  try simp only [nrm]
  refine step_on 26 rfl (by kernel_rfl) (fun _ _ _ h => h) (by rfl) hH (by intro w hS; go_simp <;> with_reducible rfl) ?_
  try simp only [nrm]
  refine step_on 27 rfl (by kernel_rfl) (fun _ _ _ h => h) (by rfl) hH (by intro w hS; go_simp <;> with_reducible rfl) ?_
  try simp only [nrm]
  refine step_on 28 rfl (by kernel_rfl) (fun _ _ _ h => h) (by rfl) hH (by intro w hS; go_simp <;> with_reducible rfl) ?_
  try simp only [nrm]
  refine step_on 29 rfl (by kernel_rfl) (fun _ _ _ h => h) (by rfl) hH (by intro w hS; go_simp <;> with_reducible rfl) ?_
  try simp only [nrm]
  refine step_on 30 rfl (by kernel_rfl) (fun _ _ _ h => h) (by rfl) hH (by intro w hS; go_simp <;> with_reducible rfl) ?_
  try simp only [nrm]
  refine step_on 32 rfl (by kernel_rfl) (fun _ _ _ h => h) (by rfl) hH (by intro w hS; go_simp <;> with_reducible rfl) ?_
  try simp only [nrm]
  refine step_on 33 rfl (by kernel_rfl) (fun _ _ _ h => h) (by rfl) hH (by intro w hS; go_simp <;> with_reducible rfl) ?_
  try simp only [nrm]
  refine step_on 34 rfl (by kernel_rfl) (fun _ _ _ h => h) (by rfl) hH (by intro w hS; go_simp <;> with_reducible rfl) ?_
  try simp only [nrm]
  refine step_one 31 rfl (by kernel_rfl) (fun K hK => ?_)
  go_simp
  refine (rmul_any S16.out.n.t.t.t.t.rc.rx S16.out.n.t.t.t.t.t.t.t.t.rx (by omega) (by omega) (by omega)).mono ?_
  rintro e w20 ⟨r7_m, r7_0, r7_n, r7_c, r7_k, r7_1, r7_l, r7_d, rfl, hX, hB⟩
  have S17 := Lib.hid (((S16.out.step hB).rc hX rfl))
  clear S16 hX hB
  go_wp2_with fail
  refine hK.out _ _ ⟨S17.out.b.t.c4, S17.out.b.c4, S17.out.b.t.t.t.c4, S17.out.b.t.t.t.t.c4, S17.out.b.t.t.c4⟩ (fun h2 => ?_)
  clear hK K hH
  have hH := h2
  clear h2
  try simp only [nrm]
  refine step_one 35 rfl (by kernel_rfl) (fun K hK => ?_)
  go_simp
  refine (rmul_any S17.out.n.t.t.t.t.t.t.t.t.rx S17.out.n.t.t.t.t.t.t.t.t.t.rx (by omega) (by omega) (by omega)).mono ?_
  rintro e w21 ⟨r8_m, r8_0, r8_n, r8_c, r8_k, r8_1, r8_l, r8_d, rfl, hX, hB⟩
  have S18 := Lib.hid (((S17.out.step hB).rc hX rfl))
  clear S17 hX hB
  go_wp2_with fail
  refine hK.out _ _ ⟨S18.out.b.t.c4, S18.out.b.c4, S18.out.b.t.t.t.c4, S18.out.b.t.t.t.t.c4, S18.out.b.t.t.c4⟩ (fun h2 => ?_)
  clear hK K hH
  have hH := h2
  clear h2
  try simp only [nrm]
  refine step_one 36 rfl (by kernel_rfl) (fun K hK => ?_)
  go_simp
  refine (rmul_any S18.out.n.t.t.t.t.t.t.t.t.rx S18.out.n.rc.rx (by omega) (by omega) (by omega)).mono ?_
  rintro e w22 ⟨r9_m, r9_0, r9_n, r9_c, r9_k, r9_1, r9_l, r9_d, rfl, hX, hB⟩
  have S19 := Lib.hid (((S18.out.step hB).rc hX rfl))
  clear S18 hX hB
  go_wp2_with fail
  refine hK.out _ _ ⟨S19.out.b.t.c4, S19.out.b.c4, S19.out.b.t.t.t.c4, S19.out.b.t.t.t.t.c4, S19.out.b.t.t.c4⟩ (fun h2 => ?_)
  clear hK K hH
  have hH := h2
  clear h2
  try simp only [nrm]
  refine step_one 37 rfl (by kernel_rfl) (fun K hK => ?_)
  go_simp
  refine (rcmp_any (0) S19.out.n.t.t.rc.rx S19.out.n.rc.rx (by omega) (by omega) (by omega) (qs_eq0 (by grind))).mono ?_
  rintro e w23 ⟨rfl, hB⟩
  have S20 := Lib.hid ((S19.out.step hB))
  clear S19 hB
  go_wp2_with fail
  refine hK.out _ _ ⟨S20.out.b.t.c4, S20.out.b.c4, S20.out.b.t.t.t.c4, S20.out.b.t.t.t.t.c4, S20.out.b.t.t.c4⟩ (fun h2 => ?_)
  clear hK K hH
  have hH := h2
  clear h2
  try simp only [nrm]
  refine step_on 38 rfl (by kernel_rfl) (fun _ _ _ h => h) (by rfl) hH (by intro w hS; go_simp <;> with_reducible rfl) ?_
  try simp only [nrm]
  refine step_on 39 rfl (by kernel_rfl) (fun _ _ _ h => h) (by rfl) hH (by intro w hS; go_simp <;> with_reducible rfl) ?_
  try simp only [nrm]
  refine step_on 40 rfl (by kernel_rfl) (fun _ _ _ h => h) (by rfl) hH (by intro w hS; go_simp <;> with_reducible rfl) ?_
  try simp only [nrm]
  refine step_on 41 rfl (by kernel_rfl) (fun _ _ _ h => h) (by rfl) hH (by intro w hS; go_simp <;> with_reducible rfl) ?_
  try simp only [nrm]
  refine step_on 42 rfl (by kernel_rfl) (fun _ _ _ h => h) (by rfl) hH (by intro w hS; go_simp <;> with_reducible rfl) ?_
  try simp only [nrm]
  refine step_on 43 rfl (by kernel_rfl) (fun _ _ _ h => h) (by rfl) hH (by intro w hS; go_simp <;> with_reducible rfl) ?_
  try simp only [nrm]
  refine step_on 46 rfl (by kernel_rfl) (fun _ _ _ h => h) (by rfl) hH (by intro w hS; go_simp <;> with_reducible rfl) ?_
  try simp only [nrm]
  refine step_on 47 rfl (by kernel_rfl) (fun _ _ _ h => h) (by rfl) hH (by intro w hS; go_simp <;> with_reducible rfl) ?_
  try simp only [nrm]
  refine step_on 48 rfl (by kernel_rfl) (fun _ _ _ h => h) (by rfl) hH (by intro w hS; go_simp <;> with_reducible rfl) ?_
  try simp only [nrm]
  refine step_one 44 rfl (by kernel_rfl) (fun K hK => ?_)
  go_simp
  refine (radd_any S20.out.n.t.t.t.t.t.t.t.t.t.t.rx S20.out.n.t.t.t.t.t.t.t.t.t.t.t.rx (by omega) (by omega) (by omega)).mono ?_
  rintro e w24 ⟨r10_m, r10_0, r10_n, r10_c, r10_k, r10_1, r10_l, r10_d, rfl, hX, hB⟩
  have S21 := Lib.hid (((S20.out.step hB).rc hX rfl))
  clear S20 hX hB
  go_wp2_with fail
  refine hK.out _ _ ⟨S21.out.b.t.c4, S21.out.b.c4, S21.out.b.t.t.t.c4, S21.out.b.t.t.t.t.c4, S21.out.b.t.t.c4⟩ (fun h2 => ?_)
  clear hK K hH
  have hH := h2
  clear h2
  try simp only [nrm]
  refine step_one 45 rfl (by kernel_rfl) (fun K hK => ?_)
  go_simp
  refine (rmul_any S21.out.n.t.t.t.t.t.t.t.t.t.t.rx S21.out.n.rc.rx (by omega) (by omega) (by omega)).mono ?_
  rintro e w25 ⟨r11_m, r11_0, r11_n, r11_c, r11_k, r11_1, r11_l, r11_d, rfl, hX, hB⟩
  have S22 := Lib.hid (((S21.out.step hB).rc hX rfl))
  clear S21 hX hB
  go_wp2_with fail
  refine hK.out _ _ ⟨S22.out.b.t.c4, S22.out.b.c4, S22.out.b.t.t.t.c4, S22.out.b.t.t.t.t.c4, S22.out.b.t.t.c4⟩ (fun h2 => ?_)
  clear hK K hH
  have hH := h2
  clear h2
  try simp only [nrm]
  refine step_one 49 rfl (by kernel_rfl) (fun K hK => ?_)
  go_simp
  refine (rmul_any S22.out.n.t.t.t.t.t.t.t.t.t.t.t.rx S22.out.n.t.t.t.t.t.t.t.t.t.t.t.t.t.rx (by omega) (by omega) (by omega)).mono ?_
  rintro e w26 ⟨r12_m, r12_0, r12_n, r12_c, r12_k, r12_1, r12_l, r12_d, rfl, hX, hB⟩
  have S23 := Lib.hid (((S22.out.step hB).rc hX rfl))
  clear S22 hX hB
  go_wp2_with fail
  refine hK.out _ _ ⟨S23.out.b.t.c4, S23.out.b.c4, S23.out.b.t.t.t.c4, S23.out.b.t.t.t.t.c4, S23.out.b.t.t.c4⟩ (fun h2 => ?_)
  clear hK K hH
  have hH := h2
  clear h2
  try simp only [nrm]
  refine step_one 50 rfl (by kernel_rfl) (fun K hK => ?_)
  go_simp
  refine (radd_any S23.out.n.t.t.t.t.t.t.t.t.t.t.rc.rx S23.out.n.rc.rx (by omega) (by omega) (by omega)).mono ?_
  rintro e w27 ⟨r13_m, r13_0, r13_n, r13_c, r13_k, r13_1, r13_l, r13_d, rfl, hX, hB⟩
  have S24 := Lib.hid (((S23.out.step hB).rc hX rfl))
  clear S23 hX hB
  go_wp2_with fail
  refine hK.out _ _ ⟨S24.out.b.t.c4, S24.out.b.c4, S24.out.b.t.t.t.c4, S24.out.b.t.t.t.t.c4, S24.out.b.t.t.c4⟩ (fun h2 => ?_)
  clear hK K hH
  have hH := h2
  clear h2
  try simp only [nrm]
  refine step_one 51 rfl (by kernel_rfl) (fun K hK => ?_)
  go_simp
  refine (rcmp_any (0) S24.out.n.t.t.rc.rx S24.out.n.rc.rx (by omega) (by omega) (by omega) (qs_eq0 (by grind))).mono ?_
  rintro e w28 ⟨rfl, hB⟩
  have S25 := Lib.hid ((S24.out.step hB))
  clear S24 hB
  go_wp2_with fail
  refine hK.out _ _ ⟨S25.out.b.t.c4, S25.out.b.c4, S25.out.b.t.t.t.c4, S25.out.b.t.t.t.t.c4, S25.out.b.t.t.c4⟩ (fun h2 => ?_)
  clear hK K hH
  have hH := h2
  clear h2
  try simp only [nrm]
  refine step_on 52 rfl (by kernel_rfl) (fun _ _ _ h => h) (by rfl) hH (by intro w hS; go_simp <;> with_reducible rfl) ?_
  try simp only [nrm]
  refine step_on 53 rfl (by kernel_rfl) (fun _ _ _ h => h) (by rfl) hH (by intro w hS; go_simp <;> with_reducible rfl) ?_
  try simp only [nrm]
  refine wpAnyH_done (by kernel_rfl) ?_ _
  clear hH
  obtain ⟨c_b8_0, c_b8_1, c_b8_2, c_b8_3⟩ := S25.out.b.c4
  obtain ⟨c_b4_0, c_b4_1, c_b4_2, c_b4_3⟩ := S25.out.b.t.t.t.c4
  go_wp2_with fail
  clear c_b8_0 c_b8_1 c_b8_2 c_b8_3 c_b4_0 c_b4_1 c_b4_2 c_b4_3
  refine (rdiv_any S25.out.n.t.t.t.t.t.t.t.t.t.t.t.rc.rx S25.out.n.t.t.t.t.t.t.t.t.t.t.t.t.t.t.rx (by omega) (by omega) (by omega) (HH0.out)).mono ?_
  rintro e w29 ⟨r14_m, r14_0, r14_n, r14_c, r14_k, r14_1, r14_l, r14_d, rfl, hX, hB⟩
  have S26 := Lib.hid (((S25.out.step hB).rc hX rfl))
  clear S25 hX hB
  go_upto_region 7 with (fail)
  have S27 := Lib.hid (S26.out.var (w29.heap.size) [.bool r14_m, .slice r14_0 r14_n r14_c, .bool r14_k, .slice r14_1 r14_l r14_d] 26 (by simp))
  clear S26
  refine wp_world (fun w30 hW => ?_)
  rw [← hW] at S27
  clear hW
  obtain ⟨c_b4_0, c_b4_1, c_b4_2, c_b4_3⟩ := S27.out.b.t.t.t.t.c4
  go_wp2_with fail
  clear c_b4_0 c_b4_1 c_b4_2 c_b4_3
  refine (rsign_any (t) S27.out.n.t.t.t.t.t.t.t.t.t.t.t.t.t.t.t.rx (by omega) (Ht.out)).mono ?_
  rintro e w31 ⟨rfl, hB⟩
  have S28 := Lib.hid ((S27.out.step hB))
  clear S27 hB
  obtain ⟨c_b9_0, c_b9_1, c_b9_2, c_b9_3⟩ := S28.out.b.c4
  obtain ⟨c_b3_0, c_b3_1, c_b3_2, c_b3_3⟩ := S28.out.b.t.t.t.t.t.c4
  go_wp2_with fail
  clear c_b9_0 c_b9_1 c_b9_2 c_b9_3 c_b3_0 c_b3_1 c_b3_2 c_b3_3
  refine (rcmp_any (0) S28.out.n.rc.rx S28.out.n.t.t.t.t.t.t.t.t.t.t.t.t.t.t.rx (by omega) (by omega) (by omega) (qs_eq0 (q_back _ HH0.out))).mono ?_
  rintro e w32 ⟨rfl, hB⟩
  have S29 := Lib.hid ((S28.out.step hB))
  clear S28 hB
  go_wp2_with fail
  have S30 := Lib.hid (S29.out.drew)
  clear S29
  refine wp_region_held_drew (S := fun w' => (w'.cell? ⟨(w.heap.size), 0, none⟩ = some (.bool m0) ∧ w'.cell? ⟨(w.heap.size), 1, none⟩ = some (.slice a0 n0 c0) ∧ w'.cell? ⟨(w.heap.size), 2, none⟩ = some (.bool k0) ∧ w'.cell? ⟨(w.heap.size), 3, none⟩ = some (.slice b0 l0 d0)) ∧ (w'.cell? ⟨(w.heap.size + 1), 0, none⟩ = some (.bool m1) ∧ w'.cell? ⟨(w.heap.size + 1), 1, none⟩ = some (.slice a1 n1 c1) ∧ w'.cell? ⟨(w.heap.size + 1), 2, none⟩ = some (.bool k1) ∧ w'.cell? ⟨(w.heap.size + 1), 3, none⟩ = some (.slice b1 l1 d1)) ∧ (w'.cell? ⟨(w.heap.size + 2), 0, none⟩ = some (.bool m2) ∧ w'.cell? ⟨(w.heap.size + 2), 1, none⟩ = some (.slice a2 n2 c2) ∧ w'.cell? ⟨(w.heap.size + 2), 2, none⟩ = some (.bool k2) ∧ w'.cell? ⟨(w.heap.size + 2), 3, none⟩ = some (.slice b2 l2 d2))) (by kernel_rfl) (⟨S30.out.b.t.t.t.t.t.c4, S30.out.b.t.t.t.t.c4, S30.out.b.t.t.t.c4⟩) (fun hH => ?_)
  refine anyH_world (fun w33 hW => ?_)
  rw [← hW] at S30 hH
  clear hW
  refine step_on 0 rfl (by kernel_rfl) (fun _ _ _ h => h) (by rfl) hH (by intro w hS; go_simp <;> with_reducible rfl) ?_
  try simp only [nrm]
  refine step_on 1 rfl (by kernel_rfl) (fun _ _ _ h => h) (by rfl) hH (by intro w hS; go_simp <;> with_reducible rfl) ?_
  try simp only [nrm]
  refine step_on 3 rfl (by kernel_rfl) (fun _ _ _ h => h) (by rfl) hH (by intro w hS; go_simp <;> with_reducible rfl) ?_
  try simp only [nrm]
  refine step_on 4 rfl (by kernel_rfl) (fun _ _ _ h => h) (by rfl) hH (by intro w hS; go_simp <;> with_reducible rfl) ?_
  try simp only [nrm]
  refine step_on 6 rfl (by kernel_rfl) (fun _ _ _ h => h) (by rfl) hH (by intro w hS; go_simp <;> with_reducible rfl) ?_
  try simp only [nrm]
  refine step_on 7 rfl (by kernel_rfl) (fun _ _ _ h => h) (by rfl) hH (by intro w hS; go_simp <;> with_reducible rfl) ?_
  try simp only [nrm]
  refine step_one 2 rfl (by kernel_rfl) (fun K hK => ?_)
  go_simp
  refine (rcmp_any (c) S30.out.n.t.t.t.t.t.t.t.t.t.t.t.t.t.t.rx S30.out.n.t.t.t.t.t.t.t.t.t.t.t.t.t.t.t.rx (by omega) (by omega) (by omega) (Hc.out)).mono ?_
  rintro e w34 ⟨rfl, hB⟩
  have S31 := Lib.hid ((S30.out.step hB))
  clear S30 hB
  go_wp2_with fail
  refine hK.out _ _ ⟨S31.out.b.t.t.t.t.t.c4, S31.out.b.t.t.t.t.c4, S31.out.b.t.t.t.c4⟩ (fun h2 => ?_)
  clear hK K hH
  have hH := h2
  clear h2
  try simp only [nrm]
  refine step_one 5 rfl (by kernel_rfl) (fun K hK => ?_)
  go_simp
  refine (radd_any S31.out.n.t.t.t.t.t.t.t.t.t.t.t.t.t.t.rx S31.out.n.t.t.t.t.t.t.t.t.t.t.t.t.t.t.t.t.rx (by omega) (by omega) (by omega)).mono ?_
  rintro e w35 ⟨r15_m, r15_0, r15_n, r15_c, r15_k, r15_1, r15_l, r15_d, rfl, hX, hB⟩
  have S32 := Lib.hid (((S31.out.step hB).rc hX rfl))
  clear S31 hX hB
  go_wp2_with fail
  refine hK.out _ _ ⟨S32.out.b.t.t.t.t.t.c4, S32.out.b.t.t.t.t.c4, S32.out.b.t.t.t.c4⟩ (fun h2 => ?_)
  clear hK K hH
  have hH := h2
  clear h2
  try simp only [nrm]
  refine step_one 8 rfl (by kernel_rfl) (fun K hK => ?_)
  go_simp
  refine (radd_any S32.out.n.t.t.t.t.t.t.t.t.t.t.t.t.t.t.t.t.rx S32.out.n.t.t.t.t.t.t.t.t.t.t.t.t.t.t.t.t.t.rx (by omega) (by omega) (by omega)).mono ?_
  rintro e w36 ⟨r16_m, r16_0, r16_n, r16_c, r16_k, r16_1, r16_l, r16_d, rfl, hX, hB⟩
  have S33 := Lib.hid (((S32.out.step hB).rc hX rfl))
  clear S32 hX hB
  go_wp2_with fail
  refine hK.out _ _ ⟨S33.out.b.t.t.t.t.t.c4, S33.out.b.t.t.t.t.c4, S33.out.b.t.t.t.c4⟩ (fun h2 => ?_)
  clear hK K hH
  have hH := h2
  clear h2
  try simp only [nrm]
  refine step_one 9 rfl (by kernel_rfl) (fun K hK => ?_)
  go_simp
  refine (rcmp_any (c) S33.out.n.t.rc.rx S33.out.n.rc.rx (by omega) (by omega) (by omega) ((qs_plus r0 r1 r2).trans Hc.out)).mono ?_
  rintro e w37 ⟨rfl, hB⟩
  have S34 := Lib.hid ((S33.out.step hB))
  clear S33 hB
  go_wp2_with fail
  refine hK.out _ _ ⟨S34.out.b.t.t.t.t.t.c4, S34.out.b.t.t.t.t.c4, S34.out.b.t.t.t.c4⟩ (fun h2 => ?_)
  clear hK K hH
  have hH := h2
  clear h2
  try simp only [nrm]
  refine step_on 10 rfl (by kernel_rfl) (fun _ _ _ h => h) (by rfl) hH (by intro w hS; go_simp <;> with_reducible rfl) ?_
  try simp only [nrm]
  refine step_on 11 rfl (by kernel_rfl) (fun _ _ _ h => h) (by rfl) hH (by intro w hS; go_simp <;> with_reducible rfl) ?_
  try simp only [nrm]
  refine step_one 12 rfl (by kernel_rfl) (fun K hK => ?_)
  go_simp
  refine (known6_any _ (HT.out.below S34.out.h)).mono ?_
  rintro e w38 ⟨rfl, hB⟩
  have S35 := Lib.hid ((S34.out.step hB))
  clear S34 hB
  go_wp2_with fail
  refine hK.out _ _ ⟨S35.out.b.t.t.t.t.t.c4, S35.out.b.t.t.t.t.c4, S35.out.b.t.t.t.c4⟩ (fun h2 => ?_)
  clear hK K hH
  have hH := h2
  clear h2
  try simp only [nrm]
  refine step_on 13 rfl (by kernel_rfl) (fun _ _ _ h => h) (by rfl) hH (by intro w hS; go_simp <;> with_reducible rfl) ?_
  try simp only [nrm]
  refine step_on 14 rfl (by kernel_rfl) (fun _ _ _ h => h) (by rfl) hH (by intro w hS; go_simp <;> with_reducible rfl) ?_
  try simp only [nrm]
  refine wpAnyH_done (by kernel_rfl) ?_ _
  clear hH
  go_wp2_with fail
  go_ret
  exact ⟨rfl, S35.out.h⟩

end Go.Proofs.YteceomlbnajihaaGreatDoor
