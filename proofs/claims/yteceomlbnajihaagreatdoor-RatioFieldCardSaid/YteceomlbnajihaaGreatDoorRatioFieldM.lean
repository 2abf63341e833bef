/-
  The walk of the law RatioField.
-/
import Derived.Test.YteceomlbnajihaaGreatDoorRatioPre
import Derived.Test.YteceomlbnajihaaGreatDoorEnSet
import Derived.Deep.Cut
import Derived.Deep.CutRange
set_option maxRecDepth 8192
namespace Go.Proofs.YteceomlbnajihaaGreatDoor
open Go.RowKit

set_option maxHeartbeats 8000000 in
set_option maxRecDepth 100000 in
theorem ratioField_main {m0 k0 : Bool} {a0 b0 : Option Addr} {n0 c0 l0 d0 : Nat} {m1 k1 : Bool} {a1 b1 : Option Addr} {n1 c1 l1 d1 : Nat} {xs0 ys0 xs1 ys1 : List Nat} {w : World} (hs0 : Sl w a0 n0 c0 xs0) (ht0 : Sl w b0 l0 d0 ys0) (hs1 : Sl w a1 n1 c1 xs1) (ht1 : Sl w b1 l1 d1 ys1) (ht : Tab w) (p0 : n0 ≤ 8) (q0 : l0 ≤ 8) (p1 : n1 ≤ 8) (q1 : l1 ≤ 8) :
    Calls Tryz.prog 3 #[.agg #[.bool m0, .slice a0 n0 c0, .bool k0, .slice b0 l0 d0], .agg #[.bool m1, .slice a1 n1 c1, .bool k1, .slice b1 l1 d1]] w (RetB (.bool true) w) := by
  obtain ⟨x0, hx0⟩ : ∃ x, zOf m0 (val xs0) = x := ⟨_, rfl⟩
  obtain ⟨e0, he0⟩ : ∃ x, zOf k0 (val ys0) = x := ⟨_, rfl⟩
  obtain ⟨r0, hr0⟩ : ∃ q, qv x0 e0 = q := ⟨_, rfl⟩
  have hR0 := rx_of hs0 ht0 hx0 he0 hr0 p0 q0
  have P0 := Lib.hid (lim_no p0)
  have Q0 := Lib.hid (lim_no q0)
  have HXO0 := Lib.hid (And.intro hx0 (And.intro he0 (And.intro hr0 (And.intro p0 q0))))
  clear hx0 he0 hr0 p0 q0
  obtain ⟨x1, hx1⟩ : ∃ x, zOf m1 (val xs1) = x := ⟨_, rfl⟩
  obtain ⟨e1, he1⟩ : ∃ x, zOf k1 (val ys1) = x := ⟨_, rfl⟩
  obtain ⟨r1, hr1⟩ : ∃ q, qv x1 e1 = q := ⟨_, rfl⟩
  have hR1 := rx_of hs1 ht1 hx1 he1 hr1 p1 q1
  have P1 := Lib.hid (lim_no p1)
  have Q1 := Lib.hid (lim_no q1)
  have HXO1 := Lib.hid (And.intro hx1 (And.intro he1 (And.intro hr1 (And.intro p1 q1))))
  clear hx1 he1 hr1 p1 q1
  have HT := Lib.hid ht
  clear ht
  obtain ⟨b0v, hm⟩ : ∃ r, rmayB m0 xs0 k0 ys0 = r := ⟨_, rfl⟩
  have HM := Lib.hid hm
  clear hm
  obtain ⟨u, hu⟩ : ∃ u : ByteArray, u = ratS r0 := ⟨_, rfl⟩
  have HU := Lib.hid hu
  clear hu
  obtain ⟨s, hs⟩ : ∃ x, qs r0 = x := ⟨_, rfl⟩
  have Hs := Lib.hid hs
  clear hs
  obtain ⟨c, hc⟩ : ∃ x, qs (r0 - r1) = x := ⟨_, rfl⟩
  have Hc := Lib.hid hc
  clear hc
  obtain ⟨t, ht⟩ : ∃ x, qs r1 = x := ⟨_, rfl⟩
  have Ht := Lib.hid ht
  clear ht
  go_enter Tryz.func3, Tryz.ntmps3
  have S0 := Lib.hid (Sx.start (w := w) (N := [.rx m0 a0 n0 c0 k0 b0 l0 d0 x0 e0 r0 8, .sl a0 n0 c0 xs0, .sl b0 l0 d0 ys0, .rx m1 a1 n1 c1 k1 b1 l1 d1 x1 e1 r1 8, .sl a1 n1 c1 xs1, .sl b1 l1 d1 ys1]) ⟨hR0, hs0, ht0, hR1, hs1, ht1, trivial⟩)
  clear hR0 hs0 ht0 hR1 hs1 ht1
  have S1 := Lib.hid (S0.out.var (w.heap.size) [.bool m0, .slice a0 n0 c0, .bool k0, .slice b0 l0 d0] 26 (by simp))
  clear S0
  have S2 := Lib.hid (S1.out.var (w.heap.size + 1) [.bool m1, .slice a1 n1 c1, .bool k1, .slice b1 l1 d1] 26 (by simp))
  clear S1
  go_upto_region 1 with (fail)
  refine wp_world (fun w1 hW => ?_)
  rw [← hW] at S2
  clear hW
  obtain ⟨c_b2_0, c_b2_1, c_b2_2, c_b2_3⟩ := S2.out.b.t.c4
  obtain ⟨c_b3_0, c_b3_1, c_b3_2, c_b3_3⟩ := S2.out.b.c4
  go_wp2_with fail
  clear c_b2_0 c_b2_1 c_b2_2 c_b2_3 c_b3_0 c_b3_1 c_b3_2 c_b3_3
  have S3 := Lib.hid (S2.out.var (w1.heap.size) [.bool m0, .slice a0 n0 c0, .bool k0, .slice b0 l0 d0, .bool m1, .slice a1 n1 c1, .bool k1, .slice b1 l1 d1] 26 (by simp))
  clear S2
  refine (great6_2 false S3.out.b.1 (by rw [P0.out, Q0.out, P1.out, Q1.out]; rfl)).mono ?_
  rintro e w2 ⟨rfl, hB⟩
  have S4 := Lib.hid ((S3.out.step hB))
  clear S3 hB
  have S5 := Lib.hid (S4.out.pop)
  clear S4
  go_wp2_with fail
  go_cut [5, 6] from 16 to 20 (fun sl0 sl1 w9 => ∃ (qb5 : Nat) (qb6 : Nat) (o1_0 : Option Addr) (o1_c : Nat) (o1_1 : Option Addr) (o1_d : Nat) (o0_0 : Option Addr) (o0_c : Nat) (o0_1 : Option Addr) (o0_d : Nat), sl0 = .pointer (some ⟨qb5, 0, none⟩) ∧ sl1 = .pointer (some ⟨qb6, 0, none⟩) ∧ Hid (Sx w w9 [⟨qb6, [.bool m1, .slice o1_0 n1 o1_c, .bool k1, .slice o1_1 l1 o1_d]⟩, ⟨qb5, [.bool m0, .slice o0_0 n0 o0_c, .bool k0, .slice o0_1 l0 o0_d]⟩, ⟨(w.heap.size + 1), [.bool m1, .slice a1 n1 c1, .bool k1, .slice b1 l1 d1]⟩, ⟨(w.heap.size), [.bool m0, .slice a0 n0 c0, .bool k0, .slice b0 l0 d0]⟩] [.rx m1 o1_0 n1 o1_c k1 o1_1 l1 o1_d x1 e1 r1 8, .sl o1_0 n1 o1_c xs1, .sl o1_1 l1 o1_d ys1, .rx m0 o0_0 n0 o0_c k0 o0_1 l0 o0_d x0 e0 r0 8, .sl o0_0 n0 o0_c xs0, .sl o0_1 l0 o0_d ys0, .rx m0 a0 n0 c0 k0 b0 l0 d0 x0 e0 r0 8, .sl a0 n0 c0 xs0, .sl b0 l0 d0 ys0, .rx m1 a1 n1 c1 k1 b1 l1 d1 x1 e1 r1 8, .sl a1 n1 c1 xs1, .sl b1 l1 d1 ys1]))
  case first =>
    have S6 := Lib.hid (S5.out.drew)
    clear S5
    refine wp_region_held_drew (S := fun w' => (w'.cell? ⟨(w.heap.size), 0, none⟩ = some (.bool m0) ∧ w'.cell? ⟨(w.heap.size), 1, none⟩ = some (.slice a0 n0 c0) ∧ w'.cell? ⟨(w.heap.size), 2, none⟩ = some (.bool k0) ∧ w'.cell? ⟨(w.heap.size), 3, none⟩ = some (.slice b0 l0 d0)) ∧ (w'.cell? ⟨(w.heap.size + 1), 0, none⟩ = some (.bool m1) ∧ w'.cell? ⟨(w.heap.size + 1), 1, none⟩ = some (.slice a1 n1 c1) ∧ w'.cell? ⟨(w.heap.size + 1), 2, none⟩ = some (.bool k1) ∧ w'.cell? ⟨(w.heap.size + 1), 3, none⟩ = some (.slice b1 l1 d1))) (by kernel_rfl) (⟨S6.out.b.t.c4, S6.out.b.c4⟩) (fun hH => ?_)
    refine anyH_world (fun w3 hW => ?_)
    rw [← hW] at S6 hH
    clear hW
    refine step_on 0 rfl (by kernel_rfl) (fun _ _ _ h => h) (by rfl) hH (by intro w hS; go_simp <;> with_reducible rfl) ?_
    try simp only [nrm]
    refine step_on 2 rfl (by kernel_rfl) (fun _ _ _ h => h) (by rfl) hH (by intro w hS; go_simp <;> with_reducible rfl) ?_
    try simp only [nrm]
    refine wpAnyH_ready (rs := [1, 4, 5]) (by kernel_rfl) (by simp) (ready_cons rfl (fun K hK => ?_) (ready_cons rfl (fun K hK => ?_) (ready_cons rfl (fun K hK => ?_) (AllReadyH.nil))))
    ·go_simp
     refine (own6_any S6.out.n.t.sl S6.out.n.t.t.sl).mono ?_
     rintro e w4 ⟨o0_0, o0_c, o0_1, o0_d, rfl, hX, hY, hB⟩
     have S7 := Lib.hid (((((S6.out.step hB).sl hY rfl).sl hX rfl).rx (rx_of hX hY HXO0.out.1 HXO0.out.2.1 HXO0.out.2.2.1 HXO0.out.2.2.2.1 HXO0.out.2.2.2.2) rfl))
     clear S6 hX hY hB
     go_wp2_with fail
     refine hK.out _ _ ⟨S7.out.b.t.c4, S7.out.b.c4⟩ (fun h2 => ?_)
     clear hK K hH; have hH := h2; clear h2; try simp only [nrm]
     refine wpAnyH_ready (rs := [3, 4, 5]) (by kernel_rfl) (by simp) (ready_cons rfl (fun K hK => ?_) (ready_cons rfl (fun K hK => ?_) (ready_cons rfl (fun K hK => ?_) (AllReadyH.nil))))
     ·go_simp
      refine (own6_any S7.out.n.t.t.t.t.t.t.t.sl S7.out.n.t.t.t.t.t.t.t.t.sl).mono ?_
      rintro e w5 ⟨o1_0, o1_c, o1_1, o1_d, rfl, hX, hY, hB⟩
      have S8 := Lib.hid (((((S7.out.step hB).sl hY rfl).sl hX rfl).rx (rx_of hX hY HXO1.out.1 HXO1.out.2.1 HXO1.out.2.2.1 HXO1.out.2.2.2.1 HXO1.out.2.2.2.2) rfl))
      clear S7 hX hY hB
      go_wp2_with fail
      refine hK.out _ _ ⟨S8.out.b.t.c4, S8.out.b.c4⟩ (fun h2 => ?_)
      clear hK K hH; have hH := h2; clear h2; try simp only [nrm]
      refine wpAnyH_ready (rs := [4, 5]) (by kernel_rfl) (by simp) (ready_cons rfl (fun K hK => ?_) (ready_cons rfl (fun K hK => ?_) (AllReadyH.nil)))
      ·go_simp
       have S9 := Lib.hid (S8.out.var (w5.heap.size) [.bool false, .slice none 0 0, .bool false, .slice none 0 0] 26 (by simp))
       clear S8
       refine hK.out _ _ ⟨S9.out.b.t.t.c4, S9.out.b.t.c4⟩ (fun h2 => ?_)
       clear hK K hH; have hH := h2; clear h2; try simp only [nrm]
       refine anyH_world (fun w6 hW => ?_)
       rw [← hW] at S9 hH
       clear hW
       refine step_one 5 rfl (by kernel_rfl) (fun K hK => ?_)
       go_simp
       have S10 := Lib.hid (S9.out.var (w6.heap.size) [.bool false, .slice none 0 0, .bool false, .slice none 0 0] 26 (by simp))
       clear S9
       refine hK.out _ _ ⟨S10.out.b.t.t.t.c4, S10.out.b.t.t.c4⟩ (fun h2 => ?_)
       clear hK K hH; have hH := h2; clear h2; try simp only [nrm]
       refine anyH_world (fun w7 hW => ?_)
       rw [← hW] at S10 hH
       clear hW
       refine step_one 6 rfl (by kernel_rfl) (fun K hK => ?_)
       obtain ⟨c_b5_0, c_b5_1, c_b5_2, c_b5_3⟩ := S10.out.b.t.c4
       obtain ⟨f_b5_0, f_b5_1, f_b5_2, f_b5_3⟩ := S10.out.b.t.f4
       go_simp
       clear c_b5_0 c_b5_1 c_b5_2 c_b5_3 f_b5_0 f_b5_1 f_b5_2 f_b5_3
       have S11 : Hid (Sx w _ [⟨(w6.heap.size), [.bool false, .slice none 0 0, .bool false, .slice none 0 0]⟩, ⟨(w5.heap.size), [.bool m0, .slice o0_0 n0 o0_c, .bool k0, .slice o0_1 l0 o0_d]⟩, ⟨(w.heap.size + 1), [.bool m1, .slice a1 n1 c1, .bool k1, .slice b1 l1 d1]⟩, ⟨(w.heap.size), [.bool m0, .slice a0 n0 c0, .bool k0, .slice b0 l0 d0]⟩] _) := Lib.hid (Sx.set4 S10.out 1 rfl _ _ _ _)
       clear S10
       refine hK.out _ _ ⟨S11.out.b.t.t.t.c4, S11.out.b.t.t.c4⟩ (fun h2 => ?_)
       clear hK K hH; have hH := h2; clear h2; try simp only [nrm]
       refine anyH_world (fun w8 hW => ?_)
       rw [← hW] at S11 hH
       clear hW
       refine step_one 7 rfl (by kernel_rfl) (fun K hK => ?_)
       obtain ⟨c_b6_0, c_b6_1, c_b6_2, c_b6_3⟩ := S11.out.b.c4
       obtain ⟨f_b6_0, f_b6_1, f_b6_2, f_b6_3⟩ := S11.out.b.f4
       go_simp
       clear c_b6_0 c_b6_1 c_b6_2 c_b6_3 f_b6_0 f_b6_1 f_b6_2 f_b6_3
       have S12 : Hid (Sx w _ [⟨(w6.heap.size), [.bool m1, .slice o1_0 n1 o1_c, .bool k1, .slice o1_1 l1 o1_d]⟩, ⟨(w5.heap.size), [.bool m0, .slice o0_0 n0 o0_c, .bool k0, .slice o0_1 l0 o0_d]⟩, ⟨(w.heap.size + 1), [.bool m1, .slice a1 n1 c1, .bool k1, .slice b1 l1 d1]⟩, ⟨(w.heap.size), [.bool m0, .slice a0 n0 c0, .bool k0, .slice b0 l0 d0]⟩] _) := Lib.hid (Sx.set4 S11.out 0 rfl _ _ _ _)
       clear S11
       refine hK.out _ _ ⟨S12.out.b.t.t.t.c4, S12.out.b.t.t.c4⟩ (fun h2 => ?_)
       clear hK K hH; have hH := h2; clear h2; try simp only [nrm]
       refine anyH_world (fun w9 hW => ?_)
       rw [← hW] at S12 hH
       clear hW
       refine wpAnyH_done (by kernel_rfl) ?_ _
       clear hH
       go_wp2_with fail
       go_meet
       case rel => exact ⟨_, _, _, _, _, _, _, _, _, _, rfl, rfl, S12.out⟩
      ·go_simp
       have S9 := Lib.hid (S8.out.var (w5.heap.size) [.bool false, .slice none 0 0, .bool false, .slice none 0 0] 26 (by simp))
       clear S8
       refine hK.out _ _ ⟨S9.out.b.t.t.c4, S9.out.b.t.c4⟩ (fun h2 => ?_)
       clear hK K hH; have hH := h2; clear h2; try simp only [nrm]
       refine anyH_world (fun w6 hW => ?_)
       rw [← hW] at S9 hH
       clear hW
       refine step_one 4 rfl (by kernel_rfl) (fun K hK => ?_)
       go_simp
       have S10 := Lib.hid (S9.out.var (w6.heap.size) [.bool false, .slice none 0 0, .bool false, .slice none 0 0] 26 (by simp))
       clear S9
       refine hK.out _ _ ⟨S10.out.b.t.t.t.c4, S10.out.b.t.t.c4⟩ (fun h2 => ?_)
       clear hK K hH; have hH := h2; clear h2; try simp only [nrm]
       refine anyH_world (fun w7 hW => ?_)
       rw [← hW] at S10 hH
       clear hW
       refine step_one 6 rfl (by kernel_rfl) (fun K hK => ?_)
       obtain ⟨c_b5_0, c_b5_1, c_b5_2, c_b5_3⟩ := S10.out.b.c4
       obtain ⟨f_b5_0, f_b5_1, f_b5_2, f_b5_3⟩ := S10.out.b.f4
       go_simp
       clear c_b5_0 c_b5_1 c_b5_2 c_b5_3 f_b5_0 f_b5_1 f_b5_2 f_b5_3
       have S11 : Hid (Sx w _ [⟨(w6.heap.size), [.bool m0, .slice o0_0 n0 o0_c, .bool k0, .slice o0_1 l0 o0_d]⟩, ⟨(w5.heap.size), [.bool false, .slice none 0 0, .bool false, .slice none 0 0]⟩, ⟨(w.heap.size + 1), [.bool m1, .slice a1 n1 c1, .bool k1, .slice b1 l1 d1]⟩, ⟨(w.heap.size), [.bool m0, .slice a0 n0 c0, .bool k0, .slice b0 l0 d0]⟩] _) := Lib.hid (Sx.set4 S10.out 0 rfl _ _ _ _)
       clear S10
       refine hK.out _ _ ⟨S11.out.b.t.t.t.c4, S11.out.b.t.t.c4⟩ (fun h2 => ?_)
       clear hK K hH; have hH := h2; clear h2; try simp only [nrm]
       refine anyH_world (fun w8 hW => ?_)
       rw [← hW] at S11 hH
       clear hW
       refine step_one 7 rfl (by kernel_rfl) (fun K hK => ?_)
       obtain ⟨c_b6_0, c_b6_1, c_b6_2, c_b6_3⟩ := S11.out.b.t.c4
       obtain ⟨f_b6_0, f_b6_1, f_b6_2, f_b6_3⟩ := S11.out.b.t.f4
       go_simp
       clear c_b6_0 c_b6_1 c_b6_2 c_b6_3 f_b6_0 f_b6_1 f_b6_2 f_b6_3
       have S12 : Hid (Sx w _ [⟨(w6.heap.size), [.bool m0, .slice o0_0 n0 o0_c, .bool k0, .slice o0_1 l0 o0_d]⟩, ⟨(w5.heap.size), [.bool m1, .slice o1_0 n1 o1_c, .bool k1, .slice o1_1 l1 o1_d]⟩, ⟨(w.heap.size + 1), [.bool m1, .slice a1 n1 c1, .bool k1, .slice b1 l1 d1]⟩, ⟨(w.heap.size), [.bool m0, .slice a0 n0 c0, .bool k0, .slice b0 l0 d0]⟩] _) := Lib.hid (Sx.set4 S11.out 1 rfl _ _ _ _)
       clear S11
       refine hK.out _ _ ⟨S12.out.b.t.t.t.c4, S12.out.b.t.t.c4⟩ (fun h2 => ?_)
       clear hK K hH; have hH := h2; clear h2; try simp only [nrm]
       refine anyH_world (fun w9 hW => ?_)
       rw [← hW] at S12 hH
       clear hW
       refine wpAnyH_done (by kernel_rfl) ?_ _
       clear hH
       go_wp2_with fail
       go_meet
       case rel => exact ⟨_, _, _, _, _, _, _, _, _, _, rfl, rfl, S12.out.swap⟩
     ·go_simp
      have S8 := Lib.hid (S7.out.var (w4.heap.size) [.bool false, .slice none 0 0, .bool false, .slice none 0 0] 26 (by simp))
      clear S7
      refine hK.out _ _ ⟨S8.out.b.t.t.c4, S8.out.b.t.c4⟩ (fun h2 => ?_)
      clear hK K hH; have hH := h2; clear h2; try simp only [nrm]
      refine anyH_world (fun w5 hW => ?_)
      rw [← hW] at S8 hH
      clear hW
      refine wpAnyH_ready (rs := [3, 5]) (by kernel_rfl) (by simp) (ready_cons rfl (fun K hK => ?_) (ready_cons rfl (fun K hK => ?_) (AllReadyH.nil)))
      ·go_simp
       refine (own6_any S8.out.n.t.t.t.t.t.t.t.sl S8.out.n.t.t.t.t.t.t.t.t.sl).mono ?_
       rintro e w6 ⟨o1_0, o1_c, o1_1, o1_d, rfl, hX, hY, hB⟩
       have S9 := Lib.hid (((((S8.out.step hB).sl hY rfl).sl hX rfl).rx (rx_of hX hY HXO1.out.1 HXO1.out.2.1 HXO1.out.2.2.1 HXO1.out.2.2.2.1 HXO1.out.2.2.2.2) rfl))
       clear S8 hX hY hB
       go_wp2_with fail
       refine hK.out _ _ ⟨S9.out.b.t.t.c4, S9.out.b.t.c4⟩ (fun h2 => ?_)
       clear hK K hH; have hH := h2; clear h2; try simp only [nrm]
       refine step_one 5 rfl (by kernel_rfl) (fun K hK => ?_)
       go_simp
       have S10 := Lib.hid (S9.out.var (w6.heap.size) [.bool false, .slice none 0 0, .bool false, .slice none 0 0] 26 (by simp))
       clear S9
       refine hK.out _ _ ⟨S10.out.b.t.t.t.c4, S10.out.b.t.t.c4⟩ (fun h2 => ?_)
       clear hK K hH; have hH := h2; clear h2; try simp only [nrm]
       refine anyH_world (fun w7 hW => ?_)
       rw [← hW] at S10 hH
       clear hW
       refine step_one 6 rfl (by kernel_rfl) (fun K hK => ?_)
       obtain ⟨c_b5_0, c_b5_1, c_b5_2, c_b5_3⟩ := S10.out.b.t.c4
       obtain ⟨f_b5_0, f_b5_1, f_b5_2, f_b5_3⟩ := S10.out.b.t.f4
       go_simp
       clear c_b5_0 c_b5_1 c_b5_2 c_b5_3 f_b5_0 f_b5_1 f_b5_2 f_b5_3
       have S11 : Hid (Sx w _ [⟨(w6.heap.size), [.bool false, .slice none 0 0, .bool false, .slice none 0 0]⟩, ⟨(w4.heap.size), [.bool m0, .slice o0_0 n0 o0_c, .bool k0, .slice o0_1 l0 o0_d]⟩, ⟨(w.heap.size + 1), [.bool m1, .slice a1 n1 c1, .bool k1, .slice b1 l1 d1]⟩, ⟨(w.heap.size), [.bool m0, .slice a0 n0 c0, .bool k0, .slice b0 l0 d0]⟩] _) := Lib.hid (Sx.set4 S10.out 1 rfl _ _ _ _)
       clear S10
       refine hK.out _ _ ⟨S11.out.b.t.t.t.c4, S11.out.b.t.t.c4⟩ (fun h2 => ?_)
       clear hK K hH; have hH := h2; clear h2; try simp only [nrm]
       refine anyH_world (fun w8 hW => ?_)
       rw [← hW] at S11 hH
       clear hW
       refine step_one 7 rfl (by kernel_rfl) (fun K hK => ?_)
       obtain ⟨c_b6_0, c_b6_1, c_b6_2, c_b6_3⟩ := S11.out.b.c4
       obtain ⟨f_b6_0, f_b6_1, f_b6_2, f_b6_3⟩ := S11.out.b.f4
       go_simp
       clear c_b6_0 c_b6_1 c_b6_2 c_b6_3 f_b6_0 f_b6_1 f_b6_2 f_b6_3
       have S12 : Hid (Sx w _ [⟨(w6.heap.size), [.bool m1, .slice o1_0 n1 o1_c, .bool k1, .slice o1_1 l1 o1_d]⟩, ⟨(w4.heap.size), [.bool m0, .slice o0_0 n0 o0_c, .bool k0, .slice o0_1 l0 o0_d]⟩, ⟨(w.heap.size + 1), [.bool m1, .slice a1 n1 c1, .bool k1, .slice b1 l1 d1]⟩, ⟨(w.heap.size), [.bool m0, .slice a0 n0 c0, .bool k0, .slice b0 l0 d0]⟩] _) := Lib.hid (Sx.set4 S11.out 0 rfl _ _ _ _)
       clear S11
       refine hK.out _ _ ⟨S12.out.b.t.t.t.c4, S12.out.b.t.t.c4⟩ (fun h2 => ?_)
       clear hK K hH; have hH := h2; clear h2; try simp only [nrm]
       refine anyH_world (fun w9 hW => ?_)
       rw [← hW] at S12 hH
       clear hW
       refine wpAnyH_done (by kernel_rfl) ?_ _
       clear hH
       go_wp2_with fail
       go_meet
       case rel => exact ⟨_, _, _, _, _, _, _, _, _, _, rfl, rfl, S12.out⟩
      ·go_simp
       have S9 := Lib.hid (S8.out.var (w5.heap.size) [.bool false, .slice none 0 0, .bool false, .slice none 0 0] 26 (by simp))
       clear S8
       refine hK.out _ _ ⟨S9.out.b.t.t.t.c4, S9.out.b.t.t.c4⟩ (fun h2 => ?_)
       clear hK K hH; have hH := h2; clear h2; try simp only [nrm]
       refine anyH_world (fun w6 hW => ?_)
       rw [← hW] at S9 hH
       clear hW
       refine step_one 3 rfl (by kernel_rfl) (fun K hK => ?_)
       go_simp
       refine (own6_any S9.out.n.t.t.t.t.t.t.t.sl S9.out.n.t.t.t.t.t.t.t.t.sl).mono ?_
       rintro e w7 ⟨o1_0, o1_c, o1_1, o1_d, rfl, hX, hY, hB⟩
       have S10 := Lib.hid (((((S9.out.step hB).sl hY rfl).sl hX rfl).rx (rx_of hX hY HXO1.out.1 HXO1.out.2.1 HXO1.out.2.2.1 HXO1.out.2.2.2.1 HXO1.out.2.2.2.2) rfl))
       clear S9 hX hY hB
       go_wp2_with fail
       refine hK.out _ _ ⟨S10.out.b.t.t.t.c4, S10.out.b.t.t.c4⟩ (fun h2 => ?_)
       clear hK K hH; have hH := h2; clear h2; try simp only [nrm]
       refine step_one 6 rfl (by kernel_rfl) (fun K hK => ?_)
       obtain ⟨c_b5_0, c_b5_1, c_b5_2, c_b5_3⟩ := S10.out.b.t.c4
       obtain ⟨f_b5_0, f_b5_1, f_b5_2, f_b5_3⟩ := S10.out.b.t.f4
       go_simp
       clear c_b5_0 c_b5_1 c_b5_2 c_b5_3 f_b5_0 f_b5_1 f_b5_2 f_b5_3
       have S11 : Hid (Sx w _ [⟨(w5.heap.size), [.bool false, .slice none 0 0, .bool false, .slice none 0 0]⟩, ⟨(w4.heap.size), [.bool m0, .slice o0_0 n0 o0_c, .bool k0, .slice o0_1 l0 o0_d]⟩, ⟨(w.heap.size + 1), [.bool m1, .slice a1 n1 c1, .bool k1, .slice b1 l1 d1]⟩, ⟨(w.heap.size), [.bool m0, .slice a0 n0 c0, .bool k0, .slice b0 l0 d0]⟩] _) := Lib.hid (Sx.set4 S10.out 1 rfl _ _ _ _)
       clear S10
       refine hK.out _ _ ⟨S11.out.b.t.t.t.c4, S11.out.b.t.t.c4⟩ (fun h2 => ?_)
       clear hK K hH; have hH := h2; clear h2; try simp only [nrm]
       refine anyH_world (fun w8 hW => ?_)
       rw [← hW] at S11 hH
       clear hW
       refine step_one 7 rfl (by kernel_rfl) (fun K hK => ?_)
       obtain ⟨c_b6_0, c_b6_1, c_b6_2, c_b6_3⟩ := S11.out.b.c4
       obtain ⟨f_b6_0, f_b6_1, f_b6_2, f_b6_3⟩ := S11.out.b.f4
       go_simp
       clear c_b6_0 c_b6_1 c_b6_2 c_b6_3 f_b6_0 f_b6_1 f_b6_2 f_b6_3
       have S12 : Hid (Sx w _ [⟨(w5.heap.size), [.bool m1, .slice o1_0 n1 o1_c, .bool k1, .slice o1_1 l1 o1_d]⟩, ⟨(w4.heap.size), [.bool m0, .slice o0_0 n0 o0_c, .bool k0, .slice o0_1 l0 o0_d]⟩, ⟨(w.heap.size + 1), [.bool m1, .slice a1 n1 c1, .bool k1, .slice b1 l1 d1]⟩, ⟨(w.heap.size), [.bool m0, .slice a0 n0 c0, .bool k0, .slice b0 l0 d0]⟩] _) := Lib.hid (Sx.set4 S11.out 0 rfl _ _ _ _)
       clear S11
       refine hK.out _ _ ⟨S12.out.b.t.t.t.c4, S12.out.b.t.t.c4⟩ (fun h2 => ?_)
       clear hK K hH; have hH := h2; clear h2; try simp only [nrm]
       refine anyH_world (fun w9 hW => ?_)
       rw [← hW] at S12 hH
       clear hW
       refine wpAnyH_done (by kernel_rfl) ?_ _
       clear hH
       go_wp2_with fail
       go_meet
       case rel => exact ⟨_, _, _, _, _, _, _, _, _, _, rfl, rfl, S12.out⟩
     ·go_simp
      have S8 := Lib.hid (S7.out.var (w4.heap.size) [.bool false, .slice none 0 0, .bool false, .slice none 0 0] 26 (by simp))
      clear S7
      refine hK.out _ _ ⟨S8.out.b.t.t.c4, S8.out.b.t.c4⟩ (fun h2 => ?_)
      clear hK K hH; have hH := h2; clear h2; try simp only [nrm]
      refine anyH_world (fun w5 hW => ?_)
      rw [← hW] at S8 hH
      clear hW
      refine wpAnyH_ready (rs := [3, 4]) (by kernel_rfl) (by simp) (ready_cons rfl (fun K hK => ?_) (ready_cons rfl (fun K hK => ?_) (AllReadyH.nil)))
      ·go_simp
       refine (own6_any S8.out.n.t.t.t.t.t.t.t.sl S8.out.n.t.t.t.t.t.t.t.t.sl).mono ?_
       rintro e w6 ⟨o1_0, o1_c, o1_1, o1_d, rfl, hX, hY, hB⟩
       have S9 := Lib.hid (((((S8.out.step hB).sl hY rfl).sl hX rfl).rx (rx_of hX hY HXO1.out.1 HXO1.out.2.1 HXO1.out.2.2.1 HXO1.out.2.2.2.1 HXO1.out.2.2.2.2) rfl))
       clear S8 hX hY hB
       go_wp2_with fail
       refine hK.out _ _ ⟨S9.out.b.t.t.c4, S9.out.b.t.c4⟩ (fun h2 => ?_)
       clear hK K hH; have hH := h2; clear h2; try simp only [nrm]
       refine step_one 4 rfl (by kernel_rfl) (fun K hK => ?_)
       go_simp
       have S10 := Lib.hid (S9.out.var (w6.heap.size) [.bool false, .slice none 0 0, .bool false, .slice none 0 0] 26 (by simp))
       clear S9
       refine hK.out _ _ ⟨S10.out.b.t.t.t.c4, S10.out.b.t.t.c4⟩ (fun h2 => ?_)
       clear hK K hH; have hH := h2; clear h2; try simp only [nrm]
       refine anyH_world (fun w7 hW => ?_)
       rw [← hW] at S10 hH
       clear hW
       refine step_one 6 rfl (by kernel_rfl) (fun K hK => ?_)
       obtain ⟨c_b5_0, c_b5_1, c_b5_2, c_b5_3⟩ := S10.out.b.c4
       obtain ⟨f_b5_0, f_b5_1, f_b5_2, f_b5_3⟩ := S10.out.b.f4
       go_simp
       clear c_b5_0 c_b5_1 c_b5_2 c_b5_3 f_b5_0 f_b5_1 f_b5_2 f_b5_3
       have S11 : Hid (Sx w _ [⟨(w6.heap.size), [.bool m0, .slice o0_0 n0 o0_c, .bool k0, .slice o0_1 l0 o0_d]⟩, ⟨(w4.heap.size), [.bool false, .slice none 0 0, .bool false, .slice none 0 0]⟩, ⟨(w.heap.size + 1), [.bool m1, .slice a1 n1 c1, .bool k1, .slice b1 l1 d1]⟩, ⟨(w.heap.size), [.bool m0, .slice a0 n0 c0, .bool k0, .slice b0 l0 d0]⟩] _) := Lib.hid (Sx.set4 S10.out 0 rfl _ _ _ _)
       clear S10
       refine hK.out _ _ ⟨S11.out.b.t.t.t.c4, S11.out.b.t.t.c4⟩ (fun h2 => ?_)
       clear hK K hH; have hH := h2; clear h2; try simp only [nrm]
       refine anyH_world (fun w8 hW => ?_)
       rw [← hW] at S11 hH
       clear hW
       refine step_one 7 rfl (by kernel_rfl) (fun K hK => ?_)
       obtain ⟨c_b6_0, c_b6_1, c_b6_2, c_b6_3⟩ := S11.out.b.t.c4
       obtain ⟨f_b6_0, f_b6_1, f_b6_2, f_b6_3⟩ := S11.out.b.t.f4
       go_simp
       clear c_b6_0 c_b6_1 c_b6_2 c_b6_3 f_b6_0 f_b6_1 f_b6_2 f_b6_3
       have S12 : Hid (Sx w _ [⟨(w6.heap.size), [.bool m0, .slice o0_0 n0 o0_c, .bool k0, .slice o0_1 l0 o0_d]⟩, ⟨(w4.heap.size), [.bool m1, .slice o1_0 n1 o1_c, .bool k1, .slice o1_1 l1 o1_d]⟩, ⟨(w.heap.size + 1), [.bool m1, .slice a1 n1 c1, .bool k1, .slice b1 l1 d1]⟩, ⟨(w.heap.size), [.bool m0, .slice a0 n0 c0, .bool k0, .slice b0 l0 d0]⟩] _) := Lib.hid (Sx.set4 S11.out 1 rfl _ _ _ _)
       clear S11
       refine hK.out _ _ ⟨S12.out.b.t.t.t.c4, S12.out.b.t.t.c4⟩ (fun h2 => ?_)
       clear hK K hH; have hH := h2; clear h2; try simp only [nrm]
       refine anyH_world (fun w9 hW => ?_)
       rw [← hW] at S12 hH
       clear hW
       refine wpAnyH_done (by kernel_rfl) ?_ _
       clear hH
       go_wp2_with fail
       go_meet
       case rel => exact ⟨_, _, _, _, _, _, _, _, _, _, rfl, rfl, S12.out.swap⟩
      ·go_simp
       have S9 := Lib.hid (S8.out.var (w5.heap.size) [.bool false, .slice none 0 0, .bool false, .slice none 0 0] 26 (by simp))
       clear S8
       refine hK.out _ _ ⟨S9.out.b.t.t.t.c4, S9.out.b.t.t.c4⟩ (fun h2 => ?_)
       clear hK K hH; have hH := h2; clear h2; try simp only [nrm]
       refine anyH_world (fun w6 hW => ?_)
       rw [← hW] at S9 hH
       clear hW
       refine step_one 3 rfl (by kernel_rfl) (fun K hK => ?_)
       go_simp
       refine (own6_any S9.out.n.t.t.t.t.t.t.t.sl S9.out.n.t.t.t.t.t.t.t.t.sl).mono ?_
       rintro e w7 ⟨o1_0, o1_c, o1_1, o1_d, rfl, hX, hY, hB⟩
       have S10 := Lib.hid (((((S9.out.step hB).sl hY rfl).sl hX rfl).rx (rx_of hX hY HXO1.out.1 HXO1.out.2.1 HXO1.out.2.2.1 HXO1.out.2.2.2.1 HXO1.out.2.2.2.2) rfl))
       clear S9 hX hY hB
       go_wp2_with fail
       refine hK.out _ _ ⟨S10.out.b.t.t.t.c4, S10.out.b.t.t.c4⟩ (fun h2 => ?_)
       clear hK K hH; have hH := h2; clear h2; try simp only [nrm]
       refine step_one 6 rfl (by kernel_rfl) (fun K hK => ?_)
       obtain ⟨c_b5_0, c_b5_1, c_b5_2, c_b5_3⟩ := S10.out.b.c4
       obtain ⟨f_b5_0, f_b5_1, f_b5_2, f_b5_3⟩ := S10.out.b.f4
       go_simp
       clear c_b5_0 c_b5_1 c_b5_2 c_b5_3 f_b5_0 f_b5_1 f_b5_2 f_b5_3
       have S11 : Hid (Sx w _ [⟨(w5.heap.size), [.bool m0, .slice o0_0 n0 o0_c, .bool k0, .slice o0_1 l0 o0_d]⟩, ⟨(w4.heap.size), [.bool false, .slice none 0 0, .bool false, .slice none 0 0]⟩, ⟨(w.heap.size + 1), [.bool m1, .slice a1 n1 c1, .bool k1, .slice b1 l1 d1]⟩, ⟨(w.heap.size), [.bool m0, .slice a0 n0 c0, .bool k0, .slice b0 l0 d0]⟩] _) := Lib.hid (Sx.set4 S10.out 0 rfl _ _ _ _)
       clear S10
       refine hK.out _ _ ⟨S11.out.b.t.t.t.c4, S11.out.b.t.t.c4⟩ (fun h2 => ?_)
       clear hK K hH; have hH := h2; clear h2; try simp only [nrm]
       refine anyH_world (fun w8 hW => ?_)
       rw [← hW] at S11 hH
       clear hW
       refine step_one 7 rfl (by kernel_rfl) (fun K hK => ?_)
       obtain ⟨c_b6_0, c_b6_1, c_b6_2, c_b6_3⟩ := S11.out.b.t.c4
       obtain ⟨f_b6_0, f_b6_1, f_b6_2, f_b6_3⟩ := S11.out.b.t.f4
       go_simp
       clear c_b6_0 c_b6_1 c_b6_2 c_b6_3 f_b6_0 f_b6_1 f_b6_2 f_b6_3
       have S12 : Hid (Sx w _ [⟨(w5.heap.size), [.bool m0, .slice o0_0 n0 o0_c, .bool k0, .slice o0_1 l0 o0_d]⟩, ⟨(w4.heap.size), [.bool m1, .slice o1_0 n1 o1_c, .bool k1, .slice o1_1 l1 o1_d]⟩, ⟨(w.heap.size + 1), [.bool m1, .slice a1 n1 c1, .bool k1, .slice b1 l1 d1]⟩, ⟨(w.heap.size), [.bool m0, .slice a0 n0 c0, .bool k0, .slice b0 l0 d0]⟩] _) := Lib.hid (Sx.set4 S11.out 1 rfl _ _ _ _)
       clear S11
       refine hK.out _ _ ⟨S12.out.b.t.t.t.c4, S12.out.b.t.t.c4⟩ (fun h2 => ?_)
       clear hK K hH; have hH := h2; clear h2; try simp only [nrm]
       refine anyH_world (fun w9 hW => ?_)
       rw [← hW] at S12 hH
       clear hW
       refine wpAnyH_done (by kernel_rfl) ?_ _
       clear hH
       go_wp2_with fail
       go_meet
       case rel => exact ⟨_, _, _, _, _, _, _, _, _, _, rfl, rfl, S12.out.swap⟩
    ·go_simp
     have S7 := Lib.hid (S6.out.var (w3.heap.size) [.bool false, .slice none 0 0, .bool false, .slice none 0 0] 26 (by simp))
     clear S6
     refine hK.out _ _ ⟨S7.out.b.t.t.c4, S7.out.b.t.c4⟩ (fun h2 => ?_)
     clear hK K hH; have hH := h2; clear h2; try simp only [nrm]
     refine anyH_world (fun w4 hW => ?_)
     rw [← hW] at S7 hH
     clear hW
     refine wpAnyH_ready (rs := [1, 5]) (by kernel_rfl) (by simp) (ready_cons rfl (fun K hK => ?_) (ready_cons rfl (fun K hK => ?_) (AllReadyH.nil)))
     ·go_simp
      refine (own6_any S7.out.n.t.sl S7.out.n.t.t.sl).mono ?_
      rintro e w5 ⟨o0_0, o0_c, o0_1, o0_d, rfl, hX, hY, hB⟩
      have S8 := Lib.hid (((((S7.out.step hB).sl hY rfl).sl hX rfl).rx (rx_of hX hY HXO0.out.1 HXO0.out.2.1 HXO0.out.2.2.1 HXO0.out.2.2.2.1 HXO0.out.2.2.2.2) rfl))
      clear S7 hX hY hB
      go_wp2_with fail
      refine hK.out _ _ ⟨S8.out.b.t.t.c4, S8.out.b.t.c4⟩ (fun h2 => ?_)
      clear hK K hH; have hH := h2; clear h2; try simp only [nrm]
      refine wpAnyH_ready (rs := [3, 5]) (by kernel_rfl) (by simp) (ready_cons rfl (fun K hK => ?_) (ready_cons rfl (fun K hK => ?_) (AllReadyH.nil)))
      ·go_simp
       refine (own6_any S8.out.n.t.t.t.t.t.t.t.sl S8.out.n.t.t.t.t.t.t.t.t.sl).mono ?_
       rintro e w6 ⟨o1_0, o1_c, o1_1, o1_d, rfl, hX, hY, hB⟩
       have S9 := Lib.hid (((((S8.out.step hB).sl hY rfl).sl hX rfl).rx (rx_of hX hY HXO1.out.1 HXO1.out.2.1 HXO1.out.2.2.1 HXO1.out.2.2.2.1 HXO1.out.2.2.2.2) rfl))
       clear S8 hX hY hB
       go_wp2_with fail
       refine hK.out _ _ ⟨S9.out.b.t.t.c4, S9.out.b.t.c4⟩ (fun h2 => ?_)
       clear hK K hH; have hH := h2; clear h2; try simp only [nrm]
       refine step_one 5 rfl (by kernel_rfl) (fun K hK => ?_)
       go_simp
       have S10 := Lib.hid (S9.out.var (w6.heap.size) [.bool false, .slice none 0 0, .bool false, .slice none 0 0] 26 (by simp))
       clear S9
       refine hK.out _ _ ⟨S10.out.b.t.t.t.c4, S10.out.b.t.t.c4⟩ (fun h2 => ?_)
       clear hK K hH; have hH := h2; clear h2; try simp only [nrm]
       refine anyH_world (fun w7 hW => ?_)
       rw [← hW] at S10 hH
       clear hW
       refine step_one 6 rfl (by kernel_rfl) (fun K hK => ?_)
       obtain ⟨c_b5_0, c_b5_1, c_b5_2, c_b5_3⟩ := S10.out.b.t.c4
       obtain ⟨f_b5_0, f_b5_1, f_b5_2, f_b5_3⟩ := S10.out.b.t.f4
       go_simp
       clear c_b5_0 c_b5_1 c_b5_2 c_b5_3 f_b5_0 f_b5_1 f_b5_2 f_b5_3
       have S11 : Hid (Sx w _ [⟨(w6.heap.size), [.bool false, .slice none 0 0, .bool false, .slice none 0 0]⟩, ⟨(w3.heap.size), [.bool m0, .slice o0_0 n0 o0_c, .bool k0, .slice o0_1 l0 o0_d]⟩, ⟨(w.heap.size + 1), [.bool m1, .slice a1 n1 c1, .bool k1, .slice b1 l1 d1]⟩, ⟨(w.heap.size), [.bool m0, .slice a0 n0 c0, .bool k0, .slice b0 l0 d0]⟩] _) := Lib.hid (Sx.set4 S10.out 1 rfl _ _ _ _)
       clear S10
       refine hK.out _ _ ⟨S11.out.b.t.t.t.c4, S11.out.b.t.t.c4⟩ (fun h2 => ?_)
       clear hK K hH; have hH := h2; clear h2; try simp only [nrm]
       refine anyH_world (fun w8 hW => ?_)
       rw [← hW] at S11 hH
       clear hW
       refine step_one 7 rfl (by kernel_rfl) (fun K hK => ?_)
       obtain ⟨c_b6_0, c_b6_1, c_b6_2, c_b6_3⟩ := S11.out.b.c4
       obtain ⟨f_b6_0, f_b6_1, f_b6_2, f_b6_3⟩ := S11.out.b.f4
       go_simp
       clear c_b6_0 c_b6_1 c_b6_2 c_b6_3 f_b6_0 f_b6_1 f_b6_2 f_b6_3
       have S12 : Hid (Sx w _ [⟨(w6.heap.size), [.bool m1, .slice o1_0 n1 o1_c, .bool k1, .slice o1_1 l1 o1_d]⟩, ⟨(w3.heap.size), [.bool m0, .slice o0_0 n0 o0_c, .bool k0, .slice o0_1 l0 o0_d]⟩, ⟨(w.heap.size + 1), [.bool m1, .slice a1 n1 c1, .bool k1, .slice b1 l1 d1]⟩, ⟨(w.heap.size), [.bool m0, .slice a0 n0 c0, .bool k0, .slice b0 l0 d0]⟩] _) := Lib.hid (Sx.set4 S11.out 0 rfl _ _ _ _)
       clear S11
       refine hK.out _ _ ⟨S12.out.b.t.t.t.c4, S12.out.b.t.t.c4⟩ (fun h2 => ?_)
       clear hK K hH; have hH := h2; clear h2; try simp only [nrm]
       refine anyH_world (fun w9 hW => ?_)
       rw [← hW] at S12 hH
       clear hW
       refine wpAnyH_done (by kernel_rfl) ?_ _
       clear hH
       go_wp2_with fail
       go_meet
       case rel => exact ⟨_, _, _, _, _, _, _, _, _, _, rfl, rfl, S12.out⟩
      ·go_simp
       have S9 := Lib.hid (S8.out.var (w5.heap.size) [.bool false, .slice none 0 0, .bool false, .slice none 0 0] 26 (by simp))
       clear S8
       refine hK.out _ _ ⟨S9.out.b.t.t.t.c4, S9.out.b.t.t.c4⟩ (fun h2 => ?_)
       clear hK K hH; have hH := h2; clear h2; try simp only [nrm]
       refine anyH_world (fun w6 hW => ?_)
       rw [← hW] at S9 hH
       clear hW
       refine step_one 3 rfl (by kernel_rfl) (fun K hK => ?_)
       go_simp
       refine (own6_any S9.out.n.t.t.t.t.t.t.t.sl S9.out.n.t.t.t.t.t.t.t.t.sl).mono ?_
       rintro e w7 ⟨o1_0, o1_c, o1_1, o1_d, rfl, hX, hY, hB⟩
       have S10 := Lib.hid (((((S9.out.step hB).sl hY rfl).sl hX rfl).rx (rx_of hX hY HXO1.out.1 HXO1.out.2.1 HXO1.out.2.2.1 HXO1.out.2.2.2.1 HXO1.out.2.2.2.2) rfl))
       clear S9 hX hY hB
       go_wp2_with fail
       refine hK.out _ _ ⟨S10.out.b.t.t.t.c4, S10.out.b.t.t.c4⟩ (fun h2 => ?_)
       clear hK K hH; have hH := h2; clear h2; try simp only [nrm]
       refine step_one 6 rfl (by kernel_rfl) (fun K hK => ?_)
       obtain ⟨c_b5_0, c_b5_1, c_b5_2, c_b5_3⟩ := S10.out.b.t.c4
       obtain ⟨f_b5_0, f_b5_1, f_b5_2, f_b5_3⟩ := S10.out.b.t.f4
       go_simp
       clear c_b5_0 c_b5_1 c_b5_2 c_b5_3 f_b5_0 f_b5_1 f_b5_2 f_b5_3
       have S11 : Hid (Sx w _ [⟨(w5.heap.size), [.bool false, .slice none 0 0, .bool false, .slice none 0 0]⟩, ⟨(w3.heap.size), [.bool m0, .slice o0_0 n0 o0_c, .bool k0, .slice o0_1 l0 o0_d]⟩, ⟨(w.heap.size + 1), [.bool m1, .slice a1 n1 c1, .bool k1, .slice b1 l1 d1]⟩, ⟨(w.heap.size), [.bool m0, .slice a0 n0 c0, .bool k0, .slice b0 l0 d0]⟩] _) := Lib.hid (Sx.set4 S10.out 1 rfl _ _ _ _)
       clear S10
       refine hK.out _ _ ⟨S11.out.b.t.t.t.c4, S11.out.b.t.t.c4⟩ (fun h2 => ?_)
       clear hK K hH; have hH := h2; clear h2; try simp only [nrm]
       refine anyH_world (fun w8 hW => ?_)
       rw [← hW] at S11 hH
       clear hW
       refine step_one 7 rfl (by kernel_rfl) (fun K hK => ?_)
       obtain ⟨c_b6_0, c_b6_1, c_b6_2, c_b6_3⟩ := S11.out.b.c4
       obtain ⟨f_b6_0, f_b6_1, f_b6_2, f_b6_3⟩ := S11.out.b.f4
       go_simp
       clear c_b6_0 c_b6_1 c_b6_2 c_b6_3 f_b6_0 f_b6_1 f_b6_2 f_b6_3
       have S12 : Hid (Sx w _ [⟨(w5.heap.size), [.bool m1, .slice o1_0 n1 o1_c, .bool k1, .slice o1_1 l1 o1_d]⟩, ⟨(w3.heap.size), [.bool m0, .slice o0_0 n0 o0_c, .bool k0, .slice o0_1 l0 o0_d]⟩, ⟨(w.heap.size + 1), [.bool m1, .slice a1 n1 c1, .bool k1, .slice b1 l1 d1]⟩, ⟨(w.heap.size), [.bool m0, .slice a0 n0 c0, .bool k0, .slice b0 l0 d0]⟩] _) := Lib.hid (Sx.set4 S11.out 0 rfl _ _ _ _)
       clear S11
       refine hK.out _ _ ⟨S12.out.b.t.t.t.c4, S12.out.b.t.t.c4⟩ (fun h2 => ?_)
       clear hK K hH; have hH := h2; clear h2; try simp only [nrm]
       refine anyH_world (fun w9 hW => ?_)
       rw [← hW] at S12 hH
       clear hW
       refine wpAnyH_done (by kernel_rfl) ?_ _
       clear hH
       go_wp2_with fail
       go_meet
       case rel => exact ⟨_, _, _, _, _, _, _, _, _, _, rfl, rfl, S12.out⟩
     ·go_simp
      have S8 := Lib.hid (S7.out.var (w4.heap.size) [.bool false, .slice none 0 0, .bool false, .slice none 0 0] 26 (by simp))
      clear S7
      refine hK.out _ _ ⟨S8.out.b.t.t.t.c4, S8.out.b.t.t.c4⟩ (fun h2 => ?_)
      clear hK K hH; have hH := h2; clear h2; try simp only [nrm]
      refine anyH_world (fun w5 hW => ?_)
      rw [← hW] at S8 hH
      clear hW
      refine step_one 1 rfl (by kernel_rfl) (fun K hK => ?_)
      go_simp
      refine (own6_any S8.out.n.t.sl S8.out.n.t.t.sl).mono ?_
      rintro e w6 ⟨o0_0, o0_c, o0_1, o0_d, rfl, hX, hY, hB⟩
      have S9 := Lib.hid (((((S8.out.step hB).sl hY rfl).sl hX rfl).rx (rx_of hX hY HXO0.out.1 HXO0.out.2.1 HXO0.out.2.2.1 HXO0.out.2.2.2.1 HXO0.out.2.2.2.2) rfl))
      clear S8 hX hY hB
      go_wp2_with fail
      refine hK.out _ _ ⟨S9.out.b.t.t.t.c4, S9.out.b.t.t.c4⟩ (fun h2 => ?_)
      clear hK K hH; have hH := h2; clear h2; try simp only [nrm]
      refine step_one 3 rfl (by kernel_rfl) (fun K hK => ?_)
      go_simp
      refine (own6_any S9.out.n.t.t.t.t.t.t.t.sl S9.out.n.t.t.t.t.t.t.t.t.sl).mono ?_
      rintro e w7 ⟨o1_0, o1_c, o1_1, o1_d, rfl, hX, hY, hB⟩
      have S10 := Lib.hid (((((S9.out.step hB).sl hY rfl).sl hX rfl).rx (rx_of hX hY HXO1.out.1 HXO1.out.2.1 HXO1.out.2.2.1 HXO1.out.2.2.2.1 HXO1.out.2.2.2.2) rfl))
      clear S9 hX hY hB
      go_wp2_with fail
      refine hK.out _ _ ⟨S10.out.b.t.t.t.c4, S10.out.b.t.t.c4⟩ (fun h2 => ?_)
      clear hK K hH; have hH := h2; clear h2; try simp only [nrm]
      refine step_one 6 rfl (by kernel_rfl) (fun K hK => ?_)
      obtain ⟨c_b5_0, c_b5_1, c_b5_2, c_b5_3⟩ := S10.out.b.t.c4
      obtain ⟨f_b5_0, f_b5_1, f_b5_2, f_b5_3⟩ := S10.out.b.t.f4
      go_simp
      clear c_b5_0 c_b5_1 c_b5_2 c_b5_3 f_b5_0 f_b5_1 f_b5_2 f_b5_3
      have S11 : Hid (Sx w _ [⟨(w4.heap.size), [.bool false, .slice none 0 0, .bool false, .slice none 0 0]⟩, ⟨(w3.heap.size), [.bool m0, .slice o0_0 n0 o0_c, .bool k0, .slice o0_1 l0 o0_d]⟩, ⟨(w.heap.size + 1), [.bool m1, .slice a1 n1 c1, .bool k1, .slice b1 l1 d1]⟩, ⟨(w.heap.size), [.bool m0, .slice a0 n0 c0, .bool k0, .slice b0 l0 d0]⟩] _) := Lib.hid (Sx.set4 S10.out 1 rfl _ _ _ _)
      clear S10
      refine hK.out _ _ ⟨S11.out.b.t.t.t.c4, S11.out.b.t.t.c4⟩ (fun h2 => ?_)
      clear hK K hH; have hH := h2; clear h2; try simp only [nrm]
      refine anyH_world (fun w8 hW => ?_)
      rw [← hW] at S11 hH
      clear hW
      refine step_one 7 rfl (by kernel_rfl) (fun K hK => ?_)
      obtain ⟨c_b6_0, c_b6_1, c_b6_2, c_b6_3⟩ := S11.out.b.c4
      obtain ⟨f_b6_0, f_b6_1, f_b6_2, f_b6_3⟩ := S11.out.b.f4
      go_simp
      clear c_b6_0 c_b6_1 c_b6_2 c_b6_3 f_b6_0 f_b6_1 f_b6_2 f_b6_3
      have S12 : Hid (Sx w _ [⟨(w4.heap.size), [.bool m1, .slice o1_0 n1 o1_c, .bool k1, .slice o1_1 l1 o1_d]⟩, ⟨(w3.heap.size), [.bool m0, .slice o0_0 n0 o0_c, .bool k0, .slice o0_1 l0 o0_d]⟩, ⟨(w.heap.size + 1), [.bool m1, .slice a1 n1 c1, .bool k1, .slice b1 l1 d1]⟩, ⟨(w.heap.size), [.bool m0, .slice a0 n0 c0, .bool k0, .slice b0 l0 d0]⟩] _) := Lib.hid (Sx.set4 S11.out 0 rfl _ _ _ _)
      clear S11
      refine hK.out _ _ ⟨S12.out.b.t.t.t.c4, S12.out.b.t.t.c4⟩ (fun h2 => ?_)
      clear hK K hH; have hH := h2; clear h2; try simp only [nrm]
      refine anyH_world (fun w9 hW => ?_)
      rw [← hW] at S12 hH
      clear hW
      refine wpAnyH_done (by kernel_rfl) ?_ _
      clear hH
      go_wp2_with fail
      go_meet
      case rel => exact ⟨_, _, _, _, _, _, _, _, _, _, rfl, rfl, S12.out⟩
    ·go_simp
     have S7 := Lib.hid (S6.out.var (w3.heap.size) [.bool false, .slice none 0 0, .bool false, .slice none 0 0] 26 (by simp))
     clear S6
     refine hK.out _ _ ⟨S7.out.b.t.t.c4, S7.out.b.t.c4⟩ (fun h2 => ?_)
     clear hK K hH; have hH := h2; clear h2; try simp only [nrm]
     refine anyH_world (fun w4 hW => ?_)
     rw [← hW] at S7 hH
     clear hW
     refine wpAnyH_ready (rs := [1, 4]) (by kernel_rfl) (by simp) (ready_cons rfl (fun K hK => ?_) (ready_cons rfl (fun K hK => ?_) (AllReadyH.nil)))
     ·go_simp
      refine (own6_any S7.out.n.t.sl S7.out.n.t.t.sl).mono ?_
      rintro e w5 ⟨o0_0, o0_c, o0_1, o0_d, rfl, hX, hY, hB⟩
      have S8 := Lib.hid (((((S7.out.step hB).sl hY rfl).sl hX rfl).rx (rx_of hX hY HXO0.out.1 HXO0.out.2.1 HXO0.out.2.2.1 HXO0.out.2.2.2.1 HXO0.out.2.2.2.2) rfl))
      clear S7 hX hY hB
      go_wp2_with fail
      refine hK.out _ _ ⟨S8.out.b.t.t.c4, S8.out.b.t.c4⟩ (fun h2 => ?_)
      clear hK K hH; have hH := h2; clear h2; try simp only [nrm]
      refine wpAnyH_ready (rs := [3, 4]) (by kernel_rfl) (by simp) (ready_cons rfl (fun K hK => ?_) (ready_cons rfl (fun K hK => ?_) (AllReadyH.nil)))
      ·go_simp
       refine (own6_any S8.out.n.t.t.t.t.t.t.t.sl S8.out.n.t.t.t.t.t.t.t.t.sl).mono ?_
       rintro e w6 ⟨o1_0, o1_c, o1_1, o1_d, rfl, hX, hY, hB⟩
       have S9 := Lib.hid (((((S8.out.step hB).sl hY rfl).sl hX rfl).rx (rx_of hX hY HXO1.out.1 HXO1.out.2.1 HXO1.out.2.2.1 HXO1.out.2.2.2.1 HXO1.out.2.2.2.2) rfl))
       clear S8 hX hY hB
       go_wp2_with fail
       refine hK.out _ _ ⟨S9.out.b.t.t.c4, S9.out.b.t.c4⟩ (fun h2 => ?_)
       clear hK K hH; have hH := h2; clear h2; try simp only [nrm]
       refine step_one 4 rfl (by kernel_rfl) (fun K hK => ?_)
       go_simp
       have S10 := Lib.hid (S9.out.var (w6.heap.size) [.bool false, .slice none 0 0, .bool false, .slice none 0 0] 26 (by simp))
       clear S9
       refine hK.out _ _ ⟨S10.out.b.t.t.t.c4, S10.out.b.t.t.c4⟩ (fun h2 => ?_)
       clear hK K hH; have hH := h2; clear h2; try simp only [nrm]
       refine anyH_world (fun w7 hW => ?_)
       rw [← hW] at S10 hH
       clear hW
       refine step_one 6 rfl (by kernel_rfl) (fun K hK => ?_)
       obtain ⟨c_b5_0, c_b5_1, c_b5_2, c_b5_3⟩ := S10.out.b.c4
       obtain ⟨f_b5_0, f_b5_1, f_b5_2, f_b5_3⟩ := S10.out.b.f4
       go_simp
       clear c_b5_0 c_b5_1 c_b5_2 c_b5_3 f_b5_0 f_b5_1 f_b5_2 f_b5_3
       have S11 : Hid (Sx w _ [⟨(w6.heap.size), [.bool m0, .slice o0_0 n0 o0_c, .bool k0, .slice o0_1 l0 o0_d]⟩, ⟨(w3.heap.size), [.bool false, .slice none 0 0, .bool false, .slice none 0 0]⟩, ⟨(w.heap.size + 1), [.bool m1, .slice a1 n1 c1, .bool k1, .slice b1 l1 d1]⟩, ⟨(w.heap.size), [.bool m0, .slice a0 n0 c0, .bool k0, .slice b0 l0 d0]⟩] _) := Lib.hid (Sx.set4 S10.out 0 rfl _ _ _ _)
       clear S10
       refine hK.out _ _ ⟨S11.out.b.t.t.t.c4, S11.out.b.t.t.c4⟩ (fun h2 => ?_)
       clear hK K hH; have hH := h2; clear h2; try simp only [nrm]
       refine anyH_world (fun w8 hW => ?_)
       rw [← hW] at S11 hH
       clear hW
       refine step_one 7 rfl (by kernel_rfl) (fun K hK => ?_)
       obtain ⟨c_b6_0, c_b6_1, c_b6_2, c_b6_3⟩ := S11.out.b.t.c4
       obtain ⟨f_b6_0, f_b6_1, f_b6_2, f_b6_3⟩ := S11.out.b.t.f4
       go_simp
       clear c_b6_0 c_b6_1 c_b6_2 c_b6_3 f_b6_0 f_b6_1 f_b6_2 f_b6_3
       have S12 : Hid (Sx w _ [⟨(w6.heap.size), [.bool m0, .slice o0_0 n0 o0_c, .bool k0, .slice o0_1 l0 o0_d]⟩, ⟨(w3.heap.size), [.bool m1, .slice o1_0 n1 o1_c, .bool k1, .slice o1_1 l1 o1_d]⟩, ⟨(w.heap.size + 1), [.bool m1, .slice a1 n1 c1, .bool k1, .slice b1 l1 d1]⟩, ⟨(w.heap.size), [.bool m0, .slice a0 n0 c0, .bool k0, .slice b0 l0 d0]⟩] _) := Lib.hid (Sx.set4 S11.out 1 rfl _ _ _ _)
       clear S11
       refine hK.out _ _ ⟨S12.out.b.t.t.t.c4, S12.out.b.t.t.c4⟩ (fun h2 => ?_)
       clear hK K hH; have hH := h2; clear h2; try simp only [nrm]
       refine anyH_world (fun w9 hW => ?_)
       rw [← hW] at S12 hH
       clear hW
       refine wpAnyH_done (by kernel_rfl) ?_ _
       clear hH
       go_wp2_with fail
       go_meet
       case rel => exact ⟨_, _, _, _, _, _, _, _, _, _, rfl, rfl, S12.out.swap⟩
      ·go_simp
       have S9 := Lib.hid (S8.out.var (w5.heap.size) [.bool false, .slice none 0 0, .bool false, .slice none 0 0] 26 (by simp))
       clear S8
       refine hK.out _ _ ⟨S9.out.b.t.t.t.c4, S9.out.b.t.t.c4⟩ (fun h2 => ?_)
       clear hK K hH; have hH := h2; clear h2; try simp only [nrm]
       refine anyH_world (fun w6 hW => ?_)
       rw [← hW] at S9 hH
       clear hW
       refine step_one 3 rfl (by kernel_rfl) (fun K hK => ?_)
       go_simp
       refine (own6_any S9.out.n.t.t.t.t.t.t.t.sl S9.out.n.t.t.t.t.t.t.t.t.sl).mono ?_
       rintro e w7 ⟨o1_0, o1_c, o1_1, o1_d, rfl, hX, hY, hB⟩
       have S10 := Lib.hid (((((S9.out.step hB).sl hY rfl).sl hX rfl).rx (rx_of hX hY HXO1.out.1 HXO1.out.2.1 HXO1.out.2.2.1 HXO1.out.2.2.2.1 HXO1.out.2.2.2.2) rfl))
       clear S9 hX hY hB
       go_wp2_with fail
       refine hK.out _ _ ⟨S10.out.b.t.t.t.c4, S10.out.b.t.t.c4⟩ (fun h2 => ?_)
       clear hK K hH; have hH := h2; clear h2; try simp only [nrm]
       refine step_one 6 rfl (by kernel_rfl) (fun K hK => ?_)
       obtain ⟨c_b5_0, c_b5_1, c_b5_2, c_b5_3⟩ := S10.out.b.c4
       obtain ⟨f_b5_0, f_b5_1, f_b5_2, f_b5_3⟩ := S10.out.b.f4
       go_simp
       clear c_b5_0 c_b5_1 c_b5_2 c_b5_3 f_b5_0 f_b5_1 f_b5_2 f_b5_3
       have S11 : Hid (Sx w _ [⟨(w5.heap.size), [.bool m0, .slice o0_0 n0 o0_c, .bool k0, .slice o0_1 l0 o0_d]⟩, ⟨(w3.heap.size), [.bool false, .slice none 0 0, .bool false, .slice none 0 0]⟩, ⟨(w.heap.size + 1), [.bool m1, .slice a1 n1 c1, .bool k1, .slice b1 l1 d1]⟩, ⟨(w.heap.size), [.bool m0, .slice a0 n0 c0, .bool k0, .slice b0 l0 d0]⟩] _) := Lib.hid (Sx.set4 S10.out 0 rfl _ _ _ _)
       clear S10
       refine hK.out _ _ ⟨S11.out.b.t.t.t.c4, S11.out.b.t.t.c4⟩ (fun h2 => ?_)
       clear hK K hH; have hH := h2; clear h2; try simp only [nrm]
       refine anyH_world (fun w8 hW => ?_)
       rw [← hW] at S11 hH
       clear hW
       refine step_one 7 rfl (by kernel_rfl) (fun K hK => ?_)
       obtain ⟨c_b6_0, c_b6_1, c_b6_2, c_b6_3⟩ := S11.out.b.t.c4
       obtain ⟨f_b6_0, f_b6_1, f_b6_2, f_b6_3⟩ := S11.out.b.t.f4
       go_simp
       clear c_b6_0 c_b6_1 c_b6_2 c_b6_3 f_b6_0 f_b6_1 f_b6_2 f_b6_3
       have S12 : Hid (Sx w _ [⟨(w5.heap.size), [.bool m0, .slice o0_0 n0 o0_c, .bool k0, .slice o0_1 l0 o0_d]⟩, ⟨(w3.heap.size), [.bool m1, .slice o1_0 n1 o1_c, .bool k1, .slice o1_1 l1 o1_d]⟩, ⟨(w.heap.size + 1), [.bool m1, .slice a1 n1 c1, .bool k1, .slice b1 l1 d1]⟩, ⟨(w.heap.size), [.bool m0, .slice a0 n0 c0, .bool k0, .slice b0 l0 d0]⟩] _) := Lib.hid (Sx.set4 S11.out 1 rfl _ _ _ _)
       clear S11
       refine hK.out _ _ ⟨S12.out.b.t.t.t.c4, S12.out.b.t.t.c4⟩ (fun h2 => ?_)
       clear hK K hH; have hH := h2; clear h2; try simp only [nrm]
       refine anyH_world (fun w9 hW => ?_)
       rw [← hW] at S12 hH
       clear hW
       refine wpAnyH_done (by kernel_rfl) ?_ _
       clear hH
       go_wp2_with fail
       go_meet
       case rel => exact ⟨_, _, _, _, _, _, _, _, _, _, rfl, rfl, S12.out.swap⟩
     ·go_simp
      have S8 := Lib.hid (S7.out.var (w4.heap.size) [.bool false, .slice none 0 0, .bool false, .slice none 0 0] 26 (by simp))
      clear S7
      refine hK.out _ _ ⟨S8.out.b.t.t.t.c4, S8.out.b.t.t.c4⟩ (fun h2 => ?_)
      clear hK K hH; have hH := h2; clear h2; try simp only [nrm]
      refine anyH_world (fun w5 hW => ?_)
      rw [← hW] at S8 hH
      clear hW
      refine step_one 1 rfl (by kernel_rfl) (fun K hK => ?_)
      go_simp
      refine (own6_any S8.out.n.t.sl S8.out.n.t.t.sl).mono ?_
      rintro e w6 ⟨o0_0, o0_c, o0_1, o0_d, rfl, hX, hY, hB⟩
      have S9 := Lib.hid (((((S8.out.step hB).sl hY rfl).sl hX rfl).rx (rx_of hX hY HXO0.out.1 HXO0.out.2.1 HXO0.out.2.2.1 HXO0.out.2.2.2.1 HXO0.out.2.2.2.2) rfl))
      clear S8 hX hY hB
      go_wp2_with fail
      refine hK.out _ _ ⟨S9.out.b.t.t.t.c4, S9.out.b.t.t.c4⟩ (fun h2 => ?_)
      clear hK K hH; have hH := h2; clear h2; try simp only [nrm]
      refine step_one 3 rfl (by kernel_rfl) (fun K hK => ?_)
      go_simp
      refine (own6_any S9.out.n.t.t.t.t.t.t.t.sl S9.out.n.t.t.t.t.t.t.t.t.sl).mono ?_
      rintro e w7 ⟨o1_0, o1_c, o1_1, o1_d, rfl, hX, hY, hB⟩
      have S10 := Lib.hid (((((S9.out.step hB).sl hY rfl).sl hX rfl).rx (rx_of hX hY HXO1.out.1 HXO1.out.2.1 HXO1.out.2.2.1 HXO1.out.2.2.2.1 HXO1.out.2.2.2.2) rfl))
      clear S9 hX hY hB
      go_wp2_with fail
      refine hK.out _ _ ⟨S10.out.b.t.t.t.c4, S10.out.b.t.t.c4⟩ (fun h2 => ?_)
      clear hK K hH; have hH := h2; clear h2; try simp only [nrm]
      refine step_one 6 rfl (by kernel_rfl) (fun K hK => ?_)
      obtain ⟨c_b5_0, c_b5_1, c_b5_2, c_b5_3⟩ := S10.out.b.c4
      obtain ⟨f_b5_0, f_b5_1, f_b5_2, f_b5_3⟩ := S10.out.b.f4
      go_simp
      clear c_b5_0 c_b5_1 c_b5_2 c_b5_3 f_b5_0 f_b5_1 f_b5_2 f_b5_3
      have S11 : Hid (Sx w _ [⟨(w4.heap.size), [.bool m0, .slice o0_0 n0 o0_c, .bool k0, .slice o0_1 l0 o0_d]⟩, ⟨(w3.heap.size), [.bool false, .slice none 0 0, .bool false, .slice none 0 0]⟩, ⟨(w.heap.size + 1), [.bool m1, .slice a1 n1 c1, .bool k1, .slice b1 l1 d1]⟩, ⟨(w.heap.size), [.bool m0, .slice a0 n0 c0, .bool k0, .slice b0 l0 d0]⟩] _) := Lib.hid (Sx.set4 S10.out 0 rfl _ _ _ _)
      clear S10
      refine hK.out _ _ ⟨S11.out.b.t.t.t.c4, S11.out.b.t.t.c4⟩ (fun h2 => ?_)
      clear hK K hH; have hH := h2; clear h2; try simp only [nrm]
      refine anyH_world (fun w8 hW => ?_)
      rw [← hW] at S11 hH
      clear hW
      refine step_one 7 rfl (by kernel_rfl) (fun K hK => ?_)
      obtain ⟨c_b6_0, c_b6_1, c_b6_2, c_b6_3⟩ := S11.out.b.t.c4
      obtain ⟨f_b6_0, f_b6_1, f_b6_2, f_b6_3⟩ := S11.out.b.t.f4
      go_simp
      clear c_b6_0 c_b6_1 c_b6_2 c_b6_3 f_b6_0 f_b6_1 f_b6_2 f_b6_3
      have S12 : Hid (Sx w _ [⟨(w4.heap.size), [.bool m0, .slice o0_0 n0 o0_c, .bool k0, .slice o0_1 l0 o0_d]⟩, ⟨(w3.heap.size), [.bool m1, .slice o1_0 n1 o1_c, .bool k1, .slice o1_1 l1 o1_d]⟩, ⟨(w.heap.size + 1), [.bool m1, .slice a1 n1 c1, .bool k1, .slice b1 l1 d1]⟩, ⟨(w.heap.size), [.bool m0, .slice a0 n0 c0, .bool k0, .slice b0 l0 d0]⟩] _) := Lib.hid (Sx.set4 S11.out 1 rfl _ _ _ _)
      clear S11
      refine hK.out _ _ ⟨S12.out.b.t.t.t.c4, S12.out.b.t.t.c4⟩ (fun h2 => ?_)
      clear hK K hH; have hH := h2; clear h2; try simp only [nrm]
      refine anyH_world (fun w9 hW => ?_)
      rw [← hW] at S12 hH
      clear hW
      refine wpAnyH_done (by kernel_rfl) ?_ _
      clear hH
      go_wp2_with fail
      go_meet
      case rel => exact ⟨_, _, _, _, _, _, _, _, _, _, rfl, rfl, S12.out.swap⟩
  case rest =>
  clear S5
  obtain ⟨qb5, qb6, o1_0, o1_c, o1_1, o1_d, o0_0, o0_c, o0_1, o0_d, rfl, rfl, S6⟩ := hcut
  obtain ⟨w10, hW⟩ : ∃ w10, w10 = wc := ⟨_, rfl⟩
  rw [← hW] at S6 ⊢
  clear hW
  go_wp2_with fail
  go_cut [7, 8] from 20 to 24 (fun sl0 sl1 w9 => ∃ (qb7 : Nat) (qb8 : Nat) (r2_m : Bool) (r2_0 : Option Addr) (r2_n : Nat) (r2_c : Nat) (r2_k : Bool) (r2_1 : Option Addr) (r2_l : Nat) (r2_d : Nat) (r1_m : Bool) (r1_0 : Option Addr) (r1_n : Nat) (r1_c : Nat) (r1_k : Bool) (r1_1 : Option Addr) (r1_l : Nat) (r1_d : Nat), sl0 = .pointer (some ⟨qb7, 0, none⟩) ∧ sl1 = .pointer (some ⟨qb8, 0, none⟩) ∧ Hid (Sx w w9 [⟨qb8, [.bool r2_m, .slice r2_0 r2_n r2_c, .bool r2_k, .slice r2_1 r2_l r2_d]⟩, ⟨qb7, [.bool r1_m, .slice r1_0 r1_n r1_c, .bool r1_k, .slice r1_1 r1_l r1_d]⟩, ⟨qb6, [.bool m1, .slice o1_0 n1 o1_c, .bool k1, .slice o1_1 l1 o1_d]⟩, ⟨qb5, [.bool m0, .slice o0_0 n0 o0_c, .bool k0, .slice o0_1 l0 o0_d]⟩, ⟨(w.heap.size + 1), [.bool m1, .slice a1 n1 c1, .bool k1, .slice b1 l1 d1]⟩, ⟨(w.heap.size), [.bool m0, .slice a0 n0 c0, .bool k0, .slice b0 l0 d0]⟩] [.qx r2_m r2_0 r2_n r2_c r2_k r2_1 r2_l r2_d x1 (dn e1) r1 8, .qx r1_m r1_0 r1_n r1_c r1_k r1_1 r1_l r1_d x0 (dn e0) r0 8, .rx m1 o1_0 n1 o1_c k1 o1_1 l1 o1_d x1 e1 r1 8, .sl o1_0 n1 o1_c xs1, .sl o1_1 l1 o1_d ys1, .rx m0 o0_0 n0 o0_c k0 o0_1 l0 o0_d x0 e0 r0 8, .sl o0_0 n0 o0_c xs0, .sl o0_1 l0 o0_d ys0, .rx m0 a0 n0 c0 k0 b0 l0 d0 x0 e0 r0 8, .sl a0 n0 c0 xs0, .sl b0 l0 d0 ys0, .rx m1 a1 n1 c1 k1 b1 l1 d1 x1 e1 r1 8, .sl a1 n1 c1 xs1, .sl b1 l1 d1 ys1]))
  case first =>
    have S7 := Lib.hid (S6.out.drew)
    clear S6
    refine wp_region_held_drew (S := fun w' => (w'.cell? ⟨(w.heap.size), 0, none⟩ = some (.bool m0) ∧ w'.cell? ⟨(w.heap.size), 1, none⟩ = some (.slice a0 n0 c0) ∧ w'.cell? ⟨(w.heap.size), 2, none⟩ = some (.bool k0) ∧ w'.cell? ⟨(w.heap.size), 3, none⟩ = some (.slice b0 l0 d0)) ∧ (w'.cell? ⟨(w.heap.size + 1), 0, none⟩ = some (.bool m1) ∧ w'.cell? ⟨(w.heap.size + 1), 1, none⟩ = some (.slice a1 n1 c1) ∧ w'.cell? ⟨(w.heap.size + 1), 2, none⟩ = some (.bool k1) ∧ w'.cell? ⟨(w.heap.size + 1), 3, none⟩ = some (.slice b1 l1 d1))) (by kernel_rfl) (⟨S7.out.b.t.t.t.c4, S7.out.b.t.t.c4⟩) (fun hH => ?_)
    refine anyH_world (fun w11 hW => ?_)
    rw [← hW] at S7 hH
    clear hW
    refine step_on 0 rfl (by kernel_rfl) (fun _ _ _ h => h) (by rfl) hH (by intro w hS; go_simp <;> with_reducible rfl) ?_
    try simp only [nrm]
    refine step_on 2 rfl (by kernel_rfl) (fun _ _ _ h => h) (by rfl) hH (by intro w hS; go_simp <;> with_reducible rfl) ?_
    try simp only [nrm]
    refine wpAnyH_ready (rs := [1, 4, 5]) (by kernel_rfl) (by simp) (ready_cons rfl (fun K hK => ?_) (ready_cons rfl (fun K hK => ?_) (ready_cons rfl (fun K hK => ?_) (AllReadyH.nil))))
    ·go_simp
     refine (qof_any S7.out.n.t.t.t.t.t.t.rx (by omega) (by omega)).mono ?_
     rintro e w12 ⟨r1_m, r1_0, r1_n, r1_c, r1_k, r1_1, r1_l, r1_d, rfl, hX, hB⟩
     have S8 := Lib.hid (((S7.out.step hB).qx hX rfl))
     clear S7 hX hB
     go_wp2_with fail
     refine hK.out _ _ ⟨S8.out.b.t.t.t.c4, S8.out.b.t.t.c4⟩ (fun h2 => ?_)
     clear hK K hH; have hH := h2; clear h2; try simp only [nrm]
     refine wpAnyH_ready (rs := [3, 4, 5]) (by kernel_rfl) (by simp) (ready_cons rfl (fun K hK => ?_) (ready_cons rfl (fun K hK => ?_) (ready_cons rfl (fun K hK => ?_) (AllReadyH.nil))))
     ·go_simp
      refine (qof_any S8.out.n.t.t.t.t.t.t.t.t.t.t.rx (by omega) (by omega)).mono ?_
      rintro e w13 ⟨r2_m, r2_0, r2_n, r2_c, r2_k, r2_1, r2_l, r2_d, rfl, hX, hB⟩
      have S9 := Lib.hid (((S8.out.step hB).qx hX rfl))
      clear S8 hX hB
      go_wp2_with fail
      refine hK.out _ _ ⟨S9.out.b.t.t.t.c4, S9.out.b.t.t.c4⟩ (fun h2 => ?_)
      clear hK K hH; have hH := h2; clear h2; try simp only [nrm]
      refine wpAnyH_ready (rs := [4, 5]) (by kernel_rfl) (by simp) (ready_cons rfl (fun K hK => ?_) (ready_cons rfl (fun K hK => ?_) (AllReadyH.nil)))
      ·go_simp
       have S10 := Lib.hid (S9.out.var (w13.heap.size) [.bool false, .slice none 0 0, .bool false, .slice none 0 0] 35 (by simp))
       clear S9
       refine hK.out _ _ ⟨S10.out.b.t.t.t.t.c4, S10.out.b.t.t.t.c4⟩ (fun h2 => ?_)
       clear hK K hH; have hH := h2; clear h2; try simp only [nrm]
       refine anyH_world (fun w14 hW => ?_)
       rw [← hW] at S10 hH
       clear hW
       refine step_one 5 rfl (by kernel_rfl) (fun K hK => ?_)
       go_simp
       have S11 := Lib.hid (S10.out.var (w14.heap.size) [.bool false, .slice none 0 0, .bool false, .slice none 0 0] 35 (by simp))
       clear S10
       refine hK.out _ _ ⟨S11.out.b.t.t.t.t.t.c4, S11.out.b.t.t.t.t.c4⟩ (fun h2 => ?_)
       clear hK K hH; have hH := h2; clear h2; try simp only [nrm]
       refine anyH_world (fun w15 hW => ?_)
       rw [← hW] at S11 hH
       clear hW
       refine step_one 6 rfl (by kernel_rfl) (fun K hK => ?_)
       obtain ⟨c_b7_0, c_b7_1, c_b7_2, c_b7_3⟩ := S11.out.b.t.c4
       obtain ⟨f_b7_0, f_b7_1, f_b7_2, f_b7_3⟩ := S11.out.b.t.f4
       go_simp
       clear c_b7_0 c_b7_1 c_b7_2 c_b7_3 f_b7_0 f_b7_1 f_b7_2 f_b7_3
       have S12 : Hid (Sx w _ [⟨(w14.heap.size), [.bool false, .slice none 0 0, .bool false, .slice none 0 0]⟩, ⟨(w13.heap.size), [.bool r1_m, .slice r1_0 r1_n r1_c, .bool r1_k, .slice r1_1 r1_l r1_d]⟩, ⟨qb6, [.bool m1, .slice o1_0 n1 o1_c, .bool k1, .slice o1_1 l1 o1_d]⟩, ⟨qb5, [.bool m0, .slice o0_0 n0 o0_c, .bool k0, .slice o0_1 l0 o0_d]⟩, ⟨(w.heap.size + 1), [.bool m1, .slice a1 n1 c1, .bool k1, .slice b1 l1 d1]⟩, ⟨(w.heap.size), [.bool m0, .slice a0 n0 c0, .bool k0, .slice b0 l0 d0]⟩] _) := Lib.hid (Sx.set4 S11.out 1 rfl _ _ _ _)
       clear S11
       refine hK.out _ _ ⟨S12.out.b.t.t.t.t.t.c4, S12.out.b.t.t.t.t.c4⟩ (fun h2 => ?_)
       clear hK K hH; have hH := h2; clear h2; try simp only [nrm]
       refine anyH_world (fun w16 hW => ?_)
       rw [← hW] at S12 hH
       clear hW
       refine step_one 7 rfl (by kernel_rfl) (fun K hK => ?_)
       obtain ⟨c_b8_0, c_b8_1, c_b8_2, c_b8_3⟩ := S12.out.b.c4
       obtain ⟨f_b8_0, f_b8_1, f_b8_2, f_b8_3⟩ := S12.out.b.f4
       go_simp
       clear c_b8_0 c_b8_1 c_b8_2 c_b8_3 f_b8_0 f_b8_1 f_b8_2 f_b8_3
       have S13 : Hid (Sx w _ [⟨(w14.heap.size), [.bool r2_m, .slice r2_0 r2_n r2_c, .bool r2_k, .slice r2_1 r2_l r2_d]⟩, ⟨(w13.heap.size), [.bool r1_m, .slice r1_0 r1_n r1_c, .bool r1_k, .slice r1_1 r1_l r1_d]⟩, ⟨qb6, [.bool m1, .slice o1_0 n1 o1_c, .bool k1, .slice o1_1 l1 o1_d]⟩, ⟨qb5, [.bool m0, .slice o0_0 n0 o0_c, .bool k0, .slice o0_1 l0 o0_d]⟩, ⟨(w.heap.size + 1), [.bool m1, .slice a1 n1 c1, .bool k1, .slice b1 l1 d1]⟩, ⟨(w.heap.size), [.bool m0, .slice a0 n0 c0, .bool k0, .slice b0 l0 d0]⟩] _) := Lib.hid (Sx.set4 S12.out 0 rfl _ _ _ _)
       clear S12
       refine hK.out _ _ ⟨S13.out.b.t.t.t.t.t.c4, S13.out.b.t.t.t.t.c4⟩ (fun h2 => ?_)
       clear hK K hH; have hH := h2; clear h2; try simp only [nrm]
       refine anyH_world (fun w17 hW => ?_)
       rw [← hW] at S13 hH
       clear hW
       refine wpAnyH_done (by kernel_rfl) ?_ _
       clear hH
       go_wp2_with fail
       go_meet
       case rel => exact ⟨_, _, _, _, _, _, _, _, _, _, _, _, _, _, _, _, _, _, rfl, rfl, S13.out⟩
      ·go_simp
       have S10 := Lib.hid (S9.out.var (w13.heap.size) [.bool false, .slice none 0 0, .bool false, .slice none 0 0] 35 (by simp))
       clear S9
       refine hK.out _ _ ⟨S10.out.b.t.t.t.t.c4, S10.out.b.t.t.t.c4⟩ (fun h2 => ?_)
       clear hK K hH; have hH := h2; clear h2; try simp only [nrm]
       refine anyH_world (fun w14 hW => ?_)
       rw [← hW] at S10 hH
       clear hW
       refine step_one 4 rfl (by kernel_rfl) (fun K hK => ?_)
       go_simp
       have S11 := Lib.hid (S10.out.var (w14.heap.size) [.bool false, .slice none 0 0, .bool false, .slice none 0 0] 35 (by simp))
       clear S10
       refine hK.out _ _ ⟨S11.out.b.t.t.t.t.t.c4, S11.out.b.t.t.t.t.c4⟩ (fun h2 => ?_)
       clear hK K hH; have hH := h2; clear h2; try simp only [nrm]
       refine anyH_world (fun w15 hW => ?_)
       rw [← hW] at S11 hH
       clear hW
       refine step_one 6 rfl (by kernel_rfl) (fun K hK => ?_)
       obtain ⟨c_b7_0, c_b7_1, c_b7_2, c_b7_3⟩ := S11.out.b.c4
       obtain ⟨f_b7_0, f_b7_1, f_b7_2, f_b7_3⟩ := S11.out.b.f4
       go_simp
       clear c_b7_0 c_b7_1 c_b7_2 c_b7_3 f_b7_0 f_b7_1 f_b7_2 f_b7_3
       have S12 : Hid (Sx w _ [⟨(w14.heap.size), [.bool r1_m, .slice r1_0 r1_n r1_c, .bool r1_k, .slice r1_1 r1_l r1_d]⟩, ⟨(w13.heap.size), [.bool false, .slice none 0 0, .bool false, .slice none 0 0]⟩, ⟨qb6, [.bool m1, .slice o1_0 n1 o1_c, .bool k1, .slice o1_1 l1 o1_d]⟩, ⟨qb5, [.bool m0, .slice o0_0 n0 o0_c, .bool k0, .slice o0_1 l0 o0_d]⟩, ⟨(w.heap.size + 1), [.bool m1, .slice a1 n1 c1, .bool k1, .slice b1 l1 d1]⟩, ⟨(w.heap.size), [.bool m0, .slice a0 n0 c0, .bool k0, .slice b0 l0 d0]⟩] _) := Lib.hid (Sx.set4 S11.out 0 rfl _ _ _ _)
       clear S11
       refine hK.out _ _ ⟨S12.out.b.t.t.t.t.t.c4, S12.out.b.t.t.t.t.c4⟩ (fun h2 => ?_)
       clear hK K hH; have hH := h2; clear h2; try simp only [nrm]
       refine anyH_world (fun w16 hW => ?_)
       rw [← hW] at S12 hH
       clear hW
       refine step_one 7 rfl (by kernel_rfl) (fun K hK => ?_)
       obtain ⟨c_b8_0, c_b8_1, c_b8_2, c_b8_3⟩ := S12.out.b.t.c4
       obtain ⟨f_b8_0, f_b8_1, f_b8_2, f_b8_3⟩ := S12.out.b.t.f4
       go_simp
       clear c_b8_0 c_b8_1 c_b8_2 c_b8_3 f_b8_0 f_b8_1 f_b8_2 f_b8_3
       have S13 : Hid (Sx w _ [⟨(w14.heap.size), [.bool r1_m, .slice r1_0 r1_n r1_c, .bool r1_k, .slice r1_1 r1_l r1_d]⟩, ⟨(w13.heap.size), [.bool r2_m, .slice r2_0 r2_n r2_c, .bool r2_k, .slice r2_1 r2_l r2_d]⟩, ⟨qb6, [.bool m1, .slice o1_0 n1 o1_c, .bool k1, .slice o1_1 l1 o1_d]⟩, ⟨qb5, [.bool m0, .slice o0_0 n0 o0_c, .bool k0, .slice o0_1 l0 o0_d]⟩, ⟨(w.heap.size + 1), [.bool m1, .slice a1 n1 c1, .bool k1, .slice b1 l1 d1]⟩, ⟨(w.heap.size), [.bool m0, .slice a0 n0 c0, .bool k0, .slice b0 l0 d0]⟩] _) := Lib.hid (Sx.set4 S12.out 1 rfl _ _ _ _)
       clear S12
       refine hK.out _ _ ⟨S13.out.b.t.t.t.t.t.c4, S13.out.b.t.t.t.t.c4⟩ (fun h2 => ?_)
       clear hK K hH; have hH := h2; clear h2; try simp only [nrm]
       refine anyH_world (fun w17 hW => ?_)
       rw [← hW] at S13 hH
       clear hW
       refine wpAnyH_done (by kernel_rfl) ?_ _
       clear hH
       go_wp2_with fail
       go_meet
       case rel => exact ⟨_, _, _, _, _, _, _, _, _, _, _, _, _, _, _, _, _, _, rfl, rfl, S13.out.swap⟩
     ·go_simp
      have S9 := Lib.hid (S8.out.var (w12.heap.size) [.bool false, .slice none 0 0, .bool false, .slice none 0 0] 35 (by simp))
      clear S8
      refine hK.out _ _ ⟨S9.out.b.t.t.t.t.c4, S9.out.b.t.t.t.c4⟩ (fun h2 => ?_)
      clear hK K hH; have hH := h2; clear h2; try simp only [nrm]
      refine anyH_world (fun w13 hW => ?_)
      rw [← hW] at S9 hH
      clear hW
      refine wpAnyH_ready (rs := [3, 5]) (by kernel_rfl) (by simp) (ready_cons rfl (fun K hK => ?_) (ready_cons rfl (fun K hK => ?_) (AllReadyH.nil)))
      ·go_simp
       refine (qof_any S9.out.n.t.t.t.t.t.t.t.t.t.t.rx (by omega) (by omega)).mono ?_
       rintro e w14 ⟨r2_m, r2_0, r2_n, r2_c, r2_k, r2_1, r2_l, r2_d, rfl, hX, hB⟩
       have S10 := Lib.hid (((S9.out.step hB).qx hX rfl))
       clear S9 hX hB
       go_wp2_with fail
       refine hK.out _ _ ⟨S10.out.b.t.t.t.t.c4, S10.out.b.t.t.t.c4⟩ (fun h2 => ?_)
       clear hK K hH; have hH := h2; clear h2; try simp only [nrm]
       refine step_one 5 rfl (by kernel_rfl) (fun K hK => ?_)
       go_simp
       have S11 := Lib.hid (S10.out.var (w14.heap.size) [.bool false, .slice none 0 0, .bool false, .slice none 0 0] 35 (by simp))
       clear S10
       refine hK.out _ _ ⟨S11.out.b.t.t.t.t.t.c4, S11.out.b.t.t.t.t.c4⟩ (fun h2 => ?_)
       clear hK K hH; have hH := h2; clear h2; try simp only [nrm]
       refine anyH_world (fun w15 hW => ?_)
       rw [← hW] at S11 hH
       clear hW
       refine step_one 6 rfl (by kernel_rfl) (fun K hK => ?_)
       obtain ⟨c_b7_0, c_b7_1, c_b7_2, c_b7_3⟩ := S11.out.b.t.c4
       obtain ⟨f_b7_0, f_b7_1, f_b7_2, f_b7_3⟩ := S11.out.b.t.f4
       go_simp
       clear c_b7_0 c_b7_1 c_b7_2 c_b7_3 f_b7_0 f_b7_1 f_b7_2 f_b7_3
       have S12 : Hid (Sx w _ [⟨(w14.heap.size), [.bool false, .slice none 0 0, .bool false, .slice none 0 0]⟩, ⟨(w12.heap.size), [.bool r1_m, .slice r1_0 r1_n r1_c, .bool r1_k, .slice r1_1 r1_l r1_d]⟩, ⟨qb6, [.bool m1, .slice o1_0 n1 o1_c, .bool k1, .slice o1_1 l1 o1_d]⟩, ⟨qb5, [.bool m0, .slice o0_0 n0 o0_c, .bool k0, .slice o0_1 l0 o0_d]⟩, ⟨(w.heap.size + 1), [.bool m1, .slice a1 n1 c1, .bool k1, .slice b1 l1 d1]⟩, ⟨(w.heap.size), [.bool m0, .slice a0 n0 c0, .bool k0, .slice b0 l0 d0]⟩] _) := Lib.hid (Sx.set4 S11.out 1 rfl _ _ _ _)
       clear S11
       refine hK.out _ _ ⟨S12.out.b.t.t.t.t.t.c4, S12.out.b.t.t.t.t.c4⟩ (fun h2 => ?_)
       clear hK K hH; have hH := h2; clear h2; try simp only [nrm]
       refine anyH_world (fun w16 hW => ?_)
       rw [← hW] at S12 hH
       clear hW
       refine step_one 7 rfl (by kernel_rfl) (fun K hK => ?_)
       obtain ⟨c_b8_0, c_b8_1, c_b8_2, c_b8_3⟩ := S12.out.b.c4
       obtain ⟨f_b8_0, f_b8_1, f_b8_2, f_b8_3⟩ := S12.out.b.f4
       go_simp
       clear c_b8_0 c_b8_1 c_b8_2 c_b8_3 f_b8_0 f_b8_1 f_b8_2 f_b8_3
       have S13 : Hid (Sx w _ [⟨(w14.heap.size), [.bool r2_m, .slice r2_0 r2_n r2_c, .bool r2_k, .slice r2_1 r2_l r2_d]⟩, ⟨(w12.heap.size), [.bool r1_m, .slice r1_0 r1_n r1_c, .bool r1_k, .slice r1_1 r1_l r1_d]⟩, ⟨qb6, [.bool m1, .slice o1_0 n1 o1_c, .bool k1, .slice o1_1 l1 o1_d]⟩, ⟨qb5, [.bool m0, .slice o0_0 n0 o0_c, .bool k0, .slice o0_1 l0 o0_d]⟩, ⟨(w.heap.size + 1), [.bool m1, .slice a1 n1 c1, .bool k1, .slice b1 l1 d1]⟩, ⟨(w.heap.size), [.bool m0, .slice a0 n0 c0, .bool k0, .slice b0 l0 d0]⟩] _) := Lib.hid (Sx.set4 S12.out 0 rfl _ _ _ _)
       clear S12
       refine hK.out _ _ ⟨S13.out.b.t.t.t.t.t.c4, S13.out.b.t.t.t.t.c4⟩ (fun h2 => ?_)
       clear hK K hH; have hH := h2; clear h2; try simp only [nrm]
       refine anyH_world (fun w17 hW => ?_)
       rw [← hW] at S13 hH
       clear hW
       refine wpAnyH_done (by kernel_rfl) ?_ _
       clear hH
       go_wp2_with fail
       go_meet
       case rel => exact ⟨_, _, _, _, _, _, _, _, _, _, _, _, _, _, _, _, _, _, rfl, rfl, S13.out⟩
      ·go_simp
       have S10 := Lib.hid (S9.out.var (w13.heap.size) [.bool false, .slice none 0 0, .bool false, .slice none 0 0] 35 (by simp))
       clear S9
       refine hK.out _ _ ⟨S10.out.b.t.t.t.t.t.c4, S10.out.b.t.t.t.t.c4⟩ (fun h2 => ?_)
       clear hK K hH; have hH := h2; clear h2; try simp only [nrm]
       refine anyH_world (fun w14 hW => ?_)
       rw [← hW] at S10 hH
       clear hW
       refine step_one 3 rfl (by kernel_rfl) (fun K hK => ?_)
       go_simp
       refine (qof_any S10.out.n.t.t.t.t.t.t.t.t.t.t.rx (by omega) (by omega)).mono ?_
       rintro e w15 ⟨r2_m, r2_0, r2_n, r2_c, r2_k, r2_1, r2_l, r2_d, rfl, hX, hB⟩
       have S11 := Lib.hid (((S10.out.step hB).qx hX rfl))
       clear S10 hX hB
       go_wp2_with fail
       refine hK.out _ _ ⟨S11.out.b.t.t.t.t.t.c4, S11.out.b.t.t.t.t.c4⟩ (fun h2 => ?_)
       clear hK K hH; have hH := h2; clear h2; try simp only [nrm]
       refine step_one 6 rfl (by kernel_rfl) (fun K hK => ?_)
       obtain ⟨c_b7_0, c_b7_1, c_b7_2, c_b7_3⟩ := S11.out.b.t.c4
       obtain ⟨f_b7_0, f_b7_1, f_b7_2, f_b7_3⟩ := S11.out.b.t.f4
       go_simp
       clear c_b7_0 c_b7_1 c_b7_2 c_b7_3 f_b7_0 f_b7_1 f_b7_2 f_b7_3
       have S12 : Hid (Sx w _ [⟨(w13.heap.size), [.bool false, .slice none 0 0, .bool false, .slice none 0 0]⟩, ⟨(w12.heap.size), [.bool r1_m, .slice r1_0 r1_n r1_c, .bool r1_k, .slice r1_1 r1_l r1_d]⟩, ⟨qb6, [.bool m1, .slice o1_0 n1 o1_c, .bool k1, .slice o1_1 l1 o1_d]⟩, ⟨qb5, [.bool m0, .slice o0_0 n0 o0_c, .bool k0, .slice o0_1 l0 o0_d]⟩, ⟨(w.heap.size + 1), [.bool m1, .slice a1 n1 c1, .bool k1, .slice b1 l1 d1]⟩, ⟨(w.heap.size), [.bool m0, .slice a0 n0 c0, .bool k0, .slice b0 l0 d0]⟩] _) := Lib.hid (Sx.set4 S11.out 1 rfl _ _ _ _)
       clear S11
       refine hK.out _ _ ⟨S12.out.b.t.t.t.t.t.c4, S12.out.b.t.t.t.t.c4⟩ (fun h2 => ?_)
       clear hK K hH; have hH := h2; clear h2; try simp only [nrm]
       refine anyH_world (fun w16 hW => ?_)
       rw [← hW] at S12 hH
       clear hW
       refine step_one 7 rfl (by kernel_rfl) (fun K hK => ?_)
       obtain ⟨c_b8_0, c_b8_1, c_b8_2, c_b8_3⟩ := S12.out.b.c4
       obtain ⟨f_b8_0, f_b8_1, f_b8_2, f_b8_3⟩ := S12.out.b.f4
       go_simp
       clear c_b8_0 c_b8_1 c_b8_2 c_b8_3 f_b8_0 f_b8_1 f_b8_2 f_b8_3
       have S13 : Hid (Sx w _ [⟨(w13.heap.size), [.bool r2_m, .slice r2_0 r2_n r2_c, .bool r2_k, .slice r2_1 r2_l r2_d]⟩, ⟨(w12.heap.size), [.bool r1_m, .slice r1_0 r1_n r1_c, .bool r1_k, .slice r1_1 r1_l r1_d]⟩, ⟨qb6, [.bool m1, .slice o1_0 n1 o1_c, .bool k1, .slice o1_1 l1 o1_d]⟩, ⟨qb5, [.bool m0, .slice o0_0 n0 o0_c, .bool k0, .slice o0_1 l0 o0_d]⟩, ⟨(w.heap.size + 1), [.bool m1, .slice a1 n1 c1, .bool k1, .slice b1 l1 d1]⟩, ⟨(w.heap.size), [.bool m0, .slice a0 n0 c0, .bool k0, .slice b0 l0 d0]⟩] _) := Lib.hid (Sx.set4 S12.out 0 rfl _ _ _ _)
       clear S12
       refine hK.out _ _ ⟨S13.out.b.t.t.t.t.t.c4, S13.out.b.t.t.t.t.c4⟩ (fun h2 => ?_)
       clear hK K hH; have hH := h2; clear h2; try simp only [nrm]
       refine anyH_world (fun w17 hW => ?_)
       rw [← hW] at S13 hH
       clear hW
       refine wpAnyH_done (by kernel_rfl) ?_ _
       clear hH
       go_wp2_with fail
       go_meet
       case rel => exact ⟨_, _, _, _, _, _, _, _, _, _, _, _, _, _, _, _, _, _, rfl, rfl, S13.out⟩
     ·go_simp
      have S9 := Lib.hid (S8.out.var (w12.heap.size) [.bool false, .slice none 0 0, .bool false, .slice none 0 0] 35 (by simp))
      clear S8
      refine hK.out _ _ ⟨S9.out.b.t.t.t.t.c4, S9.out.b.t.t.t.c4⟩ (fun h2 => ?_)
      clear hK K hH; have hH := h2; clear h2; try simp only [nrm]
      refine anyH_world (fun w13 hW => ?_)
      rw [← hW] at S9 hH
      clear hW
      refine wpAnyH_ready (rs := [3, 4]) (by kernel_rfl) (by simp) (ready_cons rfl (fun K hK => ?_) (ready_cons rfl (fun K hK => ?_) (AllReadyH.nil)))
      ·go_simp
       refine (qof_any S9.out.n.t.t.t.t.t.t.t.t.t.t.rx (by omega) (by omega)).mono ?_
       rintro e w14 ⟨r2_m, r2_0, r2_n, r2_c, r2_k, r2_1, r2_l, r2_d, rfl, hX, hB⟩
       have S10 := Lib.hid (((S9.out.step hB).qx hX rfl))
       clear S9 hX hB
       go_wp2_with fail
       refine hK.out _ _ ⟨S10.out.b.t.t.t.t.c4, S10.out.b.t.t.t.c4⟩ (fun h2 => ?_)
       clear hK K hH; have hH := h2; clear h2; try simp only [nrm]
       refine step_one 4 rfl (by kernel_rfl) (fun K hK => ?_)
       go_simp
       have S11 := Lib.hid (S10.out.var (w14.heap.size) [.bool false, .slice none 0 0, .bool false, .slice none 0 0] 35 (by simp))
       clear S10
       refine hK.out _ _ ⟨S11.out.b.t.t.t.t.t.c4, S11.out.b.t.t.t.t.c4⟩ (fun h2 => ?_)
       clear hK K hH; have hH := h2; clear h2; try simp only [nrm]
       refine anyH_world (fun w15 hW => ?_)
       rw [← hW] at S11 hH
       clear hW
       refine step_one 6 rfl (by kernel_rfl) (fun K hK => ?_)
       obtain ⟨c_b7_0, c_b7_1, c_b7_2, c_b7_3⟩ := S11.out.b.c4
       obtain ⟨f_b7_0, f_b7_1, f_b7_2, f_b7_3⟩ := S11.out.b.f4
       go_simp
       clear c_b7_0 c_b7_1 c_b7_2 c_b7_3 f_b7_0 f_b7_1 f_b7_2 f_b7_3
       have S12 : Hid (Sx w _ [⟨(w14.heap.size), [.bool r1_m, .slice r1_0 r1_n r1_c, .bool r1_k, .slice r1_1 r1_l r1_d]⟩, ⟨(w12.heap.size), [.bool false, .slice none 0 0, .bool false, .slice none 0 0]⟩, ⟨qb6, [.bool m1, .slice o1_0 n1 o1_c, .bool k1, .slice o1_1 l1 o1_d]⟩, ⟨qb5, [.bool m0, .slice o0_0 n0 o0_c, .bool k0, .slice o0_1 l0 o0_d]⟩, ⟨(w.heap.size + 1), [.bool m1, .slice a1 n1 c1, .bool k1, .slice b1 l1 d1]⟩, ⟨(w.heap.size), [.bool m0, .slice a0 n0 c0, .bool k0, .slice b0 l0 d0]⟩] _) := Lib.hid (Sx.set4 S11.out 0 rfl _ _ _ _)
       clear S11
       refine hK.out _ _ ⟨S12.out.b.t.t.t.t.t.c4, S12.out.b.t.t.t.t.c4⟩ (fun h2 => ?_)
       clear hK K hH; have hH := h2; clear h2; try simp only [nrm]
       refine anyH_world (fun w16 hW => ?_)
       rw [← hW] at S12 hH
       clear hW
       refine step_one 7 rfl (by kernel_rfl) (fun K hK => ?_)
       obtain ⟨c_b8_0, c_b8_1, c_b8_2, c_b8_3⟩ := S12.out.b.t.c4
       obtain ⟨f_b8_0, f_b8_1, f_b8_2, f_b8_3⟩ := S12.out.b.t.f4
       go_simp
       clear c_b8_0 c_b8_1 c_b8_2 c_b8_3 f_b8_0 f_b8_1 f_b8_2 f_b8_3
       have S13 : Hid (Sx w _ [⟨(w14.heap.size), [.bool r1_m, .slice r1_0 r1_n r1_c, .bool r1_k, .slice r1_1 r1_l r1_d]⟩, ⟨(w12.heap.size), [.bool r2_m, .slice r2_0 r2_n r2_c, .bool r2_k, .slice r2_1 r2_l r2_d]⟩, ⟨qb6, [.bool m1, .slice o1_0 n1 o1_c, .bool k1, .slice o1_1 l1 o1_d]⟩, ⟨qb5, [.bool m0, .slice o0_0 n0 o0_c, .bool k0, .slice o0_1 l0 o0_d]⟩, ⟨(w.heap.size + 1), [.bool m1, .slice a1 n1 c1, .bool k1, .slice b1 l1 d1]⟩, ⟨(w.heap.size), [.bool m0, .slice a0 n0 c0, .bool k0, .slice b0 l0 d0]⟩] _) := Lib.hid (Sx.set4 S12.out 1 rfl _ _ _ _)
       clear S12
       refine hK.out _ _ ⟨S13.out.b.t.t.t.t.t.c4, S13.out.b.t.t.t.t.c4⟩ (fun h2 => ?_)
       clear hK K hH; have hH := h2; clear h2; try simp only [nrm]
       refine anyH_world (fun w17 hW => ?_)
       rw [← hW] at S13 hH
       clear hW
       refine wpAnyH_done (by kernel_rfl) ?_ _
       clear hH
       go_wp2_with fail
       go_meet
       case rel => exact ⟨_, _, _, _, _, _, _, _, _, _, _, _, _, _, _, _, _, _, rfl, rfl, S13.out.swap⟩
      ·go_simp
       have S10 := Lib.hid (S9.out.var (w13.heap.size) [.bool false, .slice none 0 0, .bool false, .slice none 0 0] 35 (by simp))
       clear S9
       refine hK.out _ _ ⟨S10.out.b.t.t.t.t.t.c4, S10.out.b.t.t.t.t.c4⟩ (fun h2 => ?_)
       clear hK K hH; have hH := h2; clear h2; try simp only [nrm]
       refine anyH_world (fun w14 hW => ?_)
       rw [← hW] at S10 hH
       clear hW
       refine step_one 3 rfl (by kernel_rfl) (fun K hK => ?_)
       go_simp
       refine (qof_any S10.out.n.t.t.t.t.t.t.t.t.t.t.rx (by omega) (by omega)).mono ?_
       rintro e w15 ⟨r2_m, r2_0, r2_n, r2_c, r2_k, r2_1, r2_l, r2_d, rfl, hX, hB⟩
       have S11 := Lib.hid (((S10.out.step hB).qx hX rfl))
       clear S10 hX hB
       go_wp2_with fail
       refine hK.out _ _ ⟨S11.out.b.t.t.t.t.t.c4, S11.out.b.t.t.t.t.c4⟩ (fun h2 => ?_)
       clear hK K hH; have hH := h2; clear h2; try simp only [nrm]
       refine step_one 6 rfl (by kernel_rfl) (fun K hK => ?_)
       obtain ⟨c_b7_0, c_b7_1, c_b7_2, c_b7_3⟩ := S11.out.b.c4
       obtain ⟨f_b7_0, f_b7_1, f_b7_2, f_b7_3⟩ := S11.out.b.f4
       go_simp
       clear c_b7_0 c_b7_1 c_b7_2 c_b7_3 f_b7_0 f_b7_1 f_b7_2 f_b7_3
       have S12 : Hid (Sx w _ [⟨(w13.heap.size), [.bool r1_m, .slice r1_0 r1_n r1_c, .bool r1_k, .slice r1_1 r1_l r1_d]⟩, ⟨(w12.heap.size), [.bool false, .slice none 0 0, .bool false, .slice none 0 0]⟩, ⟨qb6, [.bool m1, .slice o1_0 n1 o1_c, .bool k1, .slice o1_1 l1 o1_d]⟩, ⟨qb5, [.bool m0, .slice o0_0 n0 o0_c, .bool k0, .slice o0_1 l0 o0_d]⟩, ⟨(w.heap.size + 1), [.bool m1, .slice a1 n1 c1, .bool k1, .slice b1 l1 d1]⟩, ⟨(w.heap.size), [.bool m0, .slice a0 n0 c0, .bool k0, .slice b0 l0 d0]⟩] _) := Lib.hid (Sx.set4 S11.out 0 rfl _ _ _ _)
       clear S11
       refine hK.out _ _ ⟨S12.out.b.t.t.t.t.t.c4, S12.out.b.t.t.t.t.c4⟩ (fun h2 => ?_)
       clear hK K hH; have hH := h2; clear h2; try simp only [nrm]
       refine anyH_world (fun w16 hW => ?_)
       rw [← hW] at S12 hH
       clear hW
       refine step_one 7 rfl (by kernel_rfl) (fun K hK => ?_)
       obtain ⟨c_b8_0, c_b8_1, c_b8_2, c_b8_3⟩ := S12.out.b.t.c4
       obtain ⟨f_b8_0, f_b8_1, f_b8_2, f_b8_3⟩ := S12.out.b.t.f4
       go_simp
       clear c_b8_0 c_b8_1 c_b8_2 c_b8_3 f_b8_0 f_b8_1 f_b8_2 f_b8_3
       have S13 : Hid (Sx w _ [⟨(w13.heap.size), [.bool r1_m, .slice r1_0 r1_n r1_c, .bool r1_k, .slice r1_1 r1_l r1_d]⟩, ⟨(w12.heap.size), [.bool r2_m, .slice r2_0 r2_n r2_c, .bool r2_k, .slice r2_1 r2_l r2_d]⟩, ⟨qb6, [.bool m1, .slice o1_0 n1 o1_c, .bool k1, .slice o1_1 l1 o1_d]⟩, ⟨qb5, [.bool m0, .slice o0_0 n0 o0_c, .bool k0, .slice o0_1 l0 o0_d]⟩, ⟨(w.heap.size + 1), [.bool m1, .slice a1 n1 c1, .bool k1, .slice b1 l1 d1]⟩, ⟨(w.heap.size), [.bool m0, .slice a0 n0 c0, .bool k0, .slice b0 l0 d0]⟩] _) := Lib.hid (Sx.set4 S12.out 1 rfl _ _ _ _)
       clear S12
       refine hK.out _ _ ⟨S13.out.b.t.t.t.t.t.c4, S13.out.b.t.t.t.t.c4⟩ (fun h2 => ?_)
       clear hK K hH; have hH := h2; clear h2; try simp only [nrm]
       refine anyH_world (fun w17 hW => ?_)
       rw [← hW] at S13 hH
       clear hW
       refine wpAnyH_done (by kernel_rfl) ?_ _
       clear hH
       go_wp2_with fail
       go_meet
       case rel => exact ⟨_, _, _, _, _, _, _, _, _, _, _, _, _, _, _, _, _, _, rfl, rfl, S13.out.swap⟩
    ·go_simp
     have S8 := Lib.hid (S7.out.var (w11.heap.size) [.bool false, .slice none 0 0, .bool false, .slice none 0 0] 35 (by simp))
     clear S7
     refine hK.out _ _ ⟨S8.out.b.t.t.t.t.c4, S8.out.b.t.t.t.c4⟩ (fun h2 => ?_)
     clear hK K hH; have hH := h2; clear h2; try simp only [nrm]
     refine anyH_world (fun w12 hW => ?_)
     rw [← hW] at S8 hH
     clear hW
     refine wpAnyH_ready (rs := [1, 5]) (by kernel_rfl) (by simp) (ready_cons rfl (fun K hK => ?_) (ready_cons rfl (fun K hK => ?_) (AllReadyH.nil)))
     ·go_simp
      refine (qof_any S8.out.n.t.t.t.t.t.t.rx (by omega) (by omega)).mono ?_
      rintro e w13 ⟨r1_m, r1_0, r1_n, r1_c, r1_k, r1_1, r1_l, r1_d, rfl, hX, hB⟩
      have S9 := Lib.hid (((S8.out.step hB).qx hX rfl))
      clear S8 hX hB
      go_wp2_with fail
      refine hK.out _ _ ⟨S9.out.b.t.t.t.t.c4, S9.out.b.t.t.t.c4⟩ (fun h2 => ?_)
      clear hK K hH; have hH := h2; clear h2; try simp only [nrm]
      refine wpAnyH_ready (rs := [3, 5]) (by kernel_rfl) (by simp) (ready_cons rfl (fun K hK => ?_) (ready_cons rfl (fun K hK => ?_) (AllReadyH.nil)))
      ·go_simp
       refine (qof_any S9.out.n.t.t.t.t.t.t.t.t.t.t.rx (by omega) (by omega)).mono ?_
       rintro e w14 ⟨r2_m, r2_0, r2_n, r2_c, r2_k, r2_1, r2_l, r2_d, rfl, hX, hB⟩
       have S10 := Lib.hid (((S9.out.step hB).qx hX rfl))
       clear S9 hX hB
       go_wp2_with fail
       refine hK.out _ _ ⟨S10.out.b.t.t.t.t.c4, S10.out.b.t.t.t.c4⟩ (fun h2 => ?_)
       clear hK K hH; have hH := h2; clear h2; try simp only [nrm]
       refine step_one 5 rfl (by kernel_rfl) (fun K hK => ?_)
       go_simp
       have S11 := Lib.hid (S10.out.var (w14.heap.size) [.bool false, .slice none 0 0, .bool false, .slice none 0 0] 35 (by simp))
       clear S10
       refine hK.out _ _ ⟨S11.out.b.t.t.t.t.t.c4, S11.out.b.t.t.t.t.c4⟩ (fun h2 => ?_)
       clear hK K hH; have hH := h2; clear h2; try simp only [nrm]
       refine anyH_world (fun w15 hW => ?_)
       rw [← hW] at S11 hH
       clear hW
       refine step_one 6 rfl (by kernel_rfl) (fun K hK => ?_)
       obtain ⟨c_b7_0, c_b7_1, c_b7_2, c_b7_3⟩ := S11.out.b.t.c4
       obtain ⟨f_b7_0, f_b7_1, f_b7_2, f_b7_3⟩ := S11.out.b.t.f4
       go_simp
       clear c_b7_0 c_b7_1 c_b7_2 c_b7_3 f_b7_0 f_b7_1 f_b7_2 f_b7_3
       have S12 : Hid (Sx w _ [⟨(w14.heap.size), [.bool false, .slice none 0 0, .bool false, .slice none 0 0]⟩, ⟨(w11.heap.size), [.bool r1_m, .slice r1_0 r1_n r1_c, .bool r1_k, .slice r1_1 r1_l r1_d]⟩, ⟨qb6, [.bool m1, .slice o1_0 n1 o1_c, .bool k1, .slice o1_1 l1 o1_d]⟩, ⟨qb5, [.bool m0, .slice o0_0 n0 o0_c, .bool k0, .slice o0_1 l0 o0_d]⟩, ⟨(w.heap.size + 1), [.bool m1, .slice a1 n1 c1, .bool k1, .slice b1 l1 d1]⟩, ⟨(w.heap.size), [.bool m0, .slice a0 n0 c0, .bool k0, .slice b0 l0 d0]⟩] _) := Lib.hid (Sx.set4 S11.out 1 rfl _ _ _ _)
       clear S11
       refine hK.out _ _ ⟨S12.out.b.t.t.t.t.t.c4, S12.out.b.t.t.t.t.c4⟩ (fun h2 => ?_)
       clear hK K hH; have hH := h2; clear h2; try simp only [nrm]
       refine anyH_world (fun w16 hW => ?_)
       rw [← hW] at S12 hH
       clear hW
       refine step_one 7 rfl (by kernel_rfl) (fun K hK => ?_)
       obtain ⟨c_b8_0, c_b8_1, c_b8_2, c_b8_3⟩ := S12.out.b.c4
       obtain ⟨f_b8_0, f_b8_1, f_b8_2, f_b8_3⟩ := S12.out.b.f4
       go_simp
       clear c_b8_0 c_b8_1 c_b8_2 c_b8_3 f_b8_0 f_b8_1 f_b8_2 f_b8_3
       have S13 : Hid (Sx w _ [⟨(w14.heap.size), [.bool r2_m, .slice r2_0 r2_n r2_c, .bool r2_k, .slice r2_1 r2_l r2_d]⟩, ⟨(w11.heap.size), [.bool r1_m, .slice r1_0 r1_n r1_c, .bool r1_k, .slice r1_1 r1_l r1_d]⟩, ⟨qb6, [.bool m1, .slice o1_0 n1 o1_c, .bool k1, .slice o1_1 l1 o1_d]⟩, ⟨qb5, [.bool m0, .slice o0_0 n0 o0_c, .bool k0, .slice o0_1 l0 o0_d]⟩, ⟨(w.heap.size + 1), [.bool m1, .slice a1 n1 c1, .bool k1, .slice b1 l1 d1]⟩, ⟨(w.heap.size), [.bool m0, .slice a0 n0 c0, .bool k0, .slice b0 l0 d0]⟩] _) := Lib.hid (Sx.set4 S12.out 0 rfl _ _ _ _)
       clear S12
       refine hK.out _ _ ⟨S13.out.b.t.t.t.t.t.c4, S13.out.b.t.t.t.t.c4⟩ (fun h2 => ?_)
       clear hK K hH; have hH := h2; clear h2; try simp only [nrm]
       refine anyH_world (fun w17 hW => ?_)
       rw [← hW] at S13 hH
       clear hW
       refine wpAnyH_done (by kernel_rfl) ?_ _
       clear hH
       go_wp2_with fail
       go_meet
       case rel => exact ⟨_, _, _, _, _, _, _, _, _, _, _, _, _, _, _, _, _, _, rfl, rfl, S13.out⟩
      ·go_simp
       have S10 := Lib.hid (S9.out.var (w13.heap.size) [.bool false, .slice none 0 0, .bool false, .slice none 0 0] 35 (by simp))
       clear S9
       refine hK.out _ _ ⟨S10.out.b.t.t.t.t.t.c4, S10.out.b.t.t.t.t.c4⟩ (fun h2 => ?_)
       clear hK K hH; have hH := h2; clear h2; try simp only [nrm]
       refine anyH_world (fun w14 hW => ?_)
       rw [← hW] at S10 hH
       clear hW
       refine step_one 3 rfl (by kernel_rfl) (fun K hK => ?_)
       go_simp
       refine (qof_any S10.out.n.t.t.t.t.t.t.t.t.t.t.rx (by omega) (by omega)).mono ?_
       rintro e w15 ⟨r2_m, r2_0, r2_n, r2_c, r2_k, r2_1, r2_l, r2_d, rfl, hX, hB⟩
       have S11 := Lib.hid (((S10.out.step hB).qx hX rfl))
       clear S10 hX hB
       go_wp2_with fail
       refine hK.out _ _ ⟨S11.out.b.t.t.t.t.t.c4, S11.out.b.t.t.t.t.c4⟩ (fun h2 => ?_)
       clear hK K hH; have hH := h2; clear h2; try simp only [nrm]
       refine step_one 6 rfl (by kernel_rfl) (fun K hK => ?_)
       obtain ⟨c_b7_0, c_b7_1, c_b7_2, c_b7_3⟩ := S11.out.b.t.c4
       obtain ⟨f_b7_0, f_b7_1, f_b7_2, f_b7_3⟩ := S11.out.b.t.f4
       go_simp
       clear c_b7_0 c_b7_1 c_b7_2 c_b7_3 f_b7_0 f_b7_1 f_b7_2 f_b7_3
       have S12 : Hid (Sx w _ [⟨(w13.heap.size), [.bool false, .slice none 0 0, .bool false, .slice none 0 0]⟩, ⟨(w11.heap.size), [.bool r1_m, .slice r1_0 r1_n r1_c, .bool r1_k, .slice r1_1 r1_l r1_d]⟩, ⟨qb6, [.bool m1, .slice o1_0 n1 o1_c, .bool k1, .slice o1_1 l1 o1_d]⟩, ⟨qb5, [.bool m0, .slice o0_0 n0 o0_c, .bool k0, .slice o0_1 l0 o0_d]⟩, ⟨(w.heap.size + 1), [.bool m1, .slice a1 n1 c1, .bool k1, .slice b1 l1 d1]⟩, ⟨(w.heap.size), [.bool m0, .slice a0 n0 c0, .bool k0, .slice b0 l0 d0]⟩] _) := Lib.hid (Sx.set4 S11.out 1 rfl _ _ _ _)
       clear S11
       refine hK.out _ _ ⟨S12.out.b.t.t.t.t.t.c4, S12.out.b.t.t.t.t.c4⟩ (fun h2 => ?_)
       clear hK K hH; have hH := h2; clear h2; try simp only [nrm]
       refine anyH_world (fun w16 hW => ?_)
       rw [← hW] at S12 hH
       clear hW
       refine step_one 7 rfl (by kernel_rfl) (fun K hK => ?_)
       obtain ⟨c_b8_0, c_b8_1, c_b8_2, c_b8_3⟩ := S12.out.b.c4
       obtain ⟨f_b8_0, f_b8_1, f_b8_2, f_b8_3⟩ := S12.out.b.f4
       go_simp
       clear c_b8_0 c_b8_1 c_b8_2 c_b8_3 f_b8_0 f_b8_1 f_b8_2 f_b8_3
       have S13 : Hid (Sx w _ [⟨(w13.heap.size), [.bool r2_m, .slice r2_0 r2_n r2_c, .bool r2_k, .slice r2_1 r2_l r2_d]⟩, ⟨(w11.heap.size), [.bool r1_m, .slice r1_0 r1_n r1_c, .bool r1_k, .slice r1_1 r1_l r1_d]⟩, ⟨qb6, [.bool m1, .slice o1_0 n1 o1_c, .bool k1, .slice o1_1 l1 o1_d]⟩, ⟨qb5, [.bool m0, .slice o0_0 n0 o0_c, .bool k0, .slice o0_1 l0 o0_d]⟩, ⟨(w.heap.size + 1), [.bool m1, .slice a1 n1 c1, .bool k1, .slice b1 l1 d1]⟩, ⟨(w.heap.size), [.bool m0, .slice a0 n0 c0, .bool k0, .slice b0 l0 d0]⟩] _) := Lib.hid (Sx.set4 S12.out 0 rfl _ _ _ _)
       clear S12
       refine hK.out _ _ ⟨S13.out.b.t.t.t.t.t.c4, S13.out.b.t.t.t.t.c4⟩ (fun h2 => ?_)
       clear hK K hH; have hH := h2; clear h2; try simp only [nrm]
       refine anyH_world (fun w17 hW => ?_)
       rw [← hW] at S13 hH
       clear hW
       refine wpAnyH_done (by kernel_rfl) ?_ _
       clear hH
       go_wp2_with fail
       go_meet
       case rel => exact ⟨_, _, _, _, _, _, _, _, _, _, _, _, _, _, _, _, _, _, rfl, rfl, S13.out⟩
     ·go_simp
      have S9 := Lib.hid (S8.out.var (w12.heap.size) [.bool false, .slice none 0 0, .bool false, .slice none 0 0] 35 (by simp))
      clear S8
      refine hK.out _ _ ⟨S9.out.b.t.t.t.t.t.c4, S9.out.b.t.t.t.t.c4⟩ (fun h2 => ?_)
      clear hK K hH; have hH := h2; clear h2; try simp only [nrm]
      refine anyH_world (fun w13 hW => ?_)
      rw [← hW] at S9 hH
      clear hW
      refine step_one 1 rfl (by kernel_rfl) (fun K hK => ?_)
      go_simp
      refine (qof_any S9.out.n.t.t.t.t.t.t.rx (by omega) (by omega)).mono ?_
      rintro e w14 ⟨r1_m, r1_0, r1_n, r1_c, r1_k, r1_1, r1_l, r1_d, rfl, hX, hB⟩
      have S10 := Lib.hid (((S9.out.step hB).qx hX rfl))
      clear S9 hX hB
      go_wp2_with fail
      refine hK.out _ _ ⟨S10.out.b.t.t.t.t.t.c4, S10.out.b.t.t.t.t.c4⟩ (fun h2 => ?_)
      clear hK K hH; have hH := h2; clear h2; try simp only [nrm]
      refine step_one 3 rfl (by kernel_rfl) (fun K hK => ?_)
      go_simp
      refine (qof_any S10.out.n.t.t.t.t.t.t.t.t.t.t.rx (by omega) (by omega)).mono ?_
      rintro e w15 ⟨r2_m, r2_0, r2_n, r2_c, r2_k, r2_1, r2_l, r2_d, rfl, hX, hB⟩
      have S11 := Lib.hid (((S10.out.step hB).qx hX rfl))
      clear S10 hX hB
      go_wp2_with fail
      refine hK.out _ _ ⟨S11.out.b.t.t.t.t.t.c4, S11.out.b.t.t.t.t.c4⟩ (fun h2 => ?_)
      clear hK K hH; have hH := h2; clear h2; try simp only [nrm]
      refine step_one 6 rfl (by kernel_rfl) (fun K hK => ?_)
      obtain ⟨c_b7_0, c_b7_1, c_b7_2, c_b7_3⟩ := S11.out.b.t.c4
      obtain ⟨f_b7_0, f_b7_1, f_b7_2, f_b7_3⟩ := S11.out.b.t.f4
      go_simp
      clear c_b7_0 c_b7_1 c_b7_2 c_b7_3 f_b7_0 f_b7_1 f_b7_2 f_b7_3
      have S12 : Hid (Sx w _ [⟨(w12.heap.size), [.bool false, .slice none 0 0, .bool false, .slice none 0 0]⟩, ⟨(w11.heap.size), [.bool r1_m, .slice r1_0 r1_n r1_c, .bool r1_k, .slice r1_1 r1_l r1_d]⟩, ⟨qb6, [.bool m1, .slice o1_0 n1 o1_c, .bool k1, .slice o1_1 l1 o1_d]⟩, ⟨qb5, [.bool m0, .slice o0_0 n0 o0_c, .bool k0, .slice o0_1 l0 o0_d]⟩, ⟨(w.heap.size + 1), [.bool m1, .slice a1 n1 c1, .bool k1, .slice b1 l1 d1]⟩, ⟨(w.heap.size), [.bool m0, .slice a0 n0 c0, .bool k0, .slice b0 l0 d0]⟩] _) := Lib.hid (Sx.set4 S11.out 1 rfl _ _ _ _)
      clear S11
      refine hK.out _ _ ⟨S12.out.b.t.t.t.t.t.c4, S12.out.b.t.t.t.t.c4⟩ (fun h2 => ?_)
      clear hK K hH; have hH := h2; clear h2; try simp only [nrm]
      refine anyH_world (fun w16 hW => ?_)
      rw [← hW] at S12 hH
      clear hW
      refine step_one 7 rfl (by kernel_rfl) (fun K hK => ?_)
      obtain ⟨c_b8_0, c_b8_1, c_b8_2, c_b8_3⟩ := S12.out.b.c4
      obtain ⟨f_b8_0, f_b8_1, f_b8_2, f_b8_3⟩ := S12.out.b.f4
      go_simp
      clear c_b8_0 c_b8_1 c_b8_2 c_b8_3 f_b8_0 f_b8_1 f_b8_2 f_b8_3
      have S13 : Hid (Sx w _ [⟨(w12.heap.size), [.bool r2_m, .slice r2_0 r2_n r2_c, .bool r2_k, .slice r2_1 r2_l r2_d]⟩, ⟨(w11.heap.size), [.bool r1_m, .slice r1_0 r1_n r1_c, .bool r1_k, .slice r1_1 r1_l r1_d]⟩, ⟨qb6, [.bool m1, .slice o1_0 n1 o1_c, .bool k1, .slice o1_1 l1 o1_d]⟩, ⟨qb5, [.bool m0, .slice o0_0 n0 o0_c, .bool k0, .slice o0_1 l0 o0_d]⟩, ⟨(w.heap.size + 1), [.bool m1, .slice a1 n1 c1, .bool k1, .slice b1 l1 d1]⟩, ⟨(w.heap.size), [.bool m0, .slice a0 n0 c0, .bool k0, .slice b0 l0 d0]⟩] _) := Lib.hid (Sx.set4 S12.out 0 rfl _ _ _ _)
      clear S12
      refine hK.out _ _ ⟨S13.out.b.t.t.t.t.t.c4, S13.out.b.t.t.t.t.c4⟩ (fun h2 => ?_)
      clear hK K hH; have hH := h2; clear h2; try simp only [nrm]
      refine anyH_world (fun w17 hW => ?_)
      rw [← hW] at S13 hH
      clear hW
      refine wpAnyH_done (by kernel_rfl) ?_ _
      clear hH
      go_wp2_with fail
      go_meet
      case rel => exact ⟨_, _, _, _, _, _, _, _, _, _, _, _, _, _, _, _, _, _, rfl, rfl, S13.out⟩
    ·go_simp
     have S8 := Lib.hid (S7.out.var (w11.heap.size) [.bool false, .slice none 0 0, .bool false, .slice none 0 0] 35 (by simp))
     clear S7
     refine hK.out _ _ ⟨S8.out.b.t.t.t.t.c4, S8.out.b.t.t.t.c4⟩ (fun h2 => ?_)
     clear hK K hH; have hH := h2; clear h2; try simp only [nrm]
     refine anyH_world (fun w12 hW => ?_)
     rw [← hW] at S8 hH
     clear hW
     refine wpAnyH_ready (rs := [1, 4]) (by kernel_rfl) (by simp) (ready_cons rfl (fun K hK => ?_) (ready_cons rfl (fun K hK => ?_) (AllReadyH.nil)))
     ·go_simp
      refine (qof_any S8.out.n.t.t.t.t.t.t.rx (by omega) (by omega)).mono ?_
      rintro e w13 ⟨r1_m, r1_0, r1_n, r1_c, r1_k, r1_1, r1_l, r1_d, rfl, hX, hB⟩
      have S9 := Lib.hid (((S8.out.step hB).qx hX rfl))
      clear S8 hX hB
      go_wp2_with fail
      refine hK.out _ _ ⟨S9.out.b.t.t.t.t.c4, S9.out.b.t.t.t.c4⟩ (fun h2 => ?_)
      clear hK K hH; have hH := h2; clear h2; try simp only [nrm]
      refine wpAnyH_ready (rs := [3, 4]) (by kernel_rfl) (by simp) (ready_cons rfl (fun K hK => ?_) (ready_cons rfl (fun K hK => ?_) (AllReadyH.nil)))
      ·go_simp
       refine (qof_any S9.out.n.t.t.t.t.t.t.t.t.t.t.rx (by omega) (by omega)).mono ?_
       rintro e w14 ⟨r2_m, r2_0, r2_n, r2_c, r2_k, r2_1, r2_l, r2_d, rfl, hX, hB⟩
       have S10 := Lib.hid (((S9.out.step hB).qx hX rfl))
       clear S9 hX hB
       go_wp2_with fail
       refine hK.out _ _ ⟨S10.out.b.t.t.t.t.c4, S10.out.b.t.t.t.c4⟩ (fun h2 => ?_)
       clear hK K hH; have hH := h2; clear h2; try simp only [nrm]
       refine step_one 4 rfl (by kernel_rfl) (fun K hK => ?_)
       go_simp
       have S11 := Lib.hid (S10.out.var (w14.heap.size) [.bool false, .slice none 0 0, .bool false, .slice none 0 0] 35 (by simp))
       clear S10
       refine hK.out _ _ ⟨S11.out.b.t.t.t.t.t.c4, S11.out.b.t.t.t.t.c4⟩ (fun h2 => ?_)
       clear hK K hH; have hH := h2; clear h2; try simp only [nrm]
       refine anyH_world (fun w15 hW => ?_)
       rw [← hW] at S11 hH
       clear hW
       refine step_one 6 rfl (by kernel_rfl) (fun K hK => ?_)
       obtain ⟨c_b7_0, c_b7_1, c_b7_2, c_b7_3⟩ := S11.out.b.c4
       obtain ⟨f_b7_0, f_b7_1, f_b7_2, f_b7_3⟩ := S11.out.b.f4
       go_simp
       clear c_b7_0 c_b7_1 c_b7_2 c_b7_3 f_b7_0 f_b7_1 f_b7_2 f_b7_3
       have S12 : Hid (Sx w _ [⟨(w14.heap.size), [.bool r1_m, .slice r1_0 r1_n r1_c, .bool r1_k, .slice r1_1 r1_l r1_d]⟩, ⟨(w11.heap.size), [.bool false, .slice none 0 0, .bool false, .slice none 0 0]⟩, ⟨qb6, [.bool m1, .slice o1_0 n1 o1_c, .bool k1, .slice o1_1 l1 o1_d]⟩, ⟨qb5, [.bool m0, .slice o0_0 n0 o0_c, .bool k0, .slice o0_1 l0 o0_d]⟩, ⟨(w.heap.size + 1), [.bool m1, .slice a1 n1 c1, .bool k1, .slice b1 l1 d1]⟩, ⟨(w.heap.size), [.bool m0, .slice a0 n0 c0, .bool k0, .slice b0 l0 d0]⟩] _) := Lib.hid (Sx.set4 S11.out 0 rfl _ _ _ _)
       clear S11
       refine hK.out _ _ ⟨S12.out.b.t.t.t.t.t.c4, S12.out.b.t.t.t.t.c4⟩ (fun h2 => ?_)
       clear hK K hH; have hH := h2; clear h2; try simp only [nrm]
       refine anyH_world (fun w16 hW => ?_)
       rw [← hW] at S12 hH
       clear hW
       refine step_one 7 rfl (by kernel_rfl) (fun K hK => ?_)
       obtain ⟨c_b8_0, c_b8_1, c_b8_2, c_b8_3⟩ := S12.out.b.t.c4
       obtain ⟨f_b8_0, f_b8_1, f_b8_2, f_b8_3⟩ := S12.out.b.t.f4
       go_simp
       clear c_b8_0 c_b8_1 c_b8_2 c_b8_3 f_b8_0 f_b8_1 f_b8_2 f_b8_3
       have S13 : Hid (Sx w _ [⟨(w14.heap.size), [.bool r1_m, .slice r1_0 r1_n r1_c, .bool r1_k, .slice r1_1 r1_l r1_d]⟩, ⟨(w11.heap.size), [.bool r2_m, .slice r2_0 r2_n r2_c, .bool r2_k, .slice r2_1 r2_l r2_d]⟩, ⟨qb6, [.bool m1, .slice o1_0 n1 o1_c, .bool k1, .slice o1_1 l1 o1_d]⟩, ⟨qb5, [.bool m0, .slice o0_0 n0 o0_c, .bool k0, .slice o0_1 l0 o0_d]⟩, ⟨(w.heap.size + 1), [.bool m1, .slice a1 n1 c1, .bool k1, .slice b1 l1 d1]⟩, ⟨(w.heap.size), [.bool m0, .slice a0 n0 c0, .bool k0, .slice b0 l0 d0]⟩] _) := Lib.hid (Sx.set4 S12.out 1 rfl _ _ _ _)
       clear S12
       refine hK.out _ _ ⟨S13.out.b.t.t.t.t.t.c4, S13.out.b.t.t.t.t.c4⟩ (fun h2 => ?_)
       clear hK K hH; have hH := h2; clear h2; try simp only [nrm]
       refine anyH_world (fun w17 hW => ?_)
       rw [← hW] at S13 hH
       clear hW
       refine wpAnyH_done (by kernel_rfl) ?_ _
       clear hH
       go_wp2_with fail
       go_meet
       case rel => exact ⟨_, _, _, _, _, _, _, _, _, _, _, _, _, _, _, _, _, _, rfl, rfl, S13.out.swap⟩
      ·go_simp
       have S10 := Lib.hid (S9.out.var (w13.heap.size) [.bool false, .slice none 0 0, .bool false, .slice none 0 0] 35 (by simp))
       clear S9
       refine hK.out _ _ ⟨S10.out.b.t.t.t.t.t.c4, S10.out.b.t.t.t.t.c4⟩ (fun h2 => ?_)
       clear hK K hH; have hH := h2; clear h2; try simp only [nrm]
       refine anyH_world (fun w14 hW => ?_)
       rw [← hW] at S10 hH
       clear hW
       refine step_one 3 rfl (by kernel_rfl) (fun K hK => ?_)
       go_simp
       refine (qof_any S10.out.n.t.t.t.t.t.t.t.t.t.t.rx (by omega) (by omega)).mono ?_
       rintro e w15 ⟨r2_m, r2_0, r2_n, r2_c, r2_k, r2_1, r2_l, r2_d, rfl, hX, hB⟩
       have S11 := Lib.hid (((S10.out.step hB).qx hX rfl))
       clear S10 hX hB
       go_wp2_with fail
       refine hK.out _ _ ⟨S11.out.b.t.t.t.t.t.c4, S11.out.b.t.t.t.t.c4⟩ (fun h2 => ?_)
       clear hK K hH; have hH := h2; clear h2; try simp only [nrm]
       refine step_one 6 rfl (by kernel_rfl) (fun K hK => ?_)
       obtain ⟨c_b7_0, c_b7_1, c_b7_2, c_b7_3⟩ := S11.out.b.c4
       obtain ⟨f_b7_0, f_b7_1, f_b7_2, f_b7_3⟩ := S11.out.b.f4
       go_simp
       clear c_b7_0 c_b7_1 c_b7_2 c_b7_3 f_b7_0 f_b7_1 f_b7_2 f_b7_3
       have S12 : Hid (Sx w _ [⟨(w13.heap.size), [.bool r1_m, .slice r1_0 r1_n r1_c, .bool r1_k, .slice r1_1 r1_l r1_d]⟩, ⟨(w11.heap.size), [.bool false, .slice none 0 0, .bool false, .slice none 0 0]⟩, ⟨qb6, [.bool m1, .slice o1_0 n1 o1_c, .bool k1, .slice o1_1 l1 o1_d]⟩, ⟨qb5, [.bool m0, .slice o0_0 n0 o0_c, .bool k0, .slice o0_1 l0 o0_d]⟩, ⟨(w.heap.size + 1), [.bool m1, .slice a1 n1 c1, .bool k1, .slice b1 l1 d1]⟩, ⟨(w.heap.size), [.bool m0, .slice a0 n0 c0, .bool k0, .slice b0 l0 d0]⟩] _) := Lib.hid (Sx.set4 S11.out 0 rfl _ _ _ _)
       clear S11
       refine hK.out _ _ ⟨S12.out.b.t.t.t.t.t.c4, S12.out.b.t.t.t.t.c4⟩ (fun h2 => ?_)
       clear hK K hH; have hH := h2; clear h2; try simp only [nrm]
       refine anyH_world (fun w16 hW => ?_)
       rw [← hW] at S12 hH
       clear hW
       refine step_one 7 rfl (by kernel_rfl) (fun K hK => ?_)
       obtain ⟨c_b8_0, c_b8_1, c_b8_2, c_b8_3⟩ := S12.out.b.t.c4
       obtain ⟨f_b8_0, f_b8_1, f_b8_2, f_b8_3⟩ := S12.out.b.t.f4
       go_simp
       clear c_b8_0 c_b8_1 c_b8_2 c_b8_3 f_b8_0 f_b8_1 f_b8_2 f_b8_3
       have S13 : Hid (Sx w _ [⟨(w13.heap.size), [.bool r1_m, .slice r1_0 r1_n r1_c, .bool r1_k, .slice r1_1 r1_l r1_d]⟩, ⟨(w11.heap.size), [.bool r2_m, .slice r2_0 r2_n r2_c, .bool r2_k, .slice r2_1 r2_l r2_d]⟩, ⟨qb6, [.bool m1, .slice o1_0 n1 o1_c, .bool k1, .slice o1_1 l1 o1_d]⟩, ⟨qb5, [.bool m0, .slice o0_0 n0 o0_c, .bool k0, .slice o0_1 l0 o0_d]⟩, ⟨(w.heap.size + 1), [.bool m1, .slice a1 n1 c1, .bool k1, .slice b1 l1 d1]⟩, ⟨(w.heap.size), [.bool m0, .slice a0 n0 c0, .bool k0, .slice b0 l0 d0]⟩] _) := Lib.hid (Sx.set4 S12.out 1 rfl _ _ _ _)
       clear S12
       refine hK.out _ _ ⟨S13.out.b.t.t.t.t.t.c4, S13.out.b.t.t.t.t.c4⟩ (fun h2 => ?_)
       clear hK K hH; have hH := h2; clear h2; try simp only [nrm]
       refine anyH_world (fun w17 hW => ?_)
       rw [← hW] at S13 hH
       clear hW
       refine wpAnyH_done (by kernel_rfl) ?_ _
       clear hH
       go_wp2_with fail
       go_meet
       case rel => exact ⟨_, _, _, _, _, _, _, _, _, _, _, _, _, _, _, _, _, _, rfl, rfl, S13.out.swap⟩
     ·go_simp
      have S9 := Lib.hid (S8.out.var (w12.heap.size) [.bool false, .slice none 0 0, .bool false, .slice none 0 0] 35 (by simp))
      clear S8
      refine hK.out _ _ ⟨S9.out.b.t.t.t.t.t.c4, S9.out.b.t.t.t.t.c4⟩ (fun h2 => ?_)
      clear hK K hH; have hH := h2; clear h2; try simp only [nrm]
      refine anyH_world (fun w13 hW => ?_)
      rw [← hW] at S9 hH
      clear hW
      refine step_one 1 rfl (by kernel_rfl) (fun K hK => ?_)
      go_simp
      refine (qof_any S9.out.n.t.t.t.t.t.t.rx (by omega) (by omega)).mono ?_
      rintro e w14 ⟨r1_m, r1_0, r1_n, r1_c, r1_k, r1_1, r1_l, r1_d, rfl, hX, hB⟩
      have S10 := Lib.hid (((S9.out.step hB).qx hX rfl))
      clear S9 hX hB
      go_wp2_with fail
      refine hK.out _ _ ⟨S10.out.b.t.t.t.t.t.c4, S10.out.b.t.t.t.t.c4⟩ (fun h2 => ?_)
      clear hK K hH; have hH := h2; clear h2; try simp only [nrm]
      refine step_one 3 rfl (by kernel_rfl) (fun K hK => ?_)
      go_simp
      refine (qof_any S10.out.n.t.t.t.t.t.t.t.t.t.t.rx (by omega) (by omega)).mono ?_
      rintro e w15 ⟨r2_m, r2_0, r2_n, r2_c, r2_k, r2_1, r2_l, r2_d, rfl, hX, hB⟩
      have S11 := Lib.hid (((S10.out.step hB).qx hX rfl))
      clear S10 hX hB
      go_wp2_with fail
      refine hK.out _ _ ⟨S11.out.b.t.t.t.t.t.c4, S11.out.b.t.t.t.t.c4⟩ (fun h2 => ?_)
      clear hK K hH; have hH := h2; clear h2; try simp only [nrm]
      refine step_one 6 rfl (by kernel_rfl) (fun K hK => ?_)
      obtain ⟨c_b7_0, c_b7_1, c_b7_2, c_b7_3⟩ := S11.out.b.c4
      obtain ⟨f_b7_0, f_b7_1, f_b7_2, f_b7_3⟩ := S11.out.b.f4
      go_simp
      clear c_b7_0 c_b7_1 c_b7_2 c_b7_3 f_b7_0 f_b7_1 f_b7_2 f_b7_3
      have S12 : Hid (Sx w _ [⟨(w12.heap.size), [.bool r1_m, .slice r1_0 r1_n r1_c, .bool r1_k, .slice r1_1 r1_l r1_d]⟩, ⟨(w11.heap.size), [.bool false, .slice none 0 0, .bool false, .slice none 0 0]⟩, ⟨qb6, [.bool m1, .slice o1_0 n1 o1_c, .bool k1, .slice o1_1 l1 o1_d]⟩, ⟨qb5, [.bool m0, .slice o0_0 n0 o0_c, .bool k0, .slice o0_1 l0 o0_d]⟩, ⟨(w.heap.size + 1), [.bool m1, .slice a1 n1 c1, .bool k1, .slice b1 l1 d1]⟩, ⟨(w.heap.size), [.bool m0, .slice a0 n0 c0, .bool k0, .slice b0 l0 d0]⟩] _) := Lib.hid (Sx.set4 S11.out 0 rfl _ _ _ _)
      clear S11
      refine hK.out _ _ ⟨S12.out.b.t.t.t.t.t.c4, S12.out.b.t.t.t.t.c4⟩ (fun h2 => ?_)
      clear hK K hH; have hH := h2; clear h2; try simp only [nrm]
      refine anyH_world (fun w16 hW => ?_)
      rw [← hW] at S12 hH
      clear hW
      refine step_one 7 rfl (by kernel_rfl) (fun K hK => ?_)
      obtain ⟨c_b8_0, c_b8_1, c_b8_2, c_b8_3⟩ := S12.out.b.t.c4
      obtain ⟨f_b8_0, f_b8_1, f_b8_2, f_b8_3⟩ := S12.out.b.t.f4
      go_simp
      clear c_b8_0 c_b8_1 c_b8_2 c_b8_3 f_b8_0 f_b8_1 f_b8_2 f_b8_3
      have S13 : Hid (Sx w _ [⟨(w12.heap.size), [.bool r1_m, .slice r1_0 r1_n r1_c, .bool r1_k, .slice r1_1 r1_l r1_d]⟩, ⟨(w11.heap.size), [.bool r2_m, .slice r2_0 r2_n r2_c, .bool r2_k, .slice r2_1 r2_l r2_d]⟩, ⟨qb6, [.bool m1, .slice o1_0 n1 o1_c, .bool k1, .slice o1_1 l1 o1_d]⟩, ⟨qb5, [.bool m0, .slice o0_0 n0 o0_c, .bool k0, .slice o0_1 l0 o0_d]⟩, ⟨(w.heap.size + 1), [.bool m1, .slice a1 n1 c1, .bool k1, .slice b1 l1 d1]⟩, ⟨(w.heap.size), [.bool m0, .slice a0 n0 c0, .bool k0, .slice b0 l0 d0]⟩] _) := Lib.hid (Sx.set4 S12.out 1 rfl _ _ _ _)
      clear S12
      refine hK.out _ _ ⟨S13.out.b.t.t.t.t.t.c4, S13.out.b.t.t.t.t.c4⟩ (fun h2 => ?_)
      clear hK K hH; have hH := h2; clear h2; try simp only [nrm]
      refine anyH_world (fun w17 hW => ?_)
      rw [← hW] at S13 hH
      clear hW
      refine wpAnyH_done (by kernel_rfl) ?_ _
      clear hH
      go_wp2_with fail
      go_meet
      case rel => exact ⟨_, _, _, _, _, _, _, _, _, _, _, _, _, _, _, _, _, _, rfl, rfl, S13.out.swap⟩
  case rest =>
  clear S6
  obtain ⟨qb7, qb8, r2_m, r2_0, r2_n, r2_c, r2_k, r2_1, r2_l, r2_d, r1_m, r1_0, r1_n, r1_c, r1_k, r1_1, r1_l, r1_d, rfl, rfl, S7⟩ := hcut
  obtain ⟨w18, hW⟩ : ∃ w18, w18 = wc := ⟨_, rfl⟩
  rw [← hW] at S7 ⊢
  clear hW
  go_wp2_with fail
  have S8 := Lib.hid (S7.out.drew)
  clear S7
  refine wp_region_held_drew (S := fun w' => (w'.cell? ⟨qb5, 0, none⟩ = some (.bool m0) ∧ w'.cell? ⟨qb5, 1, none⟩ = some (.slice o0_0 n0 o0_c) ∧ w'.cell? ⟨qb5, 2, none⟩ = some (.bool k0) ∧ w'.cell? ⟨qb5, 3, none⟩ = some (.slice o0_1 l0 o0_d)) ∧ (w'.cell? ⟨qb6, 0, none⟩ = some (.bool m1) ∧ w'.cell? ⟨qb6, 1, none⟩ = some (.slice o1_0 n1 o1_c) ∧ w'.cell? ⟨qb6, 2, none⟩ = some (.bool k1) ∧ w'.cell? ⟨qb6, 3, none⟩ = some (.slice o1_1 l1 o1_d)) ∧ (w'.cell? ⟨qb7, 0, none⟩ = some (.bool r1_m) ∧ w'.cell? ⟨qb7, 1, none⟩ = some (.slice r1_0 r1_n r1_c) ∧ w'.cell? ⟨qb7, 2, none⟩ = some (.bool r1_k) ∧ w'.cell? ⟨qb7, 3, none⟩ = some (.slice r1_1 r1_l r1_d)) ∧ (w'.cell? ⟨qb8, 0, none⟩ = some (.bool r2_m) ∧ w'.cell? ⟨qb8, 1, none⟩ = some (.slice r2_0 r2_n r2_c) ∧ w'.cell? ⟨qb8, 2, none⟩ = some (.bool r2_k) ∧ w'.cell? ⟨qb8, 3, none⟩ = some (.slice r2_1 r2_l r2_d))) (by kernel_rfl) (⟨S8.out.b.t.t.t.c4, S8.out.b.t.t.c4, S8.out.b.t.c4, S8.out.b.c4⟩) (fun hH => ?_)
  refine anyH_world (fun w19 hW => ?_)
  rw [← hW] at S8 hH
  clear hW
  refine step_on 0 rfl (by kernel_rfl) (fun _ _ _ h => h) (by rfl) hH (by intro w hS; go_simp <;> with_reducible rfl) ?_
  try simp only [nrm]
  refine step_on 1 rfl (by kernel_rfl) (fun _ _ _ h => h) (by rfl) hH (by intro w hS; go_simp <;> with_reducible rfl) ?_
  try simp only [nrm]
  refine step_on 3 rfl (by kernel_rfl) (fun _ _ _ h => h) (by rfl) hH (by intro w hS; go_simp <;> with_reducible rfl) ?_
  try simp only [nrm]
  refine step_on 4 rfl (by kernel_rfl) (fun _ _ _ h => h) (by rfl) hH (by intro w hS; go_simp <;> with_reducible rfl) ?_
  try simp only [nrm]
  refine step_one 2 rfl (by kernel_rfl) (fun K hK => ?_)
  go_simp
  refine (radd_any S8.out.n.t.t.t.t.t.rx S8.out.n.t.t.rx (by omega) (by omega) (by omega)).mono ?_
  rintro e w20 ⟨r3_m, r3_0, r3_n, r3_c, r3_k, r3_1, r3_l, r3_d, rfl, hX, hB⟩
  have S9 := Lib.hid (((S8.out.step hB).rc hX rfl))
  clear S8 hX hB
  go_wp2_with fail
  refine hK.out _ _ ⟨S9.out.b.t.t.t.c4, S9.out.b.t.t.c4, S9.out.b.t.c4, S9.out.b.c4⟩ (fun h2 => ?_)
  clear hK K hH; have hH := h2; clear h2; try simp only [nrm]
  refine step_one 5 rfl (by kernel_rfl) (fun K hK => ?_)
  go_simp
  refine (qadd_any S9.out.n.t.t.qx S9.out.n.t.qx (by omega) (by omega) (by omega)).mono ?_
  rintro e w21 ⟨r4_m, r4_0, r4_n, r4_c, r4_k, r4_1, r4_l, r4_d, rfl, hX, hB⟩
  have S10 := Lib.hid (((S9.out.step hB).qx hX rfl))
  clear S9 hX hB
  go_wp2_with fail
  refine hK.out _ _ ⟨S10.out.b.t.t.t.c4, S10.out.b.t.t.c4, S10.out.b.t.c4, S10.out.b.c4⟩ (fun h2 => ?_)
  clear hK K hH; have hH := h2; clear h2; try simp only [nrm]
  refine step_one 6 rfl (by kernel_rfl) (fun K hK => ?_)
  go_simp
  refine (qrat_any S10.out.n.qx (by omega) (by omega)).mono ?_
  rintro e w22 ⟨r5_m, r5_0, r5_n, r5_c, r5_k, r5_1, r5_l, r5_d, rfl, hX, hB⟩
  have S11 := Lib.hid (((S10.out.step hB).rc hX rfl))
  clear S10 hX hB
  go_wp2_with fail
  refine hK.out _ _ ⟨S11.out.b.t.t.t.c4, S11.out.b.t.t.c4, S11.out.b.t.c4, S11.out.b.c4⟩ (fun h2 => ?_)
  clear hK K hH; have hH := h2; clear h2; try simp only [nrm]
  refine step_one 7 rfl (by kernel_rfl) (fun K hK => ?_)
  go_simp
  refine (rsame_eq S11.out.n.t.t.rc S11.out.n.rc (rfl)).mono ?_
  rintro e w23 ⟨rfl, hB⟩
  have S12 := Lib.hid ((S11.out.step hB))
  clear S11 hB
  go_wp2_with fail
  refine hK.out _ _ ⟨S12.out.b.t.t.t.c4, S12.out.b.t.t.c4, S12.out.b.t.c4, S12.out.b.c4⟩ (fun h2 => ?_)
  clear hK K hH; have hH := h2; clear h2; try simp only [nrm]
  refine step_on 8 rfl (by kernel_rfl) (fun _ _ _ h => h) (by rfl) hH (by intro w hS; go_simp <;> with_reducible rfl) ?_
  try simp only [nrm]
  refine step_on 9 rfl (by kernel_rfl) (fun _ _ _ h => h) (by rfl) hH (by intro w hS; go_simp <;> with_reducible rfl) ?_
  try simp only [nrm]
  refine step_on 10 rfl (by kernel_rfl) (fun _ _ _ h => h) (by rfl) hH (by intro w hS; go_simp <;> with_reducible rfl) ?_
  try simp only [nrm]
  refine step_on 11 rfl (by kernel_rfl) (fun _ _ _ h => h) (by rfl) hH (by intro w hS; go_simp <;> with_reducible rfl) ?_
  try simp only [nrm]
  refine step_on 13 rfl (by kernel_rfl) (fun _ _ _ h => h) (by rfl) hH (by intro w hS; go_simp <;> with_reducible rfl) ?_
  try simp only [nrm]
  refine step_on 14 rfl (by kernel_rfl) (fun _ _ _ h => h) (by rfl) hH (by intro w hS; go_simp <;> with_reducible rfl) ?_
  try simp only [nrm]
  refine step_one 12 rfl (by kernel_rfl) (fun K hK => ?_)
  go_simp
  refine (rsub_any S12.out.n.t.t.t.t.t.t.t.t.rx S12.out.n.t.t.t.t.t.rx (by omega) (by omega) (by omega)).mono ?_
  rintro e w24 ⟨r6_m, r6_0, r6_n, r6_c, r6_k, r6_1, r6_l, r6_d, rfl, hX, hB⟩
  have S13 := Lib.hid (((S12.out.step hB).rc hX rfl))
  clear S12 hX hB
  go_wp2_with fail
  refine hK.out _ _ ⟨S13.out.b.t.t.t.c4, S13.out.b.t.t.c4, S13.out.b.t.c4, S13.out.b.c4⟩ (fun h2 => ?_)
  clear hK K hH; have hH := h2; clear h2; try simp only [nrm]
  refine step_one 15 rfl (by kernel_rfl) (fun K hK => ?_)
  go_simp
  refine (qsub_any S13.out.n.t.t.t.t.t.qx S13.out.n.t.t.t.t.qx (by omega) (by omega) (by omega)).mono ?_
  rintro e w25 ⟨r7_m, r7_0, r7_n, r7_c, r7_k, r7_1, r7_l, r7_d, rfl, hX, hB⟩
  have S14 := Lib.hid (((S13.out.step hB).qx hX rfl))
  clear S13 hX hB
  go_wp2_with fail
  refine hK.out _ _ ⟨S14.out.b.t.t.t.c4, S14.out.b.t.t.c4, S14.out.b.t.c4, S14.out.b.c4⟩ (fun h2 => ?_)
  clear hK K hH; have hH := h2; clear h2; try simp only [nrm]
  refine step_one 16 rfl (by kernel_rfl) (fun K hK => ?_)
  go_simp
  refine (qrat_any S14.out.n.qx (by omega) (by omega)).mono ?_
  rintro e w26 ⟨r8_m, r8_0, r8_n, r8_c, r8_k, r8_1, r8_l, r8_d, rfl, hX, hB⟩
  have S15 := Lib.hid (((S14.out.step hB).rc hX rfl))
  clear S14 hX hB
  go_wp2_with fail
  refine hK.out _ _ ⟨S15.out.b.t.t.t.c4, S15.out.b.t.t.c4, S15.out.b.t.c4, S15.out.b.c4⟩ (fun h2 => ?_)
  clear hK K hH; have hH := h2; clear h2; try simp only [nrm]
  refine step_one 17 rfl (by kernel_rfl) (fun K hK => ?_)
  go_simp
  refine (rsame_eq S15.out.n.t.t.rc S15.out.n.rc (rfl)).mono ?_
  rintro e w27 ⟨rfl, hB⟩
  have S16 := Lib.hid ((S15.out.step hB))
  clear S15 hB
  go_wp2_with fail
  refine hK.out _ _ ⟨S16.out.b.t.t.t.c4, S16.out.b.t.t.c4, S16.out.b.t.c4, S16.out.b.c4⟩ (fun h2 => ?_)
  clear hK K hH; have hH := h2; clear h2; try simp only [nrm]
  refine step_on 18 rfl (by kernel_rfl) (fun _ _ _ h => h) (by rfl) hH (by intro w hS; go_simp <;> with_reducible rfl) ?_
  try simp only [nrm]
  refine step_on 19 rfl (by kernel_rfl) (fun _ _ _ h => h) (by rfl) hH (by intro w hS; go_simp <;> with_reducible rfl) ?_
  try simp only [nrm]
  refine step_on 20 rfl (by kernel_rfl) (fun _ _ _ h => h) (by rfl) hH (by intro w hS; go_simp <;> with_reducible rfl) ?_
  try simp only [nrm]
  refine step_on 21 rfl (by kernel_rfl) (fun _ _ _ h => h) (by rfl) hH (by intro w hS; go_simp <;> with_reducible rfl) ?_
  try simp only [nrm]
  refine step_on 22 rfl (by kernel_rfl) (fun _ _ _ h => h) (by rfl) hH (by intro w hS; go_simp <;> with_reducible rfl) ?_
  try simp only [nrm]
  refine step_on 24 rfl (by kernel_rfl) (fun _ _ _ h => h) (by rfl) hH (by intro w hS; go_simp <;> with_reducible rfl) ?_
  try simp only [nrm]
  refine step_on 25 rfl (by kernel_rfl) (fun _ _ _ h => h) (by rfl) hH (by intro w hS; go_simp <;> with_reducible rfl) ?_
  try simp only [nrm]
  refine step_one 23 rfl (by kernel_rfl) (fun K hK => ?_)
  go_simp
  refine (rmul_any S16.out.n.t.t.t.t.t.t.t.t.t.t.t.rx S16.out.n.t.t.t.t.t.t.t.t.rx (by omega) (by omega) (by omega)).mono ?_
  rintro e w28 ⟨r9_m, r9_0, r9_n, r9_c, r9_k, r9_1, r9_l, r9_d, rfl, hX, hB⟩
  have S17 := Lib.hid (((S16.out.step hB).rc hX rfl))
  clear S16 hX hB
  go_wp2_with fail
  refine hK.out _ _ ⟨S17.out.b.t.t.t.c4, S17.out.b.t.t.c4, S17.out.b.t.c4, S17.out.b.c4⟩ (fun h2 => ?_)
  clear hK K hH; have hH := h2; clear h2; try simp only [nrm]
  refine step_one 26 rfl (by kernel_rfl) (fun K hK => ?_)
  go_simp
  refine (qmul_any S17.out.n.t.t.t.t.t.t.t.t.qx S17.out.n.t.t.t.t.t.t.t.qx (by omega) (by omega) (by omega)).mono ?_
  rintro e w29 ⟨r10_m, r10_0, r10_n, r10_c, r10_k, r10_1, r10_l, r10_d, rfl, hX, hB⟩
  have S18 := Lib.hid (((S17.out.step hB).qx hX rfl))
  clear S17 hX hB
  go_wp2_with fail
  refine hK.out _ _ ⟨S18.out.b.t.t.t.c4, S18.out.b.t.t.c4, S18.out.b.t.c4, S18.out.b.c4⟩ (fun h2 => ?_)
  clear hK K hH; have hH := h2; clear h2; try simp only [nrm]
  refine step_one 27 rfl (by kernel_rfl) (fun K hK => ?_)
  go_simp
  refine (qrat_any S18.out.n.qx (by omega) (by omega)).mono ?_
  rintro e w30 ⟨r11_m, r11_0, r11_n, r11_c, r11_k, r11_1, r11_l, r11_d, rfl, hX, hB⟩
  have S19 := Lib.hid (((S18.out.step hB).rc hX rfl))
  clear S18 hX hB
  go_wp2_with fail
  refine hK.out _ _ ⟨S19.out.b.t.t.t.c4, S19.out.b.t.t.c4, S19.out.b.t.c4, S19.out.b.c4⟩ (fun h2 => ?_)
  clear hK K hH; have hH := h2; clear h2; try simp only [nrm]
  refine step_one 28 rfl (by kernel_rfl) (fun K hK => ?_)
  go_simp
  refine (rsame_eq S19.out.n.t.t.rc S19.out.n.rc (rfl)).mono ?_
  rintro e w31 ⟨rfl, hB⟩
  have S20 := Lib.hid ((S19.out.step hB))
  clear S19 hB
  go_wp2_with fail
  refine hK.out _ _ ⟨S20.out.b.t.t.t.c4, S20.out.b.t.t.c4, S20.out.b.t.c4, S20.out.b.c4⟩ (fun h2 => ?_)
  clear hK K hH; have hH := h2; clear h2; try simp only [nrm]
  refine step_on 29 rfl (by kernel_rfl) (fun _ _ _ h => h) (by rfl) hH (by intro w hS; go_simp <;> with_reducible rfl) ?_
  try simp only [nrm]
  refine step_on 30 rfl (by kernel_rfl) (fun _ _ _ h => h) (by rfl) hH (by intro w hS; go_simp <;> with_reducible rfl) ?_
  try simp only [nrm]
  refine step_on 31 rfl (by kernel_rfl) (fun _ _ _ h => h) (by rfl) hH (by intro w hS; go_simp <;> with_reducible rfl) ?_
  try simp only [nrm]
  refine step_on 32 rfl (by kernel_rfl) (fun _ _ _ h => h) (by rfl) hH (by intro w hS; go_simp <;> with_reducible rfl) ?_
  try simp only [nrm]
  refine step_on 35 rfl (by kernel_rfl) (fun _ _ _ h => h) (by rfl) hH (by intro w hS; go_simp <;> with_reducible rfl) ?_
  try simp only [nrm]
  refine step_one 33 rfl (by kernel_rfl) (fun K hK => ?_)
  go_simp
  refine (rneg_any S20.out.n.t.t.t.t.t.t.t.t.t.t.t.t.t.t.rx (by omega) (by omega)).mono ?_
  rintro e w32 ⟨r12_m, r12_0, r12_n, r12_c, r12_k, r12_1, r12_l, r12_d, rfl, hX, hB⟩
  have S21 := Lib.hid (((S20.out.step hB).rc hX rfl))
  clear S20 hX hB
  go_wp2_with fail
  refine hK.out _ _ ⟨S21.out.b.t.t.t.c4, S21.out.b.t.t.c4, S21.out.b.t.c4, S21.out.b.c4⟩ (fun h2 => ?_)
  clear hK K hH; have hH := h2; clear h2; try simp only [nrm]
  refine step_one 34 rfl (by kernel_rfl) (fun K hK => ?_)
  go_simp
  refine (qsmall_any 0 1 _ (by omega) (by omega) (by decide)).mono ?_
  rintro e w33 ⟨r13_m, r13_0, r13_n, r13_c, r13_k, r13_1, r13_l, r13_d, rfl, hX, hB⟩
  have S22 := Lib.hid (((S21.out.step hB).qx hX rfl))
  clear S21 hX hB
  go_wp2_with fail
  refine hK.out _ _ ⟨S22.out.b.t.t.t.c4, S22.out.b.t.t.c4, S22.out.b.t.c4, S22.out.b.c4⟩ (fun h2 => ?_)
  clear hK K hH; have hH := h2; clear h2; try simp only [nrm]
  refine step_one 36 rfl (by kernel_rfl) (fun K hK => ?_)
  go_simp
  refine (qsub_any S22.out.n.qx S22.out.n.t.t.t.t.t.t.t.t.t.t.t.t.qx (by omega) (by omega) (by omega)).mono ?_
  rintro e w34 ⟨r14_m, r14_0, r14_n, r14_c, r14_k, r14_1, r14_l, r14_d, rfl, hX, hB⟩
  have S23 := Lib.hid (((S22.out.step hB).qx hX rfl))
  clear S22 hX hB
  go_wp2_with fail
  refine hK.out _ _ ⟨S23.out.b.t.t.t.c4, S23.out.b.t.t.c4, S23.out.b.t.c4, S23.out.b.c4⟩ (fun h2 => ?_)
  clear hK K hH; have hH := h2; clear h2; try simp only [nrm]
  refine step_one 37 rfl (by kernel_rfl) (fun K hK => ?_)
  go_simp
  refine (qrat_any S23.out.n.qx (by omega) (by omega)).mono ?_
  rintro e w35 ⟨r15_m, r15_0, r15_n, r15_c, r15_k, r15_1, r15_l, r15_d, rfl, hX, hB⟩
  have S24 := Lib.hid (((S23.out.step hB).rc hX rfl))
  clear S23 hX hB
  go_wp2_with fail
  refine hK.out _ _ ⟨S24.out.b.t.t.t.c4, S24.out.b.t.t.c4, S24.out.b.t.c4, S24.out.b.c4⟩ (fun h2 => ?_)
  clear hK K hH; have hH := h2; clear h2; try simp only [nrm]
  refine step_one 38 rfl (by kernel_rfl) (fun K hK => ?_)
  go_simp
  refine (rsame_eq S24.out.n.t.t.t.rc S24.out.n.rc (q_neg0 r0)).mono ?_
  rintro e w36 ⟨rfl, hB⟩
  have S25 := Lib.hid ((S24.out.step hB))
  clear S24 hB
  go_wp2_with fail
  refine hK.out _ _ ⟨S25.out.b.t.t.t.c4, S25.out.b.t.t.c4, S25.out.b.t.c4, S25.out.b.c4⟩ (fun h2 => ?_)
  clear hK K hH; have hH := h2; clear h2; try simp only [nrm]
  refine step_on 39 rfl (by kernel_rfl) (fun _ _ _ h => h) (by rfl) hH (by intro w hS; go_simp <;> with_reducible rfl) ?_
  try simp only [nrm]
  refine step_on 40 rfl (by kernel_rfl) (fun _ _ _ h => h) (by rfl) hH (by intro w hS; go_simp <;> with_reducible rfl) ?_
  try simp only [nrm]
  refine wpAnyH_done (by kernel_rfl) ?_ _
  clear hH
  go_wp2_with fail
  have S26 := Lib.hid (S25.out.drew)
  clear S25
  refine wp_region_held_drew (S := fun w' => (w'.cell? ⟨qb5, 0, none⟩ = some (.bool m0) ∧ w'.cell? ⟨qb5, 1, none⟩ = some (.slice o0_0 n0 o0_c) ∧ w'.cell? ⟨qb5, 2, none⟩ = some (.bool k0) ∧ w'.cell? ⟨qb5, 3, none⟩ = some (.slice o0_1 l0 o0_d)) ∧ (w'.cell? ⟨qb7, 0, none⟩ = some (.bool r1_m) ∧ w'.cell? ⟨qb7, 1, none⟩ = some (.slice r1_0 r1_n r1_c) ∧ w'.cell? ⟨qb7, 2, none⟩ = some (.bool r1_k) ∧ w'.cell? ⟨qb7, 3, none⟩ = some (.slice r1_1 r1_l r1_d)) ∧ (w'.cell? ⟨qb6, 0, none⟩ = some (.bool m1) ∧ w'.cell? ⟨qb6, 1, none⟩ = some (.slice o1_0 n1 o1_c) ∧ w'.cell? ⟨qb6, 2, none⟩ = some (.bool k1) ∧ w'.cell? ⟨qb6, 3, none⟩ = some (.slice o1_1 l1 o1_d)) ∧ (w'.cell? ⟨qb8, 0, none⟩ = some (.bool r2_m) ∧ w'.cell? ⟨qb8, 1, none⟩ = some (.slice r2_0 r2_n r2_c) ∧ w'.cell? ⟨qb8, 2, none⟩ = some (.bool r2_k) ∧ w'.cell? ⟨qb8, 3, none⟩ = some (.slice r2_1 r2_l r2_d)) ∧ (w'.cell? ⟨(w.heap.size), 0, none⟩ = some (.bool m0) ∧ w'.cell? ⟨(w.heap.size), 1, none⟩ = some (.slice a0 n0 c0) ∧ w'.cell? ⟨(w.heap.size), 2, none⟩ = some (.bool k0) ∧ w'.cell? ⟨(w.heap.size), 3, none⟩ = some (.slice b0 l0 d0))) (by kernel_rfl) (⟨S26.out.b.t.t.t.c4, S26.out.b.t.c4, S26.out.b.t.t.c4, S26.out.b.c4, S26.out.b.t.t.t.t.t.c4⟩) (fun hH => ?_)
  refine anyH_world (fun w37 hW => ?_)
  rw [← hW] at S26 hH
  clear hW
  refine step_on 0 rfl (by kernel_rfl) (fun _ _ _ h => h) (by rfl) hH (by intro w hS; go_simp <;> with_reducible rfl) ?_
  try simp only [nrm]
  refine step_on 2 rfl (by kernel_rfl) (fun _ _ _ h => h) (by rfl) hH (by intro w hS; go_simp <;> with_reducible rfl) ?_
  try simp only [nrm]
  refine step_one 1 rfl (by kernel_rfl) (fun K hK => ?_)
  go_simp
  refine (rsign_any (s) S26.out.n.t.t.t.t.t.t.t.t.t.t.t.t.t.t.t.t.t.t.rx (by omega) (Hs.out)).mono ?_
  rintro e w38 ⟨rfl, hB⟩
  have S27 := Lib.hid ((S26.out.step hB))
  clear S26 hB
  go_wp2_with fail
  refine hK.out _ _ ⟨S27.out.b.t.t.t.c4, S27.out.b.t.c4, S27.out.b.t.t.c4, S27.out.b.c4, S27.out.b.t.t.t.t.t.c4⟩ (fun h2 => ?_)
  clear hK K hH; have hH := h2; clear h2; try simp only [nrm]
  refine step_one 3 rfl (by kernel_rfl) (fun K hK => ?_)
  go_simp
  refine (qsign_any (s) S27.out.n.t.t.t.t.t.t.t.t.t.t.t.t.t.t.qx (Hs.out)).mono ?_
  rintro e w39 ⟨rfl, hB⟩
  have S28 := Lib.hid ((S27.out.step hB))
  clear S27 hB
  go_wp2_with fail
  refine hK.out _ _ ⟨S28.out.b.t.t.t.c4, S28.out.b.t.c4, S28.out.b.t.t.c4, S28.out.b.c4, S28.out.b.t.t.t.t.t.c4⟩ (fun h2 => ?_)
  clear hK K hH; have hH := h2; clear h2; try simp only [nrm]
  refine step_on 4 rfl (by kernel_rfl) (fun _ _ _ h => h) (by rfl) hH (by intro w hS; go_simp <;> with_reducible rfl) ?_
  try simp only [nrm]
  refine step_on 5 rfl (by kernel_rfl) (fun _ _ _ h => h) (by rfl) hH (by intro w hS; go_simp <;> with_reducible rfl) ?_
  try simp only [nrm]
  refine step_on 6 rfl (by kernel_rfl) (fun _ _ _ h => h) (by rfl) hH (by intro w hS; go_simp <;> with_reducible rfl) ?_
  try simp only [nrm]
  refine step_on 7 rfl (by kernel_rfl) (fun _ _ _ h => h) (by rfl) hH (by intro w hS; go_simp <;> with_reducible rfl) ?_
  try simp only [nrm]
  refine step_on 9 rfl (by kernel_rfl) (fun _ _ _ h => h) (by rfl) hH (by intro w hS; go_simp <;> with_reducible rfl) ?_
  try simp only [nrm]
  refine step_on 10 rfl (by kernel_rfl) (fun _ _ _ h => h) (by rfl) hH (by intro w hS; go_simp <;> with_reducible rfl) ?_
  try simp only [nrm]
  refine step_one 8 rfl (by kernel_rfl) (fun K hK => ?_)
  go_simp
  refine (rcmp_any (c) S28.out.n.t.t.t.t.t.t.t.t.t.t.t.t.t.t.t.t.t.t.rx S28.out.n.t.t.t.t.t.t.t.t.t.t.t.t.t.t.t.rx (by omega) (by omega) (by omega) (Hc.out)).mono ?_
  rintro e w40 ⟨rfl, hB⟩
  have S29 := Lib.hid ((S28.out.step hB))
  clear S28 hB
  go_wp2_with fail
  refine hK.out _ _ ⟨S29.out.b.t.t.t.c4, S29.out.b.t.c4, S29.out.b.t.t.c4, S29.out.b.c4, S29.out.b.t.t.t.t.t.c4⟩ (fun h2 => ?_)
  clear hK K hH; have hH := h2; clear h2; try simp only [nrm]
  refine step_one 11 rfl (by kernel_rfl) (fun K hK => ?_)
  go_simp
  refine (qsub_any S29.out.n.t.t.t.t.t.t.t.t.t.t.t.t.t.t.qx S29.out.n.t.t.t.t.t.t.t.t.t.t.t.t.t.qx (by omega) (by omega) (by omega)).mono ?_
  rintro e w41 ⟨r16_m, r16_0, r16_n, r16_c, r16_k, r16_1, r16_l, r16_d, rfl, hX, hB⟩
  have S30 := Lib.hid (((S29.out.step hB).qx hX rfl))
  clear S29 hX hB
  go_wp2_with fail
  refine hK.out _ _ ⟨S30.out.b.t.t.t.c4, S30.out.b.t.c4, S30.out.b.t.t.c4, S30.out.b.c4, S30.out.b.t.t.t.t.t.c4⟩ (fun h2 => ?_)
  clear hK K hH; have hH := h2; clear h2; try simp only [nrm]
  refine step_one 12 rfl (by kernel_rfl) (fun K hK => ?_)
  go_simp
  refine (qsign_any (c) S30.out.n.qx (Hc.out)).mono ?_
  rintro e w42 ⟨rfl, hB⟩
  have S31 := Lib.hid ((S30.out.step hB))
  clear S30 hB
  go_wp2_with fail
  refine hK.out _ _ ⟨S31.out.b.t.t.t.c4, S31.out.b.t.c4, S31.out.b.t.t.c4, S31.out.b.c4, S31.out.b.t.t.t.t.t.c4⟩ (fun h2 => ?_)
  clear hK K hH; have hH := h2; clear h2; try simp only [nrm]
  refine step_on 13 rfl (by kernel_rfl) (fun _ _ _ h => h) (by rfl) hH (by intro w hS; go_simp <;> with_reducible rfl) ?_
  try simp only [nrm]
  refine step_on 14 rfl (by kernel_rfl) (fun _ _ _ h => h) (by rfl) hH (by intro w hS; go_simp <;> with_reducible rfl) ?_
  try simp only [nrm]
  refine step_on 15 rfl (by kernel_rfl) (fun _ _ _ h => h) (by rfl) hH (by intro w hS; go_simp <;> with_reducible rfl) ?_
  try simp only [nrm]
  refine step_on 16 rfl (by kernel_rfl) (fun _ _ _ h => h) (by rfl) hH (by intro w hS; go_simp <;> with_reducible rfl) ?_
  try simp only [nrm]
  refine step_on 18 rfl (by kernel_rfl) (fun _ _ _ h => h) (by rfl) hH (by intro w hS; go_simp <;> with_reducible rfl) ?_
  try simp only [nrm]
  refine step_one 17 rfl (by kernel_rfl) (fun K hK => ?_)
  go_simp
  refine (rmay_any b0v S31.out.n.t.t.t.t.t.t.t.t.t.t.t.t.t.t.t.t.t.t.t.t.sl S31.out.n.t.t.t.t.t.t.t.t.t.t.t.t.t.t.t.t.t.t.t.t.t.sl (by have := P0.out; simp at this; omega) (by have := Q0.out; simp at this; omega) (HM.out)).mono ?_
  rintro e w43 ⟨rfl, hB⟩
  have S32 := Lib.hid ((S31.out.step hB))
  clear S31 hB
  go_wp2_with fail
  refine hK.out _ _ ⟨S32.out.b.t.t.t.c4, S32.out.b.t.c4, S32.out.b.t.t.c4, S32.out.b.c4, S32.out.b.t.t.t.t.t.c4⟩ (fun h2 => ?_)
  clear hK K hH; have hH := h2; clear h2; try simp only [nrm]
  refine step_one 19 rfl (by kernel_rfl) (fun K hK => ?_)
  go_simp
  refine (qmay_any b0v S32.out.n.t.t.t.t.t.t.t.t.t.t.t.t.t.t.t.t.t.t.t.t.t.t.t.sl S32.out.n.t.t.t.t.t.t.t.t.t.t.t.t.t.t.t.t.t.t.t.t.t.t.t.t.sl S32.out.n.t.t.t.t.t.t.t.t.t.t.t.t.t.t.t.t.t.t.t.t.t.t.rx (by omega) (by omega) (HM.out)).mono ?_
  rintro e w44 ⟨rfl, hB⟩
  have S33 := Lib.hid ((S32.out.step hB))
  clear S32 hB
  go_wp2_with fail
  refine hK.out _ _ ⟨S33.out.b.t.t.t.c4, S33.out.b.t.c4, S33.out.b.t.t.c4, S33.out.b.c4, S33.out.b.t.t.t.t.t.c4⟩ (fun h2 => ?_)
  clear hK K hH; have hH := h2; clear h2; try simp only [nrm]
  refine step_on 20 rfl (by kernel_rfl) (fun _ _ _ h => h) (by rfl) hH (by intro w hS; go_simp <;> with_reducible rfl) ?_
  try simp only [nrm]
  refine step_on 21 rfl (by kernel_rfl) (fun _ _ _ h => h) (by rfl) hH (by intro w hS; go_simp <;> with_reducible rfl) ?_
  try simp only [nrm]
  refine step_on 22 rfl (by kernel_rfl) (fun _ _ _ h => h) (by rfl) hH (by intro w hS; go_simp <;> with_reducible rfl) ?_
  try simp only [nrm]
  refine step_on 23 rfl (by kernel_rfl) (fun _ _ _ h => h) (by rfl) hH (by intro w hS; go_simp <;> with_reducible rfl) ?_
  try simp only [nrm]
  refine step_on 25 rfl (by kernel_rfl) (fun _ _ _ h => h) (by rfl) hH (by intro w hS; go_simp <;> with_reducible rfl) ?_
  try simp only [nrm]
  refine step_one 24 rfl (by kernel_rfl) (fun K hK => ?_)
  go_simp
  refine (rattext_any S33.out.n.t.t.t.t.t.t.t.t.t.t.t.t.t.t.t.t.t.t.t.rx (HT.out.below S33.out.h) (by omega) (by omega)).mono ?_
  rintro e w45 ⟨rfl, hB⟩
  rw [← HU.out]
  have S34 := Lib.hid ((S33.out.step hB))
  clear S33 hB
  go_wp2_with fail
  refine hK.out _ _ ⟨S34.out.b.t.t.t.c4, S34.out.b.t.c4, S34.out.b.t.t.c4, S34.out.b.c4, S34.out.b.t.t.t.t.t.c4⟩ (fun h2 => ?_)
  clear hK K hH; have hH := h2; clear h2; try simp only [nrm]
  refine step_one 26 rfl (by kernel_rfl) (fun K hK => ?_)
  go_simp
  refine (qtext_any S34.out.n.t.t.t.t.t.t.t.t.t.t.t.t.t.t.t.qx (by omega) (by omega)).mono ?_
  rintro e w46 ⟨rfl, hB⟩
  rw [← HU.out]
  have S35 := Lib.hid ((S34.out.step hB))
  clear S34 hB
  go_wp2_with fail
  refine hK.out _ _ ⟨S35.out.b.t.t.t.c4, S35.out.b.t.c4, S35.out.b.t.t.c4, S35.out.b.c4, S35.out.b.t.t.t.t.t.c4⟩ (fun h2 => ?_)
  clear hK K hH; have hH := h2; clear h2; try simp only [nrm]
  refine step_on 27 rfl (by kernel_rfl) (fun _ _ _ h => h) (by rfl) hH (by intro w hS; go_simp <;> with_reducible rfl) ?_
  try simp only [nrm]
  refine step_on 28 rfl (by kernel_rfl) (fun _ _ _ h => h) (by rfl) hH (by intro w hS; go_simp <;> with_reducible rfl) ?_
  try simp only [nrm]
  refine step_on 29 rfl (by kernel_rfl) (fun _ _ _ h => h) (by rfl) hH (by intro w hS; go_simp <;> with_reducible rfl) ?_
  try simp only [nrm]
  refine step_on 30 rfl (by kernel_rfl) (fun _ _ _ h => h) (by rfl) hH (by intro w hS; go_simp <;> with_reducible rfl) ?_
  try simp only [nrm]
  refine step_on 31 rfl (by kernel_rfl) (fun _ _ _ h => h) (by rfl) hH (by intro w hS; go_simp <;> with_reducible rfl) ?_
  try simp only [nrm]
  refine step_on 33 rfl (by kernel_rfl) (fun _ _ _ h => h) (by rfl) hH (by intro w hS; go_simp <;> with_reducible rfl) ?_
  try simp only [nrm]
  refine step_on 34 rfl (by kernel_rfl) (fun _ _ _ h => h) (by rfl) hH (by intro w hS; go_simp <;> with_reducible rfl) ?_
  try simp only [nrm]
  refine step_one 32 rfl (by kernel_rfl) (fun K hK => ?_)
  go_simp
  refine (rwhole_any S35.out.n.t.t.t.t.t.t.t.t.t.t.t.t.t.t.t.t.t.t.t.rx.num S35.out.n.t.t.t.t.t.t.t.t.t.t.t.t.t.t.t.t.t.t.t.rx.bn (by omega) (by omega)).mono ?_
  rintro e w47 ⟨r17_m, r17_0, r17_n, r17_c, r17_k, r17_1, r17_l, r17_d, rfl, hX, hB⟩
  have S36 := Lib.hid (((S35.out.step hB).rc hX rfl))
  clear S35 hX hB
  go_wp2_with fail
  refine hK.out _ _ ⟨S36.out.b.t.t.t.c4, S36.out.b.t.c4, S36.out.b.t.t.c4, S36.out.b.c4, S36.out.b.t.t.t.t.t.c4⟩ (fun h2 => ?_)
  clear hK K hH; have hH := h2; clear h2; try simp only [nrm]
  refine step_one 35 rfl (by kernel_rfl) (fun K hK => ?_)
  go_simp
  refine (qsmall_any 1 1 _ (by omega) (by omega) (by decide)).mono ?_
  rintro e w48 ⟨r18_m, r18_0, r18_n, r18_c, r18_k, r18_1, r18_l, r18_d, rfl, hX, hB⟩
  have S37 := Lib.hid (((S36.out.step hB).qx hX rfl))
  clear S36 hX hB
  go_wp2_with fail
  refine hK.out _ _ ⟨S37.out.b.t.t.t.c4, S37.out.b.t.c4, S37.out.b.t.t.c4, S37.out.b.c4, S37.out.b.t.t.t.t.t.c4⟩ (fun h2 => ?_)
  clear hK K hH; have hH := h2; clear h2; try simp only [nrm]
  have xf36 : ∀ W : World, (Instr.field 35 (.agg #[.bool r18_m, .slice r18_0 r18_n r18_c, .bool r18_k, .slice r18_1 r18_l r18_d]) 1).run Tryz.prog W = .ok (.agg #[.bool r18_k, .slice r18_1 r18_l r18_d]) W := fun W => by kernel_rfl
  refine step_on 36 rfl (by kernel_rfl) (fun _ _ _ h => h) (by rfl) hH (by intro w hS; go_simp <;> with_reducible rfl) ?_
  try simp only [nrm]
  refine step_on 37 rfl (by kernel_rfl) (fun _ _ _ h => h) (by rfl) hH (by intro w hS; go_simp <;> with_reducible rfl) ?_
  try simp only [nrm]
  refine step_one 38 rfl (by kernel_rfl) (fun K hK => ?_)
  go_simp
  refine (qrat_any (⟨S37.out.n.t.t.t.t.t.t.t.t.t.t.t.t.t.t.t.t.t.qx.num, S37.out.n.qx.den, by decide, q_whole x0, S37.out.n.t.t.t.t.t.t.t.t.t.t.t.t.t.t.t.t.t.qx.bn.mono (by omega), S37.out.n.qx.bd.mono (by omega)⟩ : Qx _ _ _ _ _ _ _ _ _ _ _ (qv x0 0) 8) (by omega) (by omega)).mono ?_
  rintro e w49 ⟨r19_m, r19_0, r19_n, r19_c, r19_k, r19_1, r19_l, r19_d, rfl, hX, hB⟩
  have S38 := Lib.hid (((S37.out.step hB).rc hX rfl))
  clear S37 hX hB
  go_wp2_with fail
  refine hK.out _ _ ⟨S38.out.b.t.t.t.c4, S38.out.b.t.c4, S38.out.b.t.t.c4, S38.out.b.c4, S38.out.b.t.t.t.t.t.c4⟩ (fun h2 => ?_)
  clear hK K hH; have hH := h2; clear h2; try simp only [nrm]
  refine step_one 39 rfl (by kernel_rfl) (fun K hK => ?_)
  go_simp
  refine (rsame_eq S38.out.n.t.t.rc S38.out.n.rc (rfl)).mono ?_
  rintro e w50 ⟨rfl, hB⟩
  have S39 := Lib.hid ((S38.out.step hB))
  clear S38 hB
  go_wp2_with fail
  refine hK.out _ _ ⟨S39.out.b.t.t.t.c4, S39.out.b.t.c4, S39.out.b.t.t.c4, S39.out.b.c4, S39.out.b.t.t.t.t.t.c4⟩ (fun h2 => ?_)
  clear hK K hH; have hH := h2; clear h2; try simp only [nrm]
  refine step_on 40 rfl (by kernel_rfl) (fun _ _ _ h => h) (by rfl) hH (by intro w hS; go_simp <;> with_reducible rfl) ?_
  try simp only [nrm]
  refine step_on 41 rfl (by kernel_rfl) (fun _ _ _ h => h) (by rfl) hH (by intro w hS; go_simp <;> with_reducible rfl) ?_
  try simp only [nrm]
  refine wpAnyH_done (by kernel_rfl) ?_ _
  clear hH
  by_cases h0 : r1 = 0
  · have f1 : (t == 0) = true := by rw [← Ht.out]; have := qs_zero r1; simp; exact this.2 h0
    have HH0 := Lib.hid h0
    clear h0
    obtain ⟨c_b5_0, c_b5_1, c_b5_2, c_b5_3⟩ := S39.out.b.t.t.t.c4
    obtain ⟨c_b6_0, c_b6_1, c_b6_2, c_b6_3⟩ := S39.out.b.t.t.c4
    go_wp2_with fail
    clear c_b5_0 c_b5_1 c_b5_2 c_b5_3 c_b6_0 c_b6_1 c_b6_2 c_b6_3
    refine (rdiv_zero S39.out.n.t.t.t.t.t.t.t.t.t.t.t.t.t.t.t.t.t.t.t.t.t.t.rx S39.out.n.t.t.t.t.t.t.t.t.t.t.t.t.t.t.t.t.t.t.t.rx (by omega) (by omega) (by omega) (HH0.out)).mono ?_
    rintro e w51 ⟨rfl, hB⟩
    have S40 := Lib.hid ((S39.out.step hB))
    clear S39 hB
    go_upto_region 10 with (fail)
    have S41 := Lib.hid (S40.out.var (w51.heap.size) [.bool false, .slice none 0 0, .bool false, .slice none 0 0] 26 (by simp))
    clear S40
    refine wp_world (fun w52 hW => ?_)
    rw [← hW] at S41
    clear hW
    obtain ⟨c_b8_0, c_b8_1, c_b8_2, c_b8_3⟩ := S41.out.b.t.c4
    go_wp2_with fail
    clear c_b8_0 c_b8_1 c_b8_2 c_b8_3
    refine (qsign_any (t) S41.out.n.t.t.t.t.t.t.t.t.t.t.t.t.t.t.t.t.t.qx (Ht.out)).mono ?_
    rintro e w53 ⟨rfl, hB⟩
    have S42 := Lib.hid ((S41.out.step hB))
    clear S41 hB
    obtain ⟨c_b9_0, c_b9_1, c_b9_2, c_b9_3⟩ := S42.out.b.c4
    obtain ⟨c_b5_0, c_b5_1, c_b5_2, c_b5_3⟩ := S42.out.b.t.t.t.t.c4
    obtain ⟨c_b2_0, c_b2_1, c_b2_2, c_b2_3⟩ := S42.out.b.t.t.t.t.t.t.c4
    go_wp2_with fail
    clear c_b9_0 c_b9_1 c_b9_2 c_b9_3 c_b5_0 c_b5_1 c_b5_2 c_b5_3 c_b2_0 c_b2_1 c_b2_2 c_b2_3
    refine (rsame_self S42.out.n.t.t.t.t.t.t.t.t.t.t.t.t.t.t.t.t.t.t.t.t.t.t.t.sl S42.out.n.t.t.t.t.t.t.t.t.t.t.t.t.t.t.t.t.t.t.t.t.t.t.t.t.sl S42.out.n.t.t.t.t.t.t.t.t.t.t.t.t.t.t.t.t.t.t.t.t.t.t.t.t.t.t.sl S42.out.n.t.t.t.t.t.t.t.t.t.t.t.t.t.t.t.t.t.t.t.t.t.t.t.t.t.t.t.sl).mono ?_
    rintro e w54 ⟨rfl, hB⟩
    have S43 := Lib.hid ((S42.out.step hB))
    clear S42 hB
    obtain ⟨c_b6_0, c_b6_1, c_b6_2, c_b6_3⟩ := S43.out.b.t.t.t.c4
    obtain ⟨c_b3_0, c_b3_1, c_b3_2, c_b3_3⟩ := S43.out.b.t.t.t.t.t.c4
    go_wp2_with fail
    clear c_b6_0 c_b6_1 c_b6_2 c_b6_3 c_b3_0 c_b3_1 c_b3_2 c_b3_3
    refine (rsame_self S43.out.n.t.t.t.t.t.t.t.t.t.t.t.t.t.t.t.t.t.t.t.t.sl S43.out.n.t.t.t.t.t.t.t.t.t.t.t.t.t.t.t.t.t.t.t.t.t.sl S43.out.n.t.t.t.t.t.t.t.t.t.t.t.t.t.t.t.t.t.t.t.t.t.t.t.t.t.t.t.t.t.sl S43.out.n.t.t.t.t.t.t.t.t.t.t.t.t.t.t.t.t.t.t.t.t.t.t.t.t.t.t.t.t.t.t.sl).mono ?_
    rintro e w55 ⟨rfl, hB⟩
    have S44 := Lib.hid ((S43.out.step hB))
    clear S43 hB
    go_wp2_with fail
    refine (known6_any _ (HT.out.below S44.out.h)).mono ?_
    rintro e w56 ⟨rfl, hB⟩
    have S45 := Lib.hid ((S44.out.step hB))
    clear S44 hB
    go_wp2_with fail
    go_ret
    exact ⟨rfl, S45.out.h⟩
  · have f1 : (t == 0) = false := by rw [← Ht.out]; have := qs_zero r1; simp; exact fun e => h0 (this.1 e)
    have HH0 := Lib.hid h0
    clear h0
    obtain ⟨c_b5_0, c_b5_1, c_b5_2, c_b5_3⟩ := S39.out.b.t.t.t.c4
    obtain ⟨c_b6_0, c_b6_1, c_b6_2, c_b6_3⟩ := S39.out.b.t.t.c4
    go_wp2_with fail
    clear c_b5_0 c_b5_1 c_b5_2 c_b5_3 c_b6_0 c_b6_1 c_b6_2 c_b6_3
    refine (rdiv_any S39.out.n.t.t.t.t.t.t.t.t.t.t.t.t.t.t.t.t.t.t.t.t.t.t.rx S39.out.n.t.t.t.t.t.t.t.t.t.t.t.t.t.t.t.t.t.t.t.rx (by omega) (by omega) (by omega) (HH0.out)).mono ?_
    rintro e w51 ⟨r20_m, r20_0, r20_n, r20_c, r20_k, r20_1, r20_l, r20_d, rfl, hX, hB⟩
    have S40 := Lib.hid (((S39.out.step hB).rc hX rfl))
    clear S39 hX hB
    go_upto_region 10 with (fail)
    have S41 := Lib.hid (S40.out.var (w51.heap.size) [.bool r20_m, .slice r20_0 r20_n r20_c, .bool r20_k, .slice r20_1 r20_l r20_d] 26 (by simp))
    clear S40
    refine wp_world (fun w52 hW => ?_)
    rw [← hW] at S41
    clear hW
    obtain ⟨c_b8_0, c_b8_1, c_b8_2, c_b8_3⟩ := S41.out.b.t.c4
    go_wp2_with fail
    clear c_b8_0 c_b8_1 c_b8_2 c_b8_3
    refine (qsign_any (t) S41.out.n.t.t.t.t.t.t.t.t.t.t.t.t.t.t.t.t.t.t.qx (Ht.out)).mono ?_
    rintro e w53 ⟨rfl, hB⟩
    have S42 := Lib.hid ((S41.out.step hB))
    clear S41 hB
    go_wp2_with fail
    have S43 := Lib.hid (S42.out.drew)
    clear S42
    refine wp_region_held_drew (S := fun w' => (w'.cell? ⟨(w51.heap.size), 0, none⟩ = some (.bool r20_m) ∧ w'.cell? ⟨(w51.heap.size), 1, none⟩ = some (.slice r20_0 r20_n r20_c) ∧ w'.cell? ⟨(w51.heap.size), 2, none⟩ = some (.bool r20_k) ∧ w'.cell? ⟨(w51.heap.size), 3, none⟩ = some (.slice r20_1 r20_l r20_d)) ∧ (w'.cell? ⟨qb7, 0, none⟩ = some (.bool r1_m) ∧ w'.cell? ⟨qb7, 1, none⟩ = some (.slice r1_0 r1_n r1_c) ∧ w'.cell? ⟨qb7, 2, none⟩ = some (.bool r1_k) ∧ w'.cell? ⟨qb7, 3, none⟩ = some (.slice r1_1 r1_l r1_d)) ∧ (w'.cell? ⟨qb8, 0, none⟩ = some (.bool r2_m) ∧ w'.cell? ⟨qb8, 1, none⟩ = some (.slice r2_0 r2_n r2_c) ∧ w'.cell? ⟨qb8, 2, none⟩ = some (.bool r2_k) ∧ w'.cell? ⟨qb8, 3, none⟩ = some (.slice r2_1 r2_l r2_d)) ∧ (w'.cell? ⟨qb5, 0, none⟩ = some (.bool m0) ∧ w'.cell? ⟨qb5, 1, none⟩ = some (.slice o0_0 n0 o0_c) ∧ w'.cell? ⟨qb5, 2, none⟩ = some (.bool k0) ∧ w'.cell? ⟨qb5, 3, none⟩ = some (.slice o0_1 l0 o0_d)) ∧ (w'.cell? ⟨(w.heap.size), 0, none⟩ = some (.bool m0) ∧ w'.cell? ⟨(w.heap.size), 1, none⟩ = some (.slice a0 n0 c0) ∧ w'.cell? ⟨(w.heap.size), 2, none⟩ = some (.bool k0) ∧ w'.cell? ⟨(w.heap.size), 3, none⟩ = some (.slice b0 l0 d0)) ∧ (w'.cell? ⟨qb6, 0, none⟩ = some (.bool m1) ∧ w'.cell? ⟨qb6, 1, none⟩ = some (.slice o1_0 n1 o1_c) ∧ w'.cell? ⟨qb6, 2, none⟩ = some (.bool k1) ∧ w'.cell? ⟨qb6, 3, none⟩ = some (.slice o1_1 l1 o1_d)) ∧ (w'.cell? ⟨(w.heap.size + 1), 0, none⟩ = some (.bool m1) ∧ w'.cell? ⟨(w.heap.size + 1), 1, none⟩ = some (.slice a1 n1 c1) ∧ w'.cell? ⟨(w.heap.size + 1), 2, none⟩ = some (.bool k1) ∧ w'.cell? ⟨(w.heap.size + 1), 3, none⟩ = some (.slice b1 l1 d1))) (by kernel_rfl) (⟨S43.out.b.c4, S43.out.b.t.t.c4, S43.out.b.t.c4, S43.out.b.t.t.t.t.c4, S43.out.b.t.t.t.t.t.t.c4, S43.out.b.t.t.t.c4, S43.out.b.t.t.t.t.t.c4⟩) (fun hH => ?_)
    refine anyH_world (fun w54 hW => ?_)
    rw [← hW] at S43 hH
    clear hW
    refine step_on 0 rfl (by kernel_rfl) (fun _ _ _ h => h) (by rfl) hH (by intro w hS; go_simp <;> with_reducible rfl) ?_
    try simp only [nrm]
    refine step_on 1 rfl (by kernel_rfl) (fun _ _ _ h => h) (by rfl) hH (by intro w hS; go_simp <;> with_reducible rfl) ?_
    try simp only [nrm]
    refine step_on 2 rfl (by kernel_rfl) (fun _ _ _ h => h) (by rfl) hH (by intro w hS; go_simp <;> with_reducible rfl) ?_
    try simp only [nrm]
    refine step_on 3 rfl (by kernel_rfl) (fun _ _ _ h => h) (by rfl) hH (by intro w hS; go_simp <;> with_reducible rfl) ?_
    try simp only [nrm]
    refine step_on 4 rfl (by kernel_rfl) (fun _ _ _ h => h) (by rfl) hH (by intro w hS; go_simp <;> with_reducible rfl) ?_
    try simp only [nrm]
    refine step_on 5 rfl (by kernel_rfl) (fun _ _ _ h => h) (by rfl) hH (by intro w hS; go_simp <;> with_reducible rfl) ?_
    try simp only [nrm]
    refine step_one 6 rfl (by kernel_rfl) (fun K hK => ?_)
    go_simp
    refine (qdiv_any S43.out.n.t.t.t.t.t.t.t.t.t.t.t.t.t.t.t.t.t.t.t.qx S43.out.n.t.t.t.t.t.t.t.t.t.t.t.t.t.t.t.t.t.t.qx (by omega) (by omega) (by omega) (HH0.out)).mono ?_
    rintro e w55 ⟨r21_m, r21_0, r21_n, r21_c, r21_k, r21_1, r21_l, r21_d, rfl, hX, hB⟩
    have S44 := Lib.hid (((S43.out.step hB).qx hX rfl))
    clear S43 hX hB
    go_wp2_with fail
    refine hK.out _ _ ⟨S44.out.b.c4, S44.out.b.t.t.c4, S44.out.b.t.c4, S44.out.b.t.t.t.t.c4, S44.out.b.t.t.t.t.t.t.c4, S44.out.b.t.t.t.c4, S44.out.b.t.t.t.t.t.c4⟩ (fun h2 => ?_)
    clear hK K hH; have hH := h2; clear h2; try simp only [nrm]
    refine step_one 7 rfl (by kernel_rfl) (fun K hK => ?_)
    go_simp
    refine (qrat_any S44.out.n.qx (by omega) (by omega)).mono ?_
    rintro e w56 ⟨r22_m, r22_0, r22_n, r22_c, r22_k, r22_1, r22_l, r22_d, rfl, hX, hB⟩
    have S45 := Lib.hid (((S44.out.step hB).rc hX rfl))
    clear S44 hX hB
    go_wp2_with fail
    refine hK.out _ _ ⟨S45.out.b.c4, S45.out.b.t.t.c4, S45.out.b.t.c4, S45.out.b.t.t.t.t.c4, S45.out.b.t.t.t.t.t.t.c4, S45.out.b.t.t.t.c4, S45.out.b.t.t.t.t.t.c4⟩ (fun h2 => ?_)
    clear hK K hH; have hH := h2; clear h2; try simp only [nrm]
    refine step_one 8 rfl (by kernel_rfl) (fun K hK => ?_)
    go_simp
    refine (rsame_eq S45.out.n.t.t.rc S45.out.n.rc (rfl)).mono ?_
    rintro e w57 ⟨rfl, hB⟩
    have S46 := Lib.hid ((S45.out.step hB))
    clear S45 hB
    go_wp2_with fail
    refine hK.out _ _ ⟨S46.out.b.c4, S46.out.b.t.t.c4, S46.out.b.t.c4, S46.out.b.t.t.t.t.c4, S46.out.b.t.t.t.t.t.t.c4, S46.out.b.t.t.t.c4, S46.out.b.t.t.t.t.t.c4⟩ (fun h2 => ?_)
    clear hK K hH; have hH := h2; clear h2; try simp only [nrm]
    refine step_on 9 rfl (by kernel_rfl) (fun _ _ _ h => h) (by rfl) hH (by intro w hS; go_simp <;> with_reducible rfl) ?_
    try simp only [nrm]
    refine step_on 10 rfl (by kernel_rfl) (fun _ _ _ h => h) (by rfl) hH (by intro w hS; go_simp <;> with_reducible rfl) ?_
    try simp only [nrm]
    refine step_on 11 rfl (by kernel_rfl) (fun _ _ _ h => h) (by rfl) hH (by intro w hS; go_simp <;> with_reducible rfl) ?_
    try simp only [nrm]
    refine step_on 12 rfl (by kernel_rfl) (fun _ _ _ h => h) (by rfl) hH (by intro w hS; go_simp <;> with_reducible rfl) ?_
    try simp only [nrm]
    refine step_one 13 rfl (by kernel_rfl) (fun K hK => ?_)
    go_simp
    refine (rsame_self S46.out.n.t.t.t.t.t.t.t.t.t.t.t.t.t.t.t.t.t.t.t.t.t.t.t.t.t.t.sl S46.out.n.t.t.t.t.t.t.t.t.t.t.t.t.t.t.t.t.t.t.t.t.t.t.t.t.t.t.t.sl S46.out.n.t.t.t.t.t.t.t.t.t.t.t.t.t.t.t.t.t.t.t.t.t.t.t.t.t.t.t.t.t.sl S46.out.n.t.t.t.t.t.t.t.t.t.t.t.t.t.t.t.t.t.t.t.t.t.t.t.t.t.t.t.t.t.t.sl).mono ?_
    rintro e w58 ⟨rfl, hB⟩
    have S47 := Lib.hid ((S46.out.step hB))
    clear S46 hB
    go_wp2_with fail
    refine hK.out _ _ ⟨S47.out.b.c4, S47.out.b.t.t.c4, S47.out.b.t.c4, S47.out.b.t.t.t.t.c4, S47.out.b.t.t.t.t.t.t.c4, S47.out.b.t.t.t.c4, S47.out.b.t.t.t.t.t.c4⟩ (fun h2 => ?_)
    clear hK K hH; have hH := h2; clear h2; try simp only [nrm]
    refine step_on 14 rfl (by kernel_rfl) (fun _ _ _ h => h) (by rfl) hH (by intro w hS; go_simp <;> with_reducible rfl) ?_
    try simp only [nrm]
    refine step_on 15 rfl (by kernel_rfl) (fun _ _ _ h => h) (by rfl) hH (by intro w hS; go_simp <;> with_reducible rfl) ?_
    try simp only [nrm]
    refine step_on 16 rfl (by kernel_rfl) (fun _ _ _ h => h) (by rfl) hH (by intro w hS; go_simp <;> with_reducible rfl) ?_
    try simp only [nrm]
    refine step_on 17 rfl (by kernel_rfl) (fun _ _ _ h => h) (by rfl) hH (by intro w hS; go_simp <;> with_reducible rfl) ?_
    try simp only [nrm]
    refine step_one 18 rfl (by kernel_rfl) (fun K hK => ?_)
    go_simp
    refine (rsame_self S47.out.n.t.t.t.t.t.t.t.t.t.t.t.t.t.t.t.t.t.t.t.t.t.t.t.sl S47.out.n.t.t.t.t.t.t.t.t.t.t.t.t.t.t.t.t.t.t.t.t.t.t.t.t.sl S47.out.n.t.t.t.t.t.t.t.t.t.t.t.t.t.t.t.t.t.t.t.t.t.t.t.t.t.t.t.t.t.t.t.t.sl S47.out.n.t.t.t.t.t.t.t.t.t.t.t.t.t.t.t.t.t.t.t.t.t.t.t.t.t.t.t.t.t.t.t.t.t.sl).mono ?_
    rintro e w59 ⟨rfl, hB⟩
    have S48 := Lib.hid ((S47.out.step hB))
    clear S47 hB
    go_wp2_with fail
    refine hK.out _ _ ⟨S48.out.b.c4, S48.out.b.t.t.c4, S48.out.b.t.c4, S48.out.b.t.t.t.t.c4, S48.out.b.t.t.t.t.t.t.c4, S48.out.b.t.t.t.c4, S48.out.b.t.t.t.t.t.c4⟩ (fun h2 => ?_)
    clear hK K hH; have hH := h2; clear h2; try simp only [nrm]
    refine step_on 19 rfl (by kernel_rfl) (fun _ _ _ h => h) (by rfl) hH (by intro w hS; go_simp <;> with_reducible rfl) ?_
    try simp only [nrm]
    refine step_on 20 rfl (by kernel_rfl) (fun _ _ _ h => h) (by rfl) hH (by intro w hS; go_simp <;> with_reducible rfl) ?_
    try simp only [nrm]
    refine step_one 21 rfl (by kernel_rfl) (fun K hK => ?_)
    go_simp
    refine (known6_any _ (HT.out.below S48.out.h)).mono ?_
    rintro e w60 ⟨rfl, hB⟩
    have S49 := Lib.hid ((S48.out.step hB))
    clear S48 hB
    go_wp2_with fail
    refine hK.out _ _ ⟨S49.out.b.c4, S49.out.b.t.t.c4, S49.out.b.t.c4, S49.out.b.t.t.t.t.c4, S49.out.b.t.t.t.t.t.t.c4, S49.out.b.t.t.t.c4, S49.out.b.t.t.t.t.t.c4⟩ (fun h2 => ?_)
    clear hK K hH; have hH := h2; clear h2; try simp only [nrm]
    refine step_on 22 rfl (by kernel_rfl) (fun _ _ _ h => h) (by rfl) hH (by intro w hS; go_simp <;> with_reducible rfl) ?_
    try simp only [nrm]
    refine step_on 23 rfl (by kernel_rfl) (fun _ _ _ h => h) (by rfl) hH (by intro w hS; go_simp <;> with_reducible rfl) ?_
    try simp only [nrm]
    refine wpAnyH_done (by kernel_rfl) ?_ _
    clear hH
    go_wp2_with fail
    go_ret
    exact ⟨rfl, S49.out.h⟩

end Go.Proofs.YteceomlbnajihaaGreatDoor
