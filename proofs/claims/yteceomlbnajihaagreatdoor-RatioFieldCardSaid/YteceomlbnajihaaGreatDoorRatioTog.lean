/-
  The contracts of ratio.together and of the function that it answers.
-/
import Derived.Test.YteceomlbnajihaaGreatDoorRatioLow
import Derived.Test.YteceomlbnajihaaGreatDoorGWA
import Derived.Deep.Cut
import Derived.Deep.CutRange
set_option maxRecDepth 8192
namespace Go.Proofs.YteceomlbnajihaaGreatDoor
open Go.RowKit

/-- what ratio.together leaves: a function bound to both numbers and their lower parts -/
def NewTog (w : World) (m : Bool) (ao : Option Addr) (n cap : Nat) (k : Bool) (bo : Option Addr) (l cb : Nat) (m2 : Bool) (a2 : Option Addr) (n2 c2 : Nat) (k2 : Bool) (b2 : Option Addr) (l2 d2 : Nat) (zx zy : Int) (j i : Nat) (e : Ending) (w' : World) : Prop :=
  ∃ p0 p1 p2 p3 u v s t u' v' s' t', e = .returned (.func (.func 70) #[] #[.pointer (some ⟨p0, 0, none⟩), .pointer (some ⟨p1, 0, none⟩), .pointer (some ⟨p2, 0, none⟩), .pointer (some ⟨p3, 0, none⟩)]) ∧
    Cells w' p0 [.bool m, .slice ao n cap, .bool k, .slice bo l cb] ∧ Cells w' p1 [.bool u, .slice v s t] ∧ Cells w' p2 [.bool m2, .slice a2 n2 c2, .bool k2, .slice b2 l2 d2] ∧ Cells w' p3 [.bool u', .slice v' s' t'] ∧
    Nb w' u v s t zy i ∧ Nb w' u' v' s' t' zx j ∧ Below w.heap.size w w'

set_option maxHeartbeats 1000000 in
set_option maxRecDepth 100000 in
theorem tog_any {m : Bool} {ao : Option Addr} {n cap : Nat} {k : Bool} {bo : Option Addr} {l cb : Nat} {m2 : Bool} {a2 : Option Addr} {n2 c2 : Nat} {k2 : Bool} {b2 : Option Addr} {l2 d2 : Nat} {x d y c : Int} {q r : Rat} {j i : Nat} {w : World} (hx : Rx w m ao n cap k bo l cb x d q j) (hy : Rx w m2 a2 n2 c2 k2 b2 l2 d2 y c r i) (hj : 1 ≤ j) (hi : 1 ≤ i) :
    Calls Tryz.prog 42 #[.agg #[.bool m, .slice ao n cap, .bool k, .slice bo l cb], .agg #[.bool m2, .slice a2 n2 c2, .bool k2, .slice b2 l2 d2]] w (NewTog w m ao n cap k bo l cb m2 a2 n2 c2 k2 b2 l2 d2 (dn d) (dn c) j i) := by
  have hmf : ∀ (fn : Fn) (first cap : Array Value) (w : World), (Instr.makeFunc fn first cap).run Tryz.prog w = .ok (.func fn first cap) w := fun _ _ _ _ => rfl
  go_enter Tryz.func42, Tryz.ntmps42
  have S0 := Lib.hid (Sx.start (w := w) (N := [.rx m ao n cap k bo l cb x d q j, .rx m2 a2 n2 c2 k2 b2 l2 d2 y c r i]) ⟨hx, hy, trivial⟩)
  clear hx hy
  have S1 := Lib.hid (S0.out.var (w.heap.size) [.bool m, .slice ao n cap, .bool k, .slice bo l cb] 26 (by simp))
  clear S0
  have S2 := Lib.hid (S1.out.var (w.heap.size + 1) [.bool m2, .slice a2 n2 c2, .bool k2, .slice b2 l2 d2] 26 (by simp))
  clear S1
  go_upto_region 1 with (fail)
  refine wp_world (fun w1 hW => ?_)
  rw [← hW] at S2
  clear hW
  go_cut [5, 6] from 7 to 11 (fun sl0 sl1 w9 => ∃ (qb5 : Nat) (qb6 : Nat) (r2_m : Bool) (r2_0 : Option Addr) (r2_n : Nat) (r2_c : Nat) (r1_m : Bool) (r1_0 : Option Addr) (r1_n : Nat) (r1_c : Nat), sl0 = .pointer (some ⟨qb5, 0, none⟩) ∧ sl1 = .pointer (some ⟨qb6, 0, none⟩) ∧ Hid (Sx w w9 [⟨qb6, [.bool r2_m, .slice r2_0 r2_n r2_c]⟩, ⟨qb5, [.bool r1_m, .slice r1_0 r1_n r1_c]⟩, ⟨(w.heap.size + 1), [.bool m2, .slice a2 n2 c2, .bool k2, .slice b2 l2 d2]⟩, ⟨(w.heap.size), [.bool m, .slice ao n cap, .bool k, .slice bo l cb]⟩] [.nb r2_m r2_0 r2_n r2_c (dn c) i, .nb r1_m r1_0 r1_n r1_c (dn d) j, .rx m ao n cap k bo l cb x d q j, .rx m2 a2 n2 c2 k2 b2 l2 d2 y c r i]))
  case first =>
    have S3 := Lib.hid (S2.out.drew)
    clear S2
    refine wp_region_held_drew (S := fun w' => (w'.cell? ⟨(w.heap.size), 0, none⟩ = some (.bool m) ∧ w'.cell? ⟨(w.heap.size), 1, none⟩ = some (.slice ao n cap) ∧ w'.cell? ⟨(w.heap.size), 2, none⟩ = some (.bool k) ∧ w'.cell? ⟨(w.heap.size), 3, none⟩ = some (.slice bo l cb)) ∧ (w'.cell? ⟨(w.heap.size + 1), 0, none⟩ = some (.bool m2) ∧ w'.cell? ⟨(w.heap.size + 1), 1, none⟩ = some (.slice a2 n2 c2) ∧ w'.cell? ⟨(w.heap.size + 1), 2, none⟩ = some (.bool k2) ∧ w'.cell? ⟨(w.heap.size + 1), 3, none⟩ = some (.slice b2 l2 d2))) (by kernel_rfl) (⟨S3.out.b.t.c4, S3.out.b.c4⟩) (fun hH => ?_)
    refine anyH_world (fun w2 hW => ?_)
    rw [← hW] at S3 hH
    clear hW
    refine step_on 0 rfl (by kernel_rfl) (fun _ _ _ h => h) (by rfl) hH (by intro w hS; go_simp <;> with_reducible rfl) ?_
    try simp only [nrm]
    refine step_on 2 rfl (by kernel_rfl) (fun _ _ _ h => h) (by rfl) hH (by intro w hS; go_simp <;> with_reducible rfl) ?_
    try simp only [nrm]
    refine wpAnyH_ready (rs := [1, 4, 5]) (by kernel_rfl) (by simp) (ready_cons rfl (fun K hK => ?_) (ready_cons rfl (fun K hK => ?_) (ready_cons rfl (fun K hK => ?_) (AllReadyH.nil))))
    · go_simp
      refine (den_any S3.out.n.rx).mono ?_
      rintro e w3 ⟨r1_m, r1_0, r1_n, r1_c, rfl, hX, hB⟩
      have S4 := Lib.hid (((S3.out.step hB).nb ⟨hX, dn_bd S3.out.n.rx.bd (by omega)⟩ rfl))
      clear S3 hX hB
      go_wp2_with fail
      refine hK.out _ _ ⟨S4.out.b.t.c4, S4.out.b.c4⟩ (fun h2 => ?_)
      clear hK K hH
      have hH := h2
      clear h2
      try simp only [nrm]
      refine wpAnyH_ready (rs := [3, 4, 5]) (by kernel_rfl) (by simp) (ready_cons rfl (fun K hK => ?_) (ready_cons rfl (fun K hK => ?_) (ready_cons rfl (fun K hK => ?_) (AllReadyH.nil))))
      · go_simp
        refine (den_any S4.out.n.t.t.rx).mono ?_
        rintro e w4 ⟨r2_m, r2_0, r2_n, r2_c, rfl, hX, hB⟩
        have S5 := Lib.hid (((S4.out.step hB).nb ⟨hX, dn_bd S4.out.n.t.t.rx.bd (by omega)⟩ rfl))
        clear S4 hX hB
        go_wp2_with fail
        refine hK.out _ _ ⟨S5.out.b.t.c4, S5.out.b.c4⟩ (fun h2 => ?_)
        clear hK K hH
        have hH := h2
        clear h2
        try simp only [nrm]
        refine wpAnyH_ready (rs := [4, 5]) (by kernel_rfl) (by simp) (ready_cons rfl (fun K hK => ?_) (ready_cons rfl (fun K hK => ?_) (AllReadyH.nil)))
        · go_simp
          have S6 := Lib.hid (S5.out.var (w4.heap.size) [.bool false, .slice none 0 0] 24 (by simp))
          clear S5
          refine hK.out _ _ ⟨S6.out.b.t.t.c4, S6.out.b.t.c4⟩ (fun h2 => ?_)
          clear hK K hH
          have hH := h2
          clear h2
          try simp only [nrm]
          refine anyH_world (fun w5 hW => ?_)
          rw [← hW] at S6 hH
          clear hW
          refine step_one 5 rfl (by kernel_rfl) (fun K hK => ?_)
          go_simp
          have S7 := Lib.hid (S6.out.var (w5.heap.size) [.bool false, .slice none 0 0] 24 (by simp))
          clear S6
          refine hK.out _ _ ⟨S7.out.b.t.t.t.c4, S7.out.b.t.t.c4⟩ (fun h2 => ?_)
          clear hK K hH
          have hH := h2
          clear h2
          try simp only [nrm]
          refine anyH_world (fun w6 hW => ?_)
          rw [← hW] at S7 hH
          clear hW
          refine step_one 6 rfl (by kernel_rfl) (fun K hK => ?_)
          obtain ⟨c_b5_0, c_b5_1⟩ := S7.out.b.t.c2
          obtain ⟨f_b5_0, f_b5_1⟩ := S7.out.b.t.f2
          go_simp
          clear c_b5_0 c_b5_1 f_b5_0 f_b5_1
          have S8 : Hid (Sx w _ [⟨(w5.heap.size), [.bool false, .slice none 0 0]⟩, ⟨(w4.heap.size), [.bool r1_m, .slice r1_0 r1_n r1_c]⟩, ⟨(w.heap.size + 1), [.bool m2, .slice a2 n2 c2, .bool k2, .slice b2 l2 d2]⟩, ⟨(w.heap.size), [.bool m, .slice ao n cap, .bool k, .slice bo l cb]⟩] _) := Lib.hid (Sx.set [⟨(w5.heap.size), [.bool false, .slice none 0 0]⟩] [⟨(w.heap.size + 1), [.bool m2, .slice a2 n2 c2, .bool k2, .slice b2 l2 d2]⟩, ⟨(w.heap.size), [.bool m, .slice ao n cap, .bool k, .slice bo l cb]⟩] (Sx.set [⟨(w5.heap.size), [.bool false, .slice none 0 0]⟩] [⟨(w.heap.size + 1), [.bool m2, .slice a2 n2 c2, .bool k2, .slice b2 l2 d2]⟩, ⟨(w.heap.size), [.bool m, .slice ao n cap, .bool k, .slice bo l cb]⟩] S7.out 0 (.bool r1_m)) 1 (.slice r1_0 r1_n r1_c))
          clear S7
          refine hK.out _ _ ⟨S8.out.b.t.t.t.c4, S8.out.b.t.t.c4⟩ (fun h2 => ?_)
          clear hK K hH
          have hH := h2
          clear h2
          try simp only [nrm]
          refine anyH_world (fun w7 hW => ?_)
          rw [← hW] at S8 hH
          clear hW
          refine step_one 7 rfl (by kernel_rfl) (fun K hK => ?_)
          obtain ⟨c_b6_0, c_b6_1⟩ := S8.out.b.c2
          obtain ⟨f_b6_0, f_b6_1⟩ := S8.out.b.f2
          go_simp
          clear c_b6_0 c_b6_1 f_b6_0 f_b6_1
          have S9 : Hid (Sx w _ [⟨(w5.heap.size), [.bool r2_m, .slice r2_0 r2_n r2_c]⟩, ⟨(w4.heap.size), [.bool r1_m, .slice r1_0 r1_n r1_c]⟩, ⟨(w.heap.size + 1), [.bool m2, .slice a2 n2 c2, .bool k2, .slice b2 l2 d2]⟩, ⟨(w.heap.size), [.bool m, .slice ao n cap, .bool k, .slice bo l cb]⟩] _) := Lib.hid (Sx.set [] [⟨(w4.heap.size), [.bool r1_m, .slice r1_0 r1_n r1_c]⟩, ⟨(w.heap.size + 1), [.bool m2, .slice a2 n2 c2, .bool k2, .slice b2 l2 d2]⟩, ⟨(w.heap.size), [.bool m, .slice ao n cap, .bool k, .slice bo l cb]⟩] (Sx.set [] [⟨(w4.heap.size), [.bool r1_m, .slice r1_0 r1_n r1_c]⟩, ⟨(w.heap.size + 1), [.bool m2, .slice a2 n2 c2, .bool k2, .slice b2 l2 d2]⟩, ⟨(w.heap.size), [.bool m, .slice ao n cap, .bool k, .slice bo l cb]⟩] S8.out 0 (.bool r2_m)) 1 (.slice r2_0 r2_n r2_c))
          clear S8
          refine hK.out _ _ ⟨S9.out.b.t.t.t.c4, S9.out.b.t.t.c4⟩ (fun h2 => ?_)
          clear hK K hH
          have hH := h2
          clear h2
          try simp only [nrm]
          refine anyH_world (fun w8 hW => ?_)
          rw [← hW] at S9 hH
          clear hW
          refine wpAnyH_done (by kernel_rfl) ?_ _
          clear hH
          go_wp2_with fail
          go_meet
          case rel => exact ⟨_, _, _, _, _, _, _, _, _, _, rfl, rfl, S9.out⟩
        · go_simp
          have S6 := Lib.hid (S5.out.var (w4.heap.size) [.bool false, .slice none 0 0] 24 (by simp))
          clear S5
          refine hK.out _ _ ⟨S6.out.b.t.t.c4, S6.out.b.t.c4⟩ (fun h2 => ?_)
          clear hK K hH
          have hH := h2
          clear h2
          try simp only [nrm]
          refine anyH_world (fun w5 hW => ?_)
          rw [← hW] at S6 hH
          clear hW
          refine step_one 4 rfl (by kernel_rfl) (fun K hK => ?_)
          go_simp
          have S7 := Lib.hid (S6.out.var (w5.heap.size) [.bool false, .slice none 0 0] 24 (by simp))
          clear S6
          refine hK.out _ _ ⟨S7.out.b.t.t.t.c4, S7.out.b.t.t.c4⟩ (fun h2 => ?_)
          clear hK K hH
          have hH := h2
          clear h2
          try simp only [nrm]
          refine anyH_world (fun w6 hW => ?_)
          rw [← hW] at S7 hH
          clear hW
          refine step_one 6 rfl (by kernel_rfl) (fun K hK => ?_)
          obtain ⟨c_b5_0, c_b5_1⟩ := S7.out.b.c2
          obtain ⟨f_b5_0, f_b5_1⟩ := S7.out.b.f2
          go_simp
          clear c_b5_0 c_b5_1 f_b5_0 f_b5_1
          have S8 : Hid (Sx w _ [⟨(w5.heap.size), [.bool r1_m, .slice r1_0 r1_n r1_c]⟩, ⟨(w4.heap.size), [.bool false, .slice none 0 0]⟩, ⟨(w.heap.size + 1), [.bool m2, .slice a2 n2 c2, .bool k2, .slice b2 l2 d2]⟩, ⟨(w.heap.size), [.bool m, .slice ao n cap, .bool k, .slice bo l cb]⟩] _) := Lib.hid (Sx.set [] [⟨(w4.heap.size), [.bool false, .slice none 0 0]⟩, ⟨(w.heap.size + 1), [.bool m2, .slice a2 n2 c2, .bool k2, .slice b2 l2 d2]⟩, ⟨(w.heap.size), [.bool m, .slice ao n cap, .bool k, .slice bo l cb]⟩] (Sx.set [] [⟨(w4.heap.size), [.bool false, .slice none 0 0]⟩, ⟨(w.heap.size + 1), [.bool m2, .slice a2 n2 c2, .bool k2, .slice b2 l2 d2]⟩, ⟨(w.heap.size), [.bool m, .slice ao n cap, .bool k, .slice bo l cb]⟩] S7.out 0 (.bool r1_m)) 1 (.slice r1_0 r1_n r1_c))
          clear S7
          refine hK.out _ _ ⟨S8.out.b.t.t.t.c4, S8.out.b.t.t.c4⟩ (fun h2 => ?_)
          clear hK K hH
          have hH := h2
          clear h2
          try simp only [nrm]
          refine anyH_world (fun w7 hW => ?_)
          rw [← hW] at S8 hH
          clear hW
          refine step_one 7 rfl (by kernel_rfl) (fun K hK => ?_)
          obtain ⟨c_b6_0, c_b6_1⟩ := S8.out.b.t.c2
          obtain ⟨f_b6_0, f_b6_1⟩ := S8.out.b.t.f2
          go_simp
          clear c_b6_0 c_b6_1 f_b6_0 f_b6_1
          have S9 : Hid (Sx w _ [⟨(w5.heap.size), [.bool r1_m, .slice r1_0 r1_n r1_c]⟩, ⟨(w4.heap.size), [.bool r2_m, .slice r2_0 r2_n r2_c]⟩, ⟨(w.heap.size + 1), [.bool m2, .slice a2 n2 c2, .bool k2, .slice b2 l2 d2]⟩, ⟨(w.heap.size), [.bool m, .slice ao n cap, .bool k, .slice bo l cb]⟩] _) := Lib.hid (Sx.set [⟨(w5.heap.size), [.bool r1_m, .slice r1_0 r1_n r1_c]⟩] [⟨(w.heap.size + 1), [.bool m2, .slice a2 n2 c2, .bool k2, .slice b2 l2 d2]⟩, ⟨(w.heap.size), [.bool m, .slice ao n cap, .bool k, .slice bo l cb]⟩] (Sx.set [⟨(w5.heap.size), [.bool r1_m, .slice r1_0 r1_n r1_c]⟩] [⟨(w.heap.size + 1), [.bool m2, .slice a2 n2 c2, .bool k2, .slice b2 l2 d2]⟩, ⟨(w.heap.size), [.bool m, .slice ao n cap, .bool k, .slice bo l cb]⟩] S8.out 0 (.bool r2_m)) 1 (.slice r2_0 r2_n r2_c))
          clear S8
          refine hK.out _ _ ⟨S9.out.b.t.t.t.c4, S9.out.b.t.t.c4⟩ (fun h2 => ?_)
          clear hK K hH
          have hH := h2
          clear h2
          try simp only [nrm]
          refine anyH_world (fun w8 hW => ?_)
          rw [← hW] at S9 hH
          clear hW
          refine wpAnyH_done (by kernel_rfl) ?_ _
          clear hH
          go_wp2_with fail
          go_meet
          case rel => exact ⟨_, _, _, _, _, _, _, _, _, _, rfl, rfl, S9.out.swap⟩
      · go_simp
        have S5 := Lib.hid (S4.out.var (w3.heap.size) [.bool false, .slice none 0 0] 24 (by simp))
        clear S4
        refine hK.out _ _ ⟨S5.out.b.t.t.c4, S5.out.b.t.c4⟩ (fun h2 => ?_)
        clear hK K hH
        have hH := h2
        clear h2
        try simp only [nrm]
        refine anyH_world (fun w4 hW => ?_)
        rw [← hW] at S5 hH
        clear hW
        refine wpAnyH_ready (rs := [3, 5]) (by kernel_rfl) (by simp) (ready_cons rfl (fun K hK => ?_) (ready_cons rfl (fun K hK => ?_) (AllReadyH.nil)))
        · go_simp
          refine (den_any S5.out.n.t.t.rx).mono ?_
          rintro e w5 ⟨r2_m, r2_0, r2_n, r2_c, rfl, hX, hB⟩
          have S6 := Lib.hid (((S5.out.step hB).nb ⟨hX, dn_bd S5.out.n.t.t.rx.bd (by omega)⟩ rfl))
          clear S5 hX hB
          go_wp2_with fail
          refine hK.out _ _ ⟨S6.out.b.t.t.c4, S6.out.b.t.c4⟩ (fun h2 => ?_)
          clear hK K hH
          have hH := h2
          clear h2
          try simp only [nrm]
          refine step_one 5 rfl (by kernel_rfl) (fun K hK => ?_)
          go_simp
          have S7 := Lib.hid (S6.out.var (w5.heap.size) [.bool false, .slice none 0 0] 24 (by simp))
          clear S6
          refine hK.out _ _ ⟨S7.out.b.t.t.t.c4, S7.out.b.t.t.c4⟩ (fun h2 => ?_)
          clear hK K hH
          have hH := h2
          clear h2
          try simp only [nrm]
          refine anyH_world (fun w6 hW => ?_)
          rw [← hW] at S7 hH
          clear hW
          refine step_one 6 rfl (by kernel_rfl) (fun K hK => ?_)
          obtain ⟨c_b5_0, c_b5_1⟩ := S7.out.b.t.c2
          obtain ⟨f_b5_0, f_b5_1⟩ := S7.out.b.t.f2
          go_simp
          clear c_b5_0 c_b5_1 f_b5_0 f_b5_1
          have S8 : Hid (Sx w _ [⟨(w5.heap.size), [.bool false, .slice none 0 0]⟩, ⟨(w3.heap.size), [.bool r1_m, .slice r1_0 r1_n r1_c]⟩, ⟨(w.heap.size + 1), [.bool m2, .slice a2 n2 c2, .bool k2, .slice b2 l2 d2]⟩, ⟨(w.heap.size), [.bool m, .slice ao n cap, .bool k, .slice bo l cb]⟩] _) := Lib.hid (Sx.set [⟨(w5.heap.size), [.bool false, .slice none 0 0]⟩] [⟨(w.heap.size + 1), [.bool m2, .slice a2 n2 c2, .bool k2, .slice b2 l2 d2]⟩, ⟨(w.heap.size), [.bool m, .slice ao n cap, .bool k, .slice bo l cb]⟩] (Sx.set [⟨(w5.heap.size), [.bool false, .slice none 0 0]⟩] [⟨(w.heap.size + 1), [.bool m2, .slice a2 n2 c2, .bool k2, .slice b2 l2 d2]⟩, ⟨(w.heap.size), [.bool m, .slice ao n cap, .bool k, .slice bo l cb]⟩] S7.out 0 (.bool r1_m)) 1 (.slice r1_0 r1_n r1_c))
          clear S7
          refine hK.out _ _ ⟨S8.out.b.t.t.t.c4, S8.out.b.t.t.c4⟩ (fun h2 => ?_)
          clear hK K hH
          have hH := h2
          clear h2
          try simp only [nrm]
          refine anyH_world (fun w7 hW => ?_)
          rw [← hW] at S8 hH
          clear hW
          refine step_one 7 rfl (by kernel_rfl) (fun K hK => ?_)
          obtain ⟨c_b6_0, c_b6_1⟩ := S8.out.b.c2
          obtain ⟨f_b6_0, f_b6_1⟩ := S8.out.b.f2
          go_simp
          clear c_b6_0 c_b6_1 f_b6_0 f_b6_1
          have S9 : Hid (Sx w _ [⟨(w5.heap.size), [.bool r2_m, .slice r2_0 r2_n r2_c]⟩, ⟨(w3.heap.size), [.bool r1_m, .slice r1_0 r1_n r1_c]⟩, ⟨(w.heap.size + 1), [.bool m2, .slice a2 n2 c2, .bool k2, .slice b2 l2 d2]⟩, ⟨(w.heap.size), [.bool m, .slice ao n cap, .bool k, .slice bo l cb]⟩] _) := Lib.hid (Sx.set [] [⟨(w3.heap.size), [.bool r1_m, .slice r1_0 r1_n r1_c]⟩, ⟨(w.heap.size + 1), [.bool m2, .slice a2 n2 c2, .bool k2, .slice b2 l2 d2]⟩, ⟨(w.heap.size), [.bool m, .slice ao n cap, .bool k, .slice bo l cb]⟩] (Sx.set [] [⟨(w3.heap.size), [.bool r1_m, .slice r1_0 r1_n r1_c]⟩, ⟨(w.heap.size + 1), [.bool m2, .slice a2 n2 c2, .bool k2, .slice b2 l2 d2]⟩, ⟨(w.heap.size), [.bool m, .slice ao n cap, .bool k, .slice bo l cb]⟩] S8.out 0 (.bool r2_m)) 1 (.slice r2_0 r2_n r2_c))
          clear S8
          refine hK.out _ _ ⟨S9.out.b.t.t.t.c4, S9.out.b.t.t.c4⟩ (fun h2 => ?_)
          clear hK K hH
          have hH := h2
          clear h2
          try simp only [nrm]
          refine anyH_world (fun w8 hW => ?_)
          rw [← hW] at S9 hH
          clear hW
          refine wpAnyH_done (by kernel_rfl) ?_ _
          clear hH
          go_wp2_with fail
          go_meet
          case rel => exact ⟨_, _, _, _, _, _, _, _, _, _, rfl, rfl, S9.out⟩
        · go_simp
          have S6 := Lib.hid (S5.out.var (w4.heap.size) [.bool false, .slice none 0 0] 24 (by simp))
          clear S5
          refine hK.out _ _ ⟨S6.out.b.t.t.t.c4, S6.out.b.t.t.c4⟩ (fun h2 => ?_)
          clear hK K hH
          have hH := h2
          clear h2
          try simp only [nrm]
          refine anyH_world (fun w5 hW => ?_)
          rw [← hW] at S6 hH
          clear hW
          refine step_one 3 rfl (by kernel_rfl) (fun K hK => ?_)
          go_simp
          refine (den_any S6.out.n.t.t.rx).mono ?_
          rintro e w6 ⟨r2_m, r2_0, r2_n, r2_c, rfl, hX, hB⟩
          have S7 := Lib.hid (((S6.out.step hB).nb ⟨hX, dn_bd S6.out.n.t.t.rx.bd (by omega)⟩ rfl))
          clear S6 hX hB
          go_wp2_with fail
          refine hK.out _ _ ⟨S7.out.b.t.t.t.c4, S7.out.b.t.t.c4⟩ (fun h2 => ?_)
          clear hK K hH
          have hH := h2
          clear h2
          try simp only [nrm]
          refine step_one 6 rfl (by kernel_rfl) (fun K hK => ?_)
          obtain ⟨c_b5_0, c_b5_1⟩ := S7.out.b.t.c2
          obtain ⟨f_b5_0, f_b5_1⟩ := S7.out.b.t.f2
          go_simp
          clear c_b5_0 c_b5_1 f_b5_0 f_b5_1
          have S8 : Hid (Sx w _ [⟨(w4.heap.size), [.bool false, .slice none 0 0]⟩, ⟨(w3.heap.size), [.bool r1_m, .slice r1_0 r1_n r1_c]⟩, ⟨(w.heap.size + 1), [.bool m2, .slice a2 n2 c2, .bool k2, .slice b2 l2 d2]⟩, ⟨(w.heap.size), [.bool m, .slice ao n cap, .bool k, .slice bo l cb]⟩] _) := Lib.hid (Sx.set [⟨(w4.heap.size), [.bool false, .slice none 0 0]⟩] [⟨(w.heap.size + 1), [.bool m2, .slice a2 n2 c2, .bool k2, .slice b2 l2 d2]⟩, ⟨(w.heap.size), [.bool m, .slice ao n cap, .bool k, .slice bo l cb]⟩] (Sx.set [⟨(w4.heap.size), [.bool false, .slice none 0 0]⟩] [⟨(w.heap.size + 1), [.bool m2, .slice a2 n2 c2, .bool k2, .slice b2 l2 d2]⟩, ⟨(w.heap.size), [.bool m, .slice ao n cap, .bool k, .slice bo l cb]⟩] S7.out 0 (.bool r1_m)) 1 (.slice r1_0 r1_n r1_c))
          clear S7
          refine hK.out _ _ ⟨S8.out.b.t.t.t.c4, S8.out.b.t.t.c4⟩ (fun h2 => ?_)
          clear hK K hH
          have hH := h2
          clear h2
          try simp only [nrm]
          refine anyH_world (fun w7 hW => ?_)
          rw [← hW] at S8 hH
          clear hW
          refine step_one 7 rfl (by kernel_rfl) (fun K hK => ?_)
          obtain ⟨c_b6_0, c_b6_1⟩ := S8.out.b.c2
          obtain ⟨f_b6_0, f_b6_1⟩ := S8.out.b.f2
          go_simp
          clear c_b6_0 c_b6_1 f_b6_0 f_b6_1
          have S9 : Hid (Sx w _ [⟨(w4.heap.size), [.bool r2_m, .slice r2_0 r2_n r2_c]⟩, ⟨(w3.heap.size), [.bool r1_m, .slice r1_0 r1_n r1_c]⟩, ⟨(w.heap.size + 1), [.bool m2, .slice a2 n2 c2, .bool k2, .slice b2 l2 d2]⟩, ⟨(w.heap.size), [.bool m, .slice ao n cap, .bool k, .slice bo l cb]⟩] _) := Lib.hid (Sx.set [] [⟨(w3.heap.size), [.bool r1_m, .slice r1_0 r1_n r1_c]⟩, ⟨(w.heap.size + 1), [.bool m2, .slice a2 n2 c2, .bool k2, .slice b2 l2 d2]⟩, ⟨(w.heap.size), [.bool m, .slice ao n cap, .bool k, .slice bo l cb]⟩] (Sx.set [] [⟨(w3.heap.size), [.bool r1_m, .slice r1_0 r1_n r1_c]⟩, ⟨(w.heap.size + 1), [.bool m2, .slice a2 n2 c2, .bool k2, .slice b2 l2 d2]⟩, ⟨(w.heap.size), [.bool m, .slice ao n cap, .bool k, .slice bo l cb]⟩] S8.out 0 (.bool r2_m)) 1 (.slice r2_0 r2_n r2_c))
          clear S8
          refine hK.out _ _ ⟨S9.out.b.t.t.t.c4, S9.out.b.t.t.c4⟩ (fun h2 => ?_)
          clear hK K hH
          have hH := h2
          clear h2
          try simp only [nrm]
          refine anyH_world (fun w8 hW => ?_)
          rw [← hW] at S9 hH
          clear hW
          refine wpAnyH_done (by kernel_rfl) ?_ _
          clear hH
          go_wp2_with fail
          go_meet
          case rel => exact ⟨_, _, _, _, _, _, _, _, _, _, rfl, rfl, S9.out⟩
      · go_simp
        have S5 := Lib.hid (S4.out.var (w3.heap.size) [.bool false, .slice none 0 0] 24 (by simp))
        clear S4
        refine hK.out _ _ ⟨S5.out.b.t.t.c4, S5.out.b.t.c4⟩ (fun h2 => ?_)
        clear hK K hH
        have hH := h2
        clear h2
        try simp only [nrm]
        refine anyH_world (fun w4 hW => ?_)
        rw [← hW] at S5 hH
        clear hW
        refine wpAnyH_ready (rs := [3, 4]) (by kernel_rfl) (by simp) (ready_cons rfl (fun K hK => ?_) (ready_cons rfl (fun K hK => ?_) (AllReadyH.nil)))
        · go_simp
          refine (den_any S5.out.n.t.t.rx).mono ?_
          rintro e w5 ⟨r2_m, r2_0, r2_n, r2_c, rfl, hX, hB⟩
          have S6 := Lib.hid (((S5.out.step hB).nb ⟨hX, dn_bd S5.out.n.t.t.rx.bd (by omega)⟩ rfl))
          clear S5 hX hB
          go_wp2_with fail
          refine hK.out _ _ ⟨S6.out.b.t.t.c4, S6.out.b.t.c4⟩ (fun h2 => ?_)
          clear hK K hH
          have hH := h2
          clear h2
          try simp only [nrm]
          refine step_one 4 rfl (by kernel_rfl) (fun K hK => ?_)
          go_simp
          have S7 := Lib.hid (S6.out.var (w5.heap.size) [.bool false, .slice none 0 0] 24 (by simp))
          clear S6
          refine hK.out _ _ ⟨S7.out.b.t.t.t.c4, S7.out.b.t.t.c4⟩ (fun h2 => ?_)
          clear hK K hH
          have hH := h2
          clear h2
          try simp only [nrm]
          refine anyH_world (fun w6 hW => ?_)
          rw [← hW] at S7 hH
          clear hW
          refine step_one 6 rfl (by kernel_rfl) (fun K hK => ?_)
          obtain ⟨c_b5_0, c_b5_1⟩ := S7.out.b.c2
          obtain ⟨f_b5_0, f_b5_1⟩ := S7.out.b.f2
          go_simp
          clear c_b5_0 c_b5_1 f_b5_0 f_b5_1
          have S8 : Hid (Sx w _ [⟨(w5.heap.size), [.bool r1_m, .slice r1_0 r1_n r1_c]⟩, ⟨(w3.heap.size), [.bool false, .slice none 0 0]⟩, ⟨(w.heap.size + 1), [.bool m2, .slice a2 n2 c2, .bool k2, .slice b2 l2 d2]⟩, ⟨(w.heap.size), [.bool m, .slice ao n cap, .bool k, .slice bo l cb]⟩] _) := Lib.hid (Sx.set [] [⟨(w3.heap.size), [.bool false, .slice none 0 0]⟩, ⟨(w.heap.size + 1), [.bool m2, .slice a2 n2 c2, .bool k2, .slice b2 l2 d2]⟩, ⟨(w.heap.size), [.bool m, .slice ao n cap, .bool k, .slice bo l cb]⟩] (Sx.set [] [⟨(w3.heap.size), [.bool false, .slice none 0 0]⟩, ⟨(w.heap.size + 1), [.bool m2, .slice a2 n2 c2, .bool k2, .slice b2 l2 d2]⟩, ⟨(w.heap.size), [.bool m, .slice ao n cap, .bool k, .slice bo l cb]⟩] S7.out 0 (.bool r1_m)) 1 (.slice r1_0 r1_n r1_c))
          clear S7
          refine hK.out _ _ ⟨S8.out.b.t.t.t.c4, S8.out.b.t.t.c4⟩ (fun h2 => ?_)
          clear hK K hH
          have hH := h2
          clear h2
          try simp only [nrm]
          refine anyH_world (fun w7 hW => ?_)
          rw [← hW] at S8 hH
          clear hW
          refine step_one 7 rfl (by kernel_rfl) (fun K hK => ?_)
          obtain ⟨c_b6_0, c_b6_1⟩ := S8.out.b.t.c2
          obtain ⟨f_b6_0, f_b6_1⟩ := S8.out.b.t.f2
          go_simp
          clear c_b6_0 c_b6_1 f_b6_0 f_b6_1
          have S9 : Hid (Sx w _ [⟨(w5.heap.size), [.bool r1_m, .slice r1_0 r1_n r1_c]⟩, ⟨(w3.heap.size), [.bool r2_m, .slice r2_0 r2_n r2_c]⟩, ⟨(w.heap.size + 1), [.bool m2, .slice a2 n2 c2, .bool k2, .slice b2 l2 d2]⟩, ⟨(w.heap.size), [.bool m, .slice ao n cap, .bool k, .slice bo l cb]⟩] _) := Lib.hid (Sx.set [⟨(w5.heap.size), [.bool r1_m, .slice r1_0 r1_n r1_c]⟩] [⟨(w.heap.size + 1), [.bool m2, .slice a2 n2 c2, .bool k2, .slice b2 l2 d2]⟩, ⟨(w.heap.size), [.bool m, .slice ao n cap, .bool k, .slice bo l cb]⟩] (Sx.set [⟨(w5.heap.size), [.bool r1_m, .slice r1_0 r1_n r1_c]⟩] [⟨(w.heap.size + 1), [.bool m2, .slice a2 n2 c2, .bool k2, .slice b2 l2 d2]⟩, ⟨(w.heap.size), [.bool m, .slice ao n cap, .bool k, .slice bo l cb]⟩] S8.out 0 (.bool r2_m)) 1 (.slice r2_0 r2_n r2_c))
          clear S8
          refine hK.out _ _ ⟨S9.out.b.t.t.t.c4, S9.out.b.t.t.c4⟩ (fun h2 => ?_)
          clear hK K hH
          have hH := h2
          clear h2
          try simp only [nrm]
          refine anyH_world (fun w8 hW => ?_)
          rw [← hW] at S9 hH
          clear hW
          refine wpAnyH_done (by kernel_rfl) ?_ _
          clear hH
          go_wp2_with fail
          go_meet
          case rel => exact ⟨_, _, _, _, _, _, _, _, _, _, rfl, rfl, S9.out.swap⟩
        · go_simp
          have S6 := Lib.hid (S5.out.var (w4.heap.size) [.bool false, .slice none 0 0] 24 (by simp))
          clear S5
          refine hK.out _ _ ⟨S6.out.b.t.t.t.c4, S6.out.b.t.t.c4⟩ (fun h2 => ?_)
          clear hK K hH
          have hH := h2
          clear h2
          try simp only [nrm]
          refine anyH_world (fun w5 hW => ?_)
          rw [← hW] at S6 hH
          clear hW
          refine step_one 3 rfl (by kernel_rfl) (fun K hK => ?_)
          go_simp
          refine (den_any S6.out.n.t.t.rx).mono ?_
          rintro e w6 ⟨r2_m, r2_0, r2_n, r2_c, rfl, hX, hB⟩
          have S7 := Lib.hid (((S6.out.step hB).nb ⟨hX, dn_bd S6.out.n.t.t.rx.bd (by omega)⟩ rfl))
          clear S6 hX hB
          go_wp2_with fail
          refine hK.out _ _ ⟨S7.out.b.t.t.t.c4, S7.out.b.t.t.c4⟩ (fun h2 => ?_)
          clear hK K hH
          have hH := h2
          clear h2
          try simp only [nrm]
          refine step_one 6 rfl (by kernel_rfl) (fun K hK => ?_)
          obtain ⟨c_b5_0, c_b5_1⟩ := S7.out.b.c2
          obtain ⟨f_b5_0, f_b5_1⟩ := S7.out.b.f2
          go_simp
          clear c_b5_0 c_b5_1 f_b5_0 f_b5_1
          have S8 : Hid (Sx w _ [⟨(w4.heap.size), [.bool r1_m, .slice r1_0 r1_n r1_c]⟩, ⟨(w3.heap.size), [.bool false, .slice none 0 0]⟩, ⟨(w.heap.size + 1), [.bool m2, .slice a2 n2 c2, .bool k2, .slice b2 l2 d2]⟩, ⟨(w.heap.size), [.bool m, .slice ao n cap, .bool k, .slice bo l cb]⟩] _) := Lib.hid (Sx.set [] [⟨(w3.heap.size), [.bool false, .slice none 0 0]⟩, ⟨(w.heap.size + 1), [.bool m2, .slice a2 n2 c2, .bool k2, .slice b2 l2 d2]⟩, ⟨(w.heap.size), [.bool m, .slice ao n cap, .bool k, .slice bo l cb]⟩] (Sx.set [] [⟨(w3.heap.size), [.bool false, .slice none 0 0]⟩, ⟨(w.heap.size + 1), [.bool m2, .slice a2 n2 c2, .bool k2, .slice b2 l2 d2]⟩, ⟨(w.heap.size), [.bool m, .slice ao n cap, .bool k, .slice bo l cb]⟩] S7.out 0 (.bool r1_m)) 1 (.slice r1_0 r1_n r1_c))
          clear S7
          refine hK.out _ _ ⟨S8.out.b.t.t.t.c4, S8.out.b.t.t.c4⟩ (fun h2 => ?_)
          clear hK K hH
          have hH := h2
          clear h2
          try simp only [nrm]
          refine anyH_world (fun w7 hW => ?_)
          rw [← hW] at S8 hH
          clear hW
          refine step_one 7 rfl (by kernel_rfl) (fun K hK => ?_)
          obtain ⟨c_b6_0, c_b6_1⟩ := S8.out.b.t.c2
          obtain ⟨f_b6_0, f_b6_1⟩ := S8.out.b.t.f2
          go_simp
          clear c_b6_0 c_b6_1 f_b6_0 f_b6_1
          have S9 : Hid (Sx w _ [⟨(w4.heap.size), [.bool r1_m, .slice r1_0 r1_n r1_c]⟩, ⟨(w3.heap.size), [.bool r2_m, .slice r2_0 r2_n r2_c]⟩, ⟨(w.heap.size + 1), [.bool m2, .slice a2 n2 c2, .bool k2, .slice b2 l2 d2]⟩, ⟨(w.heap.size), [.bool m, .slice ao n cap, .bool k, .slice bo l cb]⟩] _) := Lib.hid (Sx.set [⟨(w4.heap.size), [.bool r1_m, .slice r1_0 r1_n r1_c]⟩] [⟨(w.heap.size + 1), [.bool m2, .slice a2 n2 c2, .bool k2, .slice b2 l2 d2]⟩, ⟨(w.heap.size), [.bool m, .slice ao n cap, .bool k, .slice bo l cb]⟩] (Sx.set [⟨(w4.heap.size), [.bool r1_m, .slice r1_0 r1_n r1_c]⟩] [⟨(w.heap.size + 1), [.bool m2, .slice a2 n2 c2, .bool k2, .slice b2 l2 d2]⟩, ⟨(w.heap.size), [.bool m, .slice ao n cap, .bool k, .slice bo l cb]⟩] S8.out 0 (.bool r2_m)) 1 (.slice r2_0 r2_n r2_c))
          clear S8
          refine hK.out _ _ ⟨S9.out.b.t.t.t.c4, S9.out.b.t.t.c4⟩ (fun h2 => ?_)
          clear hK K hH
          have hH := h2
          clear h2
          try simp only [nrm]
          refine anyH_world (fun w8 hW => ?_)
          rw [← hW] at S9 hH
          clear hW
          refine wpAnyH_done (by kernel_rfl) ?_ _
          clear hH
          go_wp2_with fail
          go_meet
          case rel => exact ⟨_, _, _, _, _, _, _, _, _, _, rfl, rfl, S9.out.swap⟩
    · go_simp
      have S4 := Lib.hid (S3.out.var (w2.heap.size) [.bool false, .slice none 0 0] 24 (by simp))
      clear S3
      refine hK.out _ _ ⟨S4.out.b.t.t.c4, S4.out.b.t.c4⟩ (fun h2 => ?_)
      clear hK K hH
      have hH := h2
      clear h2
      try simp only [nrm]
      refine anyH_world (fun w3 hW => ?_)
      rw [← hW] at S4 hH
      clear hW
      refine wpAnyH_ready (rs := [1, 5]) (by kernel_rfl) (by simp) (ready_cons rfl (fun K hK => ?_) (ready_cons rfl (fun K hK => ?_) (AllReadyH.nil)))
      · go_simp
        refine (den_any S4.out.n.rx).mono ?_
        rintro e w4 ⟨r1_m, r1_0, r1_n, r1_c, rfl, hX, hB⟩
        have S5 := Lib.hid (((S4.out.step hB).nb ⟨hX, dn_bd S4.out.n.rx.bd (by omega)⟩ rfl))
        clear S4 hX hB
        go_wp2_with fail
        refine hK.out _ _ ⟨S5.out.b.t.t.c4, S5.out.b.t.c4⟩ (fun h2 => ?_)
        clear hK K hH
        have hH := h2
        clear h2
        try simp only [nrm]
        refine wpAnyH_ready (rs := [3, 5]) (by kernel_rfl) (by simp) (ready_cons rfl (fun K hK => ?_) (ready_cons rfl (fun K hK => ?_) (AllReadyH.nil)))
        · go_simp
          refine (den_any S5.out.n.t.t.rx).mono ?_
          rintro e w5 ⟨r2_m, r2_0, r2_n, r2_c, rfl, hX, hB⟩
          have S6 := Lib.hid (((S5.out.step hB).nb ⟨hX, dn_bd S5.out.n.t.t.rx.bd (by omega)⟩ rfl))
          clear S5 hX hB
          go_wp2_with fail
          refine hK.out _ _ ⟨S6.out.b.t.t.c4, S6.out.b.t.c4⟩ (fun h2 => ?_)
          clear hK K hH
          have hH := h2
          clear h2
          try simp only [nrm]
          refine step_one 5 rfl (by kernel_rfl) (fun K hK => ?_)
          go_simp
          have S7 := Lib.hid (S6.out.var (w5.heap.size) [.bool false, .slice none 0 0] 24 (by simp))
          clear S6
          refine hK.out _ _ ⟨S7.out.b.t.t.t.c4, S7.out.b.t.t.c4⟩ (fun h2 => ?_)
          clear hK K hH
          have hH := h2
          clear h2
          try simp only [nrm]
          refine anyH_world (fun w6 hW => ?_)
          rw [← hW] at S7 hH
          clear hW
          refine step_one 6 rfl (by kernel_rfl) (fun K hK => ?_)
          obtain ⟨c_b5_0, c_b5_1⟩ := S7.out.b.t.c2
          obtain ⟨f_b5_0, f_b5_1⟩ := S7.out.b.t.f2
          go_simp
          clear c_b5_0 c_b5_1 f_b5_0 f_b5_1
          have S8 : Hid (Sx w _ [⟨(w5.heap.size), [.bool false, .slice none 0 0]⟩, ⟨(w2.heap.size), [.bool r1_m, .slice r1_0 r1_n r1_c]⟩, ⟨(w.heap.size + 1), [.bool m2, .slice a2 n2 c2, .bool k2, .slice b2 l2 d2]⟩, ⟨(w.heap.size), [.bool m, .slice ao n cap, .bool k, .slice bo l cb]⟩] _) := Lib.hid (Sx.set [⟨(w5.heap.size), [.bool false, .slice none 0 0]⟩] [⟨(w.heap.size + 1), [.bool m2, .slice a2 n2 c2, .bool k2, .slice b2 l2 d2]⟩, ⟨(w.heap.size), [.bool m, .slice ao n cap, .bool k, .slice bo l cb]⟩] (Sx.set [⟨(w5.heap.size), [.bool false, .slice none 0 0]⟩] [⟨(w.heap.size + 1), [.bool m2, .slice a2 n2 c2, .bool k2, .slice b2 l2 d2]⟩, ⟨(w.heap.size), [.bool m, .slice ao n cap, .bool k, .slice bo l cb]⟩] S7.out 0 (.bool r1_m)) 1 (.slice r1_0 r1_n r1_c))
          clear S7
          refine hK.out _ _ ⟨S8.out.b.t.t.t.c4, S8.out.b.t.t.c4⟩ (fun h2 => ?_)
          clear hK K hH
          have hH := h2
          clear h2
          try simp only [nrm]
          refine anyH_world (fun w7 hW => ?_)
          rw [← hW] at S8 hH
          clear hW
          refine step_one 7 rfl (by kernel_rfl) (fun K hK => ?_)
          obtain ⟨c_b6_0, c_b6_1⟩ := S8.out.b.c2
          obtain ⟨f_b6_0, f_b6_1⟩ := S8.out.b.f2
          go_simp
          clear c_b6_0 c_b6_1 f_b6_0 f_b6_1
          have S9 : Hid (Sx w _ [⟨(w5.heap.size), [.bool r2_m, .slice r2_0 r2_n r2_c]⟩, ⟨(w2.heap.size), [.bool r1_m, .slice r1_0 r1_n r1_c]⟩, ⟨(w.heap.size + 1), [.bool m2, .slice a2 n2 c2, .bool k2, .slice b2 l2 d2]⟩, ⟨(w.heap.size), [.bool m, .slice ao n cap, .bool k, .slice bo l cb]⟩] _) := Lib.hid (Sx.set [] [⟨(w2.heap.size), [.bool r1_m, .slice r1_0 r1_n r1_c]⟩, ⟨(w.heap.size + 1), [.bool m2, .slice a2 n2 c2, .bool k2, .slice b2 l2 d2]⟩, ⟨(w.heap.size), [.bool m, .slice ao n cap, .bool k, .slice bo l cb]⟩] (Sx.set [] [⟨(w2.heap.size), [.bool r1_m, .slice r1_0 r1_n r1_c]⟩, ⟨(w.heap.size + 1), [.bool m2, .slice a2 n2 c2, .bool k2, .slice b2 l2 d2]⟩, ⟨(w.heap.size), [.bool m, .slice ao n cap, .bool k, .slice bo l cb]⟩] S8.out 0 (.bool r2_m)) 1 (.slice r2_0 r2_n r2_c))
          clear S8
          refine hK.out _ _ ⟨S9.out.b.t.t.t.c4, S9.out.b.t.t.c4⟩ (fun h2 => ?_)
          clear hK K hH
          have hH := h2
          clear h2
          try simp only [nrm]
          refine anyH_world (fun w8 hW => ?_)
          rw [← hW] at S9 hH
          clear hW
          refine wpAnyH_done (by kernel_rfl) ?_ _
          clear hH
          go_wp2_with fail
          go_meet
          case rel => exact ⟨_, _, _, _, _, _, _, _, _, _, rfl, rfl, S9.out⟩
        · go_simp
          have S6 := Lib.hid (S5.out.var (w4.heap.size) [.bool false, .slice none 0 0] 24 (by simp))
          clear S5
          refine hK.out _ _ ⟨S6.out.b.t.t.t.c4, S6.out.b.t.t.c4⟩ (fun h2 => ?_)
          clear hK K hH
          have hH := h2
          clear h2
          try simp only [nrm]
          refine anyH_world (fun w5 hW => ?_)
          rw [← hW] at S6 hH
          clear hW
          refine step_one 3 rfl (by kernel_rfl) (fun K hK => ?_)
          go_simp
          refine (den_any S6.out.n.t.t.rx).mono ?_
          rintro e w6 ⟨r2_m, r2_0, r2_n, r2_c, rfl, hX, hB⟩
          have S7 := Lib.hid (((S6.out.step hB).nb ⟨hX, dn_bd S6.out.n.t.t.rx.bd (by omega)⟩ rfl))
          clear S6 hX hB
          go_wp2_with fail
          refine hK.out _ _ ⟨S7.out.b.t.t.t.c4, S7.out.b.t.t.c4⟩ (fun h2 => ?_)
          clear hK K hH
          have hH := h2
          clear h2
          try simp only [nrm]
          refine step_one 6 rfl (by kernel_rfl) (fun K hK => ?_)
          obtain ⟨c_b5_0, c_b5_1⟩ := S7.out.b.t.c2
          obtain ⟨f_b5_0, f_b5_1⟩ := S7.out.b.t.f2
          go_simp
          clear c_b5_0 c_b5_1 f_b5_0 f_b5_1
          have S8 : Hid (Sx w _ [⟨(w4.heap.size), [.bool false, .slice none 0 0]⟩, ⟨(w2.heap.size), [.bool r1_m, .slice r1_0 r1_n r1_c]⟩, ⟨(w.heap.size + 1), [.bool m2, .slice a2 n2 c2, .bool k2, .slice b2 l2 d2]⟩, ⟨(w.heap.size), [.bool m, .slice ao n cap, .bool k, .slice bo l cb]⟩] _) := Lib.hid (Sx.set [⟨(w4.heap.size), [.bool false, .slice none 0 0]⟩] [⟨(w.heap.size + 1), [.bool m2, .slice a2 n2 c2, .bool k2, .slice b2 l2 d2]⟩, ⟨(w.heap.size), [.bool m, .slice ao n cap, .bool k, .slice bo l cb]⟩] (Sx.set [⟨(w4.heap.size), [.bool false, .slice none 0 0]⟩] [⟨(w.heap.size + 1), [.bool m2, .slice a2 n2 c2, .bool k2, .slice b2 l2 d2]⟩, ⟨(w.heap.size), [.bool m, .slice ao n cap, .bool k, .slice bo l cb]⟩] S7.out 0 (.bool r1_m)) 1 (.slice r1_0 r1_n r1_c))
          clear S7
          refine hK.out _ _ ⟨S8.out.b.t.t.t.c4, S8.out.b.t.t.c4⟩ (fun h2 => ?_)
          clear hK K hH
          have hH := h2
          clear h2
          try simp only [nrm]
          refine anyH_world (fun w7 hW => ?_)
          rw [← hW] at S8 hH
          clear hW
          refine step_one 7 rfl (by kernel_rfl) (fun K hK => ?_)
          obtain ⟨c_b6_0, c_b6_1⟩ := S8.out.b.c2
          obtain ⟨f_b6_0, f_b6_1⟩ := S8.out.b.f2
          go_simp
          clear c_b6_0 c_b6_1 f_b6_0 f_b6_1
          have S9 : Hid (Sx w _ [⟨(w4.heap.size), [.bool r2_m, .slice r2_0 r2_n r2_c]⟩, ⟨(w2.heap.size), [.bool r1_m, .slice r1_0 r1_n r1_c]⟩, ⟨(w.heap.size + 1), [.bool m2, .slice a2 n2 c2, .bool k2, .slice b2 l2 d2]⟩, ⟨(w.heap.size), [.bool m, .slice ao n cap, .bool k, .slice bo l cb]⟩] _) := Lib.hid (Sx.set [] [⟨(w2.heap.size), [.bool r1_m, .slice r1_0 r1_n r1_c]⟩, ⟨(w.heap.size + 1), [.bool m2, .slice a2 n2 c2, .bool k2, .slice b2 l2 d2]⟩, ⟨(w.heap.size), [.bool m, .slice ao n cap, .bool k, .slice bo l cb]⟩] (Sx.set [] [⟨(w2.heap.size), [.bool r1_m, .slice r1_0 r1_n r1_c]⟩, ⟨(w.heap.size + 1), [.bool m2, .slice a2 n2 c2, .bool k2, .slice b2 l2 d2]⟩, ⟨(w.heap.size), [.bool m, .slice ao n cap, .bool k, .slice bo l cb]⟩] S8.out 0 (.bool r2_m)) 1 (.slice r2_0 r2_n r2_c))
          clear S8
          refine hK.out _ _ ⟨S9.out.b.t.t.t.c4, S9.out.b.t.t.c4⟩ (fun h2 => ?_)
          clear hK K hH
          have hH := h2
          clear h2
          try simp only [nrm]
          refine anyH_world (fun w8 hW => ?_)
          rw [← hW] at S9 hH
          clear hW
          refine wpAnyH_done (by kernel_rfl) ?_ _
          clear hH
          go_wp2_with fail
          go_meet
          case rel => exact ⟨_, _, _, _, _, _, _, _, _, _, rfl, rfl, S9.out⟩
      · go_simp
        have S5 := Lib.hid (S4.out.var (w3.heap.size) [.bool false, .slice none 0 0] 24 (by simp))
        clear S4
        refine hK.out _ _ ⟨S5.out.b.t.t.t.c4, S5.out.b.t.t.c4⟩ (fun h2 => ?_)
        clear hK K hH
        have hH := h2
        clear h2
        try simp only [nrm]
        refine anyH_world (fun w4 hW => ?_)
        rw [← hW] at S5 hH
        clear hW
        refine step_one 1 rfl (by kernel_rfl) (fun K hK => ?_)
        go_simp
        refine (den_any S5.out.n.rx).mono ?_
        rintro e w5 ⟨r1_m, r1_0, r1_n, r1_c, rfl, hX, hB⟩
        have S6 := Lib.hid (((S5.out.step hB).nb ⟨hX, dn_bd S5.out.n.rx.bd (by omega)⟩ rfl))
        clear S5 hX hB
        go_wp2_with fail
        refine hK.out _ _ ⟨S6.out.b.t.t.t.c4, S6.out.b.t.t.c4⟩ (fun h2 => ?_)
        clear hK K hH
        have hH := h2
        clear h2
        try simp only [nrm]
        refine step_one 3 rfl (by kernel_rfl) (fun K hK => ?_)
        go_simp
        refine (den_any S6.out.n.t.t.rx).mono ?_
        rintro e w6 ⟨r2_m, r2_0, r2_n, r2_c, rfl, hX, hB⟩
        have S7 := Lib.hid (((S6.out.step hB).nb ⟨hX, dn_bd S6.out.n.t.t.rx.bd (by omega)⟩ rfl))
        clear S6 hX hB
        go_wp2_with fail
        refine hK.out _ _ ⟨S7.out.b.t.t.t.c4, S7.out.b.t.t.c4⟩ (fun h2 => ?_)
        clear hK K hH
        have hH := h2
        clear h2
        try simp only [nrm]
        refine step_one 6 rfl (by kernel_rfl) (fun K hK => ?_)
        obtain ⟨c_b5_0, c_b5_1⟩ := S7.out.b.t.c2
        obtain ⟨f_b5_0, f_b5_1⟩ := S7.out.b.t.f2
        go_simp
        clear c_b5_0 c_b5_1 f_b5_0 f_b5_1
        have S8 : Hid (Sx w _ [⟨(w3.heap.size), [.bool false, .slice none 0 0]⟩, ⟨(w2.heap.size), [.bool r1_m, .slice r1_0 r1_n r1_c]⟩, ⟨(w.heap.size + 1), [.bool m2, .slice a2 n2 c2, .bool k2, .slice b2 l2 d2]⟩, ⟨(w.heap.size), [.bool m, .slice ao n cap, .bool k, .slice bo l cb]⟩] _) := Lib.hid (Sx.set [⟨(w3.heap.size), [.bool false, .slice none 0 0]⟩] [⟨(w.heap.size + 1), [.bool m2, .slice a2 n2 c2, .bool k2, .slice b2 l2 d2]⟩, ⟨(w.heap.size), [.bool m, .slice ao n cap, .bool k, .slice bo l cb]⟩] (Sx.set [⟨(w3.heap.size), [.bool false, .slice none 0 0]⟩] [⟨(w.heap.size + 1), [.bool m2, .slice a2 n2 c2, .bool k2, .slice b2 l2 d2]⟩, ⟨(w.heap.size), [.bool m, .slice ao n cap, .bool k, .slice bo l cb]⟩] S7.out 0 (.bool r1_m)) 1 (.slice r1_0 r1_n r1_c))
        clear S7
        refine hK.out _ _ ⟨S8.out.b.t.t.t.c4, S8.out.b.t.t.c4⟩ (fun h2 => ?_)
        clear hK K hH
        have hH := h2
        clear h2
        try simp only [nrm]
        refine anyH_world (fun w7 hW => ?_)
        rw [← hW] at S8 hH
        clear hW
        refine step_one 7 rfl (by kernel_rfl) (fun K hK => ?_)
        obtain ⟨c_b6_0, c_b6_1⟩ := S8.out.b.c2
        obtain ⟨f_b6_0, f_b6_1⟩ := S8.out.b.f2
        go_simp
        clear c_b6_0 c_b6_1 f_b6_0 f_b6_1
        have S9 : Hid (Sx w _ [⟨(w3.heap.size), [.bool r2_m, .slice r2_0 r2_n r2_c]⟩, ⟨(w2.heap.size), [.bool r1_m, .slice r1_0 r1_n r1_c]⟩, ⟨(w.heap.size + 1), [.bool m2, .slice a2 n2 c2, .bool k2, .slice b2 l2 d2]⟩, ⟨(w.heap.size), [.bool m, .slice ao n cap, .bool k, .slice bo l cb]⟩] _) := Lib.hid (Sx.set [] [⟨(w2.heap.size), [.bool r1_m, .slice r1_0 r1_n r1_c]⟩, ⟨(w.heap.size + 1), [.bool m2, .slice a2 n2 c2, .bool k2, .slice b2 l2 d2]⟩, ⟨(w.heap.size), [.bool m, .slice ao n cap, .bool k, .slice bo l cb]⟩] (Sx.set [] [⟨(w2.heap.size), [.bool r1_m, .slice r1_0 r1_n r1_c]⟩, ⟨(w.heap.size + 1), [.bool m2, .slice a2 n2 c2, .bool k2, .slice b2 l2 d2]⟩, ⟨(w.heap.size), [.bool m, .slice ao n cap, .bool k, .slice bo l cb]⟩] S8.out 0 (.bool r2_m)) 1 (.slice r2_0 r2_n r2_c))
        clear S8
        refine hK.out _ _ ⟨S9.out.b.t.t.t.c4, S9.out.b.t.t.c4⟩ (fun h2 => ?_)
        clear hK K hH
        have hH := h2
        clear h2
        try simp only [nrm]
        refine anyH_world (fun w8 hW => ?_)
        rw [← hW] at S9 hH
        clear hW
        refine wpAnyH_done (by kernel_rfl) ?_ _
        clear hH
        go_wp2_with fail
        go_meet
        case rel => exact ⟨_, _, _, _, _, _, _, _, _, _, rfl, rfl, S9.out⟩
    · go_simp
      have S4 := Lib.hid (S3.out.var (w2.heap.size) [.bool false, .slice none 0 0] 24 (by simp))
      clear S3
      refine hK.out _ _ ⟨S4.out.b.t.t.c4, S4.out.b.t.c4⟩ (fun h2 => ?_)
      clear hK K hH
      have hH := h2
      clear h2
      try simp only [nrm]
      refine anyH_world (fun w3 hW => ?_)
      rw [← hW] at S4 hH
      clear hW
      refine wpAnyH_ready (rs := [1, 4]) (by kernel_rfl) (by simp) (ready_cons rfl (fun K hK => ?_) (ready_cons rfl (fun K hK => ?_) (AllReadyH.nil)))
      · go_simp
        refine (den_any S4.out.n.rx).mono ?_
        rintro e w4 ⟨r1_m, r1_0, r1_n, r1_c, rfl, hX, hB⟩
        have S5 := Lib.hid (((S4.out.step hB).nb ⟨hX, dn_bd S4.out.n.rx.bd (by omega)⟩ rfl))
        clear S4 hX hB
        go_wp2_with fail
        refine hK.out _ _ ⟨S5.out.b.t.t.c4, S5.out.b.t.c4⟩ (fun h2 => ?_)
        clear hK K hH
        have hH := h2
        clear h2
        try simp only [nrm]
        refine wpAnyH_ready (rs := [3, 4]) (by kernel_rfl) (by simp) (ready_cons rfl (fun K hK => ?_) (ready_cons rfl (fun K hK => ?_) (AllReadyH.nil)))
        · go_simp
          refine (den_any S5.out.n.t.t.rx).mono ?_
          rintro e w5 ⟨r2_m, r2_0, r2_n, r2_c, rfl, hX, hB⟩
          have S6 := Lib.hid (((S5.out.step hB).nb ⟨hX, dn_bd S5.out.n.t.t.rx.bd (by omega)⟩ rfl))
          clear S5 hX hB
          go_wp2_with fail
          refine hK.out _ _ ⟨S6.out.b.t.t.c4, S6.out.b.t.c4⟩ (fun h2 => ?_)
          clear hK K hH
          have hH := h2
          clear h2
          try simp only [nrm]
          refine step_one 4 rfl (by kernel_rfl) (fun K hK => ?_)
          go_simp
          have S7 := Lib.hid (S6.out.var (w5.heap.size) [.bool false, .slice none 0 0] 24 (by simp))
          clear S6
          refine hK.out _ _ ⟨S7.out.b.t.t.t.c4, S7.out.b.t.t.c4⟩ (fun h2 => ?_)
          clear hK K hH
          have hH := h2
          clear h2
          try simp only [nrm]
          refine anyH_world (fun w6 hW => ?_)
          rw [← hW] at S7 hH
          clear hW
          refine step_one 6 rfl (by kernel_rfl) (fun K hK => ?_)
          obtain ⟨c_b5_0, c_b5_1⟩ := S7.out.b.c2
          obtain ⟨f_b5_0, f_b5_1⟩ := S7.out.b.f2
          go_simp
          clear c_b5_0 c_b5_1 f_b5_0 f_b5_1
          have S8 : Hid (Sx w _ [⟨(w5.heap.size), [.bool r1_m, .slice r1_0 r1_n r1_c]⟩, ⟨(w2.heap.size), [.bool false, .slice none 0 0]⟩, ⟨(w.heap.size + 1), [.bool m2, .slice a2 n2 c2, .bool k2, .slice b2 l2 d2]⟩, ⟨(w.heap.size), [.bool m, .slice ao n cap, .bool k, .slice bo l cb]⟩] _) := Lib.hid (Sx.set [] [⟨(w2.heap.size), [.bool false, .slice none 0 0]⟩, ⟨(w.heap.size + 1), [.bool m2, .slice a2 n2 c2, .bool k2, .slice b2 l2 d2]⟩, ⟨(w.heap.size), [.bool m, .slice ao n cap, .bool k, .slice bo l cb]⟩] (Sx.set [] [⟨(w2.heap.size), [.bool false, .slice none 0 0]⟩, ⟨(w.heap.size + 1), [.bool m2, .slice a2 n2 c2, .bool k2, .slice b2 l2 d2]⟩, ⟨(w.heap.size), [.bool m, .slice ao n cap, .bool k, .slice bo l cb]⟩] S7.out 0 (.bool r1_m)) 1 (.slice r1_0 r1_n r1_c))
          clear S7
          refine hK.out _ _ ⟨S8.out.b.t.t.t.c4, S8.out.b.t.t.c4⟩ (fun h2 => ?_)
          clear hK K hH
          have hH := h2
          clear h2
          try simp only [nrm]
          refine anyH_world (fun w7 hW => ?_)
          rw [← hW] at S8 hH
          clear hW
          refine step_one 7 rfl (by kernel_rfl) (fun K hK => ?_)
          obtain ⟨c_b6_0, c_b6_1⟩ := S8.out.b.t.c2
          obtain ⟨f_b6_0, f_b6_1⟩ := S8.out.b.t.f2
          go_simp
          clear c_b6_0 c_b6_1 f_b6_0 f_b6_1
          have S9 : Hid (Sx w _ [⟨(w5.heap.size), [.bool r1_m, .slice r1_0 r1_n r1_c]⟩, ⟨(w2.heap.size), [.bool r2_m, .slice r2_0 r2_n r2_c]⟩, ⟨(w.heap.size + 1), [.bool m2, .slice a2 n2 c2, .bool k2, .slice b2 l2 d2]⟩, ⟨(w.heap.size), [.bool m, .slice ao n cap, .bool k, .slice bo l cb]⟩] _) := Lib.hid (Sx.set [⟨(w5.heap.size), [.bool r1_m, .slice r1_0 r1_n r1_c]⟩] [⟨(w.heap.size + 1), [.bool m2, .slice a2 n2 c2, .bool k2, .slice b2 l2 d2]⟩, ⟨(w.heap.size), [.bool m, .slice ao n cap, .bool k, .slice bo l cb]⟩] (Sx.set [⟨(w5.heap.size), [.bool r1_m, .slice r1_0 r1_n r1_c]⟩] [⟨(w.heap.size + 1), [.bool m2, .slice a2 n2 c2, .bool k2, .slice b2 l2 d2]⟩, ⟨(w.heap.size), [.bool m, .slice ao n cap, .bool k, .slice bo l cb]⟩] S8.out 0 (.bool r2_m)) 1 (.slice r2_0 r2_n r2_c))
          clear S8
          refine hK.out _ _ ⟨S9.out.b.t.t.t.c4, S9.out.b.t.t.c4⟩ (fun h2 => ?_)
          clear hK K hH
          have hH := h2
          clear h2
          try simp only [nrm]
          refine anyH_world (fun w8 hW => ?_)
          rw [← hW] at S9 hH
          clear hW
          refine wpAnyH_done (by kernel_rfl) ?_ _
          clear hH
          go_wp2_with fail
          go_meet
          case rel => exact ⟨_, _, _, _, _, _, _, _, _, _, rfl, rfl, S9.out.swap⟩
        · go_simp
          have S6 := Lib.hid (S5.out.var (w4.heap.size) [.bool false, .slice none 0 0] 24 (by simp))
          clear S5
          refine hK.out _ _ ⟨S6.out.b.t.t.t.c4, S6.out.b.t.t.c4⟩ (fun h2 => ?_)
          clear hK K hH
          have hH := h2
          clear h2
          try simp only [nrm]
          refine anyH_world (fun w5 hW => ?_)
          rw [← hW] at S6 hH
          clear hW
          refine step_one 3 rfl (by kernel_rfl) (fun K hK => ?_)
          go_simp
          refine (den_any S6.out.n.t.t.rx).mono ?_
          rintro e w6 ⟨r2_m, r2_0, r2_n, r2_c, rfl, hX, hB⟩
          have S7 := Lib.hid (((S6.out.step hB).nb ⟨hX, dn_bd S6.out.n.t.t.rx.bd (by omega)⟩ rfl))
          clear S6 hX hB
          go_wp2_with fail
          refine hK.out _ _ ⟨S7.out.b.t.t.t.c4, S7.out.b.t.t.c4⟩ (fun h2 => ?_)
          clear hK K hH
          have hH := h2
          clear h2
          try simp only [nrm]
          refine step_one 6 rfl (by kernel_rfl) (fun K hK => ?_)
          obtain ⟨c_b5_0, c_b5_1⟩ := S7.out.b.c2
          obtain ⟨f_b5_0, f_b5_1⟩ := S7.out.b.f2
          go_simp
          clear c_b5_0 c_b5_1 f_b5_0 f_b5_1
          have S8 : Hid (Sx w _ [⟨(w4.heap.size), [.bool r1_m, .slice r1_0 r1_n r1_c]⟩, ⟨(w2.heap.size), [.bool false, .slice none 0 0]⟩, ⟨(w.heap.size + 1), [.bool m2, .slice a2 n2 c2, .bool k2, .slice b2 l2 d2]⟩, ⟨(w.heap.size), [.bool m, .slice ao n cap, .bool k, .slice bo l cb]⟩] _) := Lib.hid (Sx.set [] [⟨(w2.heap.size), [.bool false, .slice none 0 0]⟩, ⟨(w.heap.size + 1), [.bool m2, .slice a2 n2 c2, .bool k2, .slice b2 l2 d2]⟩, ⟨(w.heap.size), [.bool m, .slice ao n cap, .bool k, .slice bo l cb]⟩] (Sx.set [] [⟨(w2.heap.size), [.bool false, .slice none 0 0]⟩, ⟨(w.heap.size + 1), [.bool m2, .slice a2 n2 c2, .bool k2, .slice b2 l2 d2]⟩, ⟨(w.heap.size), [.bool m, .slice ao n cap, .bool k, .slice bo l cb]⟩] S7.out 0 (.bool r1_m)) 1 (.slice r1_0 r1_n r1_c))
          clear S7
          refine hK.out _ _ ⟨S8.out.b.t.t.t.c4, S8.out.b.t.t.c4⟩ (fun h2 => ?_)
          clear hK K hH
          have hH := h2
          clear h2
          try simp only [nrm]
          refine anyH_world (fun w7 hW => ?_)
          rw [← hW] at S8 hH
          clear hW
          refine step_one 7 rfl (by kernel_rfl) (fun K hK => ?_)
          obtain ⟨c_b6_0, c_b6_1⟩ := S8.out.b.t.c2
          obtain ⟨f_b6_0, f_b6_1⟩ := S8.out.b.t.f2
          go_simp
          clear c_b6_0 c_b6_1 f_b6_0 f_b6_1
          have S9 : Hid (Sx w _ [⟨(w4.heap.size), [.bool r1_m, .slice r1_0 r1_n r1_c]⟩, ⟨(w2.heap.size), [.bool r2_m, .slice r2_0 r2_n r2_c]⟩, ⟨(w.heap.size + 1), [.bool m2, .slice a2 n2 c2, .bool k2, .slice b2 l2 d2]⟩, ⟨(w.heap.size), [.bool m, .slice ao n cap, .bool k, .slice bo l cb]⟩] _) := Lib.hid (Sx.set [⟨(w4.heap.size), [.bool r1_m, .slice r1_0 r1_n r1_c]⟩] [⟨(w.heap.size + 1), [.bool m2, .slice a2 n2 c2, .bool k2, .slice b2 l2 d2]⟩, ⟨(w.heap.size), [.bool m, .slice ao n cap, .bool k, .slice bo l cb]⟩] (Sx.set [⟨(w4.heap.size), [.bool r1_m, .slice r1_0 r1_n r1_c]⟩] [⟨(w.heap.size + 1), [.bool m2, .slice a2 n2 c2, .bool k2, .slice b2 l2 d2]⟩, ⟨(w.heap.size), [.bool m, .slice ao n cap, .bool k, .slice bo l cb]⟩] S8.out 0 (.bool r2_m)) 1 (.slice r2_0 r2_n r2_c))
          clear S8
          refine hK.out _ _ ⟨S9.out.b.t.t.t.c4, S9.out.b.t.t.c4⟩ (fun h2 => ?_)
          clear hK K hH
          have hH := h2
          clear h2
          try simp only [nrm]
          refine anyH_world (fun w8 hW => ?_)
          rw [← hW] at S9 hH
          clear hW
          refine wpAnyH_done (by kernel_rfl) ?_ _
          clear hH
          go_wp2_with fail
          go_meet
          case rel => exact ⟨_, _, _, _, _, _, _, _, _, _, rfl, rfl, S9.out.swap⟩
      · go_simp
        have S5 := Lib.hid (S4.out.var (w3.heap.size) [.bool false, .slice none 0 0] 24 (by simp))
        clear S4
        refine hK.out _ _ ⟨S5.out.b.t.t.t.c4, S5.out.b.t.t.c4⟩ (fun h2 => ?_)
        clear hK K hH
        have hH := h2
        clear h2
        try simp only [nrm]
        refine anyH_world (fun w4 hW => ?_)
        rw [← hW] at S5 hH
        clear hW
        refine step_one 1 rfl (by kernel_rfl) (fun K hK => ?_)
        go_simp
        refine (den_any S5.out.n.rx).mono ?_
        rintro e w5 ⟨r1_m, r1_0, r1_n, r1_c, rfl, hX, hB⟩
        have S6 := Lib.hid (((S5.out.step hB).nb ⟨hX, dn_bd S5.out.n.rx.bd (by omega)⟩ rfl))
        clear S5 hX hB
        go_wp2_with fail
        refine hK.out _ _ ⟨S6.out.b.t.t.t.c4, S6.out.b.t.t.c4⟩ (fun h2 => ?_)
        clear hK K hH
        have hH := h2
        clear h2
        try simp only [nrm]
        refine step_one 3 rfl (by kernel_rfl) (fun K hK => ?_)
        go_simp
        refine (den_any S6.out.n.t.t.rx).mono ?_
        rintro e w6 ⟨r2_m, r2_0, r2_n, r2_c, rfl, hX, hB⟩
        have S7 := Lib.hid (((S6.out.step hB).nb ⟨hX, dn_bd S6.out.n.t.t.rx.bd (by omega)⟩ rfl))
        clear S6 hX hB
        go_wp2_with fail
        refine hK.out _ _ ⟨S7.out.b.t.t.t.c4, S7.out.b.t.t.c4⟩ (fun h2 => ?_)
        clear hK K hH
        have hH := h2
        clear h2
        try simp only [nrm]
        refine step_one 6 rfl (by kernel_rfl) (fun K hK => ?_)
        obtain ⟨c_b5_0, c_b5_1⟩ := S7.out.b.c2
        obtain ⟨f_b5_0, f_b5_1⟩ := S7.out.b.f2
        go_simp
        clear c_b5_0 c_b5_1 f_b5_0 f_b5_1
        have S8 : Hid (Sx w _ [⟨(w3.heap.size), [.bool r1_m, .slice r1_0 r1_n r1_c]⟩, ⟨(w2.heap.size), [.bool false, .slice none 0 0]⟩, ⟨(w.heap.size + 1), [.bool m2, .slice a2 n2 c2, .bool k2, .slice b2 l2 d2]⟩, ⟨(w.heap.size), [.bool m, .slice ao n cap, .bool k, .slice bo l cb]⟩] _) := Lib.hid (Sx.set [] [⟨(w2.heap.size), [.bool false, .slice none 0 0]⟩, ⟨(w.heap.size + 1), [.bool m2, .slice a2 n2 c2, .bool k2, .slice b2 l2 d2]⟩, ⟨(w.heap.size), [.bool m, .slice ao n cap, .bool k, .slice bo l cb]⟩] (Sx.set [] [⟨(w2.heap.size), [.bool false, .slice none 0 0]⟩, ⟨(w.heap.size + 1), [.bool m2, .slice a2 n2 c2, .bool k2, .slice b2 l2 d2]⟩, ⟨(w.heap.size), [.bool m, .slice ao n cap, .bool k, .slice bo l cb]⟩] S7.out 0 (.bool r1_m)) 1 (.slice r1_0 r1_n r1_c))
        clear S7
        refine hK.out _ _ ⟨S8.out.b.t.t.t.c4, S8.out.b.t.t.c4⟩ (fun h2 => ?_)
        clear hK K hH
        have hH := h2
        clear h2
        try simp only [nrm]
        refine anyH_world (fun w7 hW => ?_)
        rw [← hW] at S8 hH
        clear hW
        refine step_one 7 rfl (by kernel_rfl) (fun K hK => ?_)
        obtain ⟨c_b6_0, c_b6_1⟩ := S8.out.b.t.c2
        obtain ⟨f_b6_0, f_b6_1⟩ := S8.out.b.t.f2
        go_simp
        clear c_b6_0 c_b6_1 f_b6_0 f_b6_1
        have S9 : Hid (Sx w _ [⟨(w3.heap.size), [.bool r1_m, .slice r1_0 r1_n r1_c]⟩, ⟨(w2.heap.size), [.bool r2_m, .slice r2_0 r2_n r2_c]⟩, ⟨(w.heap.size + 1), [.bool m2, .slice a2 n2 c2, .bool k2, .slice b2 l2 d2]⟩, ⟨(w.heap.size), [.bool m, .slice ao n cap, .bool k, .slice bo l cb]⟩] _) := Lib.hid (Sx.set [⟨(w3.heap.size), [.bool r1_m, .slice r1_0 r1_n r1_c]⟩] [⟨(w.heap.size + 1), [.bool m2, .slice a2 n2 c2, .bool k2, .slice b2 l2 d2]⟩, ⟨(w.heap.size), [.bool m, .slice ao n cap, .bool k, .slice bo l cb]⟩] (Sx.set [⟨(w3.heap.size), [.bool r1_m, .slice r1_0 r1_n r1_c]⟩] [⟨(w.heap.size + 1), [.bool m2, .slice a2 n2 c2, .bool k2, .slice b2 l2 d2]⟩, ⟨(w.heap.size), [.bool m, .slice ao n cap, .bool k, .slice bo l cb]⟩] S8.out 0 (.bool r2_m)) 1 (.slice r2_0 r2_n r2_c))
        clear S8
        refine hK.out _ _ ⟨S9.out.b.t.t.t.c4, S9.out.b.t.t.c4⟩ (fun h2 => ?_)
        clear hK K hH
        have hH := h2
        clear h2
        try simp only [nrm]
        refine anyH_world (fun w8 hW => ?_)
        rw [← hW] at S9 hH
        clear hW
        refine wpAnyH_done (by kernel_rfl) ?_ _
        clear hH
        go_wp2_with fail
        go_meet
        case rel => exact ⟨_, _, _, _, _, _, _, _, _, _, rfl, rfl, S9.out.swap⟩
  case rest =>
  clear S2
  obtain ⟨qb5, qb6, r2_m, r2_0, r2_n, r2_c, r1_m, r1_0, r1_n, r1_c, rfl, rfl, S3⟩ := hcut
  obtain ⟨w9, hW⟩ : ∃ w9, w9 = wc := ⟨_, rfl⟩
  rw [← hW] at S3 ⊢
  clear hW
  obtain ⟨c_b2_0, c_b2_1, c_b2_2, c_b2_3⟩ := S3.out.b.t.t.t.c4
  obtain ⟨c_b5_0, c_b5_1⟩ := S3.out.b.t.c2
  obtain ⟨c_b3_0, c_b3_1, c_b3_2, c_b3_3⟩ := S3.out.b.t.t.c4
  obtain ⟨c_b6_0, c_b6_1⟩ := S3.out.b.c2
  go_wp2_with fail
  go_ret
  exact ⟨_, _, _, _, _, _, _, _, _, _, _, _, rfl, S3.out.b.t.t.t.1, S3.out.b.1, S3.out.b.t.t.1, S3.out.b.t.1, S3.out.n.nb, S3.out.n.t.nb, S3.out.h⟩

set_option maxHeartbeats 1000000 in
set_option maxRecDepth 100000 in
theorem clos_add {m : Bool} {ao : Option Addr} {n cap : Nat} {k : Bool} {bo : Option Addr} {l cb : Nat} {m2 : Bool} {a2 : Option Addr} {n2 c2 : Nat} {k2 : Bool} {b2 : Option Addr} {l2 d2 : Nat} {u : Bool} {v : Option Addr} {s t : Nat} {u' : Bool} {v' : Option Addr} {s' t' : Nat} {x d y c : Int} {q r : Rat} {j i : Nat} {w : World} {p0 p1 p2 p3 : Nat} (hx : Rx w m ao n cap k bo l cb x d q j) (hy : Rx w m2 a2 n2 c2 k2 b2 l2 d2 y c r i) (hp0 : Cells w p0 [.bool m, .slice ao n cap, .bool k, .slice bo l cb]) (hp1 : Cells w p1 [.bool u, .slice v s t]) (hp2 : Cells w p2 [.bool m2, .slice a2 n2 c2, .bool k2, .slice b2 l2 d2]) (hp3 : Cells w p3 [.bool u', .slice v' s' t']) (hyd : Nb w u v s t (dn c) i) (hxd : Nb w u' v' s' t' (dn d) j) (hj : j + i + 1 ≤ 100000) :
    Calls Tryz.prog 70 #[.func (.func 43) #[] #[], .pointer (some ⟨p0, 0, none⟩), .pointer (some ⟨p1, 0, none⟩), .pointer (some ⟨p2, 0, none⟩), .pointer (some ⟨p3, 0, none⟩)] w (NewPr w (x * dn c + y * dn d) (dn d * dn c) (j + i + 1)) := by
  go_enter Tryz.func70, Tryz.ntmps70
  have S0 := Lib.hid (Sx.start (w := w) (N := [.cells p0 [.bool m, .slice ao n cap, .bool k, .slice bo l cb], .cells p1 [.bool u, .slice v s t], .cells p2 [.bool m2, .slice a2 n2 c2, .bool k2, .slice b2 l2 d2], .cells p3 [.bool u', .slice v' s' t'], .rx m ao n cap k bo l cb x d q j, .rx m2 a2 n2 c2 k2 b2 l2 d2 y c r i, .nb u v s t (dn c) i, .nb u' v' s' t' (dn d) j]) ⟨hp0, hp1, hp2, hp3, hx, hy, hyd, hxd, trivial⟩)
  clear hp0 hp1 hp2 hp3 hx hy hyd hxd
  have S1 := Lib.hid (S0.out.var (w.heap.size) [.bool false, .slice none 0 0, .bool false, .slice none 0 0] 26 (by simp))
  clear S0
  go_upto_region 1 with (fail)
  refine wp_world (fun w1 hW => ?_)
  rw [← hW] at S1
  clear hW
  have S2 := Lib.hid (S1.out.drew)
  clear S1
  refine wp_region_held_drew (S := fun w' => (w'.cell? ⟨p0, 0, none⟩ = some (.bool m) ∧ w'.cell? ⟨p0, 1, none⟩ = some (.slice ao n cap) ∧ w'.cell? ⟨p0, 2, none⟩ = some (.bool k) ∧ w'.cell? ⟨p0, 3, none⟩ = some (.slice bo l cb)) ∧ (w'.cell? ⟨p1, 0, none⟩ = some (.bool u) ∧ w'.cell? ⟨p1, 1, none⟩ = some (.slice v s t)) ∧ (w'.cell? ⟨p2, 0, none⟩ = some (.bool m2) ∧ w'.cell? ⟨p2, 1, none⟩ = some (.slice a2 n2 c2) ∧ w'.cell? ⟨p2, 2, none⟩ = some (.bool k2) ∧ w'.cell? ⟨p2, 3, none⟩ = some (.slice b2 l2 d2)) ∧ (w'.cell? ⟨p3, 0, none⟩ = some (.bool u') ∧ w'.cell? ⟨p3, 1, none⟩ = some (.slice v' s' t'))) (by kernel_rfl) (⟨S2.out.n.cells.c4, S2.out.n.t.cells.c2, S2.out.n.t.t.cells.c4, S2.out.n.t.t.t.cells.c2⟩) (fun hH => ?_)
  refine anyH_world (fun w2 hW => ?_)
  rw [← hW] at S2 hH
  clear hW
  refine step_on 0 rfl (by kernel_rfl) (fun _ _ _ h => h) (by rfl) hH (by intro w hS; go_simp <;> with_reducible rfl) ?_
  try simp only [nrm]
  refine step_on 1 rfl (by kernel_rfl) (fun _ _ _ h => h) (by rfl) hH (by intro w hS; go_simp <;> with_reducible rfl) ?_
  try simp only [nrm]
  refine step_on 2 rfl (by kernel_rfl) (fun _ _ _ h => h) (by rfl) hH (by intro w hS; go_simp <;> with_reducible rfl) ?_
  try simp only [nrm]
  refine step_on 3 rfl (by kernel_rfl) (fun _ _ _ h => h) (by rfl) hH (by intro w hS; go_simp <;> with_reducible rfl) ?_
  try simp only [nrm]
  refine step_on 5 rfl (by kernel_rfl) (fun _ _ _ h => h) (by rfl) hH (by intro w hS; go_simp <;> with_reducible rfl) ?_
  try simp only [nrm]
  refine step_on 6 rfl (by kernel_rfl) (fun _ _ _ h => h) (by rfl) hH (by intro w hS; go_simp <;> with_reducible rfl) ?_
  try simp only [nrm]
  refine step_on 7 rfl (by kernel_rfl) (fun _ _ _ h => h) (by rfl) hH (by intro w hS; go_simp <;> with_reducible rfl) ?_
  try simp only [nrm]
  refine step_on 10 rfl (by kernel_rfl) (fun _ _ _ h => h) (by rfl) hH (by intro w hS; go_simp <;> with_reducible rfl) ?_
  try simp only [nrm]
  refine step_on 11 rfl (by kernel_rfl) (fun _ _ _ h => h) (by rfl) hH (by intro w hS; go_simp <;> with_reducible rfl) ?_
  try simp only [nrm]
  refine step_one 4 rfl (by kernel_rfl) (fun K hK => ?_)
  go_simp
  refine (wmul_any S2.out.n.t.t.t.t.rx.num S2.out.n.t.t.t.t.t.t.nb.nx).mono ?_
  rintro e w3 ⟨r1_m, r1_0, r1_n, r1_c, rfl, hX, hB⟩
  have S3 := Lib.hid (((S2.out.step hB).cb (hX.cb (S2.out.n.t.t.t.t.rx.bn.mul S2.out.n.t.t.t.t.t.t.nb.bd) (by omega)) rfl))
  clear S2 hX hB
  go_wp2_with fail
  refine hK.out _ _ ⟨S3.out.n.t.cells.c4, S3.out.n.t.t.cells.c2, S3.out.n.t.t.t.cells.c4, S3.out.n.t.t.t.t.cells.c2⟩ (fun h2 => ?_)
  clear hK K hH
  have hH := h2
  clear h2
  try simp only [nrm]
  refine step_one 8 rfl (by kernel_rfl) (fun K hK => ?_)
  go_simp
  refine (wmul_any S3.out.n.t.t.t.t.t.t.rx.num S3.out.n.t.t.t.t.t.t.t.t.nb.nx).mono ?_
  rintro e w4 ⟨r2_m, r2_0, r2_n, r2_c, rfl, hX, hB⟩
  have S4 := Lib.hid (((S3.out.step hB).cb (hX.cb (S3.out.n.t.t.t.t.t.t.rx.bn.mul S3.out.n.t.t.t.t.t.t.t.t.nb.bd) (by omega)) rfl))
  clear S3 hX hB
  go_wp2_with fail
  refine hK.out _ _ ⟨S4.out.n.t.t.cells.c4, S4.out.n.t.t.t.cells.c2, S4.out.n.t.t.t.t.cells.c4, S4.out.n.t.t.t.t.t.cells.c2⟩ (fun h2 => ?_)
  clear hK K hH
  have hH := h2
  clear h2
  try simp only [nrm]
  refine step_one 9 rfl (by kernel_rfl) (fun K hK => ?_)
  go_simp
  refine (wadd_any S4.out.n.t.cb.cx.nx S4.out.n.cb.cx.nx).mono ?_
  rintro e w5 ⟨r3_m, r3_0, r3_n, r3_c, rfl, hX, hB⟩
  have S5 := Lib.hid (((S4.out.step hB).cb (hX.cb ((show Bd ((x * dn c) + (y * dn d)) ((j + i) + 1) from S4.out.n.t.cb.bd.addk S4.out.n.cb.bd (by omega) (by omega))) (by omega)) rfl))
  clear S4 hX hB
  go_wp2_with fail
  refine hK.out _ _ ⟨S5.out.n.t.t.t.cells.c4, S5.out.n.t.t.t.t.cells.c2, S5.out.n.t.t.t.t.t.cells.c4, S5.out.n.t.t.t.t.t.t.cells.c2⟩ (fun h2 => ?_)
  clear hK K hH
  have hH := h2
  clear h2
  try simp only [nrm]
  refine step_one 12 rfl (by kernel_rfl) (fun K hK => ?_)
  go_simp
  refine (wmul_any S5.out.n.t.t.t.t.t.t.t.t.t.t.nb.nx S5.out.n.t.t.t.t.t.t.t.t.t.nb.nx).mono ?_
  rintro e w6 ⟨r4_m, r4_0, r4_n, r4_c, rfl, hX, hB⟩
  have S6 := Lib.hid (((S5.out.step hB).cb (hX.cb (S5.out.n.t.t.t.t.t.t.t.t.t.t.nb.bd.mul S5.out.n.t.t.t.t.t.t.t.t.t.nb.bd) (by omega)) rfl))
  clear S5 hX hB
  go_wp2_with fail
  refine hK.out _ _ ⟨S6.out.n.t.t.t.t.cells.c4, S6.out.n.t.t.t.t.t.cells.c2, S6.out.n.t.t.t.t.t.t.cells.c4, S6.out.n.t.t.t.t.t.t.t.cells.c2⟩ (fun h2 => ?_)
  clear hK K hH
  have hH := h2
  clear h2
  try simp only [nrm]
  refine step_on 13 rfl (by kernel_rfl) (fun _ _ _ h => h) (by rfl) hH (by intro w hS; go_simp <;> with_reducible rfl) ?_
  try simp only [nrm]
  refine step_one 14 rfl (by kernel_rfl) (fun K hK => ?_)
  obtain ⟨c_b6_0, c_b6_1, c_b6_2, c_b6_3⟩ := S6.out.b.c4
  obtain ⟨f_b6_0, f_b6_1, f_b6_2, f_b6_3⟩ := S6.out.b.f4
  go_simp
  clear c_b6_0 c_b6_1 c_b6_2 c_b6_3 f_b6_0 f_b6_1 f_b6_2 f_b6_3
  have S7 : Hid (Sx w _ [⟨(w.heap.size), [.bool r3_m, .slice r3_0 r3_n r3_c, .bool r4_m, .slice r4_0 r4_n r4_c]⟩] _) := Lib.hid (Sx.set [] [] (Sx.set [] [] (Sx.set [] [] (Sx.set [] [] S6.out 0 (.bool r3_m)) 1 (.slice r3_0 r3_n r3_c)) 2 (.bool r4_m)) 3 (.slice r4_0 r4_n r4_c))
  clear S6
  refine hK.out _ _ ⟨S7.out.n.t.t.t.t.cells.c4, S7.out.n.t.t.t.t.t.cells.c2, S7.out.n.t.t.t.t.t.t.cells.c4, S7.out.n.t.t.t.t.t.t.t.cells.c2⟩ (fun h2 => ?_)
  clear hK K hH
  have hH := h2
  clear h2
  try simp only [nrm]
  refine anyH_world (fun w7 hW => ?_)
  rw [← hW] at S7 hH
  clear hW
  refine wpAnyH_done (by kernel_rfl) ?_ _
  clear hH
  obtain ⟨c_b6_0, c_b6_1, c_b6_2, c_b6_3⟩ := S7.out.b.c4
  obtain ⟨f_b6_0, f_b6_1, f_b6_2, f_b6_3⟩ := S7.out.b.f4
  go_wp2_with fail
  refine bodyPost_ret (v := .agg #[.bool r3_m, .slice r3_0 r3_n r3_c, .bool r4_m, .slice r4_0 r4_n r4_c]) (by simp [results, Tryz.results70, go_sem, c_b6_0, c_b6_1, c_b6_2, c_b6_3]) rfl ?_
  exact ⟨_, _, _, _, _, _, _, _, rfl, ⟨S7.out.n.t.cb.cx, S7.out.n.t.cb.bd.mono (by omega)⟩, ⟨S7.out.n.cb.cx, S7.out.n.cb.bd.mono (by omega)⟩, S7.out.h⟩

set_option maxHeartbeats 1000000 in
set_option maxRecDepth 100000 in
theorem clos_sub {m : Bool} {ao : Option Addr} {n cap : Nat} {k : Bool} {bo : Option Addr} {l cb : Nat} {m2 : Bool} {a2 : Option Addr} {n2 c2 : Nat} {k2 : Bool} {b2 : Option Addr} {l2 d2 : Nat} {u : Bool} {v : Option Addr} {s t : Nat} {u' : Bool} {v' : Option Addr} {s' t' : Nat} {x d y c : Int} {q r : Rat} {j i : Nat} {w : World} {p0 p1 p2 p3 : Nat} (hx : Rx w m ao n cap k bo l cb x d q j) (hy : Rx w m2 a2 n2 c2 k2 b2 l2 d2 y c r i) (hp0 : Cells w p0 [.bool m, .slice ao n cap, .bool k, .slice bo l cb]) (hp1 : Cells w p1 [.bool u, .slice v s t]) (hp2 : Cells w p2 [.bool m2, .slice a2 n2 c2, .bool k2, .slice b2 l2 d2]) (hp3 : Cells w p3 [.bool u', .slice v' s' t']) (hyd : Nb w u v s t (dn c) i) (hxd : Nb w u' v' s' t' (dn d) j) (hj : j + i + 1 ≤ 100000) :
    Calls Tryz.prog 70 #[.func (.func 51) #[] #[], .pointer (some ⟨p0, 0, none⟩), .pointer (some ⟨p1, 0, none⟩), .pointer (some ⟨p2, 0, none⟩), .pointer (some ⟨p3, 0, none⟩)] w (NewPr w (x * dn c - y * dn d) (dn d * dn c) (j + i + 1)) := by
  go_enter Tryz.func70, Tryz.ntmps70
  have S0 := Lib.hid (Sx.start (w := w) (N := [.cells p0 [.bool m, .slice ao n cap, .bool k, .slice bo l cb], .cells p1 [.bool u, .slice v s t], .cells p2 [.bool m2, .slice a2 n2 c2, .bool k2, .slice b2 l2 d2], .cells p3 [.bool u', .slice v' s' t'], .rx m ao n cap k bo l cb x d q j, .rx m2 a2 n2 c2 k2 b2 l2 d2 y c r i, .nb u v s t (dn c) i, .nb u' v' s' t' (dn d) j]) ⟨hp0, hp1, hp2, hp3, hx, hy, hyd, hxd, trivial⟩)
  clear hp0 hp1 hp2 hp3 hx hy hyd hxd
  have S1 := Lib.hid (S0.out.var (w.heap.size) [.bool false, .slice none 0 0, .bool false, .slice none 0 0] 26 (by simp))
  clear S0
  go_upto_region 1 with (fail)
  refine wp_world (fun w1 hW => ?_)
  rw [← hW] at S1
  clear hW
  have S2 := Lib.hid (S1.out.drew)
  clear S1
  refine wp_region_held_drew (S := fun w' => (w'.cell? ⟨p0, 0, none⟩ = some (.bool m) ∧ w'.cell? ⟨p0, 1, none⟩ = some (.slice ao n cap) ∧ w'.cell? ⟨p0, 2, none⟩ = some (.bool k) ∧ w'.cell? ⟨p0, 3, none⟩ = some (.slice bo l cb)) ∧ (w'.cell? ⟨p1, 0, none⟩ = some (.bool u) ∧ w'.cell? ⟨p1, 1, none⟩ = some (.slice v s t)) ∧ (w'.cell? ⟨p2, 0, none⟩ = some (.bool m2) ∧ w'.cell? ⟨p2, 1, none⟩ = some (.slice a2 n2 c2) ∧ w'.cell? ⟨p2, 2, none⟩ = some (.bool k2) ∧ w'.cell? ⟨p2, 3, none⟩ = some (.slice b2 l2 d2)) ∧ (w'.cell? ⟨p3, 0, none⟩ = some (.bool u') ∧ w'.cell? ⟨p3, 1, none⟩ = some (.slice v' s' t'))) (by kernel_rfl) (⟨S2.out.n.cells.c4, S2.out.n.t.cells.c2, S2.out.n.t.t.cells.c4, S2.out.n.t.t.t.cells.c2⟩) (fun hH => ?_)
  refine anyH_world (fun w2 hW => ?_)
  rw [← hW] at S2 hH
  clear hW
  refine step_on 0 rfl (by kernel_rfl) (fun _ _ _ h => h) (by rfl) hH (by intro w hS; go_simp <;> with_reducible rfl) ?_
  try simp only [nrm]
  refine step_on 1 rfl (by kernel_rfl) (fun _ _ _ h => h) (by rfl) hH (by intro w hS; go_simp <;> with_reducible rfl) ?_
  try simp only [nrm]
  refine step_on 2 rfl (by kernel_rfl) (fun _ _ _ h => h) (by rfl) hH (by intro w hS; go_simp <;> with_reducible rfl) ?_
  try simp only [nrm]
  refine step_on 3 rfl (by kernel_rfl) (fun _ _ _ h => h) (by rfl) hH (by intro w hS; go_simp <;> with_reducible rfl) ?_
  try simp only [nrm]
  refine step_on 5 rfl (by kernel_rfl) (fun _ _ _ h => h) (by rfl) hH (by intro w hS; go_simp <;> with_reducible rfl) ?_
  try simp only [nrm]
  refine step_on 6 rfl (by kernel_rfl) (fun _ _ _ h => h) (by rfl) hH (by intro w hS; go_simp <;> with_reducible rfl) ?_
  try simp only [nrm]
  refine step_on 7 rfl (by kernel_rfl) (fun _ _ _ h => h) (by rfl) hH (by intro w hS; go_simp <;> with_reducible rfl) ?_
  try simp only [nrm]
  refine step_on 10 rfl (by kernel_rfl) (fun _ _ _ h => h) (by rfl) hH (by intro w hS; go_simp <;> with_reducible rfl) ?_
  try simp only [nrm]
  refine step_on 11 rfl (by kernel_rfl) (fun _ _ _ h => h) (by rfl) hH (by intro w hS; go_simp <;> with_reducible rfl) ?_
  try simp only [nrm]
  refine step_one 4 rfl (by kernel_rfl) (fun K hK => ?_)
  go_simp
  refine (wmul_any S2.out.n.t.t.t.t.rx.num S2.out.n.t.t.t.t.t.t.nb.nx).mono ?_
  rintro e w3 ⟨r1_m, r1_0, r1_n, r1_c, rfl, hX, hB⟩
  have S3 := Lib.hid (((S2.out.step hB).cb (hX.cb (S2.out.n.t.t.t.t.rx.bn.mul S2.out.n.t.t.t.t.t.t.nb.bd) (by omega)) rfl))
  clear S2 hX hB
  go_wp2_with fail
  refine hK.out _ _ ⟨S3.out.n.t.cells.c4, S3.out.n.t.t.cells.c2, S3.out.n.t.t.t.cells.c4, S3.out.n.t.t.t.t.cells.c2⟩ (fun h2 => ?_)
  clear hK K hH
  have hH := h2
  clear h2
  try simp only [nrm]
  refine step_one 8 rfl (by kernel_rfl) (fun K hK => ?_)
  go_simp
  refine (wmul_any S3.out.n.t.t.t.t.t.t.rx.num S3.out.n.t.t.t.t.t.t.t.t.nb.nx).mono ?_
  rintro e w4 ⟨r2_m, r2_0, r2_n, r2_c, rfl, hX, hB⟩
  have S4 := Lib.hid (((S3.out.step hB).cb (hX.cb (S3.out.n.t.t.t.t.t.t.rx.bn.mul S3.out.n.t.t.t.t.t.t.t.t.nb.bd) (by omega)) rfl))
  clear S3 hX hB
  go_wp2_with fail
  refine hK.out _ _ ⟨S4.out.n.t.t.cells.c4, S4.out.n.t.t.t.cells.c2, S4.out.n.t.t.t.t.cells.c4, S4.out.n.t.t.t.t.t.cells.c2⟩ (fun h2 => ?_)
  clear hK K hH
  have hH := h2
  clear h2
  try simp only [nrm]
  refine step_one 9 rfl (by kernel_rfl) (fun K hK => ?_)
  go_simp
  refine (wsub_any S4.out.n.t.cb.cx.nx S4.out.n.cb.cx.nx).mono ?_
  rintro e w5 ⟨r3_m, r3_0, r3_n, r3_c, rfl, hX, hB⟩
  have S5 := Lib.hid (((S4.out.step hB).cb (hX.cb ((show Bd ((x * dn c) - (y * dn d)) ((j + i) + 1) from S4.out.n.t.cb.bd.subk S4.out.n.cb.bd (by omega) (by omega))) (by omega)) rfl))
  clear S4 hX hB
  go_wp2_with fail
  refine hK.out _ _ ⟨S5.out.n.t.t.t.cells.c4, S5.out.n.t.t.t.t.cells.c2, S5.out.n.t.t.t.t.t.cells.c4, S5.out.n.t.t.t.t.t.t.cells.c2⟩ (fun h2 => ?_)
  clear hK K hH
  have hH := h2
  clear h2
  try simp only [nrm]
  refine step_one 12 rfl (by kernel_rfl) (fun K hK => ?_)
  go_simp
  refine (wmul_any S5.out.n.t.t.t.t.t.t.t.t.t.t.nb.nx S5.out.n.t.t.t.t.t.t.t.t.t.nb.nx).mono ?_
  rintro e w6 ⟨r4_m, r4_0, r4_n, r4_c, rfl, hX, hB⟩
  have S6 := Lib.hid (((S5.out.step hB).cb (hX.cb (S5.out.n.t.t.t.t.t.t.t.t.t.t.nb.bd.mul S5.out.n.t.t.t.t.t.t.t.t.t.nb.bd) (by omega)) rfl))
  clear S5 hX hB
  go_wp2_with fail
  refine hK.out _ _ ⟨S6.out.n.t.t.t.t.cells.c4, S6.out.n.t.t.t.t.t.cells.c2, S6.out.n.t.t.t.t.t.t.cells.c4, S6.out.n.t.t.t.t.t.t.t.cells.c2⟩ (fun h2 => ?_)
  clear hK K hH
  have hH := h2
  clear h2
  try simp only [nrm]
  refine step_on 13 rfl (by kernel_rfl) (fun _ _ _ h => h) (by rfl) hH (by intro w hS; go_simp <;> with_reducible rfl) ?_
  try simp only [nrm]
  refine step_one 14 rfl (by kernel_rfl) (fun K hK => ?_)
  obtain ⟨c_b6_0, c_b6_1, c_b6_2, c_b6_3⟩ := S6.out.b.c4
  obtain ⟨f_b6_0, f_b6_1, f_b6_2, f_b6_3⟩ := S6.out.b.f4
  go_simp
  clear c_b6_0 c_b6_1 c_b6_2 c_b6_3 f_b6_0 f_b6_1 f_b6_2 f_b6_3
  have S7 : Hid (Sx w _ [⟨(w.heap.size), [.bool r3_m, .slice r3_0 r3_n r3_c, .bool r4_m, .slice r4_0 r4_n r4_c]⟩] _) := Lib.hid (Sx.set [] [] (Sx.set [] [] (Sx.set [] [] (Sx.set [] [] S6.out 0 (.bool r3_m)) 1 (.slice r3_0 r3_n r3_c)) 2 (.bool r4_m)) 3 (.slice r4_0 r4_n r4_c))
  clear S6
  refine hK.out _ _ ⟨S7.out.n.t.t.t.t.cells.c4, S7.out.n.t.t.t.t.t.cells.c2, S7.out.n.t.t.t.t.t.t.cells.c4, S7.out.n.t.t.t.t.t.t.t.cells.c2⟩ (fun h2 => ?_)
  clear hK K hH
  have hH := h2
  clear h2
  try simp only [nrm]
  refine anyH_world (fun w7 hW => ?_)
  rw [← hW] at S7 hH
  clear hW
  refine wpAnyH_done (by kernel_rfl) ?_ _
  clear hH
  obtain ⟨c_b6_0, c_b6_1, c_b6_2, c_b6_3⟩ := S7.out.b.c4
  obtain ⟨f_b6_0, f_b6_1, f_b6_2, f_b6_3⟩ := S7.out.b.f4
  go_wp2_with fail
  refine bodyPost_ret (v := .agg #[.bool r3_m, .slice r3_0 r3_n r3_c, .bool r4_m, .slice r4_0 r4_n r4_c]) (by simp [results, Tryz.results70, go_sem, c_b6_0, c_b6_1, c_b6_2, c_b6_3]) rfl ?_
  exact ⟨_, _, _, _, _, _, _, _, rfl, ⟨S7.out.n.t.cb.cx, S7.out.n.t.cb.bd.mono (by omega)⟩, ⟨S7.out.n.cb.cx, S7.out.n.cb.bd.mono (by omega)⟩, S7.out.h⟩

end Go.Proofs.YteceomlbnajihaaGreatDoor
