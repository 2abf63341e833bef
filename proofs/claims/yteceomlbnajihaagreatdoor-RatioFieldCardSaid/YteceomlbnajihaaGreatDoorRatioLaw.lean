/-
  What the laws of layer 6 share: great, own.
-/
import Derived.Test.YteceomlbnajihaaGreatDoorRx
import Derived.Test.YteceomlbnajihaaGreatDoorGMem
import Derived.Deep.Cut
import Derived.Deep.CutRange
import Derived.LoopN
import Derived.Laws.AppendOwnNone
set_option maxRecDepth 8192
namespace Go.Proofs.YteceomlbnajihaaGreatDoor
open Go.RowKit

set_option maxHeartbeats 1000000 in
set_option maxRecDepth 100000 in
theorem great6_1 {b : Nat} {m0 k0 : Bool} {a0 b0 : Option Addr} {n0 c0 l0 d0 : Nat} {w : World} (r : Bool) (hc : Cells w b [.bool m0, .slice a0 n0 c0, .bool k0, .slice b0 l0 d0]) (h : ((decide (8 < n0) || decide (8 < l0))) = r) :
    Calls Tryz.prog 9 #[.slice (some ⟨b, 0, none⟩) 1 1] w (RetB (.bool r) w) := by
  have x0_0 := hc.cell 0
  have x0_1 := hc.cell 1
  have x0_2 := hc.cell 2
  have x0_3 := hc.cell 3
  simp only [List.getElem?_cons_succ, List.getElem?_cons_zero] at x0_0 x0_1 x0_2 x0_3
  have hb := hc.lt
  clear hc
  cases e0 : decide (8 < n0) with
  | true =>
    have u0 : ¬ (n0 : Int) ≤ 8 := by have := of_decide_eq_true e0; omega
    have v0 : (8 : Int) < n0 := by omega
    obtain rfl : r = true := by rw [← h]; simp [e0]
    clear h
    go_enter Tryz.func9, Tryz.ntmps9
    go_wp2_with fail
    refine wp_loop_rounds 2 ?_
    rw [rounds_succ]
    go_wp2_with fail
    go_ret
    exact ⟨rfl, ((Below.refl _ _).alloc (by first | (simp; done) | (simp; omega)) _)⟩
  | false =>
    have u0 : (n0 : Int) ≤ 8 := by have := of_decide_eq_false e0; omega
    have v0 : ¬ (8 : Int) < n0 := by omega
    cases f0 : decide (8 < l0) with
    | true =>
      have s0 : ¬ (l0 : Int) ≤ 8 := by have := of_decide_eq_true f0; omega
      have t0 : (8 : Int) < l0 := by omega
      obtain rfl : r = true := by rw [← h]; simp [e0, f0]
      clear h
      go_enter Tryz.func9, Tryz.ntmps9
      go_wp2_with fail
      refine wp_loop_rounds 2 ?_
      rw [rounds_succ]
      go_wp2_with fail
      go_ret
      exact ⟨rfl, ((Below.refl _ _).alloc (by first | (simp; done) | (simp; omega)) _)⟩
    | false =>
      have s0 : (l0 : Int) ≤ 8 := by have := of_decide_eq_false f0; omega
      have t0 : ¬ (8 : Int) < l0 := by omega
      obtain rfl : r = false := by rw [← h]; simp [e0, f0]
      clear h
      go_enter Tryz.func9, Tryz.ntmps9
      go_wp2_with fail
      refine wp_loop_rounds 2 ?_
      rw [rounds_succ]
      go_wp2_with fail
      rw [rounds_succ]
      go_wp2_with fail
      go_ret
      exact ⟨rfl, ((Below.refl _ _).alloc (by first | (simp; done) | (simp; omega)) _)⟩

set_option maxHeartbeats 1000000 in
set_option maxRecDepth 100000 in
theorem great6_2 {b : Nat} {m0 k0 : Bool} {a0 b0 : Option Addr} {n0 c0 l0 d0 : Nat} {m1 k1 : Bool} {a1 b1 : Option Addr} {n1 c1 l1 d1 : Nat} {w : World} (r : Bool) (hc : Cells w b [.bool m0, .slice a0 n0 c0, .bool k0, .slice b0 l0 d0, .bool m1, .slice a1 n1 c1, .bool k1, .slice b1 l1 d1]) (h : ((decide (8 < n0) || decide (8 < l0)) || (decide (8 < n1) || decide (8 < l1))) = r) :
    Calls Tryz.prog 9 #[.slice (some ⟨b, 0, none⟩) 2 2] w (RetB (.bool r) w) := by
  have x0_0 := hc.cell 0
  have x0_1 := hc.cell 1
  have x0_2 := hc.cell 2
  have x0_3 := hc.cell 3
  have x1_0 := hc.cell 4
  have x1_1 := hc.cell 5
  have x1_2 := hc.cell 6
  have x1_3 := hc.cell 7
  simp only [List.getElem?_cons_succ, List.getElem?_cons_zero] at x0_0 x0_1 x0_2 x0_3 x1_0 x1_1 x1_2 x1_3
  have hb := hc.lt
  clear hc
  cases e0 : decide (8 < n0) with
  | true =>
    have u0 : ¬ (n0 : Int) ≤ 8 := by have := of_decide_eq_true e0; omega
    have v0 : (8 : Int) < n0 := by omega
    obtain rfl : r = true := by rw [← h]; simp [e0]
    clear h
    go_enter Tryz.func9, Tryz.ntmps9
    go_wp2_with fail
    refine wp_loop_rounds 3 ?_
    rw [rounds_succ]
    go_wp2_with fail
    go_ret
    exact ⟨rfl, ((Below.refl _ _).alloc (by first | (simp; done) | (simp; omega)) _)⟩
  | false =>
    have u0 : (n0 : Int) ≤ 8 := by have := of_decide_eq_false e0; omega
    have v0 : ¬ (8 : Int) < n0 := by omega
    cases f0 : decide (8 < l0) with
    | true =>
      have s0 : ¬ (l0 : Int) ≤ 8 := by have := of_decide_eq_true f0; omega
      have t0 : (8 : Int) < l0 := by omega
      obtain rfl : r = true := by rw [← h]; simp [e0, f0]
      clear h
      go_enter Tryz.func9, Tryz.ntmps9
      go_wp2_with fail
      refine wp_loop_rounds 3 ?_
      rw [rounds_succ]
      go_wp2_with fail
      go_ret
      exact ⟨rfl, ((Below.refl _ _).alloc (by first | (simp; done) | (simp; omega)) _)⟩
    | false =>
      have s0 : (l0 : Int) ≤ 8 := by have := of_decide_eq_false f0; omega
      have t0 : ¬ (8 : Int) < l0 := by omega
      cases e1 : decide (8 < n1) with
      | true =>
        have u1 : ¬ (n1 : Int) ≤ 8 := by have := of_decide_eq_true e1; omega
        have v1 : (8 : Int) < n1 := by omega
        obtain rfl : r = true := by rw [← h]; simp [e0, f0, e1]
        clear h
        go_enter Tryz.func9, Tryz.ntmps9
        go_wp2_with fail
        refine wp_loop_rounds 3 ?_
        rw [rounds_succ]
        go_wp2_with fail
        rw [rounds_succ]
        go_wp2_with fail
        go_ret
        exact ⟨rfl, (((Below.refl _ _).alloc (by first | (simp; done) | (simp; omega)) _).alloc (by first | (simp; done) | (simp; omega)) _)⟩
      | false =>
        have u1 : (n1 : Int) ≤ 8 := by have := of_decide_eq_false e1; omega
        have v1 : ¬ (8 : Int) < n1 := by omega
        cases f1 : decide (8 < l1) with
        | true =>
          have s1 : ¬ (l1 : Int) ≤ 8 := by have := of_decide_eq_true f1; omega
          have t1 : (8 : Int) < l1 := by omega
          obtain rfl : r = true := by rw [← h]; simp [e0, f0, e1, f1]
          clear h
          go_enter Tryz.func9, Tryz.ntmps9
          go_wp2_with fail
          refine wp_loop_rounds 3 ?_
          rw [rounds_succ]
          go_wp2_with fail
          rw [rounds_succ]
          go_wp2_with fail
          go_ret
          exact ⟨rfl, (((Below.refl _ _).alloc (by first | (simp; done) | (simp; omega)) _).alloc (by first | (simp; done) | (simp; omega)) _)⟩
        | false =>
          have s1 : (l1 : Int) ≤ 8 := by have := of_decide_eq_false f1; omega
          have t1 : ¬ (8 : Int) < l1 := by omega
          obtain rfl : r = false := by rw [← h]; simp [e0, f0, e1, f1]
          clear h
          go_enter Tryz.func9, Tryz.ntmps9
          go_wp2_with fail
          refine wp_loop_rounds 3 ?_
          rw [rounds_succ]
          go_wp2_with fail
          rw [rounds_succ]
          go_wp2_with fail
          rw [rounds_succ]
          go_wp2_with fail
          go_ret
          exact ⟨rfl, (((Below.refl _ _).alloc (by first | (simp; done) | (simp; omega)) _).alloc (by first | (simp; done) | (simp; omega)) _)⟩

set_option maxHeartbeats 1000000 in
set_option maxRecDepth 100000 in
theorem great6_3 {b : Nat} {m0 k0 : Bool} {a0 b0 : Option Addr} {n0 c0 l0 d0 : Nat} {m1 k1 : Bool} {a1 b1 : Option Addr} {n1 c1 l1 d1 : Nat} {m2 k2 : Bool} {a2 b2 : Option Addr} {n2 c2 l2 d2 : Nat} {w : World} (r : Bool) (hc : Cells w b [.bool m0, .slice a0 n0 c0, .bool k0, .slice b0 l0 d0, .bool m1, .slice a1 n1 c1, .bool k1, .slice b1 l1 d1, .bool m2, .slice a2 n2 c2, .bool k2, .slice b2 l2 d2]) (h : ((decide (8 < n0) || decide (8 < l0)) || (decide (8 < n1) || decide (8 < l1)) || (decide (8 < n2) || decide (8 < l2))) = r) :
    Calls Tryz.prog 9 #[.slice (some ⟨b, 0, none⟩) 3 3] w (RetB (.bool r) w) := by
  have x0_0 := hc.cell 0
  have x0_1 := hc.cell 1
  have x0_2 := hc.cell 2
  have x0_3 := hc.cell 3
  have x1_0 := hc.cell 4
  have x1_1 := hc.cell 5
  have x1_2 := hc.cell 6
  have x1_3 := hc.cell 7
  have x2_0 := hc.cell 8
  have x2_1 := hc.cell 9
  have x2_2 := hc.cell 10
  have x2_3 := hc.cell 11
  simp only [List.getElem?_cons_succ, List.getElem?_cons_zero] at x0_0 x0_1 x0_2 x0_3 x1_0 x1_1 x1_2 x1_3 x2_0 x2_1 x2_2 x2_3
  have hb := hc.lt
  clear hc
  cases e0 : decide (8 < n0) with
  | true =>
    have u0 : ¬ (n0 : Int) ≤ 8 := by have := of_decide_eq_true e0; omega
    have v0 : (8 : Int) < n0 := by omega
    obtain rfl : r = true := by rw [← h]; simp [e0]
    clear h
    go_enter Tryz.func9, Tryz.ntmps9
    go_wp2_with fail
    refine wp_loop_rounds 4 ?_
    rw [rounds_succ]
    go_wp2_with fail
    go_ret
    exact ⟨rfl, ((Below.refl _ _).alloc (by first | (simp; done) | (simp; omega)) _)⟩
  | false =>
    have u0 : (n0 : Int) ≤ 8 := by have := of_decide_eq_false e0; omega
    have v0 : ¬ (8 : Int) < n0 := by omega
    cases f0 : decide (8 < l0) with
    | true =>
      have s0 : ¬ (l0 : Int) ≤ 8 := by have := of_decide_eq_true f0; omega
      have t0 : (8 : Int) < l0 := by omega
      obtain rfl : r = true := by rw [← h]; simp [e0, f0]
      clear h
      go_enter Tryz.func9, Tryz.ntmps9
      go_wp2_with fail
      refine wp_loop_rounds 4 ?_
      rw [rounds_succ]
      go_wp2_with fail
      go_ret
      exact ⟨rfl, ((Below.refl _ _).alloc (by first | (simp; done) | (simp; omega)) _)⟩
    | false =>
      have s0 : (l0 : Int) ≤ 8 := by have := of_decide_eq_false f0; omega
      have t0 : ¬ (8 : Int) < l0 := by omega
      cases e1 : decide (8 < n1) with
      | true =>
        have u1 : ¬ (n1 : Int) ≤ 8 := by have := of_decide_eq_true e1; omega
        have v1 : (8 : Int) < n1 := by omega
        obtain rfl : r = true := by rw [← h]; simp [e0, f0, e1]
        clear h
        go_enter Tryz.func9, Tryz.ntmps9
        go_wp2_with fail
        refine wp_loop_rounds 4 ?_
        rw [rounds_succ]
        go_wp2_with fail
        rw [rounds_succ]
        go_wp2_with fail
        go_ret
        exact ⟨rfl, (((Below.refl _ _).alloc (by first | (simp; done) | (simp; omega)) _).alloc (by first | (simp; done) | (simp; omega)) _)⟩
      | false =>
        have u1 : (n1 : Int) ≤ 8 := by have := of_decide_eq_false e1; omega
        have v1 : ¬ (8 : Int) < n1 := by omega
        cases f1 : decide (8 < l1) with
        | true =>
          have s1 : ¬ (l1 : Int) ≤ 8 := by have := of_decide_eq_true f1; omega
          have t1 : (8 : Int) < l1 := by omega
          obtain rfl : r = true := by rw [← h]; simp [e0, f0, e1, f1]
          clear h
          go_enter Tryz.func9, Tryz.ntmps9
          go_wp2_with fail
          refine wp_loop_rounds 4 ?_
          rw [rounds_succ]
          go_wp2_with fail
          rw [rounds_succ]
          go_wp2_with fail
          go_ret
          exact ⟨rfl, (((Below.refl _ _).alloc (by first | (simp; done) | (simp; omega)) _).alloc (by first | (simp; done) | (simp; omega)) _)⟩
        | false =>
          have s1 : (l1 : Int) ≤ 8 := by have := of_decide_eq_false f1; omega
          have t1 : ¬ (8 : Int) < l1 := by omega
          cases e2 : decide (8 < n2) with
          | true =>
            have u2 : ¬ (n2 : Int) ≤ 8 := by have := of_decide_eq_true e2; omega
            have v2 : (8 : Int) < n2 := by omega
            obtain rfl : r = true := by rw [← h]; simp [e0, f0, e1, f1, e2]
            clear h
            go_enter Tryz.func9, Tryz.ntmps9
            go_wp2_with fail
            refine wp_loop_rounds 4 ?_
            rw [rounds_succ]
            go_wp2_with fail
            rw [rounds_succ]
            go_wp2_with fail
            rw [rounds_succ]
            go_wp2_with fail
            go_ret
            exact ⟨rfl, ((((Below.refl _ _).alloc (by first | (simp; done) | (simp; omega)) _).alloc (by first | (simp; done) | (simp; omega)) _).alloc (by first | (simp; done) | (simp; omega)) _)⟩
          | false =>
            have u2 : (n2 : Int) ≤ 8 := by have := of_decide_eq_false e2; omega
            have v2 : ¬ (8 : Int) < n2 := by omega
            cases f2 : decide (8 < l2) with
            | true =>
              have s2 : ¬ (l2 : Int) ≤ 8 := by have := of_decide_eq_true f2; omega
              have t2 : (8 : Int) < l2 := by omega
              obtain rfl : r = true := by rw [← h]; simp [e0, f0, e1, f1, e2, f2]
              clear h
              go_enter Tryz.func9, Tryz.ntmps9
              go_wp2_with fail
              refine wp_loop_rounds 4 ?_
              rw [rounds_succ]
              go_wp2_with fail
              rw [rounds_succ]
              go_wp2_with fail
              rw [rounds_succ]
              go_wp2_with fail
              go_ret
              exact ⟨rfl, ((((Below.refl _ _).alloc (by first | (simp; done) | (simp; omega)) _).alloc (by first | (simp; done) | (simp; omega)) _).alloc (by first | (simp; done) | (simp; omega)) _)⟩
            | false =>
              have s2 : (l2 : Int) ≤ 8 := by have := of_decide_eq_false f2; omega
              have t2 : ¬ (8 : Int) < l2 := by omega
              obtain rfl : r = false := by rw [← h]; simp [e0, f0, e1, f1, e2, f2]
              clear h
              go_enter Tryz.func9, Tryz.ntmps9
              go_wp2_with fail
              refine wp_loop_rounds 4 ?_
              rw [rounds_succ]
              go_wp2_with fail
              rw [rounds_succ]
              go_wp2_with fail
              rw [rounds_succ]
              go_wp2_with fail
              rw [rounds_succ]
              go_wp2_with fail
              go_ret
              exact ⟨rfl, ((((Below.refl _ _).alloc (by first | (simp; done) | (simp; omega)) _).alloc (by first | (simp; done) | (simp; omega)) _).alloc (by first | (simp; done) | (simp; omega)) _)⟩

/-- what own leaves: the same signs, the same limbs, in memory of their own -/
def NewOwnR (w : World) (m k : Bool) (xs ys : List Nat) (n l : Nat) (e : Ending) (w' : World) : Prop :=
  ∃ ao cap bo cb, e = .returned (.agg #[.bool m, .slice ao n cap, .bool k, .slice bo l cb]) ∧ Sl w' ao n cap xs ∧ Sl w' bo l cb ys ∧ Below w.heap.size w w'

set_option maxHeartbeats 1000000 in
set_option maxRecDepth 100000 in
theorem own6_any {m : Bool} {ao : Option Addr} {n cap : Nat} {k : Bool} {bo : Option Addr} {l cb : Nat} {xs ys : List Nat} {w : World} (hs : Sl w ao n cap xs) (ht : Sl w bo l cb ys) :
    Calls Tryz.prog 11 #[.agg #[.bool m, .slice ao n cap, .bool k, .slice bo l cb]] w (NewOwnR w m k xs ys n l) := by
  obtain ⟨i0, hi, hz0, hz1, hz2⟩ := info_parts Tryz.info_u32
  go_enter Tryz.func11, Tryz.ntmps11
  have S0 := Lib.hid (Sx.start (w := w) (N := [.sl ao n cap xs, .sl bo l cb ys]) ⟨hs, ht, trivial⟩)
  clear hs ht
  have S1 := Lib.hid (S0.out.var (w.heap.size) [.bool m, .slice ao n cap, .bool k, .slice bo l cb] 26 (by simp))
  clear S0
  have S2 := Lib.hid (S1.out.var (w.heap.size + 1) [.bool false, .slice none 0 0, .bool false, .slice none 0 0] 26 (by simp))
  clear S1
  go_upto_region 1 with (fail)
  refine wp_world (fun w1 hW => ?_)
  rw [← hW] at S2
  clear hW
  have HS := Lib.hid (S2.out.n.sl)
  have l_b1 := S2.out.b.t.lt
  obtain ⟨c_b1_0, c_b1_1, c_b1_2, c_b1_3⟩ := S2.out.b.t.c4
  go_upto_region 2 with (at_builtin; refine wpList_dup w1 w1 rfl (.tmp 3) (.tmp 6) 22 rfl w1.heap.size i0 (.int .u32 0) Tryz.underlying22 hi hz0 hz1 hz2 rfl rfl _ _ _ _ rfl HS.out (Below.refl _ _) (Nat.le_refl _) ?_; intro y1_0 y1_c w2 hX hB _; clear c_b1_0 c_b1_1 c_b1_2 c_b1_3 l_b1; have S3 := Lib.hid ((S2.out.step hB).sl hX.sl rfl); clear S2 hX hB HS; obtain ⟨c_b2_0, c_b2_1, c_b2_2, c_b2_3⟩ := S3.out.b.c4; obtain ⟨f_b2_0, f_b2_1, f_b2_2, f_b2_3⟩ := S3.out.b.f4; obtain ⟨c_b1_0, c_b1_1, c_b1_2, c_b1_3⟩ := S3.out.b.t.c4; obtain ⟨f_b1_0, f_b1_1, f_b1_2, f_b1_3⟩ := S3.out.b.t.f4)
  clear c_b2_0 c_b2_1 c_b2_2 c_b2_3 f_b2_0 f_b2_1 f_b2_2 f_b2_3 c_b1_0 c_b1_1 c_b1_2 c_b1_3 f_b1_0 f_b1_1 f_b1_2 f_b1_3
  have S4 : Hid (Sx w _ [⟨(w.heap.size + 1), [.bool false, .slice none 0 0, .bool false, .slice none 0 0]⟩, ⟨(w.heap.size), [.bool m, .slice y1_0 n y1_c, .bool k, .slice bo l cb]⟩] _) := Lib.hid (Sx.set [⟨(w.heap.size + 1), [.bool false, .slice none 0 0, .bool false, .slice none 0 0]⟩] [] S3.out 1 (.slice y1_0 n y1_c))
  clear S3
  refine wp_world (fun w3 hW => ?_)
  rw [← hW] at S4
  clear hW
  have HS := Lib.hid (S4.out.n.t.t.sl)
  have l_b1 := S4.out.b.t.lt
  obtain ⟨c_b1_0, c_b1_1, c_b1_2, c_b1_3⟩ := S4.out.b.t.c4
  go_upto_region 3 with (at_builtin; refine wpList_dup w3 w3 rfl (.tmp 10) (.tmp 13) 22 rfl w3.heap.size i0 (.int .u32 0) Tryz.underlying22 hi hz0 hz1 hz2 rfl rfl _ _ _ _ rfl HS.out (Below.refl _ _) (Nat.le_refl _) ?_; intro y2_0 y2_c w4 hX hB _; clear c_b1_0 c_b1_1 c_b1_2 c_b1_3 l_b1; have S5 := Lib.hid ((S4.out.step hB).sl hX.sl rfl); clear S4 hX hB HS; obtain ⟨c_b2_0, c_b2_1, c_b2_2, c_b2_3⟩ := S5.out.b.c4; obtain ⟨f_b2_0, f_b2_1, f_b2_2, f_b2_3⟩ := S5.out.b.f4; obtain ⟨c_b1_0, c_b1_1, c_b1_2, c_b1_3⟩ := S5.out.b.t.c4; obtain ⟨f_b1_0, f_b1_1, f_b1_2, f_b1_3⟩ := S5.out.b.t.f4)
  clear c_b2_0 c_b2_1 c_b2_2 c_b2_3 f_b2_0 f_b2_1 f_b2_2 f_b2_3 c_b1_0 c_b1_1 c_b1_2 c_b1_3 f_b1_0 f_b1_1 f_b1_2 f_b1_3
  have S6 : Hid (Sx w _ [⟨(w.heap.size + 1), [.bool false, .slice none 0 0, .bool false, .slice none 0 0]⟩, ⟨(w.heap.size), [.bool m, .slice y1_0 n y1_c, .bool k, .slice y2_0 l y2_c]⟩] _) := Lib.hid (Sx.set [⟨(w.heap.size + 1), [.bool false, .slice none 0 0, .bool false, .slice none 0 0]⟩] [] S5.out 3 (.slice y2_0 l y2_c))
  clear S5
  refine wp_world (fun w5 hW => ?_)
  rw [← hW] at S6
  clear hW
  obtain ⟨c_b1_0, c_b1_1, c_b1_2, c_b1_3⟩ := S6.out.b.t.c4
  obtain ⟨c_b2_0, c_b2_1, c_b2_2, c_b2_3⟩ := S6.out.b.c4
  obtain ⟨f_b2_0, f_b2_1, f_b2_2, f_b2_3⟩ := S6.out.b.f4
  go_wp2_with fail
  have S7 : Hid (Sx w _ [⟨(w.heap.size + 1), [.bool m, .slice y1_0 n y1_c, .bool k, .slice y2_0 l y2_c]⟩, ⟨(w.heap.size), [.bool m, .slice y1_0 n y1_c, .bool k, .slice y2_0 l y2_c]⟩] _) := Lib.hid (Sx.set [] [⟨(w.heap.size), [.bool m, .slice y1_0 n y1_c, .bool k, .slice y2_0 l y2_c]⟩] (Sx.set [] [⟨(w.heap.size), [.bool m, .slice y1_0 n y1_c, .bool k, .slice y2_0 l y2_c]⟩] (Sx.set [] [⟨(w.heap.size), [.bool m, .slice y1_0 n y1_c, .bool k, .slice y2_0 l y2_c]⟩] (Sx.set [] [⟨(w.heap.size), [.bool m, .slice y1_0 n y1_c, .bool k, .slice y2_0 l y2_c]⟩] S6.out 0 (.bool m)) 1 (.slice y1_0 n y1_c)) 2 (.bool k)) 3 (.slice y2_0 l y2_c))
  clear S6
  refine bodyPost_ret (v := .agg #[.bool m, .slice y1_0 n y1_c, .bool k, .slice y2_0 l y2_c]) (by simp [results, Tryz.results11, go_sem, c_b2_0, c_b2_1, c_b2_2, c_b2_3]) rfl ?_
  exact ⟨_, _, _, _, rfl, S7.out.n.t.sl, S7.out.n.sl, S7.out.h⟩

end Go.Proofs.YteceomlbnajihaaGreatDoor
