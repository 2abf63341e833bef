/-
  The contracts of ratio's field: Sign, Cmp, Neg, Add, Sub, Mul, Whole.
-/
import Derived.Test.YteceomlbnajihaaGreatDoorRatioTog
import Derived.Test.YteceomlbnajihaaGreatDoorGWA
import Derived.Deep.Cut
import Derived.Deep.CutRange
set_option maxRecDepth 8192
namespace Go.Proofs.YteceomlbnajihaaGreatDoor
open Go.RowKit

theorem dn_mul (d c : Int) : dn (dn d * dn c) = dn d * dn c := dn_of (fun h => by
  rcases Int.mul_eq_zero.1 h with h1 | h1
  · exact dn_ne d h1
  · exact dn_ne c h1)
theorem qv_add {x d y c : Int} {q r : Rat} (hq : qv x d = q) (hr : qv y c = r) : qv (x * dn c + y * dn d) (dn d * dn c) = q + r := by
  rw [← hq, ← hr, qv_dn, qv_dn, qv_dn, dn_mul, Rat.divInt_add_divInt _ _ (dn_ne d) (dn_ne c)]
theorem qv_neg {x d : Int} {q : Rat} (hq : qv x d = q) : qv (-x) d = -q := by
  rw [← hq, qv_dn, qv_dn, Rat.neg_divInt]
theorem qv_sub {x d y c : Int} {q r : Rat} (hq : qv x d = q) (hr : qv y c = r) : qv (x * dn c - y * dn d) (dn d * dn c) = q - r := by
  have h := qv_add hq (qv_neg hr)
  rw [Rat.sub_eq_add_neg, ← h, Int.neg_mul, Int.sub_eq_add_neg]
theorem qv_mul {x d y c : Int} {q r : Rat} (hq : qv x d = q) (hr : qv y c = r) : qv (x * y) (dn d * dn c) = q * r := by
  rw [← hq, ← hr, qv_dn, qv_dn, qv_dn, dn_mul, Rat.divInt_mul_divInt]
theorem qv_sign {x d : Int} {q : Rat} (hq : qv x d = q) : x.sign * (dn d).sign = qs q := by
  rw [← hq]
  unfold qs
  rw [qv_dn, q_sign (dn_ne d)]
theorem qs_cases (q : Rat) : qs q = -1 ∨ qs q = 0 ∨ qs q = 1 := by
  unfold qs
  rcases Int.lt_trichotomy q.num 0 with h | h | h
  · exact .inl (Int.sign_eq_neg_one_of_neg h)
  · exact .inr (.inl (by rw [h]; rfl))
  · exact .inr (.inr (Int.sign_eq_one_of_pos h))
theorem zero_cb (w : World) : Cb w false none 0 0 0 1 := ⟨zero_cx w, bd_zero⟩

set_option maxHeartbeats 1000000 in
set_option maxRecDepth 100000 in
theorem rsign_any (z : Int) {m : Bool} {ao : Option Addr} {n cap : Nat} {k : Bool} {bo : Option Addr} {l cb : Nat} {x d : Int} {q : Rat} {j : Nat} {w : World} (hx : Rx w m ao n cap k bo l cb x d q j) (hj : 1 ≤ j) (h : qs q = z) :
    Calls Tryz.prog 23 #[.agg #[.bool m, .slice ao n cap, .bool k, .slice bo l cb]] w (RetB (.int .i64 z) w) := by
  have hv := qv_sign hx.val
  obtain ⟨s, hs⟩ : ∃ s, x.sign = s := ⟨_, rfl⟩
  obtain ⟨t, ht⟩ : ∃ t, (dn d).sign = t := ⟨_, rfl⟩
  have e1 : IntKind.i64.wrap (s * t) = z := by
    rw [← hs, ← ht, hv, h, ← h]
    rcases qs_cases q with h2 | h2 | h2 <;> rw [h2] <;> rfl
  have HS := Lib.hid hs
  have HT := Lib.hid ht
  clear hs ht hv h
  go_enter Tryz.func23, Tryz.ntmps23
  have S0 := Lib.hid (Sx.start (w := w) (N := [.rx m ao n cap k bo l cb x d q j]) ⟨hx, trivial⟩)
  clear hx
  have S1 := Lib.hid (S0.out.var (w.heap.size) [.bool m, .slice ao n cap, .bool k, .slice bo l cb] 26 (by simp))
  clear S0
  go_upto_region 1 with (fail)
  refine wp_world (fun w1 hW => ?_)
  rw [← hW] at S1
  clear hW
  have S2 := Lib.hid (S1.out.drew)
  clear S1
  refine wp_region_held_drew (S := fun w' => (w'.cell? ⟨(w.heap.size), 0, none⟩ = some (.bool m) ∧ w'.cell? ⟨(w.heap.size), 1, none⟩ = some (.slice ao n cap) ∧ w'.cell? ⟨(w.heap.size), 2, none⟩ = some (.bool k) ∧ w'.cell? ⟨(w.heap.size), 3, none⟩ = some (.slice bo l cb))) (by kernel_rfl) ((S2.out.b.c4)) (fun hH => ?_)
  refine anyH_world (fun w2 hW => ?_)
  rw [← hW] at S2 hH
  clear hW
  refine step_on 0 rfl (by kernel_rfl) (fun _ _ _ h => h) (by rfl) hH (by intro w hS; go_simp <;> with_reducible rfl) ?_
  try simp only [nrm]
  refine step_on 1 rfl (by kernel_rfl) (fun _ _ _ h => h) (by rfl) hH (by intro w hS; go_simp <;> with_reducible rfl) ?_
  try simp only [nrm]
  refine step_on 3 rfl (by kernel_rfl) (fun _ _ _ h => h) (by rfl) hH (by intro w hS; go_simp <;> with_reducible rfl) ?_
  try simp only [nrm]
  refine step_one 2 rfl (by kernel_rfl) (fun K hK => ?_)
  go_simp
  refine (wsign_is (s) S2.out.n.rx.num (HS.out)).mono ?_
  rintro e w3 ⟨rfl, hB⟩
  have S3 := Lib.hid ((S2.out.step hB))
  clear S2 hB
  go_wp2_with fail
  refine hK.out _ _ (S3.out.b.c4) (fun h2 => ?_)
  clear hK K hH
  have hH := h2
  clear h2
  try simp only [nrm]
  refine step_one 4 rfl (by kernel_rfl) (fun K hK => ?_)
  go_simp
  refine (den_any S3.out.n.rx).mono ?_
  rintro e w4 ⟨r1_m, r1_0, r1_n, r1_c, rfl, hX, hB⟩
  have S4 := Lib.hid (((S3.out.step hB).nb ⟨hX, dn_bd S3.out.n.rx.bd (by omega)⟩ rfl))
  clear S3 hX hB
  go_wp2_with fail
  refine hK.out _ _ (S4.out.b.c4) (fun h2 => ?_)
  clear hK K hH
  have hH := h2
  clear h2
  try simp only [nrm]
  refine step_one 5 rfl (by kernel_rfl) (fun K hK => ?_)
  go_simp
  refine (wsign_is (t) S4.out.n.nb.nx (HT.out)).mono ?_
  rintro e w5 ⟨rfl, hB⟩
  have S5 := Lib.hid ((S4.out.step hB))
  clear S4 hB
  go_wp2_with fail
  refine hK.out _ _ (S5.out.b.c4) (fun h2 => ?_)
  clear hK K hH
  have hH := h2
  clear h2
  try simp only [nrm]
  refine step_on 6 rfl (by kernel_rfl) (fun _ _ _ h => h) (by rfl) hH (by intro w hS; go_simp <;> with_reducible rfl) ?_
  try simp only [nrm]
  refine step_on 7 rfl (by kernel_rfl) (fun _ _ _ h => h) (by rfl) hH (by intro w hS; go_simp <;> with_reducible rfl) ?_
  try simp only [nrm]
  refine wpAnyH_done (by kernel_rfl) ?_ _
  clear hH
  go_wp2_with fail
  go_ret
  exact ⟨rfl, S5.out.h⟩

set_option maxHeartbeats 1000000 in
set_option maxRecDepth 100000 in
theorem radd_any {m : Bool} {ao : Option Addr} {n cap : Nat} {k : Bool} {bo : Option Addr} {l cb : Nat} {m2 : Bool} {a2 : Option Addr} {n2 c2 : Nat} {k2 : Bool} {b2 : Option Addr} {l2 d2 : Nat} {x d y c : Int} {q r : Rat} {j i : Nat} {w : World} (hx : Rx w m ao n cap k bo l cb x d q j) (hy : Rx w m2 a2 n2 c2 k2 b2 l2 d2 y c r i) (hj : 1 ≤ j) (hi : 1 ≤ i) (hk : j + i + 1 ≤ 100000) :
    Calls Tryz.prog 14 #[.agg #[.bool m, .slice ao n cap, .bool k, .slice bo l cb], .agg #[.bool m2, .slice a2 n2 c2, .bool k2, .slice b2 l2 d2]] w (NewR w (q + r) (j + i + 1)) := by
  have HV := Lib.hid (qv_add hx.val hy.val)
  go_enter Tryz.func14, Tryz.ntmps14
  have S0 := Lib.hid (Sx.start (w := w) (N := [.rx m ao n cap k bo l cb x d q j, .rx m2 a2 n2 c2 k2 b2 l2 d2 y c r i]) ⟨hx, hy, trivial⟩)
  clear hx hy
  have S1 := Lib.hid (S0.out.var (w.heap.size) [.bool m, .slice ao n cap, .bool k, .slice bo l cb] 26 (by simp))
  clear S0
  have S2 := Lib.hid (S1.out.var (w.heap.size + 1) [.bool m2, .slice a2 n2 c2, .bool k2, .slice b2 l2 d2] 26 (by simp))
  clear S1
  have S3 := Lib.hid (S2.out.var (w.heap.size + 2) [.bool false, .slice none 0 0, .bool false, .slice none 0 0] 26 (by simp))
  clear S2
  go_upto_region 1 with (fail)
  refine wp_world (fun w1 hW => ?_)
  rw [← hW] at S3
  clear hW
  obtain ⟨c_b2_0, c_b2_1, c_b2_2, c_b2_3⟩ := S3.out.b.t.t.c4
  obtain ⟨c_b3_0, c_b3_1, c_b3_2, c_b3_3⟩ := S3.out.b.t.c4
  go_wp2_with fail
  clear c_b2_0 c_b2_1 c_b2_2 c_b2_3 c_b3_0 c_b3_1 c_b3_2 c_b3_3
  refine (tog_any S3.out.n.rx S3.out.n.t.rx (by omega) (by omega)).mono ?_
  rintro e w2 ⟨p0, p1, p2, p3, u_m, u_0, u_n, u_c, u_k, u_1, u_l, u_d, rfl, hC0, hC1, hC2, hC3, hN1, hN2, hB⟩
  have S4 := Lib.hid ((S3.out.step hB))
  clear S3 hB
  go_wp2_with fail
  refine (clos_add S4.out.n.rx S4.out.n.t.rx hC0 hC1 hC2 hC3 hN1 hN2 (by omega)).mono ?_
  rintro e w3 ⟨r1_m, r1_0, r1_n, r1_c, r1_k, r1_1, r1_l, r1_d, rfl, hX, hY, hB⟩
  have S5 := Lib.hid ((((S4.out.step hB).cb hY rfl).cb hX rfl))
  clear S4 hX hY hB hC0 hC1 hC2 hC3 hN1 hN2
  go_wp2_with fail
  refine (lowest_any (⟨S5.out.n.cb.cx.nx, S5.out.n.t.cb.cx.nx, HV.out, S5.out.n.cb.bd.mono (by omega), S5.out.n.t.cb.bd.mono (by omega)⟩ : Rx _ _ _ _ _ _ _ _ _ _ _ (q + r) (j + i + 1)) (by omega) (by omega)).mono ?_
  rintro e w4 ⟨r2_m, r2_0, r2_n, r2_c, r2_k, r2_1, r2_l, r2_d, rfl, hX, hB⟩
  have S6 := Lib.hid (((S5.out.step hB).rc hX rfl))
  clear S5 hX hB
  obtain ⟨c_b4_0, c_b4_1, c_b4_2, c_b4_3⟩ := S6.out.b.c4
  obtain ⟨f_b4_0, f_b4_1, f_b4_2, f_b4_3⟩ := S6.out.b.f4
  go_wp2_with fail
  have S7 : Hid (Sx w _ [⟨(w.heap.size + 2), [.bool r2_m, .slice r2_0 r2_n r2_c, .bool r2_k, .slice r2_1 r2_l r2_d]⟩, ⟨(w.heap.size + 1), [.bool m2, .slice a2 n2 c2, .bool k2, .slice b2 l2 d2]⟩, ⟨(w.heap.size), [.bool m, .slice ao n cap, .bool k, .slice bo l cb]⟩] _) := Lib.hid (Sx.set [] [⟨(w.heap.size + 1), [.bool m2, .slice a2 n2 c2, .bool k2, .slice b2 l2 d2]⟩, ⟨(w.heap.size), [.bool m, .slice ao n cap, .bool k, .slice bo l cb]⟩] (Sx.set [] [⟨(w.heap.size + 1), [.bool m2, .slice a2 n2 c2, .bool k2, .slice b2 l2 d2]⟩, ⟨(w.heap.size), [.bool m, .slice ao n cap, .bool k, .slice bo l cb]⟩] (Sx.set [] [⟨(w.heap.size + 1), [.bool m2, .slice a2 n2 c2, .bool k2, .slice b2 l2 d2]⟩, ⟨(w.heap.size), [.bool m, .slice ao n cap, .bool k, .slice bo l cb]⟩] (Sx.set [] [⟨(w.heap.size + 1), [.bool m2, .slice a2 n2 c2, .bool k2, .slice b2 l2 d2]⟩, ⟨(w.heap.size), [.bool m, .slice ao n cap, .bool k, .slice bo l cb]⟩] S6.out 0 (.bool r2_m)) 1 (.slice r2_0 r2_n r2_c)) 2 (.bool r2_k)) 3 (.slice r2_1 r2_l r2_d))
  clear S6
  refine bodyPost_ret (v := .agg #[.bool r2_m, .slice r2_0 r2_n r2_c, .bool r2_k, .slice r2_1 r2_l r2_d]) (by simp [results, Tryz.results14, go_sem, c_b4_0, c_b4_1, c_b4_2, c_b4_3]) rfl ?_
  exact ⟨_, _, _, _, _, _, _, _, rfl, S7.out.n.rc, S7.out.h⟩

set_option maxHeartbeats 1000000 in
set_option maxRecDepth 100000 in
theorem rsub_any {m : Bool} {ao : Option Addr} {n cap : Nat} {k : Bool} {bo : Option Addr} {l cb : Nat} {m2 : Bool} {a2 : Option Addr} {n2 c2 : Nat} {k2 : Bool} {b2 : Option Addr} {l2 d2 : Nat} {x d y c : Int} {q r : Rat} {j i : Nat} {w : World} (hx : Rx w m ao n cap k bo l cb x d q j) (hy : Rx w m2 a2 n2 c2 k2 b2 l2 d2 y c r i) (hj : 1 ≤ j) (hi : 1 ≤ i) (hk : j + i + 1 ≤ 100000) :
    Calls Tryz.prog 17 #[.agg #[.bool m, .slice ao n cap, .bool k, .slice bo l cb], .agg #[.bool m2, .slice a2 n2 c2, .bool k2, .slice b2 l2 d2]] w (NewR w (q - r) (j + i + 1)) := by
  have HV := Lib.hid (qv_sub hx.val hy.val)
  go_enter Tryz.func17, Tryz.ntmps17
  have S0 := Lib.hid (Sx.start (w := w) (N := [.rx m ao n cap k bo l cb x d q j, .rx m2 a2 n2 c2 k2 b2 l2 d2 y c r i]) ⟨hx, hy, trivial⟩)
  clear hx hy
  have S1 := Lib.hid (S0.out.var (w.heap.size) [.bool m, .slice ao n cap, .bool k, .slice bo l cb] 26 (by simp))
  clear S0
  have S2 := Lib.hid (S1.out.var (w.heap.size + 1) [.bool m2, .slice a2 n2 c2, .bool k2, .slice b2 l2 d2] 26 (by simp))
  clear S1
  have S3 := Lib.hid (S2.out.var (w.heap.size + 2) [.bool false, .slice none 0 0, .bool false, .slice none 0 0] 26 (by simp))
  clear S2
  go_upto_region 1 with (fail)
  refine wp_world (fun w1 hW => ?_)
  rw [← hW] at S3
  clear hW
  obtain ⟨c_b2_0, c_b2_1, c_b2_2, c_b2_3⟩ := S3.out.b.t.t.c4
  obtain ⟨c_b3_0, c_b3_1, c_b3_2, c_b3_3⟩ := S3.out.b.t.c4
  go_wp2_with fail
  clear c_b2_0 c_b2_1 c_b2_2 c_b2_3 c_b3_0 c_b3_1 c_b3_2 c_b3_3
  refine (tog_any S3.out.n.rx S3.out.n.t.rx (by omega) (by omega)).mono ?_
  rintro e w2 ⟨p0, p1, p2, p3, u_m, u_0, u_n, u_c, u_k, u_1, u_l, u_d, rfl, hC0, hC1, hC2, hC3, hN1, hN2, hB⟩
  have S4 := Lib.hid ((S3.out.step hB))
  clear S3 hB
  go_wp2_with fail
  refine (clos_sub S4.out.n.rx S4.out.n.t.rx hC0 hC1 hC2 hC3 hN1 hN2 (by omega)).mono ?_
  rintro e w3 ⟨r1_m, r1_0, r1_n, r1_c, r1_k, r1_1, r1_l, r1_d, rfl, hX, hY, hB⟩
  have S5 := Lib.hid ((((S4.out.step hB).cb hY rfl).cb hX rfl))
  clear S4 hX hY hB hC0 hC1 hC2 hC3 hN1 hN2
  go_wp2_with fail
  refine (lowest_any (⟨S5.out.n.cb.cx.nx, S5.out.n.t.cb.cx.nx, HV.out, S5.out.n.cb.bd.mono (by omega), S5.out.n.t.cb.bd.mono (by omega)⟩ : Rx _ _ _ _ _ _ _ _ _ _ _ (q - r) (j + i + 1)) (by omega) (by omega)).mono ?_
  rintro e w4 ⟨r2_m, r2_0, r2_n, r2_c, r2_k, r2_1, r2_l, r2_d, rfl, hX, hB⟩
  have S6 := Lib.hid (((S5.out.step hB).rc hX rfl))
  clear S5 hX hB
  obtain ⟨c_b4_0, c_b4_1, c_b4_2, c_b4_3⟩ := S6.out.b.c4
  obtain ⟨f_b4_0, f_b4_1, f_b4_2, f_b4_3⟩ := S6.out.b.f4
  go_wp2_with fail
  have S7 : Hid (Sx w _ [⟨(w.heap.size + 2), [.bool r2_m, .slice r2_0 r2_n r2_c, .bool r2_k, .slice r2_1 r2_l r2_d]⟩, ⟨(w.heap.size + 1), [.bool m2, .slice a2 n2 c2, .bool k2, .slice b2 l2 d2]⟩, ⟨(w.heap.size), [.bool m, .slice ao n cap, .bool k, .slice bo l cb]⟩] _) := Lib.hid (Sx.set [] [⟨(w.heap.size + 1), [.bool m2, .slice a2 n2 c2, .bool k2, .slice b2 l2 d2]⟩, ⟨(w.heap.size), [.bool m, .slice ao n cap, .bool k, .slice bo l cb]⟩] (Sx.set [] [⟨(w.heap.size + 1), [.bool m2, .slice a2 n2 c2, .bool k2, .slice b2 l2 d2]⟩, ⟨(w.heap.size), [.bool m, .slice ao n cap, .bool k, .slice bo l cb]⟩] (Sx.set [] [⟨(w.heap.size + 1), [.bool m2, .slice a2 n2 c2, .bool k2, .slice b2 l2 d2]⟩, ⟨(w.heap.size), [.bool m, .slice ao n cap, .bool k, .slice bo l cb]⟩] (Sx.set [] [⟨(w.heap.size + 1), [.bool m2, .slice a2 n2 c2, .bool k2, .slice b2 l2 d2]⟩, ⟨(w.heap.size), [.bool m, .slice ao n cap, .bool k, .slice bo l cb]⟩] S6.out 0 (.bool r2_m)) 1 (.slice r2_0 r2_n r2_c)) 2 (.bool r2_k)) 3 (.slice r2_1 r2_l r2_d))
  clear S6
  refine bodyPost_ret (v := .agg #[.bool r2_m, .slice r2_0 r2_n r2_c, .bool r2_k, .slice r2_1 r2_l r2_d]) (by simp [results, Tryz.results17, go_sem, c_b4_0, c_b4_1, c_b4_2, c_b4_3]) rfl ?_
  exact ⟨_, _, _, _, _, _, _, _, rfl, S7.out.n.rc, S7.out.h⟩

set_option maxHeartbeats 1000000 in
set_option maxRecDepth 100000 in
theorem rcmp_any (z : Int) {m : Bool} {ao : Option Addr} {n cap : Nat} {k : Bool} {bo : Option Addr} {l cb : Nat} {m2 : Bool} {a2 : Option Addr} {n2 c2 : Nat} {k2 : Bool} {b2 : Option Addr} {l2 d2 : Nat} {x d y c : Int} {q r : Rat} {j i : Nat} {w : World} (hx : Rx w m ao n cap k bo l cb x d q j) (hy : Rx w m2 a2 n2 c2 k2 b2 l2 d2 y c r i) (hj : 1 ≤ j) (hi : 1 ≤ i) (hk : j + i + 1 ≤ 100000) (h : qs (q - r) = z) :
    Calls Tryz.prog 25 #[.agg #[.bool m, .slice ao n cap, .bool k, .slice bo l cb], .agg #[.bool m2, .slice a2 n2 c2, .bool k2, .slice b2 l2 d2]] w (RetB (.int .i64 z) w) := by
  have HV := Lib.hid (qv_sub hx.val hy.val)
  have HZ := Lib.hid h
  clear h
  go_enter Tryz.func25, Tryz.ntmps25
  have S0 := Lib.hid (Sx.start (w := w) (N := [.rx m ao n cap k bo l cb x d q j, .rx m2 a2 n2 c2 k2 b2 l2 d2 y c r i]) ⟨hx, hy, trivial⟩)
  clear hx hy
  have S1 := Lib.hid (S0.out.var (w.heap.size) [.bool m, .slice ao n cap, .bool k, .slice bo l cb] 26 (by simp))
  clear S0
  have S2 := Lib.hid (S1.out.var (w.heap.size + 1) [.bool m2, .slice a2 n2 c2, .bool k2, .slice b2 l2 d2] 26 (by simp))
  clear S1
  go_upto_region 1 with (fail)
  refine wp_world (fun w1 hW => ?_)
  rw [← hW] at S2
  clear hW
  obtain ⟨c_b2_0, c_b2_1, c_b2_2, c_b2_3⟩ := S2.out.b.t.c4
  obtain ⟨c_b3_0, c_b3_1, c_b3_2, c_b3_3⟩ := S2.out.b.c4
  go_wp2_with fail
  clear c_b2_0 c_b2_1 c_b2_2 c_b2_3 c_b3_0 c_b3_1 c_b3_2 c_b3_3
  refine (tog_any S2.out.n.rx S2.out.n.t.rx (by omega) (by omega)).mono ?_
  rintro e w2 ⟨p0, p1, p2, p3, u_m, u_0, u_n, u_c, u_k, u_1, u_l, u_d, rfl, hC0, hC1, hC2, hC3, hN1, hN2, hB⟩
  have S3 := Lib.hid ((S2.out.step hB))
  clear S2 hB
  go_wp2_with fail
  refine (clos_sub S3.out.n.rx S3.out.n.t.rx hC0 hC1 hC2 hC3 hN1 hN2 (by omega)).mono ?_
  rintro e w3 ⟨r1_m, r1_0, r1_n, r1_c, r1_k, r1_1, r1_l, r1_d, rfl, hX, hY, hB⟩
  have S4 := Lib.hid ((((S3.out.step hB).cb hY rfl).cb hX rfl))
  clear S3 hX hY hB hC0 hC1 hC2 hC3 hN1 hN2
  go_wp2_with fail
  refine (rsign_any z (⟨S4.out.n.cb.cx.nx, S4.out.n.t.cb.cx.nx, HV.out, S4.out.n.cb.bd, S4.out.n.t.cb.bd⟩ : Rx _ _ _ _ _ _ _ _ _ _ _ _ _) (by omega) HZ.out).mono ?_
  rintro e w4 ⟨rfl, hB⟩
  have S5 := Lib.hid ((S4.out.step hB))
  clear S4 hB
  go_wp2_with fail
  go_ret
  exact ⟨rfl, S5.out.h⟩

set_option maxHeartbeats 1000000 in
set_option maxRecDepth 100000 in
theorem rneg_any {m : Bool} {ao : Option Addr} {n cap : Nat} {k : Bool} {bo : Option Addr} {l cb : Nat} {x d : Int} {q : Rat} {j : Nat} {w : World} (hx : Rx w m ao n cap k bo l cb x d q j) (h1 : 1 ≤ j) (h2 : j ≤ 100000) :
    Calls Tryz.prog 21 #[.agg #[.bool m, .slice ao n cap, .bool k, .slice bo l cb]] w (NewR w (-q) j) := by
  have HV := Lib.hid (qv_neg hx.val)
  go_enter Tryz.func21, Tryz.ntmps21
  have S0 := Lib.hid (Sx.start (w := w) (N := [.rx m ao n cap k bo l cb x d q j]) ⟨hx, trivial⟩)
  clear hx
  have S1 := Lib.hid (S0.out.var (w.heap.size) [.bool m, .slice ao n cap, .bool k, .slice bo l cb] 26 (by simp))
  clear S0
  have S2 := Lib.hid (S1.out.var (w.heap.size + 1) [.bool false, .slice none 0 0, .bool false, .slice none 0 0] 26 (by simp))
  clear S1
  go_upto_region 1 with (fail)
  refine wp_world (fun w1 hW => ?_)
  rw [← hW] at S2
  clear hW
  have S3 := Lib.hid (S2.out.drew)
  clear S2
  refine wp_region_held_drew (S := fun w' => (w'.cell? ⟨(w.heap.size), 0, none⟩ = some (.bool m) ∧ w'.cell? ⟨(w.heap.size), 1, none⟩ = some (.slice ao n cap) ∧ w'.cell? ⟨(w.heap.size), 2, none⟩ = some (.bool k) ∧ w'.cell? ⟨(w.heap.size), 3, none⟩ = some (.slice bo l cb))) (by kernel_rfl) ((S3.out.b.t.c4)) (fun hH => ?_)
  refine anyH_world (fun w2 hW => ?_)
  rw [← hW] at S3 hH
  clear hW
  refine step_on 0 rfl (by kernel_rfl) (fun _ _ _ h => h) (by rfl) hH (by intro w hS; go_simp <;> with_reducible rfl) ?_
  try simp only [nrm]
  refine step_on 1 rfl (by kernel_rfl) (fun _ _ _ h => h) (by rfl) hH (by intro w hS; go_simp <;> with_reducible rfl) ?_
  try simp only [nrm]
  refine step_on 3 rfl (by kernel_rfl) (fun _ _ _ h => h) (by rfl) hH (by intro w hS; go_simp <;> with_reducible rfl) ?_
  try simp only [nrm]
  refine step_on 4 rfl (by kernel_rfl) (fun _ _ _ h => h) (by rfl) hH (by intro w hS; go_simp <;> with_reducible rfl) ?_
  try simp only [nrm]
  refine step_one 2 rfl (by kernel_rfl) (fun K hK => ?_)
  go_simp
  refine (wneg_any S3.out.n.rx.num).mono ?_
  rintro e w3 ⟨r1_m, r1_0, r1_n, r1_c, rfl, hX, hB⟩
  have S4 := Lib.hid (((S3.out.step hB).cb (hX.cb (S3.out.n.rx.bn.neg) (by omega)) rfl))
  clear S3 hX hB
  go_wp2_with fail
  refine hK.out _ _ (S4.out.b.t.c4) (fun h2 => ?_)
  clear hK K hH
  have hH := h2
  clear h2
  try simp only [nrm]
  refine step_on 5 rfl (by kernel_rfl) (fun _ _ _ h => h) (by rfl) hH (by intro w hS; go_simp <;> with_reducible rfl) ?_
  try simp only [nrm]
  refine step_one 6 rfl (by kernel_rfl) (fun K hK => ?_)
  go_simp
  refine (lowest_any (⟨S4.out.n.cb.cx.nx, S4.out.n.t.rx.den, HV.out, S4.out.n.cb.bd.mono (by omega), S4.out.n.t.rx.bd.mono (by omega)⟩ : Rx _ _ _ _ _ _ _ _ _ _ _ (-q) j) (by omega) (by omega)).mono ?_
  rintro e w4 ⟨r2_m, r2_0, r2_n, r2_c, r2_k, r2_1, r2_l, r2_d, rfl, hX, hB⟩
  have S5 := Lib.hid (((S4.out.step hB).rc hX rfl))
  clear S4 hX hB
  go_wp2_with fail
  refine hK.out _ _ (S5.out.b.t.c4) (fun h2 => ?_)
  clear hK K hH
  have hH := h2
  clear h2
  try simp only [nrm]
  refine step_one 7 rfl (by kernel_rfl) (fun K hK => ?_)
  obtain ⟨c_b2_0, c_b2_1, c_b2_2, c_b2_3⟩ := S5.out.b.c4
  obtain ⟨f_b2_0, f_b2_1, f_b2_2, f_b2_3⟩ := S5.out.b.f4
  go_simp
  clear c_b2_0 c_b2_1 c_b2_2 c_b2_3 f_b2_0 f_b2_1 f_b2_2 f_b2_3
  have S6 : Hid (Sx w _ [⟨(w.heap.size + 1), [.bool r2_m, .slice r2_0 r2_n r2_c, .bool r2_k, .slice r2_1 r2_l r2_d]⟩, ⟨(w.heap.size), [.bool m, .slice ao n cap, .bool k, .slice bo l cb]⟩] _) := Lib.hid (Sx.set [] [⟨(w.heap.size), [.bool m, .slice ao n cap, .bool k, .slice bo l cb]⟩] (Sx.set [] [⟨(w.heap.size), [.bool m, .slice ao n cap, .bool k, .slice bo l cb]⟩] (Sx.set [] [⟨(w.heap.size), [.bool m, .slice ao n cap, .bool k, .slice bo l cb]⟩] (Sx.set [] [⟨(w.heap.size), [.bool m, .slice ao n cap, .bool k, .slice bo l cb]⟩] S5.out 0 (.bool r2_m)) 1 (.slice r2_0 r2_n r2_c)) 2 (.bool r2_k)) 3 (.slice r2_1 r2_l r2_d))
  clear S5
  refine hK.out _ _ (S6.out.b.t.c4) (fun h2 => ?_)
  clear hK K hH
  have hH := h2
  clear h2
  try simp only [nrm]
  refine anyH_world (fun w5 hW => ?_)
  rw [← hW] at S6 hH
  clear hW
  refine wpAnyH_done (by kernel_rfl) ?_ _
  clear hH
  obtain ⟨c_b2_0, c_b2_1, c_b2_2, c_b2_3⟩ := S6.out.b.c4
  obtain ⟨f_b2_0, f_b2_1, f_b2_2, f_b2_3⟩ := S6.out.b.f4
  go_wp2_with fail
  refine bodyPost_ret (v := .agg #[.bool r2_m, .slice r2_0 r2_n r2_c, .bool r2_k, .slice r2_1 r2_l r2_d]) (by simp [results, Tryz.results21, go_sem, c_b2_0, c_b2_1, c_b2_2, c_b2_3]) rfl ?_
  exact ⟨_, _, _, _, _, _, _, _, rfl, S6.out.n.rc, S6.out.h⟩

set_option maxHeartbeats 1000000 in
set_option maxRecDepth 100000 in
theorem rmul_any {m : Bool} {ao : Option Addr} {n cap : Nat} {k : Bool} {bo : Option Addr} {l cb : Nat} {m2 : Bool} {a2 : Option Addr} {n2 c2 : Nat} {k2 : Bool} {b2 : Option Addr} {l2 d2 : Nat} {x d y c : Int} {q r : Rat} {j i : Nat} {w : World} (hx : Rx w m ao n cap k bo l cb x d q j) (hy : Rx w m2 a2 n2 c2 k2 b2 l2 d2 y c r i) (hj : 1 ≤ j) (hi : 1 ≤ i) (hk : j + i + 1 ≤ 100000) :
    Calls Tryz.prog 19 #[.agg #[.bool m, .slice ao n cap, .bool k, .slice bo l cb], .agg #[.bool m2, .slice a2 n2 c2, .bool k2, .slice b2 l2 d2]] w (NewR w (q * r) (j + i)) := by
  have HV := Lib.hid (qv_mul hx.val hy.val)
  go_enter Tryz.func19, Tryz.ntmps19
  have S0 := Lib.hid (Sx.start (w := w) (N := [.rx m ao n cap k bo l cb x d q j, .rx m2 a2 n2 c2 k2 b2 l2 d2 y c r i]) ⟨hx, hy, trivial⟩)
  clear hx hy
  have S1 := Lib.hid (S0.out.var (w.heap.size) [.bool m, .slice ao n cap, .bool k, .slice bo l cb] 26 (by simp))
  clear S0
  have S2 := Lib.hid (S1.out.var (w.heap.size + 1) [.bool m2, .slice a2 n2 c2, .bool k2, .slice b2 l2 d2] 26 (by simp))
  clear S1
  have S3 := Lib.hid (S2.out.var (w.heap.size + 2) [.bool false, .slice none 0 0, .bool false, .slice none 0 0] 26 (by simp))
  clear S2
  go_upto_region 1 with (fail)
  refine wp_world (fun w1 hW => ?_)
  rw [← hW] at S3
  clear hW
  have S4 := Lib.hid (S3.out.drew)
  clear S3
  refine wp_region_held_drew (S := fun w' => (w'.cell? ⟨(w.heap.size), 0, none⟩ = some (.bool m) ∧ w'.cell? ⟨(w.heap.size), 1, none⟩ = some (.slice ao n cap) ∧ w'.cell? ⟨(w.heap.size), 2, none⟩ = some (.bool k) ∧ w'.cell? ⟨(w.heap.size), 3, none⟩ = some (.slice bo l cb)) ∧ (w'.cell? ⟨(w.heap.size + 1), 0, none⟩ = some (.bool m2) ∧ w'.cell? ⟨(w.heap.size + 1), 1, none⟩ = some (.slice a2 n2 c2) ∧ w'.cell? ⟨(w.heap.size + 1), 2, none⟩ = some (.bool k2) ∧ w'.cell? ⟨(w.heap.size + 1), 3, none⟩ = some (.slice b2 l2 d2))) (by kernel_rfl) (⟨S4.out.b.t.t.c4, S4.out.b.t.c4⟩) (fun hH => ?_)
  refine anyH_world (fun w2 hW => ?_)
  rw [← hW] at S4 hH
  clear hW
  refine step_on 0 rfl (by kernel_rfl) (fun _ _ _ h => h) (by rfl) hH (by intro w hS; go_simp <;> with_reducible rfl) ?_
  try simp only [nrm]
  refine step_on 1 rfl (by kernel_rfl) (fun _ _ _ h => h) (by rfl) hH (by intro w hS; go_simp <;> with_reducible rfl) ?_
  try simp only [nrm]
  refine step_on 2 rfl (by kernel_rfl) (fun _ _ _ h => h) (by rfl) hH (by intro w hS; go_simp <;> with_reducible rfl) ?_
  try simp only [nrm]
  refine step_on 3 rfl (by kernel_rfl) (fun _ _ _ h => h) (by rfl) hH (by intro w hS; go_simp <;> with_reducible rfl) ?_
  try simp only [nrm]
  refine step_on 5 rfl (by kernel_rfl) (fun _ _ _ h => h) (by rfl) hH (by intro w hS; go_simp <;> with_reducible rfl) ?_
  try simp only [nrm]
  refine step_on 7 rfl (by kernel_rfl) (fun _ _ _ h => h) (by rfl) hH (by intro w hS; go_simp <;> with_reducible rfl) ?_
  try simp only [nrm]
  refine step_one 4 rfl (by kernel_rfl) (fun K hK => ?_)
  go_simp
  refine (wmul_any S4.out.n.rx.num S4.out.n.t.rx.num).mono ?_
  rintro e w3 ⟨r1_m, r1_0, r1_n, r1_c, rfl, hX, hB⟩
  have S5 := Lib.hid (((S4.out.step hB).cb (hX.cb (S4.out.n.rx.bn.mul S4.out.n.t.rx.bn) (by omega)) rfl))
  clear S4 hX hB
  go_wp2_with fail
  refine hK.out _ _ ⟨S5.out.b.t.t.c4, S5.out.b.t.c4⟩ (fun h2 => ?_)
  clear hK K hH
  have hH := h2
  clear h2
  try simp only [nrm]
  refine step_one 6 rfl (by kernel_rfl) (fun K hK => ?_)
  go_simp
  refine (den_any S5.out.n.t.rx).mono ?_
  rintro e w4 ⟨r2_m, r2_0, r2_n, r2_c, rfl, hX, hB⟩
  have S6 := Lib.hid (((S5.out.step hB).nb ⟨hX, dn_bd S5.out.n.t.rx.bd (by omega)⟩ rfl))
  clear S5 hX hB
  go_wp2_with fail
  refine hK.out _ _ ⟨S6.out.b.t.t.c4, S6.out.b.t.c4⟩ (fun h2 => ?_)
  clear hK K hH
  have hH := h2
  clear h2
  try simp only [nrm]
  refine step_one 8 rfl (by kernel_rfl) (fun K hK => ?_)
  go_simp
  refine (den_any S6.out.n.t.t.t.rx).mono ?_
  rintro e w5 ⟨r3_m, r3_0, r3_n, r3_c, rfl, hX, hB⟩
  have S7 := Lib.hid (((S6.out.step hB).nb ⟨hX, dn_bd S6.out.n.t.t.t.rx.bd (by omega)⟩ rfl))
  clear S6 hX hB
  go_wp2_with fail
  refine hK.out _ _ ⟨S7.out.b.t.t.c4, S7.out.b.t.c4⟩ (fun h2 => ?_)
  clear hK K hH
  have hH := h2
  clear h2
  try simp only [nrm]
  refine step_one 9 rfl (by kernel_rfl) (fun K hK => ?_)
  go_simp
  refine (wmul_any S7.out.n.t.nb.nx S7.out.n.nb.nx).mono ?_
  rintro e w6 ⟨r4_m, r4_0, r4_n, r4_c, rfl, hX, hB⟩
  have S8 := Lib.hid (((S7.out.step hB).cb (hX.cb (S7.out.n.t.nb.bd.mul S7.out.n.nb.bd) (by omega)) rfl))
  clear S7 hX hB
  go_wp2_with fail
  refine hK.out _ _ ⟨S8.out.b.t.t.c4, S8.out.b.t.c4⟩ (fun h2 => ?_)
  clear hK K hH
  have hH := h2
  clear h2
  try simp only [nrm]
  refine step_on 10 rfl (by kernel_rfl) (fun _ _ _ h => h) (by rfl) hH (by intro w hS; go_simp <;> with_reducible rfl) ?_
  try simp only [nrm]
  refine step_one 11 rfl (by kernel_rfl) (fun K hK => ?_)
  go_simp
  refine (lowest_any (⟨S8.out.n.t.t.t.cb.cx.nx, S8.out.n.cb.cx.nx, HV.out, S8.out.n.t.t.t.cb.bd.mono (by omega), S8.out.n.cb.bd.mono (by omega)⟩ : Rx _ _ _ _ _ _ _ _ _ _ _ (q * r) (j + i)) (by omega) (by omega)).mono ?_
  rintro e w7 ⟨r5_m, r5_0, r5_n, r5_c, r5_k, r5_1, r5_l, r5_d, rfl, hX, hB⟩
  have S9 := Lib.hid (((S8.out.step hB).rc hX rfl))
  clear S8 hX hB
  go_wp2_with fail
  refine hK.out _ _ ⟨S9.out.b.t.t.c4, S9.out.b.t.c4⟩ (fun h2 => ?_)
  clear hK K hH
  have hH := h2
  clear h2
  try simp only [nrm]
  refine step_one 12 rfl (by kernel_rfl) (fun K hK => ?_)
  obtain ⟨c_b4_0, c_b4_1, c_b4_2, c_b4_3⟩ := S9.out.b.c4
  obtain ⟨f_b4_0, f_b4_1, f_b4_2, f_b4_3⟩ := S9.out.b.f4
  go_simp
  clear c_b4_0 c_b4_1 c_b4_2 c_b4_3 f_b4_0 f_b4_1 f_b4_2 f_b4_3
  have S10 : Hid (Sx w _ [⟨(w.heap.size + 2), [.bool r5_m, .slice r5_0 r5_n r5_c, .bool r5_k, .slice r5_1 r5_l r5_d]⟩, ⟨(w.heap.size + 1), [.bool m2, .slice a2 n2 c2, .bool k2, .slice b2 l2 d2]⟩, ⟨(w.heap.size), [.bool m, .slice ao n cap, .bool k, .slice bo l cb]⟩] _) := Lib.hid (Sx.set [] [⟨(w.heap.size + 1), [.bool m2, .slice a2 n2 c2, .bool k2, .slice b2 l2 d2]⟩, ⟨(w.heap.size), [.bool m, .slice ao n cap, .bool k, .slice bo l cb]⟩] (Sx.set [] [⟨(w.heap.size + 1), [.bool m2, .slice a2 n2 c2, .bool k2, .slice b2 l2 d2]⟩, ⟨(w.heap.size), [.bool m, .slice ao n cap, .bool k, .slice bo l cb]⟩] (Sx.set [] [⟨(w.heap.size + 1), [.bool m2, .slice a2 n2 c2, .bool k2, .slice b2 l2 d2]⟩, ⟨(w.heap.size), [.bool m, .slice ao n cap, .bool k, .slice bo l cb]⟩] (Sx.set [] [⟨(w.heap.size + 1), [.bool m2, .slice a2 n2 c2, .bool k2, .slice b2 l2 d2]⟩, ⟨(w.heap.size), [.bool m, .slice ao n cap, .bool k, .slice bo l cb]⟩] S9.out 0 (.bool r5_m)) 1 (.slice r5_0 r5_n r5_c)) 2 (.bool r5_k)) 3 (.slice r5_1 r5_l r5_d))
  clear S9
  refine hK.out _ _ ⟨S10.out.b.t.t.c4, S10.out.b.t.c4⟩ (fun h2 => ?_)
  clear hK K hH
  have hH := h2
  clear h2
  try simp only [nrm]
  refine anyH_world (fun w8 hW => ?_)
  rw [← hW] at S10 hH
  clear hW
  refine wpAnyH_done (by kernel_rfl) ?_ _
  clear hH
  obtain ⟨c_b4_0, c_b4_1, c_b4_2, c_b4_3⟩ := S10.out.b.c4
  obtain ⟨f_b4_0, f_b4_1, f_b4_2, f_b4_3⟩ := S10.out.b.f4
  go_wp2_with fail
  refine bodyPost_ret (v := .agg #[.bool r5_m, .slice r5_0 r5_n r5_c, .bool r5_k, .slice r5_1 r5_l r5_d]) (by simp [results, Tryz.results19, go_sem, c_b4_0, c_b4_1, c_b4_2, c_b4_3]) rfl ?_
  exact ⟨_, _, _, _, _, _, _, _, rfl, S10.out.n.rc, S10.out.h⟩

set_option maxHeartbeats 1000000 in
set_option maxRecDepth 100000 in
theorem rwhole_any {m : Bool} {ao : Option Addr} {n cap : Nat} {x : Int} {j : Nat} {w : World} (hx : Nx w m ao n cap x) (hb : Bd x j) (h1 : 1 ≤ j) (h2 : j ≤ 100000) :
    Calls Tryz.prog 30 #[.agg #[.bool m, .slice ao n cap]] w (NewR w (qv x 0) j) := by
  have hz0 := zero_cb w
  have hxb : Nb w m ao n cap x j := ⟨hx, hb⟩
  clear hx hb
  go_enter Tryz.func30, Tryz.ntmps30
  have S0 := Lib.hid (Sx.start (w := w) (N := [.nb m ao n cap x j, .cb false none 0 0 (0 : Int) 1]) ⟨hxb, hz0, trivial⟩)
  clear hxb hz0
  have S1 := Lib.hid (S0.out.var (w.heap.size) [.bool m, .slice ao n cap] 24 (by simp))
  clear S0
  have S2 := Lib.hid (S1.out.var (w.heap.size + 1) [.bool false, .slice none 0 0, .bool false, .slice none 0 0] 26 (by simp))
  clear S1
  go_upto_region 1 with (fail)
  refine wp_world (fun w1 hW => ?_)
  rw [← hW] at S2
  clear hW
  obtain ⟨c_b1_0, c_b1_1⟩ := S2.out.b.t.c2
  go_wp2_with fail
  clear c_b1_0 c_b1_1
  refine (lowest_any (⟨S2.out.n.nb.nx, S2.out.n.t.cb.cx.nx, rfl, S2.out.n.nb.bd.mono (by omega), S2.out.n.t.cb.bd.mono (by omega)⟩ : Rx _ _ _ _ _ _ _ _ _ _ _ (qv x 0) j) (by omega) (by omega)).mono ?_
  rintro e w2 ⟨r1_m, r1_0, r1_n, r1_c, r1_k, r1_1, r1_l, r1_d, rfl, hX, hB⟩
  have S3 := Lib.hid (((S2.out.step hB).rc hX rfl))
  clear S2 hX hB
  obtain ⟨c_b2_0, c_b2_1, c_b2_2, c_b2_3⟩ := S3.out.b.c4
  obtain ⟨f_b2_0, f_b2_1, f_b2_2, f_b2_3⟩ := S3.out.b.f4
  go_wp2_with fail
  have S4 : Hid (Sx w _ [⟨(w.heap.size + 1), [.bool r1_m, .slice r1_0 r1_n r1_c, .bool r1_k, .slice r1_1 r1_l r1_d]⟩, ⟨(w.heap.size), [.bool m, .slice ao n cap]⟩] _) := Lib.hid (Sx.set [] [⟨(w.heap.size), [.bool m, .slice ao n cap]⟩] (Sx.set [] [⟨(w.heap.size), [.bool m, .slice ao n cap]⟩] (Sx.set [] [⟨(w.heap.size), [.bool m, .slice ao n cap]⟩] (Sx.set [] [⟨(w.heap.size), [.bool m, .slice ao n cap]⟩] S3.out 0 (.bool r1_m)) 1 (.slice r1_0 r1_n r1_c)) 2 (.bool r1_k)) 3 (.slice r1_1 r1_l r1_d))
  clear S3
  refine bodyPost_ret (v := .agg #[.bool r1_m, .slice r1_0 r1_n r1_c, .bool r1_k, .slice r1_1 r1_l r1_d]) (by simp [results, Tryz.results30, go_sem, c_b2_0, c_b2_1, c_b2_2, c_b2_3]) rfl ?_
  exact ⟨_, _, _, _, _, _, _, _, rfl, S4.out.n.rc, S4.out.h⟩

end Go.Proofs.YteceomlbnajihaaGreatDoor
