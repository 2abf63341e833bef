/-
  The contracts of ratio.Of, Small, Div.
-/
import Derived.Test.YteceomlbnajihaaGreatDoorRatioFld
import Derived.Test.YteceomlbnajihaaGreatDoorGWA
import Derived.Deep.Cut
import Derived.Deep.CutRange
set_option maxRecDepth 8192
namespace Go.Proofs.YteceomlbnajihaaGreatDoor
open Go.RowKit

theorem qv_div {x d y c : Int} {q r : Rat} (hq : qv x d = q) (hr : qv y c = r) : Rat.divInt (x * dn c) (dn d * y) = q / r := by
  rw [← hq, ← hr, qv_dn, qv_dn, Rat.div_def, Rat.inv_divInt, Rat.divInt_mul_divInt]
theorem qv_zero {y c : Int} {r : Rat} (hr : qv y c = r) : r = 0 ↔ y = 0 := by
  rw [← hr, qv_dn, q_zero (dn_ne c)]
theorem qv_low {d y c : Int} {r : Rat} (hr : qv y c = r) (h : r ≠ 0) : dn d * y ≠ 0 := fun e => by
  rcases Int.mul_eq_zero.1 e with h1 | h1
  · exact dn_ne d h1
  · exact h ((qv_zero hr).2 h1)
theorem sg0 {d s : Int} (hs : d.sign = s) : (s == 0) = decide (d = 0) := by
  rw [← hs, Bool.eq_iff_iff]; simp [Int.sign_eq_zero_iff_zero]

set_option maxHeartbeats 1000000 in
set_option maxRecDepth 100000 in
theorem rof_zero {m : Bool} {ao : Option Addr} {n cap : Nat} {k : Bool} {bo : Option Addr} {l cb : Nat} {x d : Int} {w : World} (hx : Nx w m ao n cap x) (hd : Nx w k bo l cb d) (h0 : d = 0) :
    Calls Tryz.prog 33 #[.agg #[.bool m, .slice ao n cap], .agg #[.bool k, .slice bo l cb]] w (RetB (.tuple #[.agg #[.bool false, .slice none 0 0, .bool false, .slice none 0 0], .int .i64 7]) w) := by
  obtain ⟨s, hs⟩ : ∃ s, d.sign = s := ⟨_, rfl⟩
  have e1 : (s == 0) = true := by rw [sg0 hs]; simpa using h0
  have HS := Lib.hid hs
  clear hs h0
  go_enter Tryz.func33, Tryz.ntmps33
  have S0 := Lib.hid (Sx.start (w := w) (N := [.nx m ao n cap x, .nx k bo l cb d]) ⟨hx, hd, trivial⟩)
  clear hx hd
  have S1 := Lib.hid (S0.out.var (w.heap.size) [.bool m, .slice ao n cap] 24 (by simp))
  clear S0
  have S2 := Lib.hid (S1.out.var (w.heap.size + 1) [.bool k, .slice bo l cb] 24 (by simp))
  clear S1
  have S3 := Lib.hid (S2.out.var (w.heap.size + 2) [.bool false, .slice none 0 0, .bool false, .slice none 0 0] 26 (by simp))
  clear S2
  go_upto_region 1 with (fail)
  refine wp_world (fun w1 hW => ?_)
  rw [← hW] at S3
  clear hW
  obtain ⟨c_b3_0, c_b3_1⟩ := S3.out.b.t.c2
  go_wp2_with fail
  clear c_b3_0 c_b3_1
  refine (wsign_is (s) S3.out.n.t.nx (HS.out)).mono ?_
  rintro e w2 ⟨rfl, hB⟩
  have S4 := Lib.hid ((S3.out.step hB))
  clear S3 hB
  obtain ⟨c_b4_0, c_b4_1, c_b4_2, c_b4_3⟩ := S4.out.b.c4
  obtain ⟨f_b4_0, f_b4_1, f_b4_2, f_b4_3⟩ := S4.out.b.f4
  go_wp2_with fail
  have S5 : Hid (Sx w _ [⟨(w.heap.size + 2), [.bool false, .slice none 0 0, .bool false, .slice none 0 0]⟩, ⟨(w.heap.size + 1), [.bool k, .slice bo l cb]⟩, ⟨(w.heap.size), [.bool m, .slice ao n cap]⟩] _) := Lib.hid (Sx.set [] [⟨(w.heap.size + 1), [.bool k, .slice bo l cb]⟩, ⟨(w.heap.size), [.bool m, .slice ao n cap]⟩] (Sx.set [] [⟨(w.heap.size + 1), [.bool k, .slice bo l cb]⟩, ⟨(w.heap.size), [.bool m, .slice ao n cap]⟩] (Sx.set [] [⟨(w.heap.size + 1), [.bool k, .slice bo l cb]⟩, ⟨(w.heap.size), [.bool m, .slice ao n cap]⟩] (Sx.set [] [⟨(w.heap.size + 1), [.bool k, .slice bo l cb]⟩, ⟨(w.heap.size), [.bool m, .slice ao n cap]⟩] S4.out 0 (.bool false)) 1 (.slice none 0 0)) 2 (.bool false)) 3 (.slice none 0 0))
  clear S4
  refine bodyPost_ret (v := .tuple #[.agg #[.bool false, .slice none 0 0, .bool false, .slice none 0 0], .int .i64 7]) (by simp [results, Tryz.results33, go_sem, c_b4_0, c_b4_1, c_b4_2, c_b4_3]) rfl ?_
  exact ⟨rfl, S5.out.h⟩

set_option maxHeartbeats 1000000 in
set_option maxRecDepth 100000 in
theorem rof_any {m : Bool} {ao : Option Addr} {n cap : Nat} {k : Bool} {bo : Option Addr} {l cb : Nat} {x d : Int} {q : Rat} {j : Nat} {w : World} (hx : Nx w m ao n cap x) (hd : Nx w k bo l cb d) (h0 : d ≠ 0) (hv : Rat.divInt x d = q) (bx : Bd x j) (bd : Bd d j) (h1 : 1 ≤ j) (h2 : j ≤ 100000) :
    Calls Tryz.prog 33 #[.agg #[.bool m, .slice ao n cap], .agg #[.bool k, .slice bo l cb]] w (NewRE w q j 0) := by
  obtain ⟨s, hs⟩ : ∃ s, d.sign = s := ⟨_, rfl⟩
  have e1 : (s == 0) = false := by rw [sg0 hs]; simpa using h0
  have HS := Lib.hid hs
  have HV : Hid (qv x d = q) := by rw [Hid, qv_of h0]; exact hv
  have hx1 : Nb w m ao n cap x j := ⟨hx, bx⟩
  have hd1 : Nb w k bo l cb d j := ⟨hd, bd⟩
  clear hs h0 hv hx hd bx bd
  go_enter Tryz.func33, Tryz.ntmps33
  have S0 := Lib.hid (Sx.start (w := w) (N := [.nb m ao n cap x j, .nb k bo l cb d j]) ⟨hx1, hd1, trivial⟩)
  clear hx1 hd1
  have S1 := Lib.hid (S0.out.var (w.heap.size) [.bool m, .slice ao n cap] 24 (by simp))
  clear S0
  have S2 := Lib.hid (S1.out.var (w.heap.size + 1) [.bool k, .slice bo l cb] 24 (by simp))
  clear S1
  have S3 := Lib.hid (S2.out.var (w.heap.size + 2) [.bool false, .slice none 0 0, .bool false, .slice none 0 0] 26 (by simp))
  clear S2
  go_upto_region 1 with (fail)
  refine wp_world (fun w1 hW => ?_)
  rw [← hW] at S3
  clear hW
  obtain ⟨c_b3_0, c_b3_1⟩ := S3.out.b.t.c2
  go_wp2_with fail
  clear c_b3_0 c_b3_1
  refine (wsign_is (s) S3.out.n.t.nb.nx (HS.out)).mono ?_
  rintro e w2 ⟨rfl, hB⟩
  have S4 := Lib.hid ((S3.out.step hB))
  clear S3 hB
  obtain ⟨c_b2_0, c_b2_1⟩ := S4.out.b.t.t.c2
  obtain ⟨c_b3_0, c_b3_1⟩ := S4.out.b.t.c2
  go_wp2_with fail
  clear c_b2_0 c_b2_1 c_b3_0 c_b3_1
  refine (lowest_any (⟨S4.out.n.nb.nx, S4.out.n.t.nb.nx, HV.out, S4.out.n.nb.bd.mono (by omega), S4.out.n.t.nb.bd.mono (by omega)⟩ : Rx _ _ _ _ _ _ _ _ _ _ _ q j) (by omega) (by omega)).mono ?_
  rintro e w3 ⟨r1_m, r1_0, r1_n, r1_c, r1_k, r1_1, r1_l, r1_d, rfl, hX, hB⟩
  have S5 := Lib.hid (((S4.out.step hB).rc hX rfl))
  clear S4 hX hB
  obtain ⟨c_b4_0, c_b4_1, c_b4_2, c_b4_3⟩ := S5.out.b.c4
  obtain ⟨f_b4_0, f_b4_1, f_b4_2, f_b4_3⟩ := S5.out.b.f4
  go_wp2_with fail
  have S6 : Hid (Sx w _ [⟨(w.heap.size + 2), [.bool r1_m, .slice r1_0 r1_n r1_c, .bool r1_k, .slice r1_1 r1_l r1_d]⟩, ⟨(w.heap.size + 1), [.bool k, .slice bo l cb]⟩, ⟨(w.heap.size), [.bool m, .slice ao n cap]⟩] _) := Lib.hid (Sx.set [] [⟨(w.heap.size + 1), [.bool k, .slice bo l cb]⟩, ⟨(w.heap.size), [.bool m, .slice ao n cap]⟩] (Sx.set [] [⟨(w.heap.size + 1), [.bool k, .slice bo l cb]⟩, ⟨(w.heap.size), [.bool m, .slice ao n cap]⟩] (Sx.set [] [⟨(w.heap.size + 1), [.bool k, .slice bo l cb]⟩, ⟨(w.heap.size), [.bool m, .slice ao n cap]⟩] (Sx.set [] [⟨(w.heap.size + 1), [.bool k, .slice bo l cb]⟩, ⟨(w.heap.size), [.bool m, .slice ao n cap]⟩] S5.out 0 (.bool r1_m)) 1 (.slice r1_0 r1_n r1_c)) 2 (.bool r1_k)) 3 (.slice r1_1 r1_l r1_d))
  clear S5
  refine bodyPost_ret (v := .tuple #[.agg #[.bool r1_m, .slice r1_0 r1_n r1_c, .bool r1_k, .slice r1_1 r1_l r1_d], .int .i64 0]) (by simp [results, Tryz.results33, go_sem, c_b4_0, c_b4_1, c_b4_2, c_b4_3]) rfl ?_
  exact ⟨_, _, _, _, _, _, _, _, rfl, S6.out.n.rc, S6.out.h⟩

set_option maxHeartbeats 1000000 in
set_option maxRecDepth 100000 in
theorem rsmall_zero0 (a b : Int) (w : World) (h64_a : -9223372036854775808 ≤ a ∧ a ≤ 9223372036854775807) (h64_b : -9223372036854775808 ≤ b ∧ b ≤ 9223372036854775807) (h0 : b = 0) :
    Calls Tryz.prog 34 #[.int .i64 a, .int .i64 b] w (RetB (.tuple #[.agg #[.bool false, .slice none 0 0, .bool false, .slice none 0 0], .int .i64 7]) w) := by
  have H0 := Lib.hid h0
  clear h0
  go_enter Tryz.func34, Tryz.ntmps34
  have S0 := Lib.hid (Sx.start (w := w) (N := []) trivial)
  have S1 := Lib.hid (S0.out.var (w.heap.size) [.bool false, .slice none 0 0, .bool false, .slice none 0 0] 26 (by simp))
  clear S0
  go_upto_region 1 with (fail)
  refine wp_world (fun w1 hW => ?_)
  rw [← hW] at S1
  clear hW
  go_wp2_with fail
  refine (wof_any (a) _ h64_a).mono ?_
  rintro e w2 ⟨r1_m, r1_0, r1_n, r1_c, rfl, hX, hB⟩
  have S2 := Lib.hid (((S1.out.step hB).cb (hX.cb (bd64 h64_a) (by omega)) rfl))
  clear S1 hX hB
  go_wp2_with fail
  refine (wof_any (b) _ h64_b).mono ?_
  rintro e w3 ⟨r2_m, r2_0, r2_n, r2_c, rfl, hX, hB⟩
  have S3 := Lib.hid (((S2.out.step hB).cb (hX.cb (bd64 h64_b) (by omega)) rfl))
  clear S2 hX hB
  go_wp2_with fail
  refine (rof_zero S3.out.n.t.cb.cx.nx S3.out.n.cb.cx.nx (H0.out)).mono ?_
  rintro e w4 ⟨rfl, hB⟩
  have S4 := Lib.hid ((S3.out.step hB))
  clear S3 hB
  obtain ⟨c_b4_0, c_b4_1, c_b4_2, c_b4_3⟩ := S4.out.b.c4
  obtain ⟨f_b4_0, f_b4_1, f_b4_2, f_b4_3⟩ := S4.out.b.f4
  go_wp2_with fail
  have S5 : Hid (Sx w _ [⟨(w.heap.size), [.bool false, .slice none 0 0, .bool false, .slice none 0 0]⟩] _) := Lib.hid (Sx.set [] [] (Sx.set [] [] (Sx.set [] [] (Sx.set [] [] S4.out 0 (.bool false)) 1 (.slice none 0 0)) 2 (.bool false)) 3 (.slice none 0 0))
  clear S4
  refine bodyPost_ret (v := .tuple #[.agg #[.bool false, .slice none 0 0, .bool false, .slice none 0 0], .int .i64 7]) (by simp [results, Tryz.results34, go_sem, c_b4_0, c_b4_1, c_b4_2, c_b4_3]) rfl ?_
  exact ⟨rfl, S5.out.h⟩

theorem rsmall_zero (a : Int) (h64_a : -9223372036854775808 ≤ a ∧ a ≤ 9223372036854775807) (w : World) {b : Int} (h0 : b = 0) :
    Calls Tryz.prog 34 #[.int .i64 a, .int .i64 b] w (RetB (.tuple #[.agg #[.bool false, .slice none 0 0, .bool false, .slice none 0 0], .int .i64 7]) w) := rsmall_zero0 a b w h64_a (by omega) h0

set_option maxHeartbeats 1000000 in
set_option maxRecDepth 100000 in
theorem rsmall_q (a b : Int) (q : Rat) (w : World) (h64_a : -9223372036854775808 ≤ a ∧ a ≤ 9223372036854775807) (h64_b : -9223372036854775808 ≤ b ∧ b ≤ 9223372036854775807) (h0 : b ≠ 0) (hv : Rat.divInt a b = q) :
    Calls Tryz.prog 34 #[.int .i64 a, .int .i64 b] w (NewRE w q 2 0) := by
  have H0 := Lib.hid h0
  have HV := Lib.hid hv
  clear hv
  clear h0
  go_enter Tryz.func34, Tryz.ntmps34
  have S0 := Lib.hid (Sx.start (w := w) (N := []) trivial)
  have S1 := Lib.hid (S0.out.var (w.heap.size) [.bool false, .slice none 0 0, .bool false, .slice none 0 0] 26 (by simp))
  clear S0
  go_upto_region 1 with (fail)
  refine wp_world (fun w1 hW => ?_)
  rw [← hW] at S1
  clear hW
  go_wp2_with fail
  refine (wof_any (a) _ h64_a).mono ?_
  rintro e w2 ⟨r1_m, r1_0, r1_n, r1_c, rfl, hX, hB⟩
  have S2 := Lib.hid (((S1.out.step hB).cb (hX.cb (bd64 h64_a) (by omega)) rfl))
  clear S1 hX hB
  go_wp2_with fail
  refine (wof_any (b) _ h64_b).mono ?_
  rintro e w3 ⟨r2_m, r2_0, r2_n, r2_c, rfl, hX, hB⟩
  have S3 := Lib.hid (((S2.out.step hB).cb (hX.cb (bd64 h64_b) (by omega)) rfl))
  clear S2 hX hB
  go_wp2_with fail
  refine (rof_any S3.out.n.t.cb.cx.nx S3.out.n.cb.cx.nx (H0.out) (show Rat.divInt a b = q from HV.out) (S3.out.n.t.cb.bd.mono (show _ ≤ 2 by omega)) (S3.out.n.cb.bd.mono (by omega)) (by omega) (by omega)).mono ?_
  rintro e w4 ⟨r3_m, r3_0, r3_n, r3_c, r3_k, r3_1, r3_l, r3_d, rfl, hX, hB⟩
  have S4 := Lib.hid (((S3.out.step hB).rc hX rfl))
  clear S3 hX hB
  obtain ⟨c_b4_0, c_b4_1, c_b4_2, c_b4_3⟩ := S4.out.b.c4
  obtain ⟨f_b4_0, f_b4_1, f_b4_2, f_b4_3⟩ := S4.out.b.f4
  go_wp2_with fail
  have S5 : Hid (Sx w _ [⟨(w.heap.size), [.bool r3_m, .slice r3_0 r3_n r3_c, .bool r3_k, .slice r3_1 r3_l r3_d]⟩] _) := Lib.hid (Sx.set [] [] (Sx.set [] [] (Sx.set [] [] (Sx.set [] [] S4.out 0 (.bool r3_m)) 1 (.slice r3_0 r3_n r3_c)) 2 (.bool r3_k)) 3 (.slice r3_1 r3_l r3_d))
  clear S4
  refine bodyPost_ret (v := .tuple #[.agg #[.bool r3_m, .slice r3_0 r3_n r3_c, .bool r3_k, .slice r3_1 r3_l r3_d], .int .i64 0]) (by simp [results, Tryz.results34, go_sem, c_b4_0, c_b4_1, c_b4_2, c_b4_3]) rfl ?_
  exact ⟨_, _, _, _, _, _, _, _, rfl, S5.out.n.rc, S5.out.h⟩

theorem rsmall_any (a b : Int) (w : World) (h64_a : -9223372036854775808 ≤ a ∧ a ≤ 9223372036854775807) (h64_b : -9223372036854775808 ≤ b ∧ b ≤ 9223372036854775807) (h0 : b ≠ 0) :
    Calls Tryz.prog 34 #[.int .i64 a, .int .i64 b] w (NewRE w (Rat.divInt a b) 2 0) := rsmall_q a b _ w h64_a h64_b h0 rfl

set_option maxHeartbeats 1000000 in
set_option maxRecDepth 100000 in
theorem rdiv_zero {m : Bool} {ao : Option Addr} {n cap : Nat} {k : Bool} {bo : Option Addr} {l cb : Nat} {m2 : Bool} {a2 : Option Addr} {n2 c2 : Nat} {k2 : Bool} {b2 : Option Addr} {l2 d2 : Nat} {x d y c : Int} {q r : Rat} {j i : Nat} {w : World} (hx : Rx w m ao n cap k bo l cb x d q j) (hy : Rx w m2 a2 n2 c2 k2 b2 l2 d2 y c r i) (hj : 1 ≤ j) (hi : 1 ≤ i) (hk : j + i + 1 ≤ 100000) (h0 : r = 0) :
    Calls Tryz.prog 31 #[.agg #[.bool m, .slice ao n cap, .bool k, .slice bo l cb], .agg #[.bool m2, .slice a2 n2 c2, .bool k2, .slice b2 l2 d2]] w (RetB (.tuple #[.agg #[.bool false, .slice none 0 0, .bool false, .slice none 0 0], .int .i64 7]) w) := by
  have H0 : Hid (dn d * y = 0) := by rw [Hid, (qv_zero hy.val).1 h0, Int.mul_zero]
  clear h0
  go_enter Tryz.func31, Tryz.ntmps31
  have S0 := Lib.hid (Sx.start (w := w) (N := [.rx m ao n cap k bo l cb x d q j, .rx m2 a2 n2 c2 k2 b2 l2 d2 y c r i]) ⟨hx, hy, trivial⟩)
  clear hx hy
  have S1 := Lib.hid (S0.out.var (w.heap.size) [.bool m, .slice ao n cap, .bool k, .slice bo l cb] 26 (by simp))
  clear S0
  have S2 := Lib.hid (S1.out.var (w.heap.size + 1) [.bool m2, .slice a2 n2 c2, .bool k2, .slice b2 l2 d2] 26 (by simp))
  clear S1
  have S3 := Lib.hid (S2.out.var (w.heap.size + 2) [.bool false, .slice none 0 0, .bool false, .slice none 0 0] 26 (by simp))
  clear S2
  go_upto_region 1 with (fail)
  refine wp_world (fun w1 hW => ?_)
  rw [← hW] at S3
  clear hW
  have S4 := Lib.hid (S3.out.drew)
  clear S3
  refine wp_region_held_drew (S := fun w' => (w'.cell? ⟨(w.heap.size), 0, none⟩ = some (.bool m) ∧ w'.cell? ⟨(w.heap.size), 1, none⟩ = some (.slice ao n cap) ∧ w'.cell? ⟨(w.heap.size), 2, none⟩ = some (.bool k) ∧ w'.cell? ⟨(w.heap.size), 3, none⟩ = some (.slice bo l cb)) ∧ (w'.cell? ⟨(w.heap.size + 1), 0, none⟩ = some (.bool m2) ∧ w'.cell? ⟨(w.heap.size + 1), 1, none⟩ = some (.slice a2 n2 c2) ∧ w'.cell? ⟨(w.heap.size + 1), 2, none⟩ = some (.bool k2) ∧ w'.cell? ⟨(w.heap.size + 1), 3, none⟩ = some (.slice b2 l2 d2))) (by kernel_rfl) (⟨S4.out.b.t.t.c4, S4.out.b.t.c4⟩) (fun hH => ?_)
  refine anyH_world (fun w2 hW => ?_)
  rw [← hW] at S4 hH
  clear hW
  refine step_on 0 rfl (by kernel_rfl) (fun _ _ _ h => h) (by rfl) hH (by intro w hS; go_simp <;> with_reducible rfl) ?_
  try simp only [nrm]
  refine step_on 1 rfl (by kernel_rfl) (fun _ _ _ h => h) (by rfl) hH (by intro w hS; go_simp <;> with_reducible rfl) ?_
  try simp only [nrm]
  refine step_on 2 rfl (by kernel_rfl) (fun _ _ _ h => h) (by rfl) hH (by intro w hS; go_simp <;> with_reducible rfl) ?_
  try simp only [nrm]
  refine step_on 5 rfl (by kernel_rfl) (fun _ _ _ h => h) (by rfl) hH (by intro w hS; go_simp <;> with_reducible rfl) ?_
  try simp only [nrm]
  refine step_on 7 rfl (by kernel_rfl) (fun _ _ _ h => h) (by rfl) hH (by intro w hS; go_simp <;> with_reducible rfl) ?_
  try simp only [nrm]
  refine step_on 8 rfl (by kernel_rfl) (fun _ _ _ h => h) (by rfl) hH (by intro w hS; go_simp <;> with_reducible rfl) ?_
  try simp only [nrm]
  refine step_one 3 rfl (by kernel_rfl) (fun K hK => ?_)
  go_simp
  refine (den_any S4.out.n.t.rx).mono ?_
  rintro e w3 ⟨r1_m, r1_0, r1_n, r1_c, rfl, hX, hB⟩
  have S5 := Lib.hid (((S4.out.step hB).nb ⟨hX, dn_bd S4.out.n.t.rx.bd (by omega)⟩ rfl))
  clear S4 hX hB
  go_wp2_with fail
  refine hK.out _ _ ⟨S5.out.b.t.t.c4, S5.out.b.t.c4⟩ (fun h2 => ?_)
  clear hK K hH
  have hH := h2
  clear h2
  try simp only [nrm]
  refine step_one 4 rfl (by kernel_rfl) (fun K hK => ?_)
  go_simp
  refine (wmul_any S5.out.n.t.rx.num S5.out.n.nb.nx).mono ?_
  rintro e w4 ⟨r2_m, r2_0, r2_n, r2_c, rfl, hX, hB⟩
  have S6 := Lib.hid (((S5.out.step hB).cb (hX.cb (S5.out.n.t.rx.bn.mul S5.out.n.nb.bd) (by omega)) rfl))
  clear S5 hX hB
  go_wp2_with fail
  refine hK.out _ _ ⟨S6.out.b.t.t.c4, S6.out.b.t.c4⟩ (fun h2 => ?_)
  clear hK K hH
  have hH := h2
  clear h2
  try simp only [nrm]
  refine step_one 6 rfl (by kernel_rfl) (fun K hK => ?_)
  go_simp
  refine (den_any S6.out.n.t.t.rx).mono ?_
  rintro e w5 ⟨r3_m, r3_0, r3_n, r3_c, rfl, hX, hB⟩
  have S7 := Lib.hid (((S6.out.step hB).nb ⟨hX, dn_bd S6.out.n.t.t.rx.bd (by omega)⟩ rfl))
  clear S6 hX hB
  go_wp2_with fail
  refine hK.out _ _ ⟨S7.out.b.t.t.c4, S7.out.b.t.c4⟩ (fun h2 => ?_)
  clear hK K hH
  have hH := h2
  clear h2
  try simp only [nrm]
  refine step_one 9 rfl (by kernel_rfl) (fun K hK => ?_)
  go_simp
  refine (wmul_any S7.out.n.nb.nx S7.out.n.t.t.t.t.rx.num).mono ?_
  rintro e w6 ⟨r4_m, r4_0, r4_n, r4_c, rfl, hX, hB⟩
  have S8 := Lib.hid (((S7.out.step hB).cb (hX.cb (S7.out.n.nb.bd.mul S7.out.n.t.t.t.t.rx.bn) (by omega)) rfl))
  clear S7 hX hB
  go_wp2_with fail
  refine hK.out _ _ ⟨S8.out.b.t.t.c4, S8.out.b.t.c4⟩ (fun h2 => ?_)
  clear hK K hH
  have hH := h2
  clear h2
  try simp only [nrm]
  refine step_one 10 rfl (by kernel_rfl) (fun K hK => ?_)
  go_simp
  refine (rof_zero S8.out.n.t.t.cb.cx.nx S8.out.n.cb.cx.nx (H0.out)).mono ?_
  rintro e w7 ⟨rfl, hB⟩
  have S9 := Lib.hid ((S8.out.step hB))
  clear S8 hB
  go_wp2_with fail
  refine hK.out _ _ ⟨S9.out.b.t.t.c4, S9.out.b.t.c4⟩ (fun h2 => ?_)
  clear hK K hH
  have hH := h2
  clear h2
  try simp only [nrm]
  refine step_on 11 rfl (by kernel_rfl) (fun _ _ _ h => h) (by rfl) hH (by intro w hS; go_simp <;> with_reducible rfl) ?_
  try simp only [nrm]
  refine step_on 12 rfl (by kernel_rfl) (fun _ _ _ h => h) (by rfl) hH (by intro w hS; go_simp <;> with_reducible rfl) ?_
  try simp only [nrm]
  refine step_one 13 rfl (by kernel_rfl) (fun K hK => ?_)
  obtain ⟨c_b4_0, c_b4_1, c_b4_2, c_b4_3⟩ := S9.out.b.c4
  obtain ⟨f_b4_0, f_b4_1, f_b4_2, f_b4_3⟩ := S9.out.b.f4
  go_simp
  clear c_b4_0 c_b4_1 c_b4_2 c_b4_3 f_b4_0 f_b4_1 f_b4_2 f_b4_3
  have S10 : Hid (Sx w _ [⟨(w.heap.size + 2), [.bool false, .slice none 0 0, .bool false, .slice none 0 0]⟩, ⟨(w.heap.size + 1), [.bool m2, .slice a2 n2 c2, .bool k2, .slice b2 l2 d2]⟩, ⟨(w.heap.size), [.bool m, .slice ao n cap, .bool k, .slice bo l cb]⟩] _) := Lib.hid (Sx.set [] [⟨(w.heap.size + 1), [.bool m2, .slice a2 n2 c2, .bool k2, .slice b2 l2 d2]⟩, ⟨(w.heap.size), [.bool m, .slice ao n cap, .bool k, .slice bo l cb]⟩] (Sx.set [] [⟨(w.heap.size + 1), [.bool m2, .slice a2 n2 c2, .bool k2, .slice b2 l2 d2]⟩, ⟨(w.heap.size), [.bool m, .slice ao n cap, .bool k, .slice bo l cb]⟩] (Sx.set [] [⟨(w.heap.size + 1), [.bool m2, .slice a2 n2 c2, .bool k2, .slice b2 l2 d2]⟩, ⟨(w.heap.size), [.bool m, .slice ao n cap, .bool k, .slice bo l cb]⟩] (Sx.set [] [⟨(w.heap.size + 1), [.bool m2, .slice a2 n2 c2, .bool k2, .slice b2 l2 d2]⟩, ⟨(w.heap.size), [.bool m, .slice ao n cap, .bool k, .slice bo l cb]⟩] S9.out 0 (.bool false)) 1 (.slice none 0 0)) 2 (.bool false)) 3 (.slice none 0 0))
  clear S9
  refine hK.out _ _ ⟨S10.out.b.t.t.c4, S10.out.b.t.c4⟩ (fun h2 => ?_)
  clear hK K hH
  have hH := h2
  clear h2
  try simp only [nrm]
  refine anyH_world (fun w8 hW => ?_)
  rw [← hW] at S10 hH
  clear hW
  refine step_on 14 rfl (by kernel_rfl) (fun _ _ _ h => h) (by rfl) hH (by intro w hS; go_simp <;> with_reducible rfl) ?_
  try simp only [nrm]
  refine wpAnyH_done (by kernel_rfl) ?_ _
  clear hH
  obtain ⟨c_b4_0, c_b4_1, c_b4_2, c_b4_3⟩ := S10.out.b.c4
  obtain ⟨f_b4_0, f_b4_1, f_b4_2, f_b4_3⟩ := S10.out.b.f4
  go_wp2_with fail
  refine bodyPost_ret (v := .tuple #[.agg #[.bool false, .slice none 0 0, .bool false, .slice none 0 0], .int .i64 7]) (by simp [results, Tryz.results31, go_sem, c_b4_0, c_b4_1, c_b4_2, c_b4_3]) rfl ?_
  exact ⟨rfl, S10.out.h⟩

set_option maxHeartbeats 1000000 in
set_option maxRecDepth 100000 in
theorem rdiv_any {m : Bool} {ao : Option Addr} {n cap : Nat} {k : Bool} {bo : Option Addr} {l cb : Nat} {m2 : Bool} {a2 : Option Addr} {n2 c2 : Nat} {k2 : Bool} {b2 : Option Addr} {l2 d2 : Nat} {x d y c : Int} {q r : Rat} {j i : Nat} {w : World} (hx : Rx w m ao n cap k bo l cb x d q j) (hy : Rx w m2 a2 n2 c2 k2 b2 l2 d2 y c r i) (hj : 1 ≤ j) (hi : 1 ≤ i) (hk : j + i + 1 ≤ 100000) (h0 : r ≠ 0) :
    Calls Tryz.prog 31 #[.agg #[.bool m, .slice ao n cap, .bool k, .slice bo l cb], .agg #[.bool m2, .slice a2 n2 c2, .bool k2, .slice b2 l2 d2]] w (NewRE w (q / r) (j + i) 0) := by
  have H0 : Hid (dn d * y ≠ 0) := qv_low hy.val h0
  have HV := Lib.hid (qv_div hx.val hy.val)
  clear h0
  go_enter Tryz.func31, Tryz.ntmps31
  have S0 := Lib.hid (Sx.start (w := w) (N := [.rx m ao n cap k bo l cb x d q j, .rx m2 a2 n2 c2 k2 b2 l2 d2 y c r i]) ⟨hx, hy, trivial⟩)
  clear hx hy
  have S1 := Lib.hid (S0.out.var (w.heap.size) [.bool m, .slice ao n cap, .bool k, .slice bo l cb] 26 (by simp))
  clear S0
  have S2 := Lib.hid (S1.out.var (w.heap.size + 1) [.bool m2, .slice a2 n2 c2, .bool k2, .slice b2 l2 d2] 26 (by simp))
  clear S1
  have S3 := Lib.hid (S2.out.var (w.heap.size + 2) [.bool false, .slice none 0 0, .bool false, .slice none 0 0] 26 (by simp))
  clear S2
  go_upto_region 1 with (fail)
  refine wp_world (fun w1 hW => ?_)
  rw [← hW] at S3
  clear hW
  have S4 := Lib.hid (S3.out.drew)
  clear S3
  refine wp_region_held_drew (S := fun w' => (w'.cell? ⟨(w.heap.size), 0, none⟩ = some (.bool m) ∧ w'.cell? ⟨(w.heap.size), 1, none⟩ = some (.slice ao n cap) ∧ w'.cell? ⟨(w.heap.size), 2, none⟩ = some (.bool k) ∧ w'.cell? ⟨(w.heap.size), 3, none⟩ = some (.slice bo l cb)) ∧ (w'.cell? ⟨(w.heap.size + 1), 0, none⟩ = some (.bool m2) ∧ w'.cell? ⟨(w.heap.size + 1), 1, none⟩ = some (.slice a2 n2 c2) ∧ w'.cell? ⟨(w.heap.size + 1), 2, none⟩ = some (.bool k2) ∧ w'.cell? ⟨(w.heap.size + 1), 3, none⟩ = some (.slice b2 l2 d2))) (by kernel_rfl) (⟨S4.out.b.t.t.c4, S4.out.b.t.c4⟩) (fun hH => ?_)
  refine anyH_world (fun w2 hW => ?_)
  rw [← hW] at S4 hH
  clear hW
  refine step_on 0 rfl (by kernel_rfl) (fun _ _ _ h => h) (by rfl) hH (by intro w hS; go_simp <;> with_reducible rfl) ?_
  try simp only [nrm]
  refine step_on 1 rfl (by kernel_rfl) (fun _ _ _ h => h) (by rfl) hH (by intro w hS; go_simp <;> with_reducible rfl) ?_
  try simp only [nrm]
  refine step_on 2 rfl (by kernel_rfl) (fun _ _ _ h => h) (by rfl) hH (by intro w hS; go_simp <;> with_reducible rfl) ?_
  try simp only [nrm]
  refine step_on 5 rfl (by kernel_rfl) (fun _ _ _ h => h) (by rfl) hH (by intro w hS; go_simp <;> with_reducible rfl) ?_
  try simp only [nrm]
  refine step_on 7 rfl (by kernel_rfl) (fun _ _ _ h => h) (by rfl) hH (by intro w hS; go_simp <;> with_reducible rfl) ?_
  try simp only [nrm]
  refine step_on 8 rfl (by kernel_rfl) (fun _ _ _ h => h) (by rfl) hH (by intro w hS; go_simp <;> with_reducible rfl) ?_
  try simp only [nrm]
  refine step_one 3 rfl (by kernel_rfl) (fun K hK => ?_)
  go_simp
  refine (den_any S4.out.n.t.rx).mono ?_
  rintro e w3 ⟨r1_m, r1_0, r1_n, r1_c, rfl, hX, hB⟩
  have S5 := Lib.hid (((S4.out.step hB).nb ⟨hX, dn_bd S4.out.n.t.rx.bd (by omega)⟩ rfl))
  clear S4 hX hB
  go_wp2_with fail
  refine hK.out _ _ ⟨S5.out.b.t.t.c4, S5.out.b.t.c4⟩ (fun h2 => ?_)
  clear hK K hH
  have hH := h2
  clear h2
  try simp only [nrm]
  refine step_one 4 rfl (by kernel_rfl) (fun K hK => ?_)
  go_simp
  refine (wmul_any S5.out.n.t.rx.num S5.out.n.nb.nx).mono ?_
  rintro e w4 ⟨r2_m, r2_0, r2_n, r2_c, rfl, hX, hB⟩
  have S6 := Lib.hid (((S5.out.step hB).cb (hX.cb (S5.out.n.t.rx.bn.mul S5.out.n.nb.bd) (by omega)) rfl))
  clear S5 hX hB
  go_wp2_with fail
  refine hK.out _ _ ⟨S6.out.b.t.t.c4, S6.out.b.t.c4⟩ (fun h2 => ?_)
  clear hK K hH
  have hH := h2
  clear h2
  try simp only [nrm]
  refine step_one 6 rfl (by kernel_rfl) (fun K hK => ?_)
  go_simp
  refine (den_any S6.out.n.t.t.rx).mono ?_
  rintro e w5 ⟨r3_m, r3_0, r3_n, r3_c, rfl, hX, hB⟩
  have S7 := Lib.hid (((S6.out.step hB).nb ⟨hX, dn_bd S6.out.n.t.t.rx.bd (by omega)⟩ rfl))
  clear S6 hX hB
  go_wp2_with fail
  refine hK.out _ _ ⟨S7.out.b.t.t.c4, S7.out.b.t.c4⟩ (fun h2 => ?_)
  clear hK K hH
  have hH := h2
  clear h2
  try simp only [nrm]
  refine step_one 9 rfl (by kernel_rfl) (fun K hK => ?_)
  go_simp
  refine (wmul_any S7.out.n.nb.nx S7.out.n.t.t.t.t.rx.num).mono ?_
  rintro e w6 ⟨r4_m, r4_0, r4_n, r4_c, rfl, hX, hB⟩
  have S8 := Lib.hid (((S7.out.step hB).cb (hX.cb (S7.out.n.nb.bd.mul S7.out.n.t.t.t.t.rx.bn) (by omega)) rfl))
  clear S7 hX hB
  go_wp2_with fail
  refine hK.out _ _ ⟨S8.out.b.t.t.c4, S8.out.b.t.c4⟩ (fun h2 => ?_)
  clear hK K hH
  have hH := h2
  clear h2
  try simp only [nrm]
  refine step_one 10 rfl (by kernel_rfl) (fun K hK => ?_)
  go_simp
  refine (rof_any S8.out.n.t.t.cb.cx.nx S8.out.n.cb.cx.nx (H0.out) (show Rat.divInt (x * (dn c)) ((dn d) * y) = (q / r) from HV.out) (S8.out.n.t.t.cb.bd.mono (show _ ≤ (j + i) by omega)) (S8.out.n.cb.bd.mono (by omega)) (by omega) (by omega)).mono ?_
  rintro e w7 ⟨r5_m, r5_0, r5_n, r5_c, r5_k, r5_1, r5_l, r5_d, rfl, hX, hB⟩
  have S9 := Lib.hid (((S8.out.step hB).rc hX rfl))
  clear S8 hX hB
  go_wp2_with fail
  refine hK.out _ _ ⟨S9.out.b.t.t.c4, S9.out.b.t.c4⟩ (fun h2 => ?_)
  clear hK K hH
  have hH := h2
  clear h2
  try simp only [nrm]
  refine step_on 11 rfl (by kernel_rfl) (fun _ _ _ h => h) (by rfl) hH (by intro w hS; go_simp <;> with_reducible rfl) ?_
  try simp only [nrm]
  refine step_on 12 rfl (by kernel_rfl) (fun _ _ _ h => h) (by rfl) hH (by intro w hS; go_simp <;> with_reducible rfl) ?_
  try simp only [nrm]
  refine step_one 13 rfl (by kernel_rfl) (fun K hK => ?_)
  obtain ⟨c_b4_0, c_b4_1, c_b4_2, c_b4_3⟩ := S9.out.b.c4
  obtain ⟨f_b4_0, f_b4_1, f_b4_2, f_b4_3⟩ := S9.out.b.f4
  go_simp
  clear c_b4_0 c_b4_1 c_b4_2 c_b4_3 f_b4_0 f_b4_1 f_b4_2 f_b4_3
  have S10 : Hid (Sx w _ [⟨(w.heap.size + 2), [.bool r5_m, .slice r5_0 r5_n r5_c, .bool r5_k, .slice r5_1 r5_l r5_d]⟩, ⟨(w.heap.size + 1), [.bool m2, .slice a2 n2 c2, .bool k2, .slice b2 l2 d2]⟩, ⟨(w.heap.size), [.bool m, .slice ao n cap, .bool k, .slice bo l cb]⟩] _) := Lib.hid (Sx.set [] [⟨(w.heap.size + 1), [.bool m2, .slice a2 n2 c2, .bool k2, .slice b2 l2 d2]⟩, ⟨(w.heap.size), [.bool m, .slice ao n cap, .bool k, .slice bo l cb]⟩] (Sx.set [] [⟨(w.heap.size + 1), [.bool m2, .slice a2 n2 c2, .bool k2, .slice b2 l2 d2]⟩, ⟨(w.heap.size), [.bool m, .slice ao n cap, .bool k, .slice bo l cb]⟩] (Sx.set [] [⟨(w.heap.size + 1), [.bool m2, .slice a2 n2 c2, .bool k2, .slice b2 l2 d2]⟩, ⟨(w.heap.size), [.bool m, .slice ao n cap, .bool k, .slice bo l cb]⟩] (Sx.set [] [⟨(w.heap.size + 1), [.bool m2, .slice a2 n2 c2, .bool k2, .slice b2 l2 d2]⟩, ⟨(w.heap.size), [.bool m, .slice ao n cap, .bool k, .slice bo l cb]⟩] S9.out 0 (.bool r5_m)) 1 (.slice r5_0 r5_n r5_c)) 2 (.bool r5_k)) 3 (.slice r5_1 r5_l r5_d))
  clear S9
  refine hK.out _ _ ⟨S10.out.b.t.t.c4, S10.out.b.t.c4⟩ (fun h2 => ?_)
  clear hK K hH
  have hH := h2
  clear h2
  try simp only [nrm]
  refine anyH_world (fun w8 hW => ?_)
  rw [← hW] at S10 hH
  clear hW
  refine step_on 14 rfl (by kernel_rfl) (fun _ _ _ h => h) (by rfl) hH (by intro w hS; go_simp <;> with_reducible rfl) ?_
  try simp only [nrm]
  refine wpAnyH_done (by kernel_rfl) ?_ _
  clear hH
  obtain ⟨c_b4_0, c_b4_1, c_b4_2, c_b4_3⟩ := S10.out.b.c4
  obtain ⟨f_b4_0, f_b4_1, f_b4_2, f_b4_3⟩ := S10.out.b.f4
  go_wp2_with fail
  refine bodyPost_ret (v := .tuple #[.agg #[.bool r5_m, .slice r5_0 r5_n r5_c, .bool r5_k, .slice r5_1 r5_l r5_d], .int .i64 0]) (by simp [results, Tryz.results31, go_sem, c_b4_0, c_b4_1, c_b4_2, c_b4_3]) rfl ?_
  exact ⟨_, _, _, _, _, _, _, _, rfl, S10.out.n.rc, S10.out.h⟩

end Go.Proofs.YteceomlbnajihaaGreatDoor
