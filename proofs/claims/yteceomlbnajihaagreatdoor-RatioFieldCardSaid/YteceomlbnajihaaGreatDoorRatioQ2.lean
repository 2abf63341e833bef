/-
  The contracts of the reference's field; Same and May.
-/
import Derived.Test.YteceomlbnajihaaGreatDoorRatioQ
import Derived.Test.YteceomlbnajihaaGreatDoorRatioFld
import Derived.Test.YteceomlbnajihaaGreatDoorRatioMay
import Derived.Test.YteceomlbnajihaaGreatDoorGWZ
import Derived.Deep.Cut
import Derived.Deep.CutRange
set_option maxRecDepth 8192
namespace Go.Proofs.YteceomlbnajihaaGreatDoor
open Go.RowKit

theorem Qx.ne {w : World} {m : Bool} {ao : Option Addr} {n cap : Nat} {k : Bool} {bo : Option Addr} {l cb : Nat} {x d : Int} {q : Rat} {j : Nat} (h : Qx w m ao n cap k bo l cb x d q j) : d ≠ 0 := h.nz
theorem mul_ne {a b : Int} (ha : a ≠ 0) (hb : b ≠ 0) : a * b ≠ 0 := fun e => by
  rcases Int.mul_eq_zero.1 e with h | h
  · exact ha h
  · exact hb h
theorem zv_add {x d y c : Int} {q r : Rat} (hq : Rat.divInt x d = q) (hr : Rat.divInt y c = r) (hd : d ≠ 0) (hc : c ≠ 0) : Rat.divInt (x * c + y * d) (d * c) = q + r := by
  rw [← hq, ← hr, Rat.divInt_add_divInt _ _ hd hc]
theorem zv_neg {x d : Int} {q : Rat} (hq : Rat.divInt x d = q) : Rat.divInt (-x) d = -q := by rw [← hq, Rat.neg_divInt]
theorem zv_mul {x d y c : Int} {q r : Rat} (hq : Rat.divInt x d = q) (hr : Rat.divInt y c = r) : Rat.divInt (x * y) (d * c) = q * r := by
  rw [← hq, ← hr, Rat.divInt_mul_divInt]
theorem zv_div {x d y c : Int} {q r : Rat} (hq : Rat.divInt x d = q) (hr : Rat.divInt y c = r) : Rat.divInt (x * c) (d * y) = q / r := by
  rw [← hq, ← hr, Rat.div_def, Rat.inv_divInt, Rat.divInt_mul_divInt]
theorem zv_up {y c : Int} {r : Rat} (hr : Rat.divInt y c = r) (hc : c ≠ 0) (h : r ≠ 0) : y ≠ 0 := fun e => h (by rw [← hr]; exact (q_zero hc).2 e)

set_option maxHeartbeats 1000000 in
set_option maxRecDepth 100000 in
theorem qshort_any {m : Bool} {ao : Option Addr} {n cap : Nat} {k : Bool} {bo : Option Addr} {l cb : Nat} {x d : Int} {q : Rat} {j : Nat} {w : World} (hx : Qx w m ao n cap k bo l cb x d q j) (h1 : 1 ≤ j) (h2 : j ≤ 50000) :
    Calls Tryz.prog 46 #[.agg #[.bool m, .slice ao n cap, .bool k, .slice bo l cb]] w (NewQ w q.num q.den q j) := by
  go_enter Tryz.func46, Tryz.ntmps46
  have S0 := Lib.hid (Sx.start (w := w) (N := [.qx m ao n cap k bo l cb x d q j]) ⟨hx, trivial⟩)
  clear hx
  have S1 := Lib.hid (S0.out.var (w.heap.size) [.bool m, .slice ao n cap, .bool k, .slice bo l cb] 35 (by simp))
  clear S0
  have S2 := Lib.hid (S1.out.var (w.heap.size + 1) [.bool false, .slice none 0 0, .bool false, .slice none 0 0] 35 (by simp))
  clear S1
  go_upto_region 1 with (fail)
  refine wp_world (fun w1 hW => ?_)
  rw [← hW] at S2
  clear hW
  obtain ⟨c_b1_0, c_b1_1, c_b1_2, c_b1_3⟩ := S2.out.b.t.c4
  go_wp2_with fail
  clear c_b1_0 c_b1_1 c_b1_2 c_b1_3
  refine (qrat_any S2.out.n.qx (by omega) (by omega)).mono ?_
  rintro e w2 ⟨r1_m, r1_0, r1_n, r1_c, r1_k, r1_1, r1_l, r1_d, rfl, hX, hB⟩
  have S3 := Lib.hid (((S2.out.step hB).rc hX rfl))
  clear S2 hX hB
  go_wp2_with fail
  refine (qof_any S3.out.n.rc.rx (by omega) (by omega)).mono ?_
  rintro e w3 ⟨r2_m, r2_0, r2_n, r2_c, r2_k, r2_1, r2_l, r2_d, rfl, hX, hB⟩
  have S4 := Lib.hid (((S3.out.step hB).qx hX rfl))
  clear S3 hX hB
  obtain ⟨c_b2_0, c_b2_1, c_b2_2, c_b2_3⟩ := S4.out.b.c4
  obtain ⟨f_b2_0, f_b2_1, f_b2_2, f_b2_3⟩ := S4.out.b.f4
  go_wp2_with fail
  have S5 : Hid (Sx w _ [⟨(w.heap.size + 1), [.bool r2_m, .slice r2_0 r2_n r2_c, .bool r2_k, .slice r2_1 r2_l r2_d]⟩, ⟨(w.heap.size), [.bool m, .slice ao n cap, .bool k, .slice bo l cb]⟩] _) := Lib.hid (Sx.set [] [⟨(w.heap.size), [.bool m, .slice ao n cap, .bool k, .slice bo l cb]⟩] (Sx.set [] [⟨(w.heap.size), [.bool m, .slice ao n cap, .bool k, .slice bo l cb]⟩] (Sx.set [] [⟨(w.heap.size), [.bool m, .slice ao n cap, .bool k, .slice bo l cb]⟩] (Sx.set [] [⟨(w.heap.size), [.bool m, .slice ao n cap, .bool k, .slice bo l cb]⟩] S4.out 0 (.bool r2_m)) 1 (.slice r2_0 r2_n r2_c)) 2 (.bool r2_k)) 3 (.slice r2_1 r2_l r2_d))
  clear S4
  refine bodyPost_ret (v := .agg #[.bool r2_m, .slice r2_0 r2_n r2_c, .bool r2_k, .slice r2_1 r2_l r2_d]) (by simp [results, Tryz.results46, go_sem, c_b2_0, c_b2_1, c_b2_2, c_b2_3]) rfl ?_
  exact ⟨_, _, _, _, _, _, _, _, rfl, ⟨S5.out.n.qx.num, dn_of (den_ne q) ▸ S5.out.n.qx.den, den_ne q, Rat.num_divInt_den q, S5.out.n.qx.bn, dn_of (den_ne q) ▸ S5.out.n.qx.bd⟩, S5.out.h⟩

set_option maxHeartbeats 1000000 in
set_option maxRecDepth 100000 in
theorem qadd_any {m : Bool} {ao : Option Addr} {n cap : Nat} {k : Bool} {bo : Option Addr} {l cb : Nat} {m2 : Bool} {a2 : Option Addr} {n2 c2 : Nat} {k2 : Bool} {b2 : Option Addr} {l2 d2 : Nat} {x d y c : Int} {q r : Rat} {j i : Nat} {w : World} (hx : Qx w m ao n cap k bo l cb x d q j) (hy : Qx w m2 a2 n2 c2 k2 b2 l2 d2 y c r i) (hj : 1 ≤ j) (hi : 1 ≤ i) (hk : j + i + 1 ≤ 50000) :
    Calls Tryz.prog 15 #[.agg #[.bool m, .slice ao n cap, .bool k, .slice bo l cb], .agg #[.bool m2, .slice a2 n2 c2, .bool k2, .slice b2 l2 d2]] w (NewQ w (q + r).num (q + r).den (q + r) (j + i + 1)) := by
  have HNZ := Lib.hid (mul_ne hx.nz hy.nz)
  have HV := Lib.hid (zv_add hx.val hy.val hx.nz hy.nz)
  go_enter Tryz.func15, Tryz.ntmps15
  have S0 := Lib.hid (Sx.start (w := w) (N := [.qx m ao n cap k bo l cb x d q j, .qx m2 a2 n2 c2 k2 b2 l2 d2 y c r i]) ⟨hx, hy, trivial⟩)
  clear hx hy
  have S1 := Lib.hid (S0.out.var (w.heap.size) [.bool m, .slice ao n cap, .bool k, .slice bo l cb] 35 (by simp))
  clear S0
  have S2 := Lib.hid (S1.out.var (w.heap.size + 1) [.bool m2, .slice a2 n2 c2, .bool k2, .slice b2 l2 d2] 35 (by simp))
  clear S1
  have S3 := Lib.hid (S2.out.var (w.heap.size + 2) [.bool false, .slice none 0 0, .bool false, .slice none 0 0] 35 (by simp))
  clear S2
  go_upto_region 1 with (fail)
  refine wp_world (fun w1 hW => ?_)
  rw [← hW] at S3
  clear hW
  have S4 := Lib.hid (S3.out.drew)
  clear S3
  refine wp_region_held_drew (S := fun w' => (w'.cell? ⟨(w.heap.size), 0, none⟩ = some (.bool m) ∧ w'.cell? ⟨(w.heap.size), 1, none⟩ = some (.slice ao n cap) ∧ w'.cell? ⟨(w.heap.size), 2, none⟩ = some (.bool k) ∧ w'.cell? ⟨(w.heap.size), 3, none⟩ = some (.slice bo l cb)) ∧ (w'.cell? ⟨(w.heap.size + 1), 0, none⟩ = some (.bool m2) ∧ w'.cell? ⟨(w.heap.size + 1), 1, none⟩ = some (.slice a2 n2 c2) ∧ w'.cell? ⟨(w.heap.size + 1), 2, none⟩ = some (.bool k2) ∧ w'.cell? ⟨(w.heap.size + 1), 3, none⟩ = some (.slice b2 l2 d2))) (by kernel_rfl) (⟨S4.out.b.t.t.c4, S4.out.b.t.c4⟩) (fun hH => ?_)
  refine anyH_world (fun w2 hW => ?_)
  rw [← hW] at S4 hH
  clear hW
  refine step_on 0 rfl (by kernel_rfl) (fun _ _ _ h => h) (by rfl) hH (by intro w hS; go_simp <;> with_reducible rfl) ?_
  try simp only [nrm]
  refine step_on 1 rfl (by kernel_rfl) (fun _ _ _ h => h) (by rfl) hH (by intro w hS; go_simp <;> with_reducible rfl) ?_
  try simp only [nrm]
  refine step_on 2 rfl (by kernel_rfl) (fun _ _ _ h => h) (by rfl) hH (by intro w hS; go_simp <;> with_reducible rfl) ?_
  try simp only [nrm]
  refine step_on 3 rfl (by kernel_rfl) (fun _ _ _ h => h) (by rfl) hH (by intro w hS; go_simp <;> with_reducible rfl) ?_
  try simp only [nrm]
  refine step_on 5 rfl (by kernel_rfl) (fun _ _ _ h => h) (by rfl) hH (by intro w hS; go_simp <;> with_reducible rfl) ?_
  try simp only [nrm]
  refine step_on 6 rfl (by kernel_rfl) (fun _ _ _ h => h) (by rfl) hH (by intro w hS; go_simp <;> with_reducible rfl) ?_
  try simp only [nrm]
  refine step_on 7 rfl (by kernel_rfl) (fun _ _ _ h => h) (by rfl) hH (by intro w hS; go_simp <;> with_reducible rfl) ?_
  try simp only [nrm]
  refine step_on 8 rfl (by kernel_rfl) (fun _ _ _ h => h) (by rfl) hH (by intro w hS; go_simp <;> with_reducible rfl) ?_
  try simp only [nrm]
  refine step_on 11 rfl (by kernel_rfl) (fun _ _ _ h => h) (by rfl) hH (by intro w hS; go_simp <;> with_reducible rfl) ?_
  try simp only [nrm]
  refine step_on 12 rfl (by kernel_rfl) (fun _ _ _ h => h) (by rfl) hH (by intro w hS; go_simp <;> with_reducible rfl) ?_
  try simp only [nrm]
  refine step_on 13 rfl (by kernel_rfl) (fun _ _ _ h => h) (by rfl) hH (by intro w hS; go_simp <;> with_reducible rfl) ?_
  try simp only [nrm]
  refine step_on 14 rfl (by kernel_rfl) (fun _ _ _ h => h) (by rfl) hH (by intro w hS; go_simp <;> with_reducible rfl) ?_
  try simp only [nrm]
  refine step_one 4 rfl (by kernel_rfl) (fun K hK => ?_)
  go_simp
  refine (zmul_any S4.out.n.qx.num S4.out.n.t.qx.den).mono ?_
  rintro e w3 ⟨r1_m, r1_0, r1_n, r1_c, rfl, hX, hB⟩
  have S5 := Lib.hid (((S4.out.step hB).zb (hX.zb (S4.out.n.qx.bn.mul S4.out.n.t.qx.bd) (by omega)) rfl))
  clear S4 hX hB
  go_wp2_with fail
  refine hK.out _ _ ⟨S5.out.b.t.t.c4, S5.out.b.t.c4⟩ (fun h2 => ?_)
  clear hK K hH
  have hH := h2
  clear h2
  try simp only [nrm]
  refine step_one 9 rfl (by kernel_rfl) (fun K hK => ?_)
  go_simp
  refine (zmul_any S5.out.n.t.t.qx.num S5.out.n.t.qx.den).mono ?_
  rintro e w4 ⟨r2_m, r2_0, r2_n, r2_c, rfl, hX, hB⟩
  have S6 := Lib.hid (((S5.out.step hB).zb (hX.zb (S5.out.n.t.t.qx.bn.mul S5.out.n.t.qx.bd) (by omega)) rfl))
  clear S5 hX hB
  go_wp2_with fail
  refine hK.out _ _ ⟨S6.out.b.t.t.c4, S6.out.b.t.c4⟩ (fun h2 => ?_)
  clear hK K hH
  have hH := h2
  clear h2
  try simp only [nrm]
  refine step_one 10 rfl (by kernel_rfl) (fun K hK => ?_)
  go_simp
  refine (zadd_any S6.out.n.t.zb.zx S6.out.n.zb.zx).mono ?_
  rintro e w5 ⟨r3_m, r3_0, r3_n, r3_c, rfl, hX, hB⟩
  have S7 := Lib.hid (((S6.out.step hB).zb (hX.zb ((show Bd ((x * c) + (y * d)) ((j + i) + 1) from S6.out.n.t.zb.bd.addk S6.out.n.zb.bd (by omega) (by omega))) (by omega)) rfl))
  clear S6 hX hB
  go_wp2_with fail
  refine hK.out _ _ ⟨S7.out.b.t.t.c4, S7.out.b.t.c4⟩ (fun h2 => ?_)
  clear hK K hH
  have hH := h2
  clear h2
  try simp only [nrm]
  refine step_one 15 rfl (by kernel_rfl) (fun K hK => ?_)
  go_simp
  refine (zmul_any S7.out.n.t.t.t.qx.den S7.out.n.t.t.t.t.qx.den).mono ?_
  rintro e w6 ⟨r4_m, r4_0, r4_n, r4_c, rfl, hX, hB⟩
  have S8 := Lib.hid (((S7.out.step hB).zb (hX.zb (S7.out.n.t.t.t.qx.bd.mul S7.out.n.t.t.t.t.qx.bd) (by omega)) rfl))
  clear S7 hX hB
  go_wp2_with fail
  refine hK.out _ _ ⟨S8.out.b.t.t.c4, S8.out.b.t.c4⟩ (fun h2 => ?_)
  clear hK K hH
  have hH := h2
  clear h2
  try simp only [nrm]
  refine step_on 16 rfl (by kernel_rfl) (fun _ _ _ h => h) (by rfl) hH (by intro w hS; go_simp <;> with_reducible rfl) ?_
  try simp only [nrm]
  refine step_one 17 rfl (by kernel_rfl) (fun K hK => ?_)
  go_simp
  refine (qshort_any (⟨S8.out.n.t.zb.zx, S8.out.n.zb.zx, HNZ.out, HV.out, S8.out.n.t.zb.bd.mono (by omega), S8.out.n.zb.bd.mono (by omega)⟩ : Qx _ _ _ _ _ _ _ _ _ _ _ (q + r) (j + i + 1)) (by omega) (by omega)).mono ?_
  rintro e w7 ⟨r5_m, r5_0, r5_n, r5_c, r5_k, r5_1, r5_l, r5_d, rfl, hX, hB⟩
  have S9 := Lib.hid (((S8.out.step hB).qx hX rfl))
  clear S8 hX hB
  go_wp2_with fail
  refine hK.out _ _ ⟨S9.out.b.t.t.c4, S9.out.b.t.c4⟩ (fun h2 => ?_)
  clear hK K hH
  have hH := h2
  clear h2
  try simp only [nrm]
  refine step_one 18 rfl (by kernel_rfl) (fun K hK => ?_)
  obtain ⟨c_b4_0, c_b4_1, c_b4_2, c_b4_3⟩ := S9.out.b.c4
  obtain ⟨f_b4_0, f_b4_1, f_b4_2, f_b4_3⟩ := S9.out.b.f4
  go_simp
  clear c_b4_0 c_b4_1 c_b4_2 c_b4_3 f_b4_0 f_b4_1 f_b4_2 f_b4_3
  have S10 : Hid (Sx w _ [⟨(w.heap.size + 2), [.bool r5_m, .slice r5_0 r5_n r5_c, .bool r5_k, .slice r5_1 r5_l r5_d]⟩, ⟨(w.heap.size + 1), [.bool m2, .slice a2 n2 c2, .bool k2, .slice b2 l2 d2]⟩, ⟨(w.heap.size), [.bool m, .slice ao n cap, .bool k, .slice bo l cb]⟩] _) := Lib.hid (Sx.set [] [⟨(w.heap.size + 1), [.bool m2, .slice a2 n2 c2, .bool k2, .slice b2 l2 d2]⟩, ⟨(w.heap.size), [.bool m, .slice ao n cap, .bool k, .slice bo l cb]⟩] (Sx.set [] [⟨(w.heap.size + 1), [.bool m2, .slice a2 n2 c2, .bool k2, .slice b2 l2 d2]⟩, ⟨(w.heap.size), [.bool m, .slice ao n cap, .bool k, .slice bo l cb]⟩] (Sx.set [] [⟨(w.heap.size + 1), [.bool m2, .slice a2 n2 c2, .bool k2, .slice b2 l2 d2]⟩, ⟨(w.heap.size), [.bool m, .slice ao n cap, .bool k, .slice bo l cb]⟩] (Sx.set [] [⟨(w.heap.size + 1), [.bool m2, .slice a2 n2 c2, .bool k2, .slice b2 l2 d2]⟩, ⟨(w.heap.size), [.bool m, .slice ao n cap, .bool k, .slice bo l cb]⟩] S9.out 0 (.bool r5_m)) 1 (.slice r5_0 r5_n r5_c)) 2 (.bool r5_k)) 3 (.slice r5_1 r5_l r5_d))
  clear S9
  refine hK.out _ _ ⟨S10.out.b.t.t.c4, S10.out.b.t.c4⟩ (fun h2 => ?_)
  clear hK K hH
  have hH := h2
  clear h2
  try simp only [nrm]
  refine anyH_world (fun w8 hW => ?_)
  rw [← hW] at S10 hH
  clear hW
  refine wpAnyH_done (by kernel_rfl) ?_ _
  clear hH
  obtain ⟨c_b4_0, c_b4_1, c_b4_2, c_b4_3⟩ := S10.out.b.c4
  obtain ⟨f_b4_0, f_b4_1, f_b4_2, f_b4_3⟩ := S10.out.b.f4
  go_wp2_with fail
  refine bodyPost_ret (v := .agg #[.bool r5_m, .slice r5_0 r5_n r5_c, .bool r5_k, .slice r5_1 r5_l r5_d]) (by simp [results, Tryz.results15, go_sem, c_b4_0, c_b4_1, c_b4_2, c_b4_3]) rfl ?_
  exact ⟨_, _, _, _, _, _, _, _, rfl, S10.out.n.qx, S10.out.h⟩

set_option maxHeartbeats 1000000 in
set_option maxRecDepth 100000 in
theorem qmul_any {m : Bool} {ao : Option Addr} {n cap : Nat} {k : Bool} {bo : Option Addr} {l cb : Nat} {m2 : Bool} {a2 : Option Addr} {n2 c2 : Nat} {k2 : Bool} {b2 : Option Addr} {l2 d2 : Nat} {x d y c : Int} {q r : Rat} {j i : Nat} {w : World} (hx : Qx w m ao n cap k bo l cb x d q j) (hy : Qx w m2 a2 n2 c2 k2 b2 l2 d2 y c r i) (hj : 1 ≤ j) (hi : 1 ≤ i) (hk : j + i + 1 ≤ 50000) :
    Calls Tryz.prog 20 #[.agg #[.bool m, .slice ao n cap, .bool k, .slice bo l cb], .agg #[.bool m2, .slice a2 n2 c2, .bool k2, .slice b2 l2 d2]] w (NewQ w (q * r).num (q * r).den (q * r) (j + i)) := by
  have HNZ := Lib.hid (mul_ne hx.nz hy.nz)
  have HV := Lib.hid (zv_mul hx.val hy.val)
  go_enter Tryz.func20, Tryz.ntmps20
  have S0 := Lib.hid (Sx.start (w := w) (N := [.qx m ao n cap k bo l cb x d q j, .qx m2 a2 n2 c2 k2 b2 l2 d2 y c r i]) ⟨hx, hy, trivial⟩)
  clear hx hy
  have S1 := Lib.hid (S0.out.var (w.heap.size) [.bool m, .slice ao n cap, .bool k, .slice bo l cb] 35 (by simp))
  clear S0
  have S2 := Lib.hid (S1.out.var (w.heap.size + 1) [.bool m2, .slice a2 n2 c2, .bool k2, .slice b2 l2 d2] 35 (by simp))
  clear S1
  have S3 := Lib.hid (S2.out.var (w.heap.size + 2) [.bool false, .slice none 0 0, .bool false, .slice none 0 0] 35 (by simp))
  clear S2
  go_upto_region 1 with (fail)
  refine wp_world (fun w1 hW => ?_)
  rw [← hW] at S3
  clear hW
  have S4 := Lib.hid (S3.out.drew)
  clear S3
  refine wp_region_held_drew (S := fun w' => (w'.cell? ⟨(w.heap.size), 0, none⟩ = some (.bool m) ∧ w'.cell? ⟨(w.heap.size), 1, none⟩ = some (.slice ao n cap) ∧ w'.cell? ⟨(w.heap.size), 2, none⟩ = some (.bool k) ∧ w'.cell? ⟨(w.heap.size), 3, none⟩ = some (.slice bo l cb)) ∧ (w'.cell? ⟨(w.heap.size + 1), 0, none⟩ = some (.bool m2) ∧ w'.cell? ⟨(w.heap.size + 1), 1, none⟩ = some (.slice a2 n2 c2) ∧ w'.cell? ⟨(w.heap.size + 1), 2, none⟩ = some (.bool k2) ∧ w'.cell? ⟨(w.heap.size + 1), 3, none⟩ = some (.slice b2 l2 d2))) (by kernel_rfl) (⟨S4.out.b.t.t.c4, S4.out.b.t.c4⟩) (fun hH => ?_)
  refine anyH_world (fun w2 hW => ?_)
  rw [← hW] at S4 hH
  clear hW
  refine step_on 0 rfl (by kernel_rfl) (fun _ _ _ h => h) (by rfl) hH (by intro w hS; go_simp <;> with_reducible rfl) ?_
  try simp only [nrm]
  refine step_on 1 rfl (by kernel_rfl) (fun _ _ _ h => h) (by rfl) hH (by intro w hS; go_simp <;> with_reducible rfl) ?_
  try simp only [nrm]
  refine step_on 2 rfl (by kernel_rfl) (fun _ _ _ h => h) (by rfl) hH (by intro w hS; go_simp <;> with_reducible rfl) ?_
  try simp only [nrm]
  refine step_on 3 rfl (by kernel_rfl) (fun _ _ _ h => h) (by rfl) hH (by intro w hS; go_simp <;> with_reducible rfl) ?_
  try simp only [nrm]
  refine step_on 5 rfl (by kernel_rfl) (fun _ _ _ h => h) (by rfl) hH (by intro w hS; go_simp <;> with_reducible rfl) ?_
  try simp only [nrm]
  refine step_on 6 rfl (by kernel_rfl) (fun _ _ _ h => h) (by rfl) hH (by intro w hS; go_simp <;> with_reducible rfl) ?_
  try simp only [nrm]
  refine step_on 7 rfl (by kernel_rfl) (fun _ _ _ h => h) (by rfl) hH (by intro w hS; go_simp <;> with_reducible rfl) ?_
  try simp only [nrm]
  refine step_on 8 rfl (by kernel_rfl) (fun _ _ _ h => h) (by rfl) hH (by intro w hS; go_simp <;> with_reducible rfl) ?_
  try simp only [nrm]
  refine step_one 4 rfl (by kernel_rfl) (fun K hK => ?_)
  go_simp
  refine (zmul_any S4.out.n.qx.num S4.out.n.t.qx.num).mono ?_
  rintro e w3 ⟨r1_m, r1_0, r1_n, r1_c, rfl, hX, hB⟩
  have S5 := Lib.hid (((S4.out.step hB).zb (hX.zb (S4.out.n.qx.bn.mul S4.out.n.t.qx.bn) (by omega)) rfl))
  clear S4 hX hB
  go_wp2_with fail
  refine hK.out _ _ ⟨S5.out.b.t.t.c4, S5.out.b.t.c4⟩ (fun h2 => ?_)
  clear hK K hH
  have hH := h2
  clear h2
  try simp only [nrm]
  refine step_one 9 rfl (by kernel_rfl) (fun K hK => ?_)
  go_simp
  refine (zmul_any S5.out.n.t.qx.den S5.out.n.t.t.qx.den).mono ?_
  rintro e w4 ⟨r2_m, r2_0, r2_n, r2_c, rfl, hX, hB⟩
  have S6 := Lib.hid (((S5.out.step hB).zb (hX.zb (S5.out.n.t.qx.bd.mul S5.out.n.t.t.qx.bd) (by omega)) rfl))
  clear S5 hX hB
  go_wp2_with fail
  refine hK.out _ _ ⟨S6.out.b.t.t.c4, S6.out.b.t.c4⟩ (fun h2 => ?_)
  clear hK K hH
  have hH := h2
  clear h2
  try simp only [nrm]
  refine step_on 10 rfl (by kernel_rfl) (fun _ _ _ h => h) (by rfl) hH (by intro w hS; go_simp <;> with_reducible rfl) ?_
  try simp only [nrm]
  refine step_one 11 rfl (by kernel_rfl) (fun K hK => ?_)
  go_simp
  refine (qshort_any (⟨S6.out.n.t.zb.zx, S6.out.n.zb.zx, HNZ.out, HV.out, S6.out.n.t.zb.bd.mono (by omega), S6.out.n.zb.bd.mono (by omega)⟩ : Qx _ _ _ _ _ _ _ _ _ _ _ (q * r) (j + i)) (by omega) (by omega)).mono ?_
  rintro e w5 ⟨r3_m, r3_0, r3_n, r3_c, r3_k, r3_1, r3_l, r3_d, rfl, hX, hB⟩
  have S7 := Lib.hid (((S6.out.step hB).qx hX rfl))
  clear S6 hX hB
  go_wp2_with fail
  refine hK.out _ _ ⟨S7.out.b.t.t.c4, S7.out.b.t.c4⟩ (fun h2 => ?_)
  clear hK K hH
  have hH := h2
  clear h2
  try simp only [nrm]
  refine step_one 12 rfl (by kernel_rfl) (fun K hK => ?_)
  obtain ⟨c_b4_0, c_b4_1, c_b4_2, c_b4_3⟩ := S7.out.b.c4
  obtain ⟨f_b4_0, f_b4_1, f_b4_2, f_b4_3⟩ := S7.out.b.f4
  go_simp
  clear c_b4_0 c_b4_1 c_b4_2 c_b4_3 f_b4_0 f_b4_1 f_b4_2 f_b4_3
  have S8 : Hid (Sx w _ [⟨(w.heap.size + 2), [.bool r3_m, .slice r3_0 r3_n r3_c, .bool r3_k, .slice r3_1 r3_l r3_d]⟩, ⟨(w.heap.size + 1), [.bool m2, .slice a2 n2 c2, .bool k2, .slice b2 l2 d2]⟩, ⟨(w.heap.size), [.bool m, .slice ao n cap, .bool k, .slice bo l cb]⟩] _) := Lib.hid (Sx.set [] [⟨(w.heap.size + 1), [.bool m2, .slice a2 n2 c2, .bool k2, .slice b2 l2 d2]⟩, ⟨(w.heap.size), [.bool m, .slice ao n cap, .bool k, .slice bo l cb]⟩] (Sx.set [] [⟨(w.heap.size + 1), [.bool m2, .slice a2 n2 c2, .bool k2, .slice b2 l2 d2]⟩, ⟨(w.heap.size), [.bool m, .slice ao n cap, .bool k, .slice bo l cb]⟩] (Sx.set [] [⟨(w.heap.size + 1), [.bool m2, .slice a2 n2 c2, .bool k2, .slice b2 l2 d2]⟩, ⟨(w.heap.size), [.bool m, .slice ao n cap, .bool k, .slice bo l cb]⟩] (Sx.set [] [⟨(w.heap.size + 1), [.bool m2, .slice a2 n2 c2, .bool k2, .slice b2 l2 d2]⟩, ⟨(w.heap.size), [.bool m, .slice ao n cap, .bool k, .slice bo l cb]⟩] S7.out 0 (.bool r3_m)) 1 (.slice r3_0 r3_n r3_c)) 2 (.bool r3_k)) 3 (.slice r3_1 r3_l r3_d))
  clear S7
  refine hK.out _ _ ⟨S8.out.b.t.t.c4, S8.out.b.t.c4⟩ (fun h2 => ?_)
  clear hK K hH
  have hH := h2
  clear h2
  try simp only [nrm]
  refine anyH_world (fun w6 hW => ?_)
  rw [← hW] at S8 hH
  clear hW
  refine wpAnyH_done (by kernel_rfl) ?_ _
  clear hH
  obtain ⟨c_b4_0, c_b4_1, c_b4_2, c_b4_3⟩ := S8.out.b.c4
  obtain ⟨f_b4_0, f_b4_1, f_b4_2, f_b4_3⟩ := S8.out.b.f4
  go_wp2_with fail
  refine bodyPost_ret (v := .agg #[.bool r3_m, .slice r3_0 r3_n r3_c, .bool r3_k, .slice r3_1 r3_l r3_d]) (by simp [results, Tryz.results20, go_sem, c_b4_0, c_b4_1, c_b4_2, c_b4_3]) rfl ?_
  exact ⟨_, _, _, _, _, _, _, _, rfl, S8.out.n.qx, S8.out.h⟩

set_option maxHeartbeats 1000000 in
set_option maxRecDepth 100000 in
theorem qdiv_any {m : Bool} {ao : Option Addr} {n cap : Nat} {k : Bool} {bo : Option Addr} {l cb : Nat} {m2 : Bool} {a2 : Option Addr} {n2 c2 : Nat} {k2 : Bool} {b2 : Option Addr} {l2 d2 : Nat} {x d y c : Int} {q r : Rat} {j i : Nat} {w : World} (hx : Qx w m ao n cap k bo l cb x d q j) (hy : Qx w m2 a2 n2 c2 k2 b2 l2 d2 y c r i) (hj : 1 ≤ j) (hi : 1 ≤ i) (hk : j + i + 1 ≤ 50000) (h0 : r ≠ 0) :
    Calls Tryz.prog 32 #[.agg #[.bool m, .slice ao n cap, .bool k, .slice bo l cb], .agg #[.bool m2, .slice a2 n2 c2, .bool k2, .slice b2 l2 d2]] w (NewQ w (q / r).num (q / r).den (q / r) (j + i)) := by
  have HNZ := Lib.hid (mul_ne hx.nz (zv_up hy.val hy.nz h0))
  clear h0
  have HV := Lib.hid (zv_div hx.val hy.val)
  go_enter Tryz.func32, Tryz.ntmps32
  have S0 := Lib.hid (Sx.start (w := w) (N := [.qx m ao n cap k bo l cb x d q j, .qx m2 a2 n2 c2 k2 b2 l2 d2 y c r i]) ⟨hx, hy, trivial⟩)
  clear hx hy
  have S1 := Lib.hid (S0.out.var (w.heap.size) [.bool m, .slice ao n cap, .bool k, .slice bo l cb] 35 (by simp))
  clear S0
  have S2 := Lib.hid (S1.out.var (w.heap.size + 1) [.bool m2, .slice a2 n2 c2, .bool k2, .slice b2 l2 d2] 35 (by simp))
  clear S1
  have S3 := Lib.hid (S2.out.var (w.heap.size + 2) [.bool false, .slice none 0 0, .bool false, .slice none 0 0] 35 (by simp))
  clear S2
  go_upto_region 1 with (fail)
  refine wp_world (fun w1 hW => ?_)
  rw [← hW] at S3
  clear hW
  have S4 := Lib.hid (S3.out.drew)
  clear S3
  refine wp_region_held_drew (S := fun w' => (w'.cell? ⟨(w.heap.size), 0, none⟩ = some (.bool m) ∧ w'.cell? ⟨(w.heap.size), 1, none⟩ = some (.slice ao n cap) ∧ w'.cell? ⟨(w.heap.size), 2, none⟩ = some (.bool k) ∧ w'.cell? ⟨(w.heap.size), 3, none⟩ = some (.slice bo l cb)) ∧ (w'.cell? ⟨(w.heap.size + 1), 0, none⟩ = some (.bool m2) ∧ w'.cell? ⟨(w.heap.size + 1), 1, none⟩ = some (.slice a2 n2 c2) ∧ w'.cell? ⟨(w.heap.size + 1), 2, none⟩ = some (.bool k2) ∧ w'.cell? ⟨(w.heap.size + 1), 3, none⟩ = some (.slice b2 l2 d2))) (by kernel_rfl) (⟨S4.out.b.t.t.c4, S4.out.b.t.c4⟩) (fun hH => ?_)
  refine anyH_world (fun w2 hW => ?_)
  rw [← hW] at S4 hH
  clear hW
  refine step_on 0 rfl (by kernel_rfl) (fun _ _ _ h => h) (by rfl) hH (by intro w hS; go_simp <;> with_reducible rfl) ?_
  try simp only [nrm]
  refine step_on 1 rfl (by kernel_rfl) (fun _ _ _ h => h) (by rfl) hH (by intro w hS; go_simp <;> with_reducible rfl) ?_
  try simp only [nrm]
  refine step_on 2 rfl (by kernel_rfl) (fun _ _ _ h => h) (by rfl) hH (by intro w hS; go_simp <;> with_reducible rfl) ?_
  try simp only [nrm]
  refine step_on 3 rfl (by kernel_rfl) (fun _ _ _ h => h) (by rfl) hH (by intro w hS; go_simp <;> with_reducible rfl) ?_
  try simp only [nrm]
  refine step_on 5 rfl (by kernel_rfl) (fun _ _ _ h => h) (by rfl) hH (by intro w hS; go_simp <;> with_reducible rfl) ?_
  try simp only [nrm]
  refine step_on 6 rfl (by kernel_rfl) (fun _ _ _ h => h) (by rfl) hH (by intro w hS; go_simp <;> with_reducible rfl) ?_
  try simp only [nrm]
  refine step_on 7 rfl (by kernel_rfl) (fun _ _ _ h => h) (by rfl) hH (by intro w hS; go_simp <;> with_reducible rfl) ?_
  try simp only [nrm]
  refine step_on 8 rfl (by kernel_rfl) (fun _ _ _ h => h) (by rfl) hH (by intro w hS; go_simp <;> with_reducible rfl) ?_
  try simp only [nrm]
  refine step_one 4 rfl (by kernel_rfl) (fun K hK => ?_)
  go_simp
  refine (zmul_any S4.out.n.qx.num S4.out.n.t.qx.den).mono ?_
  rintro e w3 ⟨r1_m, r1_0, r1_n, r1_c, rfl, hX, hB⟩
  have S5 := Lib.hid (((S4.out.step hB).zb (hX.zb (S4.out.n.qx.bn.mul S4.out.n.t.qx.bd) (by omega)) rfl))
  clear S4 hX hB
  go_wp2_with fail
  refine hK.out _ _ ⟨S5.out.b.t.t.c4, S5.out.b.t.c4⟩ (fun h2 => ?_)
  clear hK K hH
  have hH := h2
  clear h2
  try simp only [nrm]
  refine step_one 9 rfl (by kernel_rfl) (fun K hK => ?_)
  go_simp
  refine (zmul_any S5.out.n.t.qx.den S5.out.n.t.t.qx.num).mono ?_
  rintro e w4 ⟨r2_m, r2_0, r2_n, r2_c, rfl, hX, hB⟩
  have S6 := Lib.hid (((S5.out.step hB).zb (hX.zb (S5.out.n.t.qx.bd.mul S5.out.n.t.t.qx.bn) (by omega)) rfl))
  clear S5 hX hB
  go_wp2_with fail
  refine hK.out _ _ ⟨S6.out.b.t.t.c4, S6.out.b.t.c4⟩ (fun h2 => ?_)
  clear hK K hH
  have hH := h2
  clear h2
  try simp only [nrm]
  refine step_on 10 rfl (by kernel_rfl) (fun _ _ _ h => h) (by rfl) hH (by intro w hS; go_simp <;> with_reducible rfl) ?_
  try simp only [nrm]
  refine step_one 11 rfl (by kernel_rfl) (fun K hK => ?_)
  go_simp
  refine (qshort_any (⟨S6.out.n.t.zb.zx, S6.out.n.zb.zx, HNZ.out, HV.out, S6.out.n.t.zb.bd.mono (by omega), S6.out.n.zb.bd.mono (by omega)⟩ : Qx _ _ _ _ _ _ _ _ _ _ _ (q / r) (j + i)) (by omega) (by omega)).mono ?_
  rintro e w5 ⟨r3_m, r3_0, r3_n, r3_c, r3_k, r3_1, r3_l, r3_d, rfl, hX, hB⟩
  have S7 := Lib.hid (((S6.out.step hB).qx hX rfl))
  clear S6 hX hB
  go_wp2_with fail
  refine hK.out _ _ ⟨S7.out.b.t.t.c4, S7.out.b.t.c4⟩ (fun h2 => ?_)
  clear hK K hH
  have hH := h2
  clear h2
  try simp only [nrm]
  refine step_one 12 rfl (by kernel_rfl) (fun K hK => ?_)
  obtain ⟨c_b4_0, c_b4_1, c_b4_2, c_b4_3⟩ := S7.out.b.c4
  obtain ⟨f_b4_0, f_b4_1, f_b4_2, f_b4_3⟩ := S7.out.b.f4
  go_simp
  clear c_b4_0 c_b4_1 c_b4_2 c_b4_3 f_b4_0 f_b4_1 f_b4_2 f_b4_3
  have S8 : Hid (Sx w _ [⟨(w.heap.size + 2), [.bool r3_m, .slice r3_0 r3_n r3_c, .bool r3_k, .slice r3_1 r3_l r3_d]⟩, ⟨(w.heap.size + 1), [.bool m2, .slice a2 n2 c2, .bool k2, .slice b2 l2 d2]⟩, ⟨(w.heap.size), [.bool m, .slice ao n cap, .bool k, .slice bo l cb]⟩] _) := Lib.hid (Sx.set [] [⟨(w.heap.size + 1), [.bool m2, .slice a2 n2 c2, .bool k2, .slice b2 l2 d2]⟩, ⟨(w.heap.size), [.bool m, .slice ao n cap, .bool k, .slice bo l cb]⟩] (Sx.set [] [⟨(w.heap.size + 1), [.bool m2, .slice a2 n2 c2, .bool k2, .slice b2 l2 d2]⟩, ⟨(w.heap.size), [.bool m, .slice ao n cap, .bool k, .slice bo l cb]⟩] (Sx.set [] [⟨(w.heap.size + 1), [.bool m2, .slice a2 n2 c2, .bool k2, .slice b2 l2 d2]⟩, ⟨(w.heap.size), [.bool m, .slice ao n cap, .bool k, .slice bo l cb]⟩] (Sx.set [] [⟨(w.heap.size + 1), [.bool m2, .slice a2 n2 c2, .bool k2, .slice b2 l2 d2]⟩, ⟨(w.heap.size), [.bool m, .slice ao n cap, .bool k, .slice bo l cb]⟩] S7.out 0 (.bool r3_m)) 1 (.slice r3_0 r3_n r3_c)) 2 (.bool r3_k)) 3 (.slice r3_1 r3_l r3_d))
  clear S7
  refine hK.out _ _ ⟨S8.out.b.t.t.c4, S8.out.b.t.c4⟩ (fun h2 => ?_)
  clear hK K hH
  have hH := h2
  clear h2
  try simp only [nrm]
  refine anyH_world (fun w6 hW => ?_)
  rw [← hW] at S8 hH
  clear hW
  refine wpAnyH_done (by kernel_rfl) ?_ _
  clear hH
  obtain ⟨c_b4_0, c_b4_1, c_b4_2, c_b4_3⟩ := S8.out.b.c4
  obtain ⟨f_b4_0, f_b4_1, f_b4_2, f_b4_3⟩ := S8.out.b.f4
  go_wp2_with fail
  refine bodyPost_ret (v := .agg #[.bool r3_m, .slice r3_0 r3_n r3_c, .bool r3_k, .slice r3_1 r3_l r3_d]) (by simp [results, Tryz.results32, go_sem, c_b4_0, c_b4_1, c_b4_2, c_b4_3]) rfl ?_
  exact ⟨_, _, _, _, _, _, _, _, rfl, S8.out.n.qx, S8.out.h⟩

set_option maxHeartbeats 1000000 in
set_option maxRecDepth 100000 in
theorem qsub_any {m : Bool} {ao : Option Addr} {n cap : Nat} {k : Bool} {bo : Option Addr} {l cb : Nat} {m2 : Bool} {a2 : Option Addr} {n2 c2 : Nat} {k2 : Bool} {b2 : Option Addr} {l2 d2 : Nat} {x d y c : Int} {q r : Rat} {j i : Nat} {w : World} (hx : Qx w m ao n cap k bo l cb x d q j) (hy : Qx w m2 a2 n2 c2 k2 b2 l2 d2 y c r i) (hj : 1 ≤ j) (hi : 1 ≤ i) (hk : j + i + 1 ≤ 50000) :
    Calls Tryz.prog 18 #[.agg #[.bool m, .slice ao n cap, .bool k, .slice bo l cb], .agg #[.bool m2, .slice a2 n2 c2, .bool k2, .slice b2 l2 d2]] w (NewQ w (q - r).num (q - r).den (q - r) (j + i + 1)) := by
  have HNZ := Lib.hid hy.nz
  have HV := Lib.hid (zv_neg hy.val)
  have HS : Hid (q + -r = q - r) := (Rat.sub_eq_add_neg q r).symm
  go_enter Tryz.func18, Tryz.ntmps18
  have S0 := Lib.hid (Sx.start (w := w) (N := [.qx m ao n cap k bo l cb x d q j, .qx m2 a2 n2 c2 k2 b2 l2 d2 y c r i]) ⟨hx, hy, trivial⟩)
  clear hx hy
  have S1 := Lib.hid (S0.out.var (w.heap.size) [.bool m, .slice ao n cap, .bool k, .slice bo l cb] 35 (by simp))
  clear S0
  have S2 := Lib.hid (S1.out.var (w.heap.size + 1) [.bool m2, .slice a2 n2 c2, .bool k2, .slice b2 l2 d2] 35 (by simp))
  clear S1
  have S3 := Lib.hid (S2.out.var (w.heap.size + 2) [.bool false, .slice none 0 0, .bool false, .slice none 0 0] 35 (by simp))
  clear S2
  go_upto_region 1 with (fail)
  refine wp_world (fun w1 hW => ?_)
  rw [← hW] at S3
  clear hW
  have S4 := Lib.hid (S3.out.drew)
  clear S3
  refine wp_region_held_drew (S := fun w' => (w'.cell? ⟨(w.heap.size), 0, none⟩ = some (.bool m) ∧ w'.cell? ⟨(w.heap.size), 1, none⟩ = some (.slice ao n cap) ∧ w'.cell? ⟨(w.heap.size), 2, none⟩ = some (.bool k) ∧ w'.cell? ⟨(w.heap.size), 3, none⟩ = some (.slice bo l cb)) ∧ (w'.cell? ⟨(w.heap.size + 1), 0, none⟩ = some (.bool m2) ∧ w'.cell? ⟨(w.heap.size + 1), 1, none⟩ = some (.slice a2 n2 c2) ∧ w'.cell? ⟨(w.heap.size + 1), 2, none⟩ = some (.bool k2) ∧ w'.cell? ⟨(w.heap.size + 1), 3, none⟩ = some (.slice b2 l2 d2))) (by kernel_rfl) (⟨S4.out.b.t.t.c4, S4.out.b.t.c4⟩) (fun hH => ?_)
  refine anyH_world (fun w2 hW => ?_)
  rw [← hW] at S4 hH
  clear hW
  refine step_on 0 rfl (by kernel_rfl) (fun _ _ _ h => h) (by rfl) hH (by intro w hS; go_simp <;> with_reducible rfl) ?_
  try simp only [nrm]
  refine step_on 1 rfl (by kernel_rfl) (fun _ _ _ h => h) (by rfl) hH (by intro w hS; go_simp <;> with_reducible rfl) ?_
  try simp only [nrm]
  refine step_on 2 rfl (by kernel_rfl) (fun _ _ _ h => h) (by rfl) hH (by intro w hS; go_simp <;> with_reducible rfl) ?_
  try simp only [nrm]
  refine step_on 4 rfl (by kernel_rfl) (fun _ _ _ h => h) (by rfl) hH (by intro w hS; go_simp <;> with_reducible rfl) ?_
  try simp only [nrm]
  refine step_on 5 rfl (by kernel_rfl) (fun _ _ _ h => h) (by rfl) hH (by intro w hS; go_simp <;> with_reducible rfl) ?_
  try simp only [nrm]
  refine step_one 3 rfl (by kernel_rfl) (fun K hK => ?_)
  go_simp
  refine (zneg_any S4.out.n.t.qx.num).mono ?_
  rintro e w3 ⟨r1_m, r1_0, r1_n, r1_c, rfl, hX, hB⟩
  have S5 := Lib.hid (((S4.out.step hB).zb (hX.zb (S4.out.n.t.qx.bn.neg) (by omega)) rfl))
  clear S4 hX hB
  go_wp2_with fail
  refine hK.out _ _ ⟨S5.out.b.t.t.c4, S5.out.b.t.c4⟩ (fun h2 => ?_)
  clear hK K hH
  have hH := h2
  clear h2
  try simp only [nrm]
  refine step_on 6 rfl (by kernel_rfl) (fun _ _ _ h => h) (by rfl) hH (by intro w hS; go_simp <;> with_reducible rfl) ?_
  try simp only [nrm]
  refine step_one 7 rfl (by kernel_rfl) (fun K hK => ?_)
  go_simp
  refine (qadd_any S5.out.n.t.qx (⟨S5.out.n.zb.zx, S5.out.n.t.t.qx.den, HNZ.out, HV.out, S5.out.n.zb.bd.mono (by omega), S5.out.n.t.t.qx.bd.mono (by omega)⟩ : Qx _ _ _ _ _ _ _ _ _ _ _ (-r) i) (by omega) (by omega) (by omega)).mono ?_
  rintro e w4 ⟨r2_m, r2_0, r2_n, r2_c, r2_k, r2_1, r2_l, r2_d, rfl, hX, hB⟩
  have S6 := Lib.hid (((S5.out.step hB).qx hX rfl))
  clear S5 hX hB
  go_wp2_with fail
  refine hK.out _ _ ⟨S6.out.b.t.t.c4, S6.out.b.t.c4⟩ (fun h2 => ?_)
  clear hK K hH
  have hH := h2
  clear h2
  try simp only [nrm]
  refine step_one 8 rfl (by kernel_rfl) (fun K hK => ?_)
  obtain ⟨c_b4_0, c_b4_1, c_b4_2, c_b4_3⟩ := S6.out.b.c4
  obtain ⟨f_b4_0, f_b4_1, f_b4_2, f_b4_3⟩ := S6.out.b.f4
  go_simp
  clear c_b4_0 c_b4_1 c_b4_2 c_b4_3 f_b4_0 f_b4_1 f_b4_2 f_b4_3
  have S7 : Hid (Sx w _ [⟨(w.heap.size + 2), [.bool r2_m, .slice r2_0 r2_n r2_c, .bool r2_k, .slice r2_1 r2_l r2_d]⟩, ⟨(w.heap.size + 1), [.bool m2, .slice a2 n2 c2, .bool k2, .slice b2 l2 d2]⟩, ⟨(w.heap.size), [.bool m, .slice ao n cap, .bool k, .slice bo l cb]⟩] _) := Lib.hid (Sx.set [] [⟨(w.heap.size + 1), [.bool m2, .slice a2 n2 c2, .bool k2, .slice b2 l2 d2]⟩, ⟨(w.heap.size), [.bool m, .slice ao n cap, .bool k, .slice bo l cb]⟩] (Sx.set [] [⟨(w.heap.size + 1), [.bool m2, .slice a2 n2 c2, .bool k2, .slice b2 l2 d2]⟩, ⟨(w.heap.size), [.bool m, .slice ao n cap, .bool k, .slice bo l cb]⟩] (Sx.set [] [⟨(w.heap.size + 1), [.bool m2, .slice a2 n2 c2, .bool k2, .slice b2 l2 d2]⟩, ⟨(w.heap.size), [.bool m, .slice ao n cap, .bool k, .slice bo l cb]⟩] (Sx.set [] [⟨(w.heap.size + 1), [.bool m2, .slice a2 n2 c2, .bool k2, .slice b2 l2 d2]⟩, ⟨(w.heap.size), [.bool m, .slice ao n cap, .bool k, .slice bo l cb]⟩] S6.out 0 (.bool r2_m)) 1 (.slice r2_0 r2_n r2_c)) 2 (.bool r2_k)) 3 (.slice r2_1 r2_l r2_d))
  clear S6
  refine hK.out _ _ ⟨S7.out.b.t.t.c4, S7.out.b.t.c4⟩ (fun h2 => ?_)
  clear hK K hH
  have hH := h2
  clear h2
  try simp only [nrm]
  refine anyH_world (fun w5 hW => ?_)
  rw [← hW] at S7 hH
  clear hW
  refine wpAnyH_done (by kernel_rfl) ?_ _
  clear hH
  obtain ⟨c_b4_0, c_b4_1, c_b4_2, c_b4_3⟩ := S7.out.b.c4
  obtain ⟨f_b4_0, f_b4_1, f_b4_2, f_b4_3⟩ := S7.out.b.f4
  go_wp2_with fail
  refine bodyPost_ret (v := .agg #[.bool r2_m, .slice r2_0 r2_n r2_c, .bool r2_k, .slice r2_1 r2_l r2_d]) (by simp [results, Tryz.results18, go_sem, c_b4_0, c_b4_1, c_b4_2, c_b4_3]) rfl ?_
  exact ⟨_, _, _, _, _, _, _, _, rfl, HS.out ▸ S7.out.n.qx, S7.out.h⟩

set_option maxHeartbeats 1000000 in
set_option maxRecDepth 100000 in
theorem qsmall_any (a b : Int) (w : World) (h64_a : -9223372036854775808 ≤ a ∧ a ≤ 9223372036854775807) (h64_b : -9223372036854775808 ≤ b ∧ b ≤ 9223372036854775807) (h0 : b ≠ 0) :
    Calls Tryz.prog 22 #[.int .i64 a, .int .i64 b] w (NewQ w a b (Rat.divInt a b) 2) := by
  have H0 := Lib.hid h0
  clear h0
  go_enter Tryz.func22, Tryz.ntmps22
  have S0 := Lib.hid (Sx.start (w := w) (N := []) trivial)
  have S1 := Lib.hid (S0.out.var (w.heap.size) [.bool false, .slice none 0 0, .bool false, .slice none 0 0] 35 (by simp))
  clear S0
  go_upto_region 1 with (fail)
  refine wp_world (fun w1 hW => ?_)
  rw [← hW] at S1
  clear hW
  go_wp2_with fail
  refine (zsmall_any (a) _ h64_a).mono ?_
  rintro e w2 ⟨r1_m, r1_0, r1_n, r1_c, rfl, hX, hB⟩
  have S2 := Lib.hid (((S1.out.step hB).zb (hX.zb (bd64 h64_a) (by omega)) rfl))
  clear S1 hX hB
  go_wp2_with fail
  refine (zsmall_any (b) _ h64_b).mono ?_
  rintro e w3 ⟨r2_m, r2_0, r2_n, r2_c, rfl, hX, hB⟩
  have S3 := Lib.hid (((S2.out.step hB).zb (hX.zb (bd64 h64_b) (by omega)) rfl))
  clear S2 hX hB
  obtain ⟨c_b4_0, c_b4_1, c_b4_2, c_b4_3⟩ := S3.out.b.c4
  obtain ⟨f_b4_0, f_b4_1, f_b4_2, f_b4_3⟩ := S3.out.b.f4
  go_wp2_with fail
  have S4 : Hid (Sx w _ [⟨(w.heap.size), [.bool r1_m, .slice r1_0 r1_n r1_c, .bool r2_m, .slice r2_0 r2_n r2_c]⟩] _) := Lib.hid (Sx.set [] [] (Sx.set [] [] (Sx.set [] [] (Sx.set [] [] S3.out 0 (.bool r1_m)) 1 (.slice r1_0 r1_n r1_c)) 2 (.bool r2_m)) 3 (.slice r2_0 r2_n r2_c))
  clear S3
  refine bodyPost_ret (v := .agg #[.bool r1_m, .slice r1_0 r1_n r1_c, .bool r2_m, .slice r2_0 r2_n r2_c]) (by simp [results, Tryz.results22, go_sem, c_b4_0, c_b4_1, c_b4_2, c_b4_3]) rfl ?_
  exact ⟨_, _, _, _, _, _, _, _, rfl, ⟨S4.out.n.t.zb.zx, S4.out.n.zb.zx, H0.out, rfl, S4.out.n.t.zb.bd, S4.out.n.zb.bd⟩, S4.out.h⟩

set_option maxHeartbeats 1000000 in
set_option maxRecDepth 100000 in
theorem qsign_any (z : Int) {m : Bool} {ao : Option Addr} {n cap : Nat} {k : Bool} {bo : Option Addr} {l cb : Nat} {x d : Int} {q : Rat} {j : Nat} {w : World} (hx : Qx w m ao n cap k bo l cb x d q j) (h : qs q = z) :
    Calls Tryz.prog 24 #[.agg #[.bool m, .slice ao n cap, .bool k, .slice bo l cb]] w (RetB (.int .i64 z) w) := by
  have hv : x.sign * d.sign = qs q := by rw [← hx.val]; unfold qs; rw [q_sign hx.nz]
  obtain ⟨s, hs⟩ : ∃ s, x.sign = s := ⟨_, rfl⟩
  obtain ⟨t, ht⟩ : ∃ t, d.sign = t := ⟨_, rfl⟩
  have e1 : IntKind.i64.wrap (s * t) = z := by
    rw [← hs, ← ht, hv, h, ← h]
    rcases qs_cases q with h2 | h2 | h2 <;> rw [h2] <;> rfl
  have HS := Lib.hid hs
  have HT := Lib.hid ht
  clear hs ht hv h
  go_enter Tryz.func24, Tryz.ntmps24
  have S0 := Lib.hid (Sx.start (w := w) (N := [.qx m ao n cap k bo l cb x d q j]) ⟨hx, trivial⟩)
  clear hx
  have S1 := Lib.hid (S0.out.var (w.heap.size) [.bool m, .slice ao n cap, .bool k, .slice bo l cb] 35 (by simp))
  clear S0
  go_upto_region 1 with (fail)
  refine wp_world (fun w1 hW => ?_)
  rw [← hW] at S1
  clear hW
  have S2 := Lib.hid (S1.out.drew)
  clear S1
  refine wp_region_held_drew (S := fun w' => (w'.cell? ⟨(w.heap.size), 0, none⟩ = some (.bool m) ∧ w'.cell? ⟨(w.heap.size), 1, none⟩ = some (.slice ao n cap) ∧ w'.cell? ⟨(w.heap.size), 2, none⟩ = some (.bool k) ∧ w'.cell? ⟨(w.heap.size), 3, none⟩ = some (.slice bo l cb))) (by kernel_rfl) ((S2.out.b.c4)) (fun hH => ?_)
  refine anyH_world (fun w2 hW => ?_)
  rw [← hW] at S2 hH
  clear hW
  refine step_on 0 rfl (by kernel_rfl) (fun _ _ _ h => h) (by rfl) hH (by intro w hS; go_simp <;> with_reducible rfl) ?_
  try simp only [nrm]
  refine step_on 1 rfl (by kernel_rfl) (fun _ _ _ h => h) (by rfl) hH (by intro w hS; go_simp <;> with_reducible rfl) ?_
  try simp only [nrm]
  refine step_on 3 rfl (by kernel_rfl) (fun _ _ _ h => h) (by rfl) hH (by intro w hS; go_simp <;> with_reducible rfl) ?_
  try simp only [nrm]
  refine step_on 4 rfl (by kernel_rfl) (fun _ _ _ h => h) (by rfl) hH (by intro w hS; go_simp <;> with_reducible rfl) ?_
  try simp only [nrm]
  refine step_one 2 rfl (by kernel_rfl) (fun K hK => ?_)
  go_simp
  refine (zsign_is (s) S2.out.n.qx.num (HS.out)).mono ?_
  rintro e w3 ⟨rfl, hB⟩
  have S3 := Lib.hid ((S2.out.step hB))
  clear S2 hB
  go_wp2_with fail
  refine hK.out _ _ (S3.out.b.c4) (fun h2 => ?_)
  clear hK K hH
  have hH := h2
  clear h2
  try simp only [nrm]
  refine step_one 5 rfl (by kernel_rfl) (fun K hK => ?_)
  go_simp
  refine (zsign_is (t) S3.out.n.qx.den (HT.out)).mono ?_
  rintro e w4 ⟨rfl, hB⟩
  have S4 := Lib.hid ((S3.out.step hB))
  clear S3 hB
  go_wp2_with fail
  refine hK.out _ _ (S4.out.b.c4) (fun h2 => ?_)
  clear hK K hH
  have hH := h2
  clear h2
  try simp only [nrm]
  refine step_on 6 rfl (by kernel_rfl) (fun _ _ _ h => h) (by rfl) hH (by intro w hS; go_simp <;> with_reducible rfl) ?_
  try simp only [nrm]
  refine step_on 7 rfl (by kernel_rfl) (fun _ _ _ h => h) (by rfl) hH (by intro w hS; go_simp <;> with_reducible rfl) ?_
  try simp only [nrm]
  refine wpAnyH_done (by kernel_rfl) ?_ _
  clear hH
  go_wp2_with fail
  go_ret
  exact ⟨rfl, S4.out.h⟩

/-- are these limbs, behind this sign, the canonical ones of z? -/
def sameN (m : Bool) (xs : List Nat) (z : Int) : Bool := decide (m = decide (z < 0) ∧ xs = limbs z.natAbs)

theorem zsame_rep (r : Bool) {m k : Bool} {ao bo : Option Addr} {n cap l cb : Nat} {xs : List Nat} {z : Int} {w : World} (hs : Sl w ao n cap xs) (hv : Cx w k bo l cb z) (h : sameN m xs z = r) :
    Calls Tryz.prog 40 #[.agg #[.bool m, .slice ao n cap], .agg #[.bool k, .slice bo l cb]] w (RetB (.bool r) w) := by
  have hk := hv.cn.neg
  by_cases hm : m = k
  · subst hm
    refine same_limbs r hs hv.cn.sl ?_
    rw [← h]
    unfold sameB sameN
    rw [← hk]
    simp
  · obtain rfl : r = false := by
      rw [← h]
      unfold sameN
      rw [← hk]
      simp [hm]
    exact same_sign hm

set_option maxHeartbeats 1000000 in
set_option maxRecDepth 100000 in
theorem rsame_no {m : Bool} {ao : Option Addr} {n cap : Nat} {k : Bool} {bo : Option Addr} {l cb : Nat} {m2 : Bool} {a2 : Option Addr} {n2 c2 : Nat} {k2 : Bool} {b2 : Option Addr} {l2 d2 : Nat} {q : Rat} {j : Nat} {w : World} {xs ys : List Nat} (hs : Sl w ao n cap xs) (ht : Sl w bo l cb ys) (hy : Rc w m2 a2 n2 c2 k2 b2 l2 d2 q j) (ha : sameN m xs q.num = false) :
    Calls Tryz.prog 13 #[.agg #[.bool m, .slice ao n cap, .bool k, .slice bo l cb], .agg #[.bool m2, .slice a2 n2 c2, .bool k2, .slice b2 l2 d2]] w (RetB (.bool false) w) := by
  have HA := Lib.hid ha
  clear ha
  go_enter Tryz.func13, Tryz.ntmps13
  have S0 := Lib.hid (Sx.start (w := w) (N := [.sl ao n cap xs, .sl bo l cb ys, .rc m2 a2 n2 c2 k2 b2 l2 d2 q j]) ⟨hs, ht, hy, trivial⟩)
  clear hs ht hy
  have S1 := Lib.hid (S0.out.var (w.heap.size) [.bool m, .slice ao n cap, .bool k, .slice bo l cb] 26 (by simp))
  clear S0
  have S2 := Lib.hid (S1.out.var (w.heap.size + 1) [.bool m2, .slice a2 n2 c2, .bool k2, .slice b2 l2 d2] 26 (by simp))
  clear S1
  go_upto_region 1 with (fail)
  refine wp_world (fun w1 hW => ?_)
  rw [← hW] at S2
  clear hW
  obtain ⟨c_b2_0, c_b2_1, c_b2_2, c_b2_3⟩ := S2.out.b.t.c4
  obtain ⟨c_b3_0, c_b3_1, c_b3_2, c_b3_3⟩ := S2.out.b.c4
  go_wp2_with fail
  clear c_b2_0 c_b2_1 c_b2_2 c_b2_3 c_b3_0 c_b3_1 c_b3_2 c_b3_3
  refine (zsame_rep false S2.out.n.sl S2.out.n.t.t.rc.num (HA.out)).mono ?_
  rintro e w2 ⟨rfl, hB⟩
  have S3 := Lib.hid ((S2.out.step hB))
  clear S2 hB
  go_wp2_with fail
  go_ret
  exact ⟨rfl, S3.out.h⟩

set_option maxHeartbeats 1000000 in
set_option maxRecDepth 100000 in
theorem rsame_yes (r : Bool) {m : Bool} {ao : Option Addr} {n cap : Nat} {k : Bool} {bo : Option Addr} {l cb : Nat} {m2 : Bool} {a2 : Option Addr} {n2 c2 : Nat} {k2 : Bool} {b2 : Option Addr} {l2 d2 : Nat} {q : Rat} {j : Nat} {w : World} {xs ys : List Nat} (hs : Sl w ao n cap xs) (ht : Sl w bo l cb ys) (hy : Rc w m2 a2 n2 c2 k2 b2 l2 d2 q j) (ha : sameN m xs q.num = true) (hb : sameN k ys (q.den : Int) = r) :
    Calls Tryz.prog 13 #[.agg #[.bool m, .slice ao n cap, .bool k, .slice bo l cb], .agg #[.bool m2, .slice a2 n2 c2, .bool k2, .slice b2 l2 d2]] w (RetB (.bool r) w) := by
  have HA := Lib.hid ha
  clear ha
  have HB := Lib.hid hb
  clear hb
  go_enter Tryz.func13, Tryz.ntmps13
  have S0 := Lib.hid (Sx.start (w := w) (N := [.sl ao n cap xs, .sl bo l cb ys, .rc m2 a2 n2 c2 k2 b2 l2 d2 q j]) ⟨hs, ht, hy, trivial⟩)
  clear hs ht hy
  have S1 := Lib.hid (S0.out.var (w.heap.size) [.bool m, .slice ao n cap, .bool k, .slice bo l cb] 26 (by simp))
  clear S0
  have S2 := Lib.hid (S1.out.var (w.heap.size + 1) [.bool m2, .slice a2 n2 c2, .bool k2, .slice b2 l2 d2] 26 (by simp))
  clear S1
  go_upto_region 1 with (fail)
  refine wp_world (fun w1 hW => ?_)
  rw [← hW] at S2
  clear hW
  obtain ⟨c_b2_0, c_b2_1, c_b2_2, c_b2_3⟩ := S2.out.b.t.c4
  obtain ⟨c_b3_0, c_b3_1, c_b3_2, c_b3_3⟩ := S2.out.b.c4
  go_wp2_with fail
  clear c_b2_0 c_b2_1 c_b2_2 c_b2_3 c_b3_0 c_b3_1 c_b3_2 c_b3_3
  refine (zsame_rep true S2.out.n.sl S2.out.n.t.t.rc.num (HA.out)).mono ?_
  rintro e w2 ⟨rfl, hB⟩
  have S3 := Lib.hid ((S2.out.step hB))
  clear S2 hB
  obtain ⟨c_b2_0, c_b2_1, c_b2_2, c_b2_3⟩ := S3.out.b.t.c4
  obtain ⟨c_b3_0, c_b3_1, c_b3_2, c_b3_3⟩ := S3.out.b.c4
  go_wp2_with fail
  clear c_b2_0 c_b2_1 c_b2_2 c_b2_3 c_b3_0 c_b3_1 c_b3_2 c_b3_3
  refine (zsame_rep r S3.out.n.t.sl S3.out.n.t.t.rc.den (HB.out)).mono ?_
  rintro e w3 ⟨rfl, hB⟩
  have S4 := Lib.hid ((S3.out.step hB))
  clear S3 hB
  go_wp2_with fail
  go_ret
  exact ⟨rfl, S4.out.h⟩

set_option maxHeartbeats 1000000 in
set_option maxRecDepth 100000 in
theorem rsame_self {m : Bool} {ao : Option Addr} {n cap : Nat} {k : Bool} {bo : Option Addr} {l cb : Nat} {a2 : Option Addr} {c2 : Nat} {b2 : Option Addr} {d2 : Nat} {w : World} {xs ys : List Nat} (hs : Sl w ao n cap xs) (ht : Sl w bo l cb ys) (hs2 : Sl w a2 n c2 xs) (ht2 : Sl w b2 l d2 ys) :
    Calls Tryz.prog 13 #[.agg #[.bool m, .slice ao n cap, .bool k, .slice bo l cb], .agg #[.bool m, .slice a2 n c2, .bool k, .slice b2 l d2]] w (RetB (.bool true) w) := by
  go_enter Tryz.func13, Tryz.ntmps13
  have S0 := Lib.hid (Sx.start (w := w) (N := [.sl ao n cap xs, .sl bo l cb ys, .sl a2 n c2 xs, .sl b2 l d2 ys]) ⟨hs, ht, hs2, ht2, trivial⟩)
  clear hs ht hs2 ht2
  have S1 := Lib.hid (S0.out.var (w.heap.size) [.bool m, .slice ao n cap, .bool k, .slice bo l cb] 26 (by simp))
  clear S0
  have S2 := Lib.hid (S1.out.var (w.heap.size + 1) [.bool m, .slice a2 n c2, .bool k, .slice b2 l d2] 26 (by simp))
  clear S1
  go_upto_region 1 with (fail)
  refine wp_world (fun w1 hW => ?_)
  rw [← hW] at S2
  clear hW
  obtain ⟨c_b2_0, c_b2_1, c_b2_2, c_b2_3⟩ := S2.out.b.t.c4
  obtain ⟨c_b3_0, c_b3_1, c_b3_2, c_b3_3⟩ := S2.out.b.c4
  go_wp2_with fail
  clear c_b2_0 c_b2_1 c_b2_2 c_b2_3 c_b3_0 c_b3_1 c_b3_2 c_b3_3
  refine (zsame_self S2.out.n.sl S2.out.n.t.t.sl).mono ?_
  rintro e w2 ⟨rfl, hB⟩
  have S3 := Lib.hid ((S2.out.step hB))
  clear S2 hB
  obtain ⟨c_b2_0, c_b2_1, c_b2_2, c_b2_3⟩ := S3.out.b.t.c4
  obtain ⟨c_b3_0, c_b3_1, c_b3_2, c_b3_3⟩ := S3.out.b.c4
  go_wp2_with fail
  clear c_b2_0 c_b2_1 c_b2_2 c_b2_3 c_b3_0 c_b3_1 c_b3_2 c_b3_3
  refine (zsame_self S3.out.n.t.sl S3.out.n.t.t.t.sl).mono ?_
  rintro e w3 ⟨rfl, hB⟩
  have S4 := Lib.hid ((S3.out.step hB))
  clear S3 hB
  go_wp2_with fail
  go_ret
  exact ⟨rfl, S4.out.h⟩

theorem rsame_rep (r : Bool) {m : Bool} {ao : Option Addr} {n cap : Nat} {k : Bool} {bo : Option Addr} {l cb : Nat} {m2 : Bool} {a2 : Option Addr} {n2 c2 : Nat} {k2 : Bool} {b2 : Option Addr} {l2 d2 : Nat} {q : Rat} {j : Nat} {w : World} {xs ys : List Nat} (hs : Sl w ao n cap xs) (ht : Sl w bo l cb ys) (hy : Rc w m2 a2 n2 c2 k2 b2 l2 d2 q j) (h : (sameN m xs q.num && sameN k ys (q.den : Int)) = r) :
    Calls Tryz.prog 13 #[.agg #[.bool m, .slice ao n cap, .bool k, .slice bo l cb], .agg #[.bool m2, .slice a2 n2 c2, .bool k2, .slice b2 l2 d2]] w (RetB (.bool r) w) := by
  cases ha : sameN m xs q.num with
  | false => rw [ha] at h; obtain rfl : r = false := by simpa using h.symm
             exact rsame_no hs ht hy ha
  | true => rw [ha] at h; exact rsame_yes r hs ht hy ha (by simpa using h)

theorem sameN_self {w : World} {m : Bool} {ao : Option Addr} {n cap : Nat} {z : Int} (h : Cn w m ao n cap z) : sameN m (limbs z.natAbs) z = true := by
  unfold sameN
  rw [← h.neg]
  simp

theorem rsame_eq {m : Bool} {ao : Option Addr} {n cap : Nat} {k : Bool} {bo : Option Addr} {l cb : Nat} {m2 : Bool} {a2 : Option Addr} {n2 c2 : Nat} {k2 : Bool} {b2 : Option Addr} {l2 d2 : Nat} {q r : Rat} {j i : Nat} {w : World} (hx : Rc w m ao n cap k bo l cb q j) (hy : Rc w m2 a2 n2 c2 k2 b2 l2 d2 r i) (h : q = r) :
    Calls Tryz.prog 13 #[.agg #[.bool m, .slice ao n cap, .bool k, .slice bo l cb], .agg #[.bool m2, .slice a2 n2 c2, .bool k2, .slice b2 l2 d2]] w (RetB (.bool true) w) := by
  subst h
  exact rsame_rep true hx.num.cn.sl hx.den.cn.sl hy (by rw [sameN_self hx.num.cn, sameN_self hx.den.cn]; rfl)

theorem sameN_may {m : Bool} {xs : List Nat} (hw : Wf xs) (z : Int) : sameN m xs z = (mayB m xs.length xs && decide (zOf m (val xs) = z)) := by
  rw [mayB_iff hw, Bool.eq_iff_iff]
  unfold sameN
  simp only [Bool.and_eq_true, decide_eq_true_eq]
  constructor
  · rintro ⟨h1, h2⟩
    have h3 : zOf m (val xs) = z := by rw [h2, val_limbs, h1, zOf_can]
    rw [h3]
    exact ⟨⟨h1, h2⟩, rfl⟩
  · rintro ⟨h1, h2⟩
    rw [h2] at h1
    exact h1

theorem may_parts {m k : Bool} {xs ys : List Nat} (hw : Wf xs) (hv : Wf ys) : (sameN m xs (qv (zOf m (val xs)) (zOf k (val ys))).num && sameN k ys ((qv (zOf m (val xs)) (zOf k (val ys))).den : Int)) = rmayB m xs k ys := by
  rw [sameN_may hw, sameN_may hv]
  unfold rmayB
  obtain ⟨x, hx⟩ : ∃ x, zOf m (val xs) = x := ⟨_, rfl⟩
  obtain ⟨d, hd⟩ : ∃ d, zOf k (val ys) = d := ⟨_, rfl⟩
  rw [hx, hd]
  have e : (decide (x = (qv x d).num) && decide (d = ((qv x d).den : Int))) = (decide (0 < d) && decide (Int.gcd x d = 1)) := by
    rw [Bool.eq_iff_iff]
    simp only [Bool.and_eq_true, decide_eq_true_eq]
    constructor
    · rintro ⟨h1, h2⟩
      have h3 := q_parts (qv x d)
      have h4 := (qv x d).den_nz
      rw [← h1, ← h2] at h3
      exact ⟨by omega, h3⟩
    · rintro ⟨h1, h2⟩
      obtain ⟨e, rfl⟩ : ∃ e : Nat, d = e := ⟨d.toNat, by omega⟩
      have h3 := q_low (n := x) (d := e) (by omega) h2
      rw [qv_of (by omega), h3.1, h3.2]
      exact ⟨rfl, rfl⟩
  cases mayB m xs.length xs <;> cases mayB k ys.length ys <;> simp_all

theorem sl_inj2 {w : World} {ao : Option Addr} {n cap : Nat} {xs ys : List Nat} (h : Sl w ao n cap xs) (h' : Sl w ao n cap ys) : xs = ys := by
  refine List.ext_getElem (by rw [h.len, h'.len]) fun t h1 h2 => ?_
  have ht : t < n := by rw [← h.len]; exact h1
  cases hao : ao with
  | none => have := h.nil hao; have := h.le; omega
  | some ad =>
    have e1 := h.cells ad hao t ht
    rw [h'.cells ad hao t ht] at e1
    simp only [Option.some.injEq, Value.int.injEq, true_and] at e1
    have e2 : ys.getD t 0 = xs.getD t 0 := by omega
    simpa [List.getD, h1, h2] using e2.symm

set_option maxHeartbeats 1000000 in
set_option maxRecDepth 100000 in
theorem qmay_any (r : Bool) {m : Bool} {ao : Option Addr} {n cap : Nat} {k : Bool} {bo : Option Addr} {l cb : Nat} {x d : Int} {q : Rat} {j : Nat} {w : World} {xs ys : List Nat} (hs : Sl w ao n cap xs) (ht : Sl w bo l cb ys) (hx : Rx w m ao n cap k bo l cb x d q j) (h1 : 1 ≤ j) (h2 : j ≤ 50000) (h : rmayB m xs k ys = r) :
    Calls Tryz.prog 27 #[.agg #[.bool m, .slice ao n cap, .bool k, .slice bo l cb]] w (RetB (.bool r) w) := by
  have HR : Hid ((sameN m xs q.num && sameN k ys (q.den : Int)) = r) := by
    have h1 := hx.val
    obtain ⟨us, hu, hu2⟩ := hx.num.inn
    obtain ⟨vs, hv, hv2⟩ := hx.den.inn
    obtain rfl : xs = us := sl_inj2 hs hu
    obtain rfl : ys = vs := sl_inj2 ht hv
    rw [← hu2, ← hv2] at h1
    rw [Hid, ← h1, may_parts hs.wf ht.wf]
    exact h
  clear h
  go_enter Tryz.func27, Tryz.ntmps27
  have S0 := Lib.hid (Sx.start (w := w) (N := [.rx m ao n cap k bo l cb x d q j, .sl ao n cap xs, .sl bo l cb ys]) ⟨hx, hs, ht, trivial⟩)
  clear hx hs ht
  have S1 := Lib.hid (S0.out.var (w.heap.size) [.bool m, .slice ao n cap, .bool k, .slice bo l cb] 26 (by simp))
  clear S0
  go_upto_region 1 with (fail)
  refine wp_world (fun w1 hW => ?_)
  rw [← hW] at S1
  clear hW
  have S2 := Lib.hid (S1.out.drew)
  clear S1
  refine wp_region_held_drew (S := fun w' => (w'.cell? ⟨(w.heap.size), 0, none⟩ = some (.bool m) ∧ w'.cell? ⟨(w.heap.size), 1, none⟩ = some (.slice ao n cap) ∧ w'.cell? ⟨(w.heap.size), 2, none⟩ = some (.bool k) ∧ w'.cell? ⟨(w.heap.size), 3, none⟩ = some (.slice bo l cb))) (by kernel_rfl) ((S2.out.b.c4)) (fun hH => ?_)
  refine anyH_world (fun w2 hW => ?_)
  rw [← hW] at S2 hH
  clear hW
  refine step_on 0 rfl (by kernel_rfl) (fun _ _ _ h => h) (by rfl) hH (by intro w hS; go_simp <;> with_reducible rfl) ?_
  try simp only [nrm]
  refine step_on 1 rfl (by kernel_rfl) (fun _ _ _ h => h) (by rfl) hH (by intro w hS; go_simp <;> with_reducible rfl) ?_
  try simp only [nrm]
  refine step_one 2 rfl (by kernel_rfl) (fun K hK => ?_)
  go_simp
  refine (qof_any S2.out.n.rx (by omega) (by omega)).mono ?_
  rintro e w3 ⟨r1_m, r1_0, r1_n, r1_c, r1_k, r1_1, r1_l, r1_d, rfl, hX, hB⟩
  have S3 := Lib.hid (((S2.out.step hB).qx hX rfl))
  clear S2 hX hB
  go_wp2_with fail
  refine hK.out _ _ (S3.out.b.c4) (fun h2 => ?_)
  clear hK K hH
  have hH := h2
  clear h2
  try simp only [nrm]
  refine step_one 3 rfl (by kernel_rfl) (fun K hK => ?_)
  go_simp
  refine (qrat_any S3.out.n.qx (by omega) (by omega)).mono ?_
  rintro e w4 ⟨r2_m, r2_0, r2_n, r2_c, r2_k, r2_1, r2_l, r2_d, rfl, hX, hB⟩
  have S4 := Lib.hid (((S3.out.step hB).rc hX rfl))
  clear S3 hX hB
  go_wp2_with fail
  refine hK.out _ _ (S4.out.b.c4) (fun h2 => ?_)
  clear hK K hH
  have hH := h2
  clear h2
  try simp only [nrm]
  refine step_one 4 rfl (by kernel_rfl) (fun K hK => ?_)
  go_simp
  refine (rsame_rep r S4.out.n.t.t.t.sl S4.out.n.t.t.t.t.sl S4.out.n.rc (HR.out)).mono ?_
  rintro e w5 ⟨rfl, hB⟩
  have S5 := Lib.hid ((S4.out.step hB))
  clear S4 hB
  go_wp2_with fail
  refine hK.out _ _ (S5.out.b.c4) (fun h2 => ?_)
  clear hK K hH
  have hH := h2
  clear h2
  try simp only [nrm]
  refine step_on 5 rfl (by kernel_rfl) (fun _ _ _ h => h) (by rfl) hH (by intro w hS; go_simp <;> with_reducible rfl) ?_
  try simp only [nrm]
  refine wpAnyH_done (by kernel_rfl) ?_ _
  clear hH
  go_wp2_with fail
  go_ret
  exact ⟨rfl, S5.out.h⟩

end Go.Proofs.YteceomlbnajihaaGreatDoor
