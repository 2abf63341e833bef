/-
  The contracts of the reference's Text and Parse.
-/
import Derived.Test.YteceomlbnajihaaGreatDoorRatioQ2
import Derived.Test.YteceomlbnajihaaGreatDoorRatTxt
import Derived.Test.YteceomlbnajihaaGreatDoorGTxtR
import Derived.Test.YteceomlbnajihaaGreatDoorGRef
import Derived.Test.YteceomlbnajihaaGreatDoorRatioPar
import Derived.Deep.Cut
import Derived.Deep.CutRange
set_option maxRecDepth 8192
namespace Go.Proofs.YteceomlbnajihaaGreatDoor
open Go.RowKit

theorem same_is {a0 b0 : Option Addr} {la ca lb cb : Nat} {xs ys : List Nat} {w : World} (r : Bool) (ha : Sl w a0 la ca xs) (hb : Sl w b0 lb cb ys) (h : sameB xs ys = r) :
    Calls Tryz.prog 60 #[.slice a0 la ca, .slice b0 lb cb] w (RetB (.bool r) w) := by
  subst h
  exact (same_any a0 b0 la ca lb cb xs ys w ha hb).mono fun _ _ h => h.b
theorem den_one (q : Rat) : sameB (limbs (q.den : Int).natAbs) [1] = decide (q.den = 1) := by
  unfold sameB
  rw [Bool.eq_iff_iff, decide_eq_true_eq, decide_eq_true_eq, Int.natAbs_natCast]
  constructor
  · intro h
    have h1 := congrArg val h
    rw [val_limbs] at h1
    simpa [val] using h1
  · intro h
    rw [h]
    decide +kernel

set_option maxHeartbeats 1000000 in
set_option maxRecDepth 100000 in
theorem qtext_one {m : Bool} {ao : Option Addr} {n cap : Nat} {k : Bool} {bo : Option Addr} {l cb : Nat} {x d : Int} {q : Rat} {j : Nat} {w : World} (hx : Qx w m ao n cap k bo l cb x d q j) (h1 : 1 ≤ j) (h2 : j ≤ 50000) (h0 : q.den = 1) :
    Calls Tryz.prog 29 #[.agg #[.bool m, .slice ao n cap, .bool k, .slice bo l cb]] w (RetB (.string (ratS q)) w) := by
  have hbn : Bd q.num j := by rw [← hx.val]; exact bd_num hx.bn hx.nz
  have hbd : Bd (q.den : Int) j := by rw [← hx.val]; exact bd_den hx.bd hx.nz
  obtain ⟨u, hu⟩ : ∃ u : ByteArray, u = ⟨(Lib.itoa q.num).toArray⟩ := ⟨_, rfl⟩
  have HD : Hid (sameB (limbs (q.den : Int).natAbs) [1] = true) := by rw [Hid, den_one]; simpa using h0
  have HU := Lib.hid hu
  have HZ : Hid (u = ratS q) := by rw [Hid, hu]; unfold ratS ratTxt; rw [if_pos h0, List.append_nil]
  clear hu hbn hbd h0
  go_enter Tryz.func29, Tryz.ntmps29
  have S0 := Lib.hid (Sx.start (w := w) (N := [.qx m ao n cap k bo l cb x d q j]) ⟨hx, trivial⟩)
  clear hx
  have S1 := Lib.hid (S0.out.var (w.heap.size) [.bool m, .slice ao n cap, .bool k, .slice bo l cb] 35 (by simp))
  clear S0
  go_upto_region 1 with (fail)
  refine wp_world (fun w1 hW => ?_)
  rw [← hW] at S1
  clear hW
  obtain ⟨c_b1_0, c_b1_1, c_b1_2, c_b1_3⟩ := S1.out.b.c4
  go_wp2_with fail
  clear c_b1_0 c_b1_1 c_b1_2 c_b1_3
  refine (qrat_any S1.out.n.qx (by omega) (by omega)).mono ?_
  rintro e w2 ⟨r1_m, r1_0, r1_n, r1_c, r1_k, r1_1, r1_l, r1_d, rfl, hX, hB⟩
  have S2 := Lib.hid (((S1.out.step hB).rc hX rfl))
  clear S1 hX hB
  go_upto_region 2 with (fail)
  have S3 := Lib.hid (S2.out.var (w2.heap.size) [.bool r1_m, .slice r1_0 r1_n r1_c, .bool r1_k, .slice r1_1 r1_l r1_d] 26 (by simp))
  clear S2
  refine wp_world (fun w3 hW => ?_)
  rw [← hW] at S3
  clear hW
  obtain ⟨c_b3_0, c_b3_1, c_b3_2, c_b3_3⟩ := S3.out.b.c4
  go_wp2_with fail
  clear c_b3_0 c_b3_1 c_b3_2 c_b3_3
  have S4 := Lib.hid (S3.out.var (w3.heap.size) [.int .u32 1] 79 (by simp))
  clear S3
  refine (same_is true S4.out.n.rc.den.cn.sl (Cells.lit1 (x := 1) S4.out.b.1 (by omega)) (HD.out)).mono ?_
  rintro e w4 ⟨rfl, hB⟩
  have S5 := Lib.hid ((S4.out.step hB))
  clear S4 hB
  have S6 := Lib.hid (S5.out.pop)
  clear S5
  obtain ⟨c_b3_0, c_b3_1, c_b3_2, c_b3_3⟩ := S6.out.b.c4
  go_wp2_with fail
  clear c_b3_0 c_b3_1 c_b3_2 c_b3_3
  refine (rtext_any S6.out.n.rc.num.nx (Nat.le_trans (S6.out.n.rc.num.cn.le S6.out.n.rc.bn) (by omega))).mono ?_
  rintro e w5 ⟨rfl, hB⟩
  rw [← HU.out]
  have S7 := Lib.hid ((S6.out.step hB))
  clear S6 hB
  go_wp2_with fail
  go_ret
  exact ⟨by rw [← HZ.out]; rfl, S7.out.h⟩

set_option maxHeartbeats 1000000 in
set_option maxRecDepth 100000 in
theorem qtext_two {m : Bool} {ao : Option Addr} {n cap : Nat} {k : Bool} {bo : Option Addr} {l cb : Nat} {x d : Int} {q : Rat} {j : Nat} {w : World} (hx : Qx w m ao n cap k bo l cb x d q j) (h1 : 1 ≤ j) (h2 : j ≤ 50000) (h0 : ¬ q.den = 1) :
    Calls Tryz.prog 29 #[.agg #[.bool m, .slice ao n cap, .bool k, .slice bo l cb]] w (RetB (.string (ratS q)) w) := by
  have hbn : Bd q.num j := by rw [← hx.val]; exact bd_num hx.bn hx.nz
  have hbd : Bd (q.den : Int) j := by rw [← hx.val]; exact bd_den hx.bd hx.nz
  obtain ⟨u, hu⟩ : ∃ u : ByteArray, u = ⟨(Lib.itoa q.num).toArray⟩ := ⟨_, rfl⟩
  have HD : Hid (sameB (limbs (q.den : Int).natAbs) [1] = false) := by rw [Hid, den_one]; simpa using h0
  obtain ⟨v, hv⟩ : ∃ v : ByteArray, v = ⟨(Lib.itoa (q.den : Int)).toArray⟩ := ⟨_, rfl⟩
  obtain ⟨t, ht2⟩ : ∃ t : ByteArray, t = ⟨(Lib.itoa q.num ++ [47]).toArray⟩ := ⟨_, rfl⟩
  obtain ⟨z, hz⟩ : ∃ z : ByteArray, z = ⟨(Lib.itoa q.num ++ [47] ++ Lib.itoa (q.den : Int)).toArray⟩ := ⟨_, rfl⟩
  have l1 := itoa_len hbn
  have l2 := itoa_len hbd
  have hadd1 : ∀ W : World, (Op.stringOp .add u ⟨#[47]⟩).run Tryz.prog W = .ok (.string t) W := fun W => by rw [hu, ht2]; exact str_add W _ [47] (by simp; omega)
  have hadd2 : ∀ W : World, (Op.stringOp .add t v).run Tryz.prog W = .ok (.string z) W := fun W => by rw [hv, ht2, hz]; exact str_add W _ _ (by simp; omega)
  have HZ : Hid (z = ratS q) := by rw [Hid, hz]; unfold ratS ratTxt; rw [if_neg h0, List.append_assoc]; rfl
  have HU := Lib.hid hu
  have HW := Lib.hid hv
  clear hu hv ht2 hz l1 l2 hbn hbd h0
  go_enter Tryz.func29, Tryz.ntmps29
  have S0 := Lib.hid (Sx.start (w := w) (N := [.qx m ao n cap k bo l cb x d q j]) ⟨hx, trivial⟩)
  clear hx
  have S1 := Lib.hid (S0.out.var (w.heap.size) [.bool m, .slice ao n cap, .bool k, .slice bo l cb] 35 (by simp))
  clear S0
  go_upto_region 1 with (fail)
  refine wp_world (fun w1 hW => ?_)
  rw [← hW] at S1
  clear hW
  obtain ⟨c_b1_0, c_b1_1, c_b1_2, c_b1_3⟩ := S1.out.b.c4
  go_wp2_with fail
  clear c_b1_0 c_b1_1 c_b1_2 c_b1_3
  refine (qrat_any S1.out.n.qx (by omega) (by omega)).mono ?_
  rintro e w2 ⟨r1_m, r1_0, r1_n, r1_c, r1_k, r1_1, r1_l, r1_d, rfl, hX, hB⟩
  have S2 := Lib.hid (((S1.out.step hB).rc hX rfl))
  clear S1 hX hB
  go_upto_region 2 with (fail)
  have S3 := Lib.hid (S2.out.var (w2.heap.size) [.bool r1_m, .slice r1_0 r1_n r1_c, .bool r1_k, .slice r1_1 r1_l r1_d] 26 (by simp))
  clear S2
  refine wp_world (fun w3 hW => ?_)
  rw [← hW] at S3
  clear hW
  obtain ⟨c_b3_0, c_b3_1, c_b3_2, c_b3_3⟩ := S3.out.b.c4
  go_wp2_with fail
  clear c_b3_0 c_b3_1 c_b3_2 c_b3_3
  have S4 := Lib.hid (S3.out.var (w3.heap.size) [.int .u32 1] 79 (by simp))
  clear S3
  refine (same_is false S4.out.n.rc.den.cn.sl (Cells.lit1 (x := 1) S4.out.b.1 (by omega)) (HD.out)).mono ?_
  rintro e w4 ⟨rfl, hB⟩
  have S5 := Lib.hid ((S4.out.step hB))
  clear S4 hB
  have S6 := Lib.hid (S5.out.pop)
  clear S5
  go_wp2_with fail
  have S7 := Lib.hid (S6.out.drew)
  clear S6
  refine wp_region_held_drew (S := fun w' => (w'.cell? ⟨(w2.heap.size), 0, none⟩ = some (.bool r1_m) ∧ w'.cell? ⟨(w2.heap.size), 1, none⟩ = some (.slice r1_0 r1_n r1_c) ∧ w'.cell? ⟨(w2.heap.size), 2, none⟩ = some (.bool r1_k) ∧ w'.cell? ⟨(w2.heap.size), 3, none⟩ = some (.slice r1_1 r1_l r1_d))) (by kernel_rfl) ((S7.out.b.c4)) (fun hH => ?_)
  refine anyH_world (fun w5 hW => ?_)
  rw [← hW] at S7 hH
  clear hW
  refine step_on 0 rfl (by kernel_rfl) (fun _ _ _ h => h) (by rfl) hH (by intro w hS; go_simp <;> with_reducible rfl) ?_
  try simp only [nrm]
  refine step_on 1 rfl (by kernel_rfl) (fun _ _ _ h => h) (by rfl) hH (by intro w hS; go_simp <;> with_reducible rfl) ?_
  try simp only [nrm]
  refine step_on 4 rfl (by kernel_rfl) (fun _ _ _ h => h) (by rfl) hH (by intro w hS; go_simp <;> with_reducible rfl) ?_
  try simp only [nrm]
  refine step_on 5 rfl (by kernel_rfl) (fun _ _ _ h => h) (by rfl) hH (by intro w hS; go_simp <;> with_reducible rfl) ?_
  try simp only [nrm]
  refine step_one 2 rfl (by kernel_rfl) (fun K hK => ?_)
  go_simp
  refine (rtext_any S7.out.n.rc.num.nx (Nat.le_trans (S7.out.n.rc.num.cn.le S7.out.n.rc.bn) (by omega))).mono ?_
  rintro e w6 ⟨rfl, hB⟩
  rw [← HU.out]
  have S8 := Lib.hid ((S7.out.step hB))
  clear S7 hB
  go_wp2_with fail
  refine hK.out _ _ (S8.out.b.c4) (fun h2 => ?_)
  clear hK K hH
  have hH := h2
  clear h2
  try simp only [nrm]
  refine step_on 3 rfl (by kernel_rfl) (fun _ _ _ h => h) (by rfl) hH (by intro w hS; go_simp <;> with_reducible rfl) ?_
  try simp only [nrm]
  refine step_one 6 rfl (by kernel_rfl) (fun K hK => ?_)
  go_simp
  refine (rtext_any S8.out.n.rc.den.nx (Nat.le_trans (S8.out.n.rc.den.cn.le S8.out.n.rc.bd) (by omega))).mono ?_
  rintro e w7 ⟨rfl, hB⟩
  rw [← HW.out]
  have S9 := Lib.hid ((S8.out.step hB))
  clear S8 hB
  go_wp2_with fail
  refine hK.out _ _ (S9.out.b.c4) (fun h2 => ?_)
  clear hK K hH
  have hH := h2
  clear h2
  try simp only [nrm]
  refine step_on 7 rfl (by kernel_rfl) (fun _ _ _ h => h) (by rfl) hH (by intro w hS; go_simp <;> with_reducible rfl) ?_
  try simp only [nrm]
  refine step_on 8 rfl (by kernel_rfl) (fun _ _ _ h => h) (by rfl) hH (by intro w hS; go_simp <;> with_reducible rfl) ?_
  try simp only [nrm]
  refine wpAnyH_done (by kernel_rfl) ?_ _
  clear hH
  go_wp2_with fail
  go_ret
  exact ⟨by rw [← HZ.out]; rfl, S9.out.h⟩

theorem qtext_any {m : Bool} {ao : Option Addr} {n cap : Nat} {k : Bool} {bo : Option Addr} {l cb : Nat} {x d : Int} {q : Rat} {j : Nat} {w : World} (hx : Qx w m ao n cap k bo l cb x d q j) (h1 : 1 ≤ j) (h2 : j ≤ 50000) :
    Calls Tryz.prog 29 #[.agg #[.bool m, .slice ao n cap, .bool k, .slice bo l cb]] w (RetB (.string (ratS q)) w) := by
  by_cases h0 : q.den = 1
  · exact qtext_one hx h1 h2 h0
  · exact qtext_two hx h1 h2 h0

end Go.Proofs.YteceomlbnajihaaGreatDoor
