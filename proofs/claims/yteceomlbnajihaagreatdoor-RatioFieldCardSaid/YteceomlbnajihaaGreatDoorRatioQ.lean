/-
  The contracts of the reference's Of and Rat.
-/
import Derived.Test.YteceomlbnajihaaGreatDoorRx
import Derived.Test.YteceomlbnajihaaGreatDoorRatioA
import Derived.Test.YteceomlbnajihaaGreatDoorGWZ
import Derived.Test.YteceomlbnajihaaGreatDoorGWZ2
import Derived.Deep.Cut
import Derived.Deep.CutRange
set_option maxRecDepth 8192
namespace Go.Proofs.YteceomlbnajihaaGreatDoor
open Go.RowKit
theorem sg0q {d s : Int} (hs : d.sign = s) : (s == 0) = decide (d = 0) := by
  rw [← hs, Bool.eq_iff_iff]; simp [Int.sign_eq_zero_iff_zero]

set_option maxHeartbeats 1000000 in
set_option maxRecDepth 100000 in
theorem qof_zero {m : Bool} {ao : Option Addr} {n cap : Nat} {k : Bool} {bo : Option Addr} {l cb : Nat} {x d : Int} {q : Rat} {j : Nat} {w : World} (hx : Rx w m ao n cap k bo l cb x d q j) (h1 : 1 ≤ j) (h2 : j ≤ 50000) (h0 : d = 0) :
    Calls Tryz.prog 12 #[.agg #[.bool m, .slice ao n cap, .bool k, .slice bo l cb]] w (NewQ w x (dn d) q j) := by
  obtain ⟨s, hs⟩ : ∃ s, d.sign = s := ⟨_, rfl⟩
  have e1 : (s == 0) = true := by rw [sg0q hs]; simpa using h0
  have HS := Lib.hid hs
  have H0 := Lib.hid h0
  clear hs h0
  go_enter Tryz.func12, Tryz.ntmps12
  have S0 := Lib.hid (Sx.start (w := w) (N := [.rx m ao n cap k bo l cb x d q j]) ⟨hx, trivial⟩)
  clear hx
  have S1 := Lib.hid (S0.out.var (w.heap.size) [.bool m, .slice ao n cap, .bool k, .slice bo l cb] 26 (by simp))
  clear S0
  have S2 := Lib.hid (S1.out.var (w.heap.size + 1) [.bool false, .slice none 0 0, .bool false, .slice none 0 0] 35 (by simp))
  clear S1
  go_upto_region 1 with (fail)
  refine wp_world (fun w1 hW => ?_)
  rw [← hW] at S2
  clear hW
  obtain ⟨c_b1_0, c_b1_1, c_b1_2, c_b1_3⟩ := S2.out.b.t.c4
  go_wp2_with fail
  clear c_b1_0 c_b1_1 c_b1_2 c_b1_3
  refine (zof_any S2.out.n.rx.den).mono ?_
  rintro e w2 ⟨r1_m, r1_0, r1_n, r1_c, rfl, hX, hB⟩
  have S3 := Lib.hid (((S2.out.step hB).zb (hX.zb (S2.out.n.rx.bd) (by omega)) rfl))
  clear S2 hX hB
  go_upto_region 2 with (fail)
  have S4 := Lib.hid (S3.out.var (w2.heap.size) [.bool r1_m, .slice r1_0 r1_n r1_c] 33 (by simp))
  clear S3
  refine wp_world (fun w3 hW => ?_)
  rw [← hW] at S4
  clear hW
  obtain ⟨c_b3_0, c_b3_1⟩ := S4.out.b.c2
  go_wp2_with fail
  clear c_b3_0 c_b3_1
  refine (zsign_is (s) S4.out.n.zb.zx (HS.out)).mono ?_
  rintro e w4 ⟨rfl, hB⟩
  have S5 := Lib.hid ((S4.out.step hB))
  clear S4 hB
  go_wp2_with fail
  refine (zsmall_any (1) _ ⟨by omega, by omega⟩).mono ?_
  rintro e w5 ⟨r2_m, r2_0, r2_n, r2_c, rfl, hX, hB⟩
  have S6 := Lib.hid (((S5.out.step hB).zb (hX.zb (show Bd (1 : Int) 1 by unfold Bd; decide) (by omega)) rfl))
  clear S5 hX hB
  obtain ⟨c_b3_0, c_b3_1⟩ := S6.out.b.c2
  obtain ⟨f_b3_0, f_b3_1⟩ := S6.out.b.f2
  go_upto_region 4 with (fail)
  clear c_b3_0 c_b3_1 f_b3_0 f_b3_1
  have S7 : Hid (Sx w _ [⟨(w2.heap.size), [.bool r2_m, .slice r2_0 r2_n r2_c]⟩, ⟨(w.heap.size + 1), [.bool false, .slice none 0 0, .bool false, .slice none 0 0]⟩, ⟨(w.heap.size), [.bool m, .slice ao n cap, .bool k, .slice bo l cb]⟩] _) := Lib.hid (Sx.set [] [⟨(w.heap.size + 1), [.bool false, .slice none 0 0, .bool false, .slice none 0 0]⟩, ⟨(w.heap.size), [.bool m, .slice ao n cap, .bool k, .slice bo l cb]⟩] (Sx.set [] [⟨(w.heap.size + 1), [.bool false, .slice none 0 0, .bool false, .slice none 0 0]⟩, ⟨(w.heap.size), [.bool m, .slice ao n cap, .bool k, .slice bo l cb]⟩] S6.out 0 (.bool r2_m)) 1 (.slice r2_0 r2_n r2_c))
  clear S6
  refine wp_world (fun w6 hW => ?_)
  rw [← hW] at S7
  clear hW
  have S8 := Lib.hid (S7.out.drew)
  clear S7
  refine wp_region_held_drew (S := fun w' => (w'.cell? ⟨(w.heap.size), 0, none⟩ = some (.bool m) ∧ w'.cell? ⟨(w.heap.size), 1, none⟩ = some (.slice ao n cap) ∧ w'.cell? ⟨(w.heap.size), 2, none⟩ = some (.bool k) ∧ w'.cell? ⟨(w.heap.size), 3, none⟩ = some (.slice bo l cb)) ∧ (w'.cell? ⟨(w2.heap.size), 0, none⟩ = some (.bool r2_m) ∧ w'.cell? ⟨(w2.heap.size), 1, none⟩ = some (.slice r2_0 r2_n r2_c))) (by kernel_rfl) (⟨S8.out.b.t.t.c4, S8.out.b.c2⟩) (fun hH => ?_)
  refine anyH_world (fun w7 hW => ?_)
  rw [← hW] at S8 hH
  clear hW
  refine step_on 0 rfl (by kernel_rfl) (fun _ _ _ h => h) (by rfl) hH (by intro w hS; go_simp <;> with_reducible rfl) ?_
  try simp only [nrm]
  refine step_on 1 rfl (by kernel_rfl) (fun _ _ _ h => h) (by rfl) hH (by intro w hS; go_simp <;> with_reducible rfl) ?_
  try simp only [nrm]
  refine step_on 3 rfl (by kernel_rfl) (fun _ _ _ h => h) (by rfl) hH (by intro w hS; go_simp <;> with_reducible rfl) ?_
  try simp only [nrm]
  refine step_one 2 rfl (by kernel_rfl) (fun K hK => ?_)
  go_simp
  refine (zof_any S8.out.n.t.t.rx.num).mono ?_
  rintro e w8 ⟨r3_m, r3_0, r3_n, r3_c, rfl, hX, hB⟩
  have S9 := Lib.hid (((S8.out.step hB).zb (hX.zb (S8.out.n.t.t.rx.bn) (by omega)) rfl))
  clear S8 hX hB
  go_wp2_with fail
  refine hK.out _ _ ⟨S9.out.b.t.t.c4, S9.out.b.c2⟩ (fun h2 => ?_)
  clear hK K hH
  have hH := h2
  clear h2
  try simp only [nrm]
  refine step_on 4 rfl (by kernel_rfl) (fun _ _ _ h => h) (by rfl) hH (by intro w hS; go_simp <;> with_reducible rfl) ?_
  try simp only [nrm]
  refine step_one 5 rfl (by kernel_rfl) (fun K hK => ?_)
  obtain ⟨c_b2_0, c_b2_1, c_b2_2, c_b2_3⟩ := S9.out.b.t.c4
  obtain ⟨f_b2_0, f_b2_1, f_b2_2, f_b2_3⟩ := S9.out.b.t.f4
  go_simp
  clear c_b2_0 c_b2_1 c_b2_2 c_b2_3 f_b2_0 f_b2_1 f_b2_2 f_b2_3
  have S10 : Hid (Sx w _ [⟨(w2.heap.size), [.bool r2_m, .slice r2_0 r2_n r2_c]⟩, ⟨(w.heap.size + 1), [.bool r3_m, .slice r3_0 r3_n r3_c, .bool r2_m, .slice r2_0 r2_n r2_c]⟩, ⟨(w.heap.size), [.bool m, .slice ao n cap, .bool k, .slice bo l cb]⟩] _) := Lib.hid (Sx.set [⟨(w2.heap.size), [.bool r2_m, .slice r2_0 r2_n r2_c]⟩] [⟨(w.heap.size), [.bool m, .slice ao n cap, .bool k, .slice bo l cb]⟩] (Sx.set [⟨(w2.heap.size), [.bool r2_m, .slice r2_0 r2_n r2_c]⟩] [⟨(w.heap.size), [.bool m, .slice ao n cap, .bool k, .slice bo l cb]⟩] (Sx.set [⟨(w2.heap.size), [.bool r2_m, .slice r2_0 r2_n r2_c]⟩] [⟨(w.heap.size), [.bool m, .slice ao n cap, .bool k, .slice bo l cb]⟩] (Sx.set [⟨(w2.heap.size), [.bool r2_m, .slice r2_0 r2_n r2_c]⟩] [⟨(w.heap.size), [.bool m, .slice ao n cap, .bool k, .slice bo l cb]⟩] S9.out 0 (.bool r3_m)) 1 (.slice r3_0 r3_n r3_c)) 2 (.bool r2_m)) 3 (.slice r2_0 r2_n r2_c))
  clear S9
  refine hK.out _ _ ⟨S10.out.b.t.t.c4, S10.out.b.c2⟩ (fun h2 => ?_)
  clear hK K hH
  have hH := h2
  clear h2
  try simp only [nrm]
  refine anyH_world (fun w9 hW => ?_)
  rw [← hW] at S10 hH
  clear hW
  refine wpAnyH_done (by kernel_rfl) ?_ _
  clear hH
  obtain ⟨c_b2_0, c_b2_1, c_b2_2, c_b2_3⟩ := S10.out.b.t.c4
  obtain ⟨f_b2_0, f_b2_1, f_b2_2, f_b2_3⟩ := S10.out.b.t.f4
  go_wp2_with fail
  refine bodyPost_ret (v := .agg #[.bool r3_m, .slice r3_0 r3_n r3_c, .bool r2_m, .slice r2_0 r2_n r2_c]) (by simp [results, Tryz.results12, go_sem, c_b2_0, c_b2_1, c_b2_2, c_b2_3]) rfl ?_
  exact ⟨_, _, _, _, _, _, _, _, rfl, ⟨S10.out.n.zb.zx, (by rw [dn_zero H0.out]; exact S10.out.n.t.zb.zx), dn_ne d, S10.out.n.t.t.t.rx.val, S10.out.n.t.t.t.rx.bn, dn_bd S10.out.n.t.t.t.rx.bd (by omega)⟩, S10.out.h⟩

set_option maxHeartbeats 1000000 in
set_option maxRecDepth 100000 in
theorem qof_some {m : Bool} {ao : Option Addr} {n cap : Nat} {k : Bool} {bo : Option Addr} {l cb : Nat} {x d : Int} {q : Rat} {j : Nat} {w : World} (hx : Rx w m ao n cap k bo l cb x d q j) (h1 : 1 ≤ j) (h2 : j ≤ 50000) (h0 : d ≠ 0) :
    Calls Tryz.prog 12 #[.agg #[.bool m, .slice ao n cap, .bool k, .slice bo l cb]] w (NewQ w x (dn d) q j) := by
  obtain ⟨s, hs⟩ : ∃ s, d.sign = s := ⟨_, rfl⟩
  have e1 : (s == 0) = false := by rw [sg0q hs]; simpa using h0
  have HS := Lib.hid hs
  have H0 := Lib.hid h0
  clear hs h0
  go_enter Tryz.func12, Tryz.ntmps12
  have S0 := Lib.hid (Sx.start (w := w) (N := [.rx m ao n cap k bo l cb x d q j]) ⟨hx, trivial⟩)
  clear hx
  have S1 := Lib.hid (S0.out.var (w.heap.size) [.bool m, .slice ao n cap, .bool k, .slice bo l cb] 26 (by simp))
  clear S0
  have S2 := Lib.hid (S1.out.var (w.heap.size + 1) [.bool false, .slice none 0 0, .bool false, .slice none 0 0] 35 (by simp))
  clear S1
  go_upto_region 1 with (fail)
  refine wp_world (fun w1 hW => ?_)
  rw [← hW] at S2
  clear hW
  obtain ⟨c_b1_0, c_b1_1, c_b1_2, c_b1_3⟩ := S2.out.b.t.c4
  go_wp2_with fail
  clear c_b1_0 c_b1_1 c_b1_2 c_b1_3
  refine (zof_any S2.out.n.rx.den).mono ?_
  rintro e w2 ⟨r1_m, r1_0, r1_n, r1_c, rfl, hX, hB⟩
  have S3 := Lib.hid (((S2.out.step hB).zb (hX.zb (S2.out.n.rx.bd) (by omega)) rfl))
  clear S2 hX hB
  go_upto_region 2 with (fail)
  have S4 := Lib.hid (S3.out.var (w2.heap.size) [.bool r1_m, .slice r1_0 r1_n r1_c] 33 (by simp))
  clear S3
  refine wp_world (fun w3 hW => ?_)
  rw [← hW] at S4
  clear hW
  obtain ⟨c_b3_0, c_b3_1⟩ := S4.out.b.c2
  go_wp2_with fail
  clear c_b3_0 c_b3_1
  refine (zsign_is (s) S4.out.n.zb.zx (HS.out)).mono ?_
  rintro e w4 ⟨rfl, hB⟩
  have S5 := Lib.hid ((S4.out.step hB))
  clear S4 hB
  go_wp2_with fail
  have S6 := Lib.hid (S5.out.drew)
  clear S5
  refine wp_region_held_drew (S := fun w' => (w'.cell? ⟨(w.heap.size), 0, none⟩ = some (.bool m) ∧ w'.cell? ⟨(w.heap.size), 1, none⟩ = some (.slice ao n cap) ∧ w'.cell? ⟨(w.heap.size), 2, none⟩ = some (.bool k) ∧ w'.cell? ⟨(w.heap.size), 3, none⟩ = some (.slice bo l cb)) ∧ (w'.cell? ⟨(w2.heap.size), 0, none⟩ = some (.bool r1_m) ∧ w'.cell? ⟨(w2.heap.size), 1, none⟩ = some (.slice r1_0 r1_n r1_c))) (by kernel_rfl) (⟨S6.out.b.t.t.c4, S6.out.b.c2⟩) (fun hH => ?_)
  refine anyH_world (fun w5 hW => ?_)
  rw [← hW] at S6 hH
  clear hW
  refine step_on 0 rfl (by kernel_rfl) (fun _ _ _ h => h) (by rfl) hH (by intro w hS; go_simp <;> with_reducible rfl) ?_
  try simp only [nrm]
  refine step_on 1 rfl (by kernel_rfl) (fun _ _ _ h => h) (by rfl) hH (by intro w hS; go_simp <;> with_reducible rfl) ?_
  try simp only [nrm]
  refine step_on 3 rfl (by kernel_rfl) (fun _ _ _ h => h) (by rfl) hH (by intro w hS; go_simp <;> with_reducible rfl) ?_
  try simp only [nrm]
  refine step_one 2 rfl (by kernel_rfl) (fun K hK => ?_)
  go_simp
  refine (zof_any S6.out.n.t.rx.num).mono ?_
  rintro e w6 ⟨r2_m, r2_0, r2_n, r2_c, rfl, hX, hB⟩
  have S7 := Lib.hid (((S6.out.step hB).zb (hX.zb (S6.out.n.t.rx.bn) (by omega)) rfl))
  clear S6 hX hB
  go_wp2_with fail
  refine hK.out _ _ ⟨S7.out.b.t.t.c4, S7.out.b.c2⟩ (fun h2 => ?_)
  clear hK K hH
  have hH := h2
  clear h2
  try simp only [nrm]
  refine step_on 4 rfl (by kernel_rfl) (fun _ _ _ h => h) (by rfl) hH (by intro w hS; go_simp <;> with_reducible rfl) ?_
  try simp only [nrm]
  refine step_one 5 rfl (by kernel_rfl) (fun K hK => ?_)
  obtain ⟨c_b2_0, c_b2_1, c_b2_2, c_b2_3⟩ := S7.out.b.t.c4
  obtain ⟨f_b2_0, f_b2_1, f_b2_2, f_b2_3⟩ := S7.out.b.t.f4
  go_simp
  clear c_b2_0 c_b2_1 c_b2_2 c_b2_3 f_b2_0 f_b2_1 f_b2_2 f_b2_3
  have S8 : Hid (Sx w _ [⟨(w2.heap.size), [.bool r1_m, .slice r1_0 r1_n r1_c]⟩, ⟨(w.heap.size + 1), [.bool r2_m, .slice r2_0 r2_n r2_c, .bool r1_m, .slice r1_0 r1_n r1_c]⟩, ⟨(w.heap.size), [.bool m, .slice ao n cap, .bool k, .slice bo l cb]⟩] _) := Lib.hid (Sx.set [⟨(w2.heap.size), [.bool r1_m, .slice r1_0 r1_n r1_c]⟩] [⟨(w.heap.size), [.bool m, .slice ao n cap, .bool k, .slice bo l cb]⟩] (Sx.set [⟨(w2.heap.size), [.bool r1_m, .slice r1_0 r1_n r1_c]⟩] [⟨(w.heap.size), [.bool m, .slice ao n cap, .bool k, .slice bo l cb]⟩] (Sx.set [⟨(w2.heap.size), [.bool r1_m, .slice r1_0 r1_n r1_c]⟩] [⟨(w.heap.size), [.bool m, .slice ao n cap, .bool k, .slice bo l cb]⟩] (Sx.set [⟨(w2.heap.size), [.bool r1_m, .slice r1_0 r1_n r1_c]⟩] [⟨(w.heap.size), [.bool m, .slice ao n cap, .bool k, .slice bo l cb]⟩] S7.out 0 (.bool r2_m)) 1 (.slice r2_0 r2_n r2_c)) 2 (.bool r1_m)) 3 (.slice r1_0 r1_n r1_c))
  clear S7
  refine hK.out _ _ ⟨S8.out.b.t.t.c4, S8.out.b.c2⟩ (fun h2 => ?_)
  clear hK K hH
  have hH := h2
  clear h2
  try simp only [nrm]
  refine anyH_world (fun w7 hW => ?_)
  rw [← hW] at S8 hH
  clear hW
  refine wpAnyH_done (by kernel_rfl) ?_ _
  clear hH
  obtain ⟨c_b2_0, c_b2_1, c_b2_2, c_b2_3⟩ := S8.out.b.t.c4
  obtain ⟨f_b2_0, f_b2_1, f_b2_2, f_b2_3⟩ := S8.out.b.t.f4
  go_wp2_with fail
  refine bodyPost_ret (v := .agg #[.bool r2_m, .slice r2_0 r2_n r2_c, .bool r1_m, .slice r1_0 r1_n r1_c]) (by simp [results, Tryz.results12, go_sem, c_b2_0, c_b2_1, c_b2_2, c_b2_3]) rfl ?_
  exact ⟨_, _, _, _, _, _, _, _, rfl, ⟨S8.out.n.zb.zx, (by rw [dn_of H0.out]; exact S8.out.n.t.zb.zx), dn_ne d, S8.out.n.t.t.rx.val, S8.out.n.t.t.rx.bn, dn_bd S8.out.n.t.t.rx.bd (by omega)⟩, S8.out.h⟩

theorem qof_any {m : Bool} {ao : Option Addr} {n cap : Nat} {k : Bool} {bo : Option Addr} {l cb : Nat} {x d : Int} {q : Rat} {j : Nat} {w : World} (hx : Rx w m ao n cap k bo l cb x d q j) (h1 : 1 ≤ j) (h2 : j ≤ 50000) :
    Calls Tryz.prog 12 #[.agg #[.bool m, .slice ao n cap, .bool k, .slice bo l cb]] w (NewQ w x (dn d) q j) := by
  by_cases h : d = 0
  · exact qof_zero hx h1 h2 h
  · exact qof_some hx h1 h2 h

set_option maxHeartbeats 1000000 in
set_option maxRecDepth 100000 in
theorem qrat_false {m : Bool} {ao : Option Addr} {n cap : Nat} {bo : Option Addr} {l cb : Nat} {x d : Int} {q : Rat} {j : Nat} {w : World} (hx : Qx w m ao n cap false bo l cb x d q j) (h1 : 1 ≤ j) (h2 : j ≤ 50000) :
    Calls Tryz.prog 16 #[.agg #[.bool m, .slice ao n cap, .bool false, .slice bo l cb]] w (NewR w q j) := by
  have hd0 : 0 < d := by
    have h3 := hx.den.zd.neg
    have h4 := hx.nz
    simp at h3
    omega
  have hv := hx.val
  have hbn : Bd q.num j := by rw [← hv]; exact bd_num hx.bn hx.nz
  have hbd : Bd (q.den : Int) j := by rw [← hv]; exact bd_den hx.bd hx.nz
  have hg0 : ((Int.gcd x d : Nat) : Int) ≠ 0 := by have := Int.gcd_pos_of_ne_zero_right x (show d ≠ 0 by omega); omega
  have HE1 : Hid (x.tdiv ((Int.gcd x d : Nat) : Int) = q.num) := by rw [Hid, ← hv, q_num_pos (by omega)]
  have HE2 : Hid (d.tdiv ((Int.gcd x d : Nat) : Int) = (q.den : Int)) := by rw [Hid, ← hv, q_den_pos (by omega)]
  have HN : Hid (d ≠ 0) := by show d ≠ 0; omega
  have HG0 := Lib.hid hg0
  have HBN := Lib.hid hbn
  have HBD := Lib.hid hbd
  clear hd0 hv hbn hbd hg0
  go_enter Tryz.func16, Tryz.ntmps16
  have S0 := Lib.hid (Sx.start (w := w) (N := [.qx m ao n cap false bo l cb x d q j]) ⟨hx, trivial⟩)
  clear hx
  have S1 := Lib.hid (S0.out.var (w.heap.size) [.bool m, .slice ao n cap, .bool false, .slice bo l cb] 35 (by simp))
  clear S0
  have S2 := Lib.hid (S1.out.var (w.heap.size + 1) [.bool false, .slice none 0 0, .bool false, .slice none 0 0] 26 (by simp))
  clear S1
  go_upto_region 1 with (fail)
  refine wp_world (fun w1 hW => ?_)
  rw [← hW] at S2
  clear hW
  go_cut [3, 4] from 6 to 10 (fun sl0 sl1 w9 => ∃ (qb3 : Nat) (qb4 : Nat), sl0 = .pointer (some ⟨qb3, 0, none⟩) ∧ sl1 = .pointer (some ⟨qb4, 0, none⟩) ∧ Hid (Sx w w9 [⟨qb4, [.bool false, .slice bo l cb]⟩, ⟨qb3, [.bool m, .slice ao n cap]⟩, ⟨(w.heap.size + 1), [.bool false, .slice none 0 0, .bool false, .slice none 0 0]⟩, ⟨(w.heap.size), [.bool m, .slice ao n cap, .bool false, .slice bo l cb]⟩] [.qx m ao n cap false bo l cb x d q j]))
  case first =>
    have S3 := Lib.hid (S2.out.drew)
    clear S2
    refine wp_region_held_drew (S := fun w' => (w'.cell? ⟨(w.heap.size), 0, none⟩ = some (.bool m) ∧ w'.cell? ⟨(w.heap.size), 1, none⟩ = some (.slice ao n cap) ∧ w'.cell? ⟨(w.heap.size), 2, none⟩ = some (.bool false) ∧ w'.cell? ⟨(w.heap.size), 3, none⟩ = some (.slice bo l cb))) (by kernel_rfl) ((S3.out.b.t.c4)) (fun hH => ?_)
    refine anyH_world (fun w2 hW => ?_)
    rw [← hW] at S3 hH
    clear hW
    refine step_on 0 rfl (by kernel_rfl) (fun _ _ _ h => h) (by rfl) hH (by intro w hS; go_simp <;> with_reducible rfl) ?_
    try simp only [nrm]
    refine step_on 1 rfl (by kernel_rfl) (fun _ _ _ h => h) (by rfl) hH (by intro w hS; go_simp <;> with_reducible rfl) ?_
    try simp only [nrm]
    refine step_on 2 rfl (by kernel_rfl) (fun _ _ _ h => h) (by rfl) hH (by intro w hS; go_simp <;> with_reducible rfl) ?_
    try simp only [nrm]
    refine step_on 3 rfl (by kernel_rfl) (fun _ _ _ h => h) (by rfl) hH (by intro w hS; go_simp <;> with_reducible rfl) ?_
    try simp only [nrm]
    refine wpAnyH_ready (rs := [4, 5]) (by kernel_rfl) (by simp) (ready_cons rfl (fun K hK => ?_) (ready_cons rfl (fun K hK => ?_) (AllReadyH.nil)))
    · go_simp
      have S4 := Lib.hid (S3.out.var (w2.heap.size) [.bool false, .slice none 0 0] 33 (by simp))
      clear S3
      refine hK.out _ _ (S4.out.b.t.t.c4) (fun h2 => ?_)
      clear hK K hH
      have hH := h2
      clear h2
      try simp only [nrm]
      refine anyH_world (fun w3 hW => ?_)
      rw [← hW] at S4 hH
      clear hW
      refine step_one 5 rfl (by kernel_rfl) (fun K hK => ?_)
      go_simp
      have S5 := Lib.hid (S4.out.var (w3.heap.size) [.bool false, .slice none 0 0] 33 (by simp))
      clear S4
      refine hK.out _ _ (S5.out.b.t.t.t.c4) (fun h2 => ?_)
      clear hK K hH
      have hH := h2
      clear h2
      try simp only [nrm]
      refine anyH_world (fun w4 hW => ?_)
      rw [← hW] at S5 hH
      clear hW
      refine step_one 6 rfl (by kernel_rfl) (fun K hK => ?_)
      obtain ⟨c_b3_0, c_b3_1⟩ := S5.out.b.t.c2
      obtain ⟨f_b3_0, f_b3_1⟩ := S5.out.b.t.f2
      go_simp
      clear c_b3_0 c_b3_1 f_b3_0 f_b3_1
      have S6 : Hid (Sx w _ [⟨(w3.heap.size), [.bool false, .slice none 0 0]⟩, ⟨(w2.heap.size), [.bool m, .slice ao n cap]⟩, ⟨(w.heap.size + 1), [.bool false, .slice none 0 0, .bool false, .slice none 0 0]⟩, ⟨(w.heap.size), [.bool m, .slice ao n cap, .bool false, .slice bo l cb]⟩] _) := Lib.hid (Sx.set [⟨(w3.heap.size), [.bool false, .slice none 0 0]⟩] [⟨(w.heap.size + 1), [.bool false, .slice none 0 0, .bool false, .slice none 0 0]⟩, ⟨(w.heap.size), [.bool m, .slice ao n cap, .bool false, .slice bo l cb]⟩] (Sx.set [⟨(w3.heap.size), [.bool false, .slice none 0 0]⟩] [⟨(w.heap.size + 1), [.bool false, .slice none 0 0, .bool false, .slice none 0 0]⟩, ⟨(w.heap.size), [.bool m, .slice ao n cap, .bool false, .slice bo l cb]⟩] S5.out 0 (.bool m)) 1 (.slice ao n cap))
      clear S5
      refine hK.out _ _ (S6.out.b.t.t.t.c4) (fun h2 => ?_)
      clear hK K hH
      have hH := h2
      clear h2
      try simp only [nrm]
      refine anyH_world (fun w5 hW => ?_)
      rw [← hW] at S6 hH
      clear hW
      refine step_one 7 rfl (by kernel_rfl) (fun K hK => ?_)
      obtain ⟨c_b4_0, c_b4_1⟩ := S6.out.b.c2
      obtain ⟨f_b4_0, f_b4_1⟩ := S6.out.b.f2
      go_simp
      clear c_b4_0 c_b4_1 f_b4_0 f_b4_1
      have S7 : Hid (Sx w _ [⟨(w3.heap.size), [.bool false, .slice bo l cb]⟩, ⟨(w2.heap.size), [.bool m, .slice ao n cap]⟩, ⟨(w.heap.size + 1), [.bool false, .slice none 0 0, .bool false, .slice none 0 0]⟩, ⟨(w.heap.size), [.bool m, .slice ao n cap, .bool false, .slice bo l cb]⟩] _) := Lib.hid (Sx.set [] [⟨(w2.heap.size), [.bool m, .slice ao n cap]⟩, ⟨(w.heap.size + 1), [.bool false, .slice none 0 0, .bool false, .slice none 0 0]⟩, ⟨(w.heap.size), [.bool m, .slice ao n cap, .bool false, .slice bo l cb]⟩] (Sx.set [] [⟨(w2.heap.size), [.bool m, .slice ao n cap]⟩, ⟨(w.heap.size + 1), [.bool false, .slice none 0 0, .bool false, .slice none 0 0]⟩, ⟨(w.heap.size), [.bool m, .slice ao n cap, .bool false, .slice bo l cb]⟩] S6.out 0 (.bool false)) 1 (.slice bo l cb))
      clear S6
      refine hK.out _ _ (S7.out.b.t.t.t.c4) (fun h2 => ?_)
      clear hK K hH
      have hH := h2
      clear h2
      try simp only [nrm]
      refine anyH_world (fun w6 hW => ?_)
      rw [← hW] at S7 hH
      clear hW
      refine wpAnyH_done (by kernel_rfl) ?_ _
      clear hH
      go_wp2_with fail
      go_meet
      case rel => exact ⟨_, _, rfl, rfl, S7.out⟩
    · go_simp
      have S4 := Lib.hid (S3.out.var (w2.heap.size) [.bool false, .slice none 0 0] 33 (by simp))
      clear S3
      refine hK.out _ _ (S4.out.b.t.t.c4) (fun h2 => ?_)
      clear hK K hH
      have hH := h2
      clear h2
      try simp only [nrm]
      refine anyH_world (fun w3 hW => ?_)
      rw [← hW] at S4 hH
      clear hW
      refine step_one 4 rfl (by kernel_rfl) (fun K hK => ?_)
      go_simp
      have S5 := Lib.hid (S4.out.var (w3.heap.size) [.bool false, .slice none 0 0] 33 (by simp))
      clear S4
      refine hK.out _ _ (S5.out.b.t.t.t.c4) (fun h2 => ?_)
      clear hK K hH
      have hH := h2
      clear h2
      try simp only [nrm]
      refine anyH_world (fun w4 hW => ?_)
      rw [← hW] at S5 hH
      clear hW
      refine step_one 6 rfl (by kernel_rfl) (fun K hK => ?_)
      obtain ⟨c_b3_0, c_b3_1⟩ := S5.out.b.c2
      obtain ⟨f_b3_0, f_b3_1⟩ := S5.out.b.f2
      go_simp
      clear c_b3_0 c_b3_1 f_b3_0 f_b3_1
      have S6 : Hid (Sx w _ [⟨(w3.heap.size), [.bool m, .slice ao n cap]⟩, ⟨(w2.heap.size), [.bool false, .slice none 0 0]⟩, ⟨(w.heap.size + 1), [.bool false, .slice none 0 0, .bool false, .slice none 0 0]⟩, ⟨(w.heap.size), [.bool m, .slice ao n cap, .bool false, .slice bo l cb]⟩] _) := Lib.hid (Sx.set [] [⟨(w2.heap.size), [.bool false, .slice none 0 0]⟩, ⟨(w.heap.size + 1), [.bool false, .slice none 0 0, .bool false, .slice none 0 0]⟩, ⟨(w.heap.size), [.bool m, .slice ao n cap, .bool false, .slice bo l cb]⟩] (Sx.set [] [⟨(w2.heap.size), [.bool false, .slice none 0 0]⟩, ⟨(w.heap.size + 1), [.bool false, .slice none 0 0, .bool false, .slice none 0 0]⟩, ⟨(w.heap.size), [.bool m, .slice ao n cap, .bool false, .slice bo l cb]⟩] S5.out 0 (.bool m)) 1 (.slice ao n cap))
      clear S5
      refine hK.out _ _ (S6.out.b.t.t.t.c4) (fun h2 => ?_)
      clear hK K hH
      have hH := h2
      clear h2
      try simp only [nrm]
      refine anyH_world (fun w5 hW => ?_)
      rw [← hW] at S6 hH
      clear hW
      refine step_one 7 rfl (by kernel_rfl) (fun K hK => ?_)
      obtain ⟨c_b4_0, c_b4_1⟩ := S6.out.b.t.c2
      obtain ⟨f_b4_0, f_b4_1⟩ := S6.out.b.t.f2
      go_simp
      clear c_b4_0 c_b4_1 f_b4_0 f_b4_1
      have S7 : Hid (Sx w _ [⟨(w3.heap.size), [.bool m, .slice ao n cap]⟩, ⟨(w2.heap.size), [.bool false, .slice bo l cb]⟩, ⟨(w.heap.size + 1), [.bool false, .slice none 0 0, .bool false, .slice none 0 0]⟩, ⟨(w.heap.size), [.bool m, .slice ao n cap, .bool false, .slice bo l cb]⟩] _) := Lib.hid (Sx.set [⟨(w3.heap.size), [.bool m, .slice ao n cap]⟩] [⟨(w.heap.size + 1), [.bool false, .slice none 0 0, .bool false, .slice none 0 0]⟩, ⟨(w.heap.size), [.bool m, .slice ao n cap, .bool false, .slice bo l cb]⟩] (Sx.set [⟨(w3.heap.size), [.bool m, .slice ao n cap]⟩] [⟨(w.heap.size + 1), [.bool false, .slice none 0 0, .bool false, .slice none 0 0]⟩, ⟨(w.heap.size), [.bool m, .slice ao n cap, .bool false, .slice bo l cb]⟩] S6.out 0 (.bool false)) 1 (.slice bo l cb))
      clear S6
      refine hK.out _ _ (S7.out.b.t.t.t.c4) (fun h2 => ?_)
      clear hK K hH
      have hH := h2
      clear h2
      try simp only [nrm]
      refine anyH_world (fun w6 hW => ?_)
      rw [← hW] at S7 hH
      clear hW
      refine wpAnyH_done (by kernel_rfl) ?_ _
      clear hH
      go_wp2_with fail
      go_meet
      case rel => exact ⟨_, _, rfl, rfl, S7.out.swap⟩
  case rest =>
  clear S2
  obtain ⟨qb3, qb4, rfl, rfl, S3⟩ := hcut
  obtain ⟨w7, hW⟩ : ∃ w7, w7 = wc := ⟨_, rfl⟩
  rw [← hW] at S3 ⊢
  clear hW
  obtain ⟨c_b4_0, c_b4_1⟩ := S3.out.b.c2
  obtain ⟨c_b3_0, c_b3_1⟩ := S3.out.b.t.c2
  go_wp2_with fail
  clear c_b4_0 c_b4_1 c_b3_0 c_b3_1
  refine (zgcd_any S3.out.n.qx.num S3.out.n.qx.den).mono ?_
  rintro e w8 ⟨r1_m, r1_0, r1_n, r1_c, rfl, hX, hB⟩
  have S4 := Lib.hid (((S3.out.step hB).zb (hX.zb (gcd_bd S3.out.n.qx.bd (HN.out)) (by omega)) rfl))
  clear S3 hX hB
  go_upto_region 5 with (fail)
  have S5 := Lib.hid (S4.out.var (w8.heap.size) [.bool r1_m, .slice r1_0 r1_n r1_c] 33 (by simp))
  clear S4
  refine wp_world (fun w9 hW => ?_)
  rw [← hW] at S5
  clear hW
  obtain ⟨c_b3_0, c_b3_1⟩ := S5.out.b.t.t.c2
  obtain ⟨c_b5_0, c_b5_1⟩ := S5.out.b.c2
  go_wp2_with fail
  clear c_b3_0 c_b3_1 c_b5_0 c_b5_1
  refine (zdivmod_any S5.out.n.t.qx.num S5.out.n.zb.zx (HG0.out)).mono ?_
  rintro e w10 ⟨r2_m, r2_0, r2_n, r2_c, r2_k, r2_1, r2_l, r2_d, rfl, hX, _, hB⟩
  rw [HE1.out] at hX
  have S6 := Lib.hid (((S5.out.step hB).zb (hX.zb (HBN.out) (by omega)) rfl))
  clear S5 hX hB
  obtain ⟨c_b3_0, c_b3_1⟩ := S6.out.b.t.t.c2
  obtain ⟨f_b3_0, f_b3_1⟩ := S6.out.b.t.t.f2
  go_upto_region 6 with (fail)
  clear c_b3_0 c_b3_1 f_b3_0 f_b3_1
  have S7 : Hid (Sx w _ [⟨(w8.heap.size), [.bool r1_m, .slice r1_0 r1_n r1_c]⟩, ⟨qb4, [.bool false, .slice bo l cb]⟩, ⟨qb3, [.bool r2_m, .slice r2_0 r2_n r2_c]⟩, ⟨(w.heap.size + 1), [.bool false, .slice none 0 0, .bool false, .slice none 0 0]⟩, ⟨(w.heap.size), [.bool m, .slice ao n cap, .bool false, .slice bo l cb]⟩] _) := Lib.hid (Sx.set [⟨(w8.heap.size), [.bool r1_m, .slice r1_0 r1_n r1_c]⟩, ⟨qb4, [.bool false, .slice bo l cb]⟩] [⟨(w.heap.size + 1), [.bool false, .slice none 0 0, .bool false, .slice none 0 0]⟩, ⟨(w.heap.size), [.bool m, .slice ao n cap, .bool false, .slice bo l cb]⟩] (Sx.set [⟨(w8.heap.size), [.bool r1_m, .slice r1_0 r1_n r1_c]⟩, ⟨qb4, [.bool false, .slice bo l cb]⟩] [⟨(w.heap.size + 1), [.bool false, .slice none 0 0, .bool false, .slice none 0 0]⟩, ⟨(w.heap.size), [.bool m, .slice ao n cap, .bool false, .slice bo l cb]⟩] S6.out 0 (.bool r2_m)) 1 (.slice r2_0 r2_n r2_c))
  clear S6
  refine wp_world (fun w11 hW => ?_)
  rw [← hW] at S7
  clear hW
  obtain ⟨c_b4_0, c_b4_1⟩ := S7.out.b.t.c2
  obtain ⟨c_b5_0, c_b5_1⟩ := S7.out.b.c2
  go_wp2_with fail
  clear c_b4_0 c_b4_1 c_b5_0 c_b5_1
  refine (zdivmod_any S7.out.n.t.t.qx.den S7.out.n.t.zb.zx (HG0.out)).mono ?_
  rintro e w12 ⟨r3_m, r3_0, r3_n, r3_c, r3_k, r3_1, r3_l, r3_d, rfl, hX, _, hB⟩
  rw [HE2.out] at hX
  have S8 := Lib.hid (((S7.out.step hB).zb (hX.zb (HBD.out) (by omega)) rfl))
  clear S7 hX hB
  obtain ⟨c_b4_0, c_b4_1⟩ := S8.out.b.t.c2
  obtain ⟨f_b4_0, f_b4_1⟩ := S8.out.b.t.f2
  go_upto_region 7 with (fail)
  clear c_b4_0 c_b4_1 f_b4_0 f_b4_1
  have S9 : Hid (Sx w _ [⟨(w8.heap.size), [.bool r1_m, .slice r1_0 r1_n r1_c]⟩, ⟨qb4, [.bool r3_m, .slice r3_0 r3_n r3_c]⟩, ⟨qb3, [.bool r2_m, .slice r2_0 r2_n r2_c]⟩, ⟨(w.heap.size + 1), [.bool false, .slice none 0 0, .bool false, .slice none 0 0]⟩, ⟨(w.heap.size), [.bool m, .slice ao n cap, .bool false, .slice bo l cb]⟩] _) := Lib.hid (Sx.set [⟨(w8.heap.size), [.bool r1_m, .slice r1_0 r1_n r1_c]⟩] [⟨qb3, [.bool r2_m, .slice r2_0 r2_n r2_c]⟩, ⟨(w.heap.size + 1), [.bool false, .slice none 0 0, .bool false, .slice none 0 0]⟩, ⟨(w.heap.size), [.bool m, .slice ao n cap, .bool false, .slice bo l cb]⟩] (Sx.set [⟨(w8.heap.size), [.bool r1_m, .slice r1_0 r1_n r1_c]⟩] [⟨qb3, [.bool r2_m, .slice r2_0 r2_n r2_c]⟩, ⟨(w.heap.size + 1), [.bool false, .slice none 0 0, .bool false, .slice none 0 0]⟩, ⟨(w.heap.size), [.bool m, .slice ao n cap, .bool false, .slice bo l cb]⟩] S8.out 0 (.bool r3_m)) 1 (.slice r3_0 r3_n r3_c))
  clear S8
  refine wp_world (fun w13 hW => ?_)
  rw [← hW] at S9
  clear hW
  have S10 := Lib.hid (S9.out.drew)
  clear S9
  refine wp_region_held_drew (S := fun w' => (w'.cell? ⟨qb3, 0, none⟩ = some (.bool r2_m) ∧ w'.cell? ⟨qb3, 1, none⟩ = some (.slice r2_0 r2_n r2_c)) ∧ (w'.cell? ⟨qb4, 0, none⟩ = some (.bool r3_m) ∧ w'.cell? ⟨qb4, 1, none⟩ = some (.slice r3_0 r3_n r3_c))) (by kernel_rfl) (⟨S10.out.b.t.t.c2, S10.out.b.t.c2⟩) (fun hH => ?_)
  refine anyH_world (fun w14 hW => ?_)
  rw [← hW] at S10 hH
  clear hW
  refine step_on 0 rfl (by kernel_rfl) (fun _ _ _ h => h) (by rfl) hH (by intro w hS; go_simp <;> with_reducible rfl) ?_
  try simp only [nrm]
  refine step_on 2 rfl (by kernel_rfl) (fun _ _ _ h => h) (by rfl) hH (by intro w hS; go_simp <;> with_reducible rfl) ?_
  try simp only [nrm]
  refine step_one 1 rfl (by kernel_rfl) (fun K hK => ?_)
  go_simp
  refine (zint_any S10.out.n.t.zb.zx).mono ?_
  rintro e w15 ⟨r4_m, r4_0, r4_n, r4_c, rfl, hX, hB⟩
  have S11 := Lib.hid (((S10.out.step hB).cb (hX.cb (S10.out.n.t.zb.bd) (by omega)) rfl))
  clear S10 hX hB
  go_wp2_with fail
  refine hK.out _ _ ⟨S11.out.b.t.t.c2, S11.out.b.t.c2⟩ (fun h2 => ?_)
  clear hK K hH
  have hH := h2
  clear h2
  try simp only [nrm]
  refine step_one 3 rfl (by kernel_rfl) (fun K hK => ?_)
  go_simp
  refine (zint_any S11.out.n.t.zb.zx).mono ?_
  rintro e w16 ⟨r5_m, r5_0, r5_n, r5_c, rfl, hX, hB⟩
  have S12 := Lib.hid (((S11.out.step hB).cb (hX.cb (S11.out.n.t.zb.bd) (by omega)) rfl))
  clear S11 hX hB
  go_wp2_with fail
  refine hK.out _ _ ⟨S12.out.b.t.t.c2, S12.out.b.t.c2⟩ (fun h2 => ?_)
  clear hK K hH
  have hH := h2
  clear h2
  try simp only [nrm]
  refine step_on 4 rfl (by kernel_rfl) (fun _ _ _ h => h) (by rfl) hH (by intro w hS; go_simp <;> with_reducible rfl) ?_
  try simp only [nrm]
  refine step_one 5 rfl (by kernel_rfl) (fun K hK => ?_)
  obtain ⟨c_b2_0, c_b2_1, c_b2_2, c_b2_3⟩ := S12.out.b.t.t.t.c4
  obtain ⟨f_b2_0, f_b2_1, f_b2_2, f_b2_3⟩ := S12.out.b.t.t.t.f4
  go_simp
  clear c_b2_0 c_b2_1 c_b2_2 c_b2_3 f_b2_0 f_b2_1 f_b2_2 f_b2_3
  have S13 : Hid (Sx w _ [⟨(w8.heap.size), [.bool r1_m, .slice r1_0 r1_n r1_c]⟩, ⟨qb4, [.bool r3_m, .slice r3_0 r3_n r3_c]⟩, ⟨qb3, [.bool r2_m, .slice r2_0 r2_n r2_c]⟩, ⟨(w.heap.size + 1), [.bool r4_m, .slice r4_0 r4_n r4_c, .bool r5_m, .slice r5_0 r5_n r5_c]⟩, ⟨(w.heap.size), [.bool m, .slice ao n cap, .bool false, .slice bo l cb]⟩] _) := Lib.hid (Sx.set [⟨(w8.heap.size), [.bool r1_m, .slice r1_0 r1_n r1_c]⟩, ⟨qb4, [.bool r3_m, .slice r3_0 r3_n r3_c]⟩, ⟨qb3, [.bool r2_m, .slice r2_0 r2_n r2_c]⟩] [⟨(w.heap.size), [.bool m, .slice ao n cap, .bool false, .slice bo l cb]⟩] (Sx.set [⟨(w8.heap.size), [.bool r1_m, .slice r1_0 r1_n r1_c]⟩, ⟨qb4, [.bool r3_m, .slice r3_0 r3_n r3_c]⟩, ⟨qb3, [.bool r2_m, .slice r2_0 r2_n r2_c]⟩] [⟨(w.heap.size), [.bool m, .slice ao n cap, .bool false, .slice bo l cb]⟩] (Sx.set [⟨(w8.heap.size), [.bool r1_m, .slice r1_0 r1_n r1_c]⟩, ⟨qb4, [.bool r3_m, .slice r3_0 r3_n r3_c]⟩, ⟨qb3, [.bool r2_m, .slice r2_0 r2_n r2_c]⟩] [⟨(w.heap.size), [.bool m, .slice ao n cap, .bool false, .slice bo l cb]⟩] (Sx.set [⟨(w8.heap.size), [.bool r1_m, .slice r1_0 r1_n r1_c]⟩, ⟨qb4, [.bool r3_m, .slice r3_0 r3_n r3_c]⟩, ⟨qb3, [.bool r2_m, .slice r2_0 r2_n r2_c]⟩] [⟨(w.heap.size), [.bool m, .slice ao n cap, .bool false, .slice bo l cb]⟩] S12.out 0 (.bool r4_m)) 1 (.slice r4_0 r4_n r4_c)) 2 (.bool r5_m)) 3 (.slice r5_0 r5_n r5_c))
  clear S12
  refine hK.out _ _ ⟨S13.out.b.t.t.c2, S13.out.b.t.c2⟩ (fun h2 => ?_)
  clear hK K hH
  have hH := h2
  clear h2
  try simp only [nrm]
  refine anyH_world (fun w17 hW => ?_)
  rw [← hW] at S13 hH
  clear hW
  refine wpAnyH_done (by kernel_rfl) ?_ _
  clear hH
  obtain ⟨c_b2_0, c_b2_1, c_b2_2, c_b2_3⟩ := S13.out.b.t.t.t.c4
  obtain ⟨f_b2_0, f_b2_1, f_b2_2, f_b2_3⟩ := S13.out.b.t.t.t.f4
  go_wp2_with fail
  refine bodyPost_ret (v := .agg #[.bool r4_m, .slice r4_0 r4_n r4_c, .bool r5_m, .slice r5_0 r5_n r5_c]) (by simp [results, Tryz.results16, go_sem, c_b2_0, c_b2_1, c_b2_2, c_b2_3]) rfl ?_
  exact ⟨_, _, _, _, _, _, _, _, rfl, ⟨S13.out.n.t.cb.cx, S13.out.n.cb.cx, S13.out.n.t.cb.bd, S13.out.n.cb.bd⟩, S13.out.h⟩

set_option maxHeartbeats 1000000 in
set_option maxRecDepth 100000 in
theorem qrat_true {m : Bool} {ao : Option Addr} {n cap : Nat} {bo : Option Addr} {l cb : Nat} {x d : Int} {q : Rat} {j : Nat} {w : World} (hx : Qx w m ao n cap true bo l cb x d q j) (h1 : 1 ≤ j) (h2 : j ≤ 50000) :
    Calls Tryz.prog 16 #[.agg #[.bool m, .slice ao n cap, .bool true, .slice bo l cb]] w (NewR w q j) := by
  have hd0 : 0 < (-d) := by
    have h3 := hx.den.zd.neg
    have h4 := hx.nz
    simp at h3
    omega
  have hv := hx.val
  have hbn : Bd q.num j := by rw [← hv]; exact bd_num hx.bn hx.nz
  have hbd : Bd (q.den : Int) j := by rw [← hv]; exact bd_den hx.bd hx.nz
  have hg0 : ((Int.gcd (-x) (-d) : Nat) : Int) ≠ 0 := by have := Int.gcd_pos_of_ne_zero_right (-x) (show (-d) ≠ 0 by omega); omega
  have HE1 : Hid ((-x).tdiv ((Int.gcd (-x) (-d) : Nat) : Int) = q.num) := by rw [Hid, ← hv, q_num_neg (by omega)]
  have HE2 : Hid ((-d).tdiv ((Int.gcd (-x) (-d) : Nat) : Int) = (q.den : Int)) := by rw [Hid, ← hv, q_den_neg (by omega)]
  have HN : Hid ((-d) ≠ 0) := by show (-d) ≠ 0; omega
  have HG0 := Lib.hid hg0
  have HBN := Lib.hid hbn
  have HBD := Lib.hid hbd
  clear hd0 hv hbn hbd hg0
  go_enter Tryz.func16, Tryz.ntmps16
  have S0 := Lib.hid (Sx.start (w := w) (N := [.qx m ao n cap true bo l cb x d q j]) ⟨hx, trivial⟩)
  clear hx
  have S1 := Lib.hid (S0.out.var (w.heap.size) [.bool m, .slice ao n cap, .bool true, .slice bo l cb] 35 (by simp))
  clear S0
  have S2 := Lib.hid (S1.out.var (w.heap.size + 1) [.bool false, .slice none 0 0, .bool false, .slice none 0 0] 26 (by simp))
  clear S1
  go_upto_region 1 with (fail)
  refine wp_world (fun w1 hW => ?_)
  rw [← hW] at S2
  clear hW
  go_cut [3, 4] from 6 to 10 (fun sl0 sl1 w9 => ∃ (qb3 : Nat) (qb4 : Nat), sl0 = .pointer (some ⟨qb3, 0, none⟩) ∧ sl1 = .pointer (some ⟨qb4, 0, none⟩) ∧ Hid (Sx w w9 [⟨qb4, [.bool true, .slice bo l cb]⟩, ⟨qb3, [.bool m, .slice ao n cap]⟩, ⟨(w.heap.size + 1), [.bool false, .slice none 0 0, .bool false, .slice none 0 0]⟩, ⟨(w.heap.size), [.bool m, .slice ao n cap, .bool true, .slice bo l cb]⟩] [.qx m ao n cap true bo l cb x d q j]))
  case first =>
    have S3 := Lib.hid (S2.out.drew)
    clear S2
    refine wp_region_held_drew (S := fun w' => (w'.cell? ⟨(w.heap.size), 0, none⟩ = some (.bool m) ∧ w'.cell? ⟨(w.heap.size), 1, none⟩ = some (.slice ao n cap) ∧ w'.cell? ⟨(w.heap.size), 2, none⟩ = some (.bool true) ∧ w'.cell? ⟨(w.heap.size), 3, none⟩ = some (.slice bo l cb))) (by kernel_rfl) ((S3.out.b.t.c4)) (fun hH => ?_)
    refine anyH_world (fun w2 hW => ?_)
    rw [← hW] at S3 hH
    clear hW
    refine step_on 0 rfl (by kernel_rfl) (fun _ _ _ h => h) (by rfl) hH (by intro w hS; go_simp <;> with_reducible rfl) ?_
    try simp only [nrm]
    refine step_on 1 rfl (by kernel_rfl) (fun _ _ _ h => h) (by rfl) hH (by intro w hS; go_simp <;> with_reducible rfl) ?_
    try simp only [nrm]
    refine step_on 2 rfl (by kernel_rfl) (fun _ _ _ h => h) (by rfl) hH (by intro w hS; go_simp <;> with_reducible rfl) ?_
    try simp only [nrm]
    refine step_on 3 rfl (by kernel_rfl) (fun _ _ _ h => h) (by rfl) hH (by intro w hS; go_simp <;> with_reducible rfl) ?_
    try simp only [nrm]
    refine wpAnyH_ready (rs := [4, 5]) (by kernel_rfl) (by simp) (ready_cons rfl (fun K hK => ?_) (ready_cons rfl (fun K hK => ?_) (AllReadyH.nil)))
    · go_simp
      have S4 := Lib.hid (S3.out.var (w2.heap.size) [.bool false, .slice none 0 0] 33 (by simp))
      clear S3
      refine hK.out _ _ (S4.out.b.t.t.c4) (fun h2 => ?_)
      clear hK K hH
      have hH := h2
      clear h2
      try simp only [nrm]
      refine anyH_world (fun w3 hW => ?_)
      rw [← hW] at S4 hH
      clear hW
      refine step_one 5 rfl (by kernel_rfl) (fun K hK => ?_)
      go_simp
      have S5 := Lib.hid (S4.out.var (w3.heap.size) [.bool false, .slice none 0 0] 33 (by simp))
      clear S4
      refine hK.out _ _ (S5.out.b.t.t.t.c4) (fun h2 => ?_)
      clear hK K hH
      have hH := h2
      clear h2
      try simp only [nrm]
      refine anyH_world (fun w4 hW => ?_)
      rw [← hW] at S5 hH
      clear hW
      refine step_one 6 rfl (by kernel_rfl) (fun K hK => ?_)
      obtain ⟨c_b3_0, c_b3_1⟩ := S5.out.b.t.c2
      obtain ⟨f_b3_0, f_b3_1⟩ := S5.out.b.t.f2
      go_simp
      clear c_b3_0 c_b3_1 f_b3_0 f_b3_1
      have S6 : Hid (Sx w _ [⟨(w3.heap.size), [.bool false, .slice none 0 0]⟩, ⟨(w2.heap.size), [.bool m, .slice ao n cap]⟩, ⟨(w.heap.size + 1), [.bool false, .slice none 0 0, .bool false, .slice none 0 0]⟩, ⟨(w.heap.size), [.bool m, .slice ao n cap, .bool true, .slice bo l cb]⟩] _) := Lib.hid (Sx.set [⟨(w3.heap.size), [.bool false, .slice none 0 0]⟩] [⟨(w.heap.size + 1), [.bool false, .slice none 0 0, .bool false, .slice none 0 0]⟩, ⟨(w.heap.size), [.bool m, .slice ao n cap, .bool true, .slice bo l cb]⟩] (Sx.set [⟨(w3.heap.size), [.bool false, .slice none 0 0]⟩] [⟨(w.heap.size + 1), [.bool false, .slice none 0 0, .bool false, .slice none 0 0]⟩, ⟨(w.heap.size), [.bool m, .slice ao n cap, .bool true, .slice bo l cb]⟩] S5.out 0 (.bool m)) 1 (.slice ao n cap))
      clear S5
      refine hK.out _ _ (S6.out.b.t.t.t.c4) (fun h2 => ?_)
      clear hK K hH
      have hH := h2
      clear h2
      try simp only [nrm]
      refine anyH_world (fun w5 hW => ?_)
      rw [← hW] at S6 hH
      clear hW
      refine step_one 7 rfl (by kernel_rfl) (fun K hK => ?_)
      obtain ⟨c_b4_0, c_b4_1⟩ := S6.out.b.c2
      obtain ⟨f_b4_0, f_b4_1⟩ := S6.out.b.f2
      go_simp
      clear c_b4_0 c_b4_1 f_b4_0 f_b4_1
      have S7 : Hid (Sx w _ [⟨(w3.heap.size), [.bool true, .slice bo l cb]⟩, ⟨(w2.heap.size), [.bool m, .slice ao n cap]⟩, ⟨(w.heap.size + 1), [.bool false, .slice none 0 0, .bool false, .slice none 0 0]⟩, ⟨(w.heap.size), [.bool m, .slice ao n cap, .bool true, .slice bo l cb]⟩] _) := Lib.hid (Sx.set [] [⟨(w2.heap.size), [.bool m, .slice ao n cap]⟩, ⟨(w.heap.size + 1), [.bool false, .slice none 0 0, .bool false, .slice none 0 0]⟩, ⟨(w.heap.size), [.bool m, .slice ao n cap, .bool true, .slice bo l cb]⟩] (Sx.set [] [⟨(w2.heap.size), [.bool m, .slice ao n cap]⟩, ⟨(w.heap.size + 1), [.bool false, .slice none 0 0, .bool false, .slice none 0 0]⟩, ⟨(w.heap.size), [.bool m, .slice ao n cap, .bool true, .slice bo l cb]⟩] S6.out 0 (.bool true)) 1 (.slice bo l cb))
      clear S6
      refine hK.out _ _ (S7.out.b.t.t.t.c4) (fun h2 => ?_)
      clear hK K hH
      have hH := h2
      clear h2
      try simp only [nrm]
      refine anyH_world (fun w6 hW => ?_)
      rw [← hW] at S7 hH
      clear hW
      refine wpAnyH_done (by kernel_rfl) ?_ _
      clear hH
      go_wp2_with fail
      go_meet
      case rel => exact ⟨_, _, rfl, rfl, S7.out⟩
    · go_simp
      have S4 := Lib.hid (S3.out.var (w2.heap.size) [.bool false, .slice none 0 0] 33 (by simp))
      clear S3
      refine hK.out _ _ (S4.out.b.t.t.c4) (fun h2 => ?_)
      clear hK K hH
      have hH := h2
      clear h2
      try simp only [nrm]
      refine anyH_world (fun w3 hW => ?_)
      rw [← hW] at S4 hH
      clear hW
      refine step_one 4 rfl (by kernel_rfl) (fun K hK => ?_)
      go_simp
      have S5 := Lib.hid (S4.out.var (w3.heap.size) [.bool false, .slice none 0 0] 33 (by simp))
      clear S4
      refine hK.out _ _ (S5.out.b.t.t.t.c4) (fun h2 => ?_)
      clear hK K hH
      have hH := h2
      clear h2
      try simp only [nrm]
      refine anyH_world (fun w4 hW => ?_)
      rw [← hW] at S5 hH
      clear hW
      refine step_one 6 rfl (by kernel_rfl) (fun K hK => ?_)
      obtain ⟨c_b3_0, c_b3_1⟩ := S5.out.b.c2
      obtain ⟨f_b3_0, f_b3_1⟩ := S5.out.b.f2
      go_simp
      clear c_b3_0 c_b3_1 f_b3_0 f_b3_1
      have S6 : Hid (Sx w _ [⟨(w3.heap.size), [.bool m, .slice ao n cap]⟩, ⟨(w2.heap.size), [.bool false, .slice none 0 0]⟩, ⟨(w.heap.size + 1), [.bool false, .slice none 0 0, .bool false, .slice none 0 0]⟩, ⟨(w.heap.size), [.bool m, .slice ao n cap, .bool true, .slice bo l cb]⟩] _) := Lib.hid (Sx.set [] [⟨(w2.heap.size), [.bool false, .slice none 0 0]⟩, ⟨(w.heap.size + 1), [.bool false, .slice none 0 0, .bool false, .slice none 0 0]⟩, ⟨(w.heap.size), [.bool m, .slice ao n cap, .bool true, .slice bo l cb]⟩] (Sx.set [] [⟨(w2.heap.size), [.bool false, .slice none 0 0]⟩, ⟨(w.heap.size + 1), [.bool false, .slice none 0 0, .bool false, .slice none 0 0]⟩, ⟨(w.heap.size), [.bool m, .slice ao n cap, .bool true, .slice bo l cb]⟩] S5.out 0 (.bool m)) 1 (.slice ao n cap))
      clear S5
      refine hK.out _ _ (S6.out.b.t.t.t.c4) (fun h2 => ?_)
      clear hK K hH
      have hH := h2
      clear h2
      try simp only [nrm]
      refine anyH_world (fun w5 hW => ?_)
      rw [← hW] at S6 hH
      clear hW
      refine step_one 7 rfl (by kernel_rfl) (fun K hK => ?_)
      obtain ⟨c_b4_0, c_b4_1⟩ := S6.out.b.t.c2
      obtain ⟨f_b4_0, f_b4_1⟩ := S6.out.b.t.f2
      go_simp
      clear c_b4_0 c_b4_1 f_b4_0 f_b4_1
      have S7 : Hid (Sx w _ [⟨(w3.heap.size), [.bool m, .slice ao n cap]⟩, ⟨(w2.heap.size), [.bool true, .slice bo l cb]⟩, ⟨(w.heap.size + 1), [.bool false, .slice none 0 0, .bool false, .slice none 0 0]⟩, ⟨(w.heap.size), [.bool m, .slice ao n cap, .bool true, .slice bo l cb]⟩] _) := Lib.hid (Sx.set [⟨(w3.heap.size), [.bool m, .slice ao n cap]⟩] [⟨(w.heap.size + 1), [.bool false, .slice none 0 0, .bool false, .slice none 0 0]⟩, ⟨(w.heap.size), [.bool m, .slice ao n cap, .bool true, .slice bo l cb]⟩] (Sx.set [⟨(w3.heap.size), [.bool m, .slice ao n cap]⟩] [⟨(w.heap.size + 1), [.bool false, .slice none 0 0, .bool false, .slice none 0 0]⟩, ⟨(w.heap.size), [.bool m, .slice ao n cap, .bool true, .slice bo l cb]⟩] S6.out 0 (.bool true)) 1 (.slice bo l cb))
      clear S6
      refine hK.out _ _ (S7.out.b.t.t.t.c4) (fun h2 => ?_)
      clear hK K hH
      have hH := h2
      clear h2
      try simp only [nrm]
      refine anyH_world (fun w6 hW => ?_)
      rw [← hW] at S7 hH
      clear hW
      refine wpAnyH_done (by kernel_rfl) ?_ _
      clear hH
      go_wp2_with fail
      go_meet
      case rel => exact ⟨_, _, rfl, rfl, S7.out.swap⟩
  case rest =>
  clear S2
  obtain ⟨qb3, qb4, rfl, rfl, S3⟩ := hcut
  obtain ⟨w7, hW⟩ : ∃ w7, w7 = wc := ⟨_, rfl⟩
  rw [← hW] at S3 ⊢
  clear hW
  obtain ⟨c_b4_0, c_b4_1⟩ := S3.out.b.c2
  go_wp2_with fail
  clear c_b4_0 c_b4_1
  go_cut [] from 12 to 16 (fun  w9 => ∃ (r2_m : Bool) (r2_0 : Option Addr) (r2_n : Nat) (r2_c : Nat) (r1_m : Bool) (r1_0 : Option Addr) (r1_n : Nat) (r1_c : Nat), Hid (Sx w w9 [⟨qb4, [.bool r2_m, .slice r2_0 r2_n r2_c]⟩, ⟨qb3, [.bool r1_m, .slice r1_0 r1_n r1_c]⟩, ⟨(w.heap.size + 1), [.bool false, .slice none 0 0, .bool false, .slice none 0 0]⟩, ⟨(w.heap.size), [.bool m, .slice ao n cap, .bool true, .slice bo l cb]⟩] [.zb r2_m r2_0 r2_n r2_c (-d) j, .zb r1_m r1_0 r1_n r1_c (-x) j, .qx m ao n cap true bo l cb x d q j]))
  case first =>
    have S4 := Lib.hid (S3.out.drew)
    clear S3
    refine wp_region_held_drew (S := fun w' => True) (by kernel_rfl) (trivial) (fun hH => ?_)
    refine anyH_world (fun w8 hW => ?_)
    rw [← hW] at S4
    clear hW
    refine wpAnyH_ready (rs := [0, 2]) (by kernel_rfl) (by simp) (ready_cons rfl (fun K hK => ?_) (ready_cons rfl (fun K hK => ?_) (AllReadyH.nil)))
    · obtain ⟨c_b3_0, c_b3_1⟩ := S4.out.b.t.c2
      go_simp
      clear c_b3_0 c_b3_1
      refine hK.out _ _ trivial (fun h2 => ?_)
      clear hK K hH
      have hH := h2
      clear h2
      try simp only [nrm]
      refine wpAnyH_ready (rs := [1, 2]) (by kernel_rfl) (by simp) (ready_cons rfl (fun K hK => ?_) (ready_cons rfl (fun K hK => ?_) (AllReadyH.nil)))
      · go_simp
        refine (zneg_any S4.out.n.qx.num).mono ?_
        rintro e w9 ⟨r1_m, r1_0, r1_n, r1_c, rfl, hX, hB⟩
        have S5 := Lib.hid (((S4.out.step hB).zb (hX.zb (S4.out.n.qx.bn.neg) (by omega)) rfl))
        clear S4 hX hB
        go_wp2_with fail
        refine hK.out _ _ trivial (fun h2 => ?_)
        clear hK K hH
        have hH := h2
        clear h2
        try simp only [nrm]
        refine step_one 2 rfl (by kernel_rfl) (fun K hK => ?_)
        obtain ⟨c_b4_0, c_b4_1⟩ := S5.out.b.c2
        go_simp
        clear c_b4_0 c_b4_1
        refine hK.out _ _ trivial (fun h2 => ?_)
        clear hK K hH
        have hH := h2
        clear h2
        try simp only [nrm]
        refine step_one 3 rfl (by kernel_rfl) (fun K hK => ?_)
        go_simp
        refine (zneg_any S5.out.n.t.qx.den).mono ?_
        rintro e w10 ⟨r2_m, r2_0, r2_n, r2_c, rfl, hX, hB⟩
        have S6 := Lib.hid (((S5.out.step hB).zb (hX.zb (S5.out.n.t.qx.bd.neg) (by omega)) rfl))
        clear S5 hX hB
        go_wp2_with fail
        refine hK.out _ _ trivial (fun h2 => ?_)
        clear hK K hH
        have hH := h2
        clear h2
        try simp only [nrm]
        refine step_one 4 rfl (by kernel_rfl) (fun K hK => ?_)
        obtain ⟨c_b3_0, c_b3_1⟩ := S6.out.b.t.c2
        obtain ⟨f_b3_0, f_b3_1⟩ := S6.out.b.t.f2
        go_simp
        clear c_b3_0 c_b3_1 f_b3_0 f_b3_1
        have S7 : Hid (Sx w _ [⟨qb4, [.bool true, .slice bo l cb]⟩, ⟨qb3, [.bool r1_m, .slice r1_0 r1_n r1_c]⟩, ⟨(w.heap.size + 1), [.bool false, .slice none 0 0, .bool false, .slice none 0 0]⟩, ⟨(w.heap.size), [.bool m, .slice ao n cap, .bool true, .slice bo l cb]⟩] _) := Lib.hid (Sx.set [⟨qb4, [.bool true, .slice bo l cb]⟩] [⟨(w.heap.size + 1), [.bool false, .slice none 0 0, .bool false, .slice none 0 0]⟩, ⟨(w.heap.size), [.bool m, .slice ao n cap, .bool true, .slice bo l cb]⟩] (Sx.set [⟨qb4, [.bool true, .slice bo l cb]⟩] [⟨(w.heap.size + 1), [.bool false, .slice none 0 0, .bool false, .slice none 0 0]⟩, ⟨(w.heap.size), [.bool m, .slice ao n cap, .bool true, .slice bo l cb]⟩] S6.out 0 (.bool r1_m)) 1 (.slice r1_0 r1_n r1_c))
        clear S6
        refine hK.out _ _ trivial (fun h2 => ?_)
        clear hK K hH
        have hH := h2
        clear h2
        try simp only [nrm]
        refine anyH_world (fun w11 hW => ?_)
        rw [← hW] at S7
        clear hW
        refine step_one 5 rfl (by kernel_rfl) (fun K hK => ?_)
        obtain ⟨c_b4_0, c_b4_1⟩ := S7.out.b.c2
        obtain ⟨f_b4_0, f_b4_1⟩ := S7.out.b.f2
        go_simp
        clear c_b4_0 c_b4_1 f_b4_0 f_b4_1
        have S8 : Hid (Sx w _ [⟨qb4, [.bool r2_m, .slice r2_0 r2_n r2_c]⟩, ⟨qb3, [.bool r1_m, .slice r1_0 r1_n r1_c]⟩, ⟨(w.heap.size + 1), [.bool false, .slice none 0 0, .bool false, .slice none 0 0]⟩, ⟨(w.heap.size), [.bool m, .slice ao n cap, .bool true, .slice bo l cb]⟩] _) := Lib.hid (Sx.set [] [⟨qb3, [.bool r1_m, .slice r1_0 r1_n r1_c]⟩, ⟨(w.heap.size + 1), [.bool false, .slice none 0 0, .bool false, .slice none 0 0]⟩, ⟨(w.heap.size), [.bool m, .slice ao n cap, .bool true, .slice bo l cb]⟩] (Sx.set [] [⟨qb3, [.bool r1_m, .slice r1_0 r1_n r1_c]⟩, ⟨(w.heap.size + 1), [.bool false, .slice none 0 0, .bool false, .slice none 0 0]⟩, ⟨(w.heap.size), [.bool m, .slice ao n cap, .bool true, .slice bo l cb]⟩] S7.out 0 (.bool r2_m)) 1 (.slice r2_0 r2_n r2_c))
        clear S7
        refine hK.out _ _ trivial (fun h2 => ?_)
        clear hK K hH
        have hH := h2
        clear h2
        try simp only [nrm]
        refine anyH_world (fun w12 hW => ?_)
        rw [← hW] at S8
        clear hW
        refine wpAnyH_done (by kernel_rfl) ?_ _
        clear hH
        go_wp2_with fail
        go_meet
        case rel => exact ⟨_, _, _, _, _, _, _, _, S8.out⟩
      · obtain ⟨c_b4_0, c_b4_1⟩ := S4.out.b.c2
        go_simp
        clear c_b4_0 c_b4_1
        refine hK.out _ _ trivial (fun h2 => ?_)
        clear hK K hH
        have hH := h2
        clear h2
        try simp only [nrm]
        refine step_one 1 rfl (by kernel_rfl) (fun K hK => ?_)
        go_simp
        refine (zneg_any S4.out.n.qx.num).mono ?_
        rintro e w9 ⟨r1_m, r1_0, r1_n, r1_c, rfl, hX, hB⟩
        have S5 := Lib.hid (((S4.out.step hB).zb (hX.zb (S4.out.n.qx.bn.neg) (by omega)) rfl))
        clear S4 hX hB
        go_wp2_with fail
        refine hK.out _ _ trivial (fun h2 => ?_)
        clear hK K hH
        have hH := h2
        clear h2
        try simp only [nrm]
        refine step_one 3 rfl (by kernel_rfl) (fun K hK => ?_)
        go_simp
        refine (zneg_any S5.out.n.t.qx.den).mono ?_
        rintro e w10 ⟨r2_m, r2_0, r2_n, r2_c, rfl, hX, hB⟩
        have S6 := Lib.hid (((S5.out.step hB).zb (hX.zb (S5.out.n.t.qx.bd.neg) (by omega)) rfl))
        clear S5 hX hB
        go_wp2_with fail
        refine hK.out _ _ trivial (fun h2 => ?_)
        clear hK K hH
        have hH := h2
        clear h2
        try simp only [nrm]
        refine step_one 4 rfl (by kernel_rfl) (fun K hK => ?_)
        obtain ⟨c_b3_0, c_b3_1⟩ := S6.out.b.t.c2
        obtain ⟨f_b3_0, f_b3_1⟩ := S6.out.b.t.f2
        go_simp
        clear c_b3_0 c_b3_1 f_b3_0 f_b3_1
        have S7 : Hid (Sx w _ [⟨qb4, [.bool true, .slice bo l cb]⟩, ⟨qb3, [.bool r1_m, .slice r1_0 r1_n r1_c]⟩, ⟨(w.heap.size + 1), [.bool false, .slice none 0 0, .bool false, .slice none 0 0]⟩, ⟨(w.heap.size), [.bool m, .slice ao n cap, .bool true, .slice bo l cb]⟩] _) := Lib.hid (Sx.set [⟨qb4, [.bool true, .slice bo l cb]⟩] [⟨(w.heap.size + 1), [.bool false, .slice none 0 0, .bool false, .slice none 0 0]⟩, ⟨(w.heap.size), [.bool m, .slice ao n cap, .bool true, .slice bo l cb]⟩] (Sx.set [⟨qb4, [.bool true, .slice bo l cb]⟩] [⟨(w.heap.size + 1), [.bool false, .slice none 0 0, .bool false, .slice none 0 0]⟩, ⟨(w.heap.size), [.bool m, .slice ao n cap, .bool true, .slice bo l cb]⟩] S6.out 0 (.bool r1_m)) 1 (.slice r1_0 r1_n r1_c))
        clear S6
        refine hK.out _ _ trivial (fun h2 => ?_)
        clear hK K hH
        have hH := h2
        clear h2
        try simp only [nrm]
        refine anyH_world (fun w11 hW => ?_)
        rw [← hW] at S7
        clear hW
        refine step_one 5 rfl (by kernel_rfl) (fun K hK => ?_)
        obtain ⟨c_b4_0, c_b4_1⟩ := S7.out.b.c2
        obtain ⟨f_b4_0, f_b4_1⟩ := S7.out.b.f2
        go_simp
        clear c_b4_0 c_b4_1 f_b4_0 f_b4_1
        have S8 : Hid (Sx w _ [⟨qb4, [.bool r2_m, .slice r2_0 r2_n r2_c]⟩, ⟨qb3, [.bool r1_m, .slice r1_0 r1_n r1_c]⟩, ⟨(w.heap.size + 1), [.bool false, .slice none 0 0, .bool false, .slice none 0 0]⟩, ⟨(w.heap.size), [.bool m, .slice ao n cap, .bool true, .slice bo l cb]⟩] _) := Lib.hid (Sx.set [] [⟨qb3, [.bool r1_m, .slice r1_0 r1_n r1_c]⟩, ⟨(w.heap.size + 1), [.bool false, .slice none 0 0, .bool false, .slice none 0 0]⟩, ⟨(w.heap.size), [.bool m, .slice ao n cap, .bool true, .slice bo l cb]⟩] (Sx.set [] [⟨qb3, [.bool r1_m, .slice r1_0 r1_n r1_c]⟩, ⟨(w.heap.size + 1), [.bool false, .slice none 0 0, .bool false, .slice none 0 0]⟩, ⟨(w.heap.size), [.bool m, .slice ao n cap, .bool true, .slice bo l cb]⟩] S7.out 0 (.bool r2_m)) 1 (.slice r2_0 r2_n r2_c))
        clear S7
        refine hK.out _ _ trivial (fun h2 => ?_)
        clear hK K hH
        have hH := h2
        clear h2
        try simp only [nrm]
        refine anyH_world (fun w12 hW => ?_)
        rw [← hW] at S8
        clear hW
        refine wpAnyH_done (by kernel_rfl) ?_ _
        clear hH
        go_wp2_with fail
        go_meet
        case rel => exact ⟨_, _, _, _, _, _, _, _, S8.out⟩
    · obtain ⟨c_b4_0, c_b4_1⟩ := S4.out.b.c2
      go_simp
      clear c_b4_0 c_b4_1
      refine hK.out _ _ trivial (fun h2 => ?_)
      clear hK K hH
      have hH := h2
      clear h2
      try simp only [nrm]
      refine step_one 0 rfl (by kernel_rfl) (fun K hK => ?_)
      obtain ⟨c_b3_0, c_b3_1⟩ := S4.out.b.t.c2
      go_simp
      clear c_b3_0 c_b3_1
      refine hK.out _ _ trivial (fun h2 => ?_)
      clear hK K hH
      have hH := h2
      clear h2
      try simp only [nrm]
      refine step_one 1 rfl (by kernel_rfl) (fun K hK => ?_)
      go_simp
      refine (zneg_any S4.out.n.qx.num).mono ?_
      rintro e w9 ⟨r1_m, r1_0, r1_n, r1_c, rfl, hX, hB⟩
      have S5 := Lib.hid (((S4.out.step hB).zb (hX.zb (S4.out.n.qx.bn.neg) (by omega)) rfl))
      clear S4 hX hB
      go_wp2_with fail
      refine hK.out _ _ trivial (fun h2 => ?_)
      clear hK K hH
      have hH := h2
      clear h2
      try simp only [nrm]
      refine step_one 3 rfl (by kernel_rfl) (fun K hK => ?_)
      go_simp
      refine (zneg_any S5.out.n.t.qx.den).mono ?_
      rintro e w10 ⟨r2_m, r2_0, r2_n, r2_c, rfl, hX, hB⟩
      have S6 := Lib.hid (((S5.out.step hB).zb (hX.zb (S5.out.n.t.qx.bd.neg) (by omega)) rfl))
      clear S5 hX hB
      go_wp2_with fail
      refine hK.out _ _ trivial (fun h2 => ?_)
      clear hK K hH
      have hH := h2
      clear h2
      try simp only [nrm]
      refine step_one 4 rfl (by kernel_rfl) (fun K hK => ?_)
      obtain ⟨c_b3_0, c_b3_1⟩ := S6.out.b.t.c2
      obtain ⟨f_b3_0, f_b3_1⟩ := S6.out.b.t.f2
      go_simp
      clear c_b3_0 c_b3_1 f_b3_0 f_b3_1
      have S7 : Hid (Sx w _ [⟨qb4, [.bool true, .slice bo l cb]⟩, ⟨qb3, [.bool r1_m, .slice r1_0 r1_n r1_c]⟩, ⟨(w.heap.size + 1), [.bool false, .slice none 0 0, .bool false, .slice none 0 0]⟩, ⟨(w.heap.size), [.bool m, .slice ao n cap, .bool true, .slice bo l cb]⟩] _) := Lib.hid (Sx.set [⟨qb4, [.bool true, .slice bo l cb]⟩] [⟨(w.heap.size + 1), [.bool false, .slice none 0 0, .bool false, .slice none 0 0]⟩, ⟨(w.heap.size), [.bool m, .slice ao n cap, .bool true, .slice bo l cb]⟩] (Sx.set [⟨qb4, [.bool true, .slice bo l cb]⟩] [⟨(w.heap.size + 1), [.bool false, .slice none 0 0, .bool false, .slice none 0 0]⟩, ⟨(w.heap.size), [.bool m, .slice ao n cap, .bool true, .slice bo l cb]⟩] S6.out 0 (.bool r1_m)) 1 (.slice r1_0 r1_n r1_c))
      clear S6
      refine hK.out _ _ trivial (fun h2 => ?_)
      clear hK K hH
      have hH := h2
      clear h2
      try simp only [nrm]
      refine anyH_world (fun w11 hW => ?_)
      rw [← hW] at S7
      clear hW
      refine step_one 5 rfl (by kernel_rfl) (fun K hK => ?_)
      obtain ⟨c_b4_0, c_b4_1⟩ := S7.out.b.c2
      obtain ⟨f_b4_0, f_b4_1⟩ := S7.out.b.f2
      go_simp
      clear c_b4_0 c_b4_1 f_b4_0 f_b4_1
      have S8 : Hid (Sx w _ [⟨qb4, [.bool r2_m, .slice r2_0 r2_n r2_c]⟩, ⟨qb3, [.bool r1_m, .slice r1_0 r1_n r1_c]⟩, ⟨(w.heap.size + 1), [.bool false, .slice none 0 0, .bool false, .slice none 0 0]⟩, ⟨(w.heap.size), [.bool m, .slice ao n cap, .bool true, .slice bo l cb]⟩] _) := Lib.hid (Sx.set [] [⟨qb3, [.bool r1_m, .slice r1_0 r1_n r1_c]⟩, ⟨(w.heap.size + 1), [.bool false, .slice none 0 0, .bool false, .slice none 0 0]⟩, ⟨(w.heap.size), [.bool m, .slice ao n cap, .bool true, .slice bo l cb]⟩] (Sx.set [] [⟨qb3, [.bool r1_m, .slice r1_0 r1_n r1_c]⟩, ⟨(w.heap.size + 1), [.bool false, .slice none 0 0, .bool false, .slice none 0 0]⟩, ⟨(w.heap.size), [.bool m, .slice ao n cap, .bool true, .slice bo l cb]⟩] S7.out 0 (.bool r2_m)) 1 (.slice r2_0 r2_n r2_c))
      clear S7
      refine hK.out _ _ trivial (fun h2 => ?_)
      clear hK K hH
      have hH := h2
      clear h2
      try simp only [nrm]
      refine anyH_world (fun w12 hW => ?_)
      rw [← hW] at S8
      clear hW
      refine wpAnyH_done (by kernel_rfl) ?_ _
      clear hH
      go_wp2_with fail
      go_meet
      case rel => exact ⟨_, _, _, _, _, _, _, _, S8.out⟩
  case rest =>
  clear S3
  obtain ⟨r2_m, r2_0, r2_n, r2_c, r1_m, r1_0, r1_n, r1_c, S4⟩ := hcut
  obtain ⟨w13, hW⟩ : ∃ w13, w13 = wc := ⟨_, rfl⟩
  rw [← hW] at S4 ⊢
  clear hW
  obtain ⟨c_b3_0, c_b3_1⟩ := S4.out.b.t.c2
  obtain ⟨c_b4_0, c_b4_1⟩ := S4.out.b.c2
  go_wp2_with fail
  clear c_b3_0 c_b3_1 c_b4_0 c_b4_1
  refine (zgcd_any S4.out.n.t.zb.zx S4.out.n.zb.zx).mono ?_
  rintro e w14 ⟨r3_m, r3_0, r3_n, r3_c, rfl, hX, hB⟩
  have S5 := Lib.hid (((S4.out.step hB).zb (hX.zb (gcd_bd S4.out.n.zb.bd (HN.out)) (by omega)) rfl))
  clear S4 hX hB
  go_upto_region 5 with (fail)
  have S6 := Lib.hid (S5.out.var (w14.heap.size) [.bool r3_m, .slice r3_0 r3_n r3_c] 33 (by simp))
  clear S5
  refine wp_world (fun w15 hW => ?_)
  rw [← hW] at S6
  clear hW
  obtain ⟨c_b3_0, c_b3_1⟩ := S6.out.b.t.t.c2
  obtain ⟨c_b5_0, c_b5_1⟩ := S6.out.b.c2
  go_wp2_with fail
  clear c_b3_0 c_b3_1 c_b5_0 c_b5_1
  refine (zdivmod_any S6.out.n.t.t.zb.zx S6.out.n.zb.zx (HG0.out)).mono ?_
  rintro e w16 ⟨r4_m, r4_0, r4_n, r4_c, r4_k, r4_1, r4_l, r4_d, rfl, hX, _, hB⟩
  rw [HE1.out] at hX
  have S7 := Lib.hid (((S6.out.step hB).zb (hX.zb (HBN.out) (by omega)) rfl))
  clear S6 hX hB
  obtain ⟨c_b3_0, c_b3_1⟩ := S7.out.b.t.t.c2
  obtain ⟨f_b3_0, f_b3_1⟩ := S7.out.b.t.t.f2
  go_upto_region 6 with (fail)
  clear c_b3_0 c_b3_1 f_b3_0 f_b3_1
  have S8 : Hid (Sx w _ [⟨(w14.heap.size), [.bool r3_m, .slice r3_0 r3_n r3_c]⟩, ⟨qb4, [.bool r2_m, .slice r2_0 r2_n r2_c]⟩, ⟨qb3, [.bool r4_m, .slice r4_0 r4_n r4_c]⟩, ⟨(w.heap.size + 1), [.bool false, .slice none 0 0, .bool false, .slice none 0 0]⟩, ⟨(w.heap.size), [.bool m, .slice ao n cap, .bool true, .slice bo l cb]⟩] _) := Lib.hid (Sx.set [⟨(w14.heap.size), [.bool r3_m, .slice r3_0 r3_n r3_c]⟩, ⟨qb4, [.bool r2_m, .slice r2_0 r2_n r2_c]⟩] [⟨(w.heap.size + 1), [.bool false, .slice none 0 0, .bool false, .slice none 0 0]⟩, ⟨(w.heap.size), [.bool m, .slice ao n cap, .bool true, .slice bo l cb]⟩] (Sx.set [⟨(w14.heap.size), [.bool r3_m, .slice r3_0 r3_n r3_c]⟩, ⟨qb4, [.bool r2_m, .slice r2_0 r2_n r2_c]⟩] [⟨(w.heap.size + 1), [.bool false, .slice none 0 0, .bool false, .slice none 0 0]⟩, ⟨(w.heap.size), [.bool m, .slice ao n cap, .bool true, .slice bo l cb]⟩] S7.out 0 (.bool r4_m)) 1 (.slice r4_0 r4_n r4_c))
  clear S7
  refine wp_world (fun w17 hW => ?_)
  rw [← hW] at S8
  clear hW
  obtain ⟨c_b4_0, c_b4_1⟩ := S8.out.b.t.c2
  obtain ⟨c_b5_0, c_b5_1⟩ := S8.out.b.c2
  go_wp2_with fail
  clear c_b4_0 c_b4_1 c_b5_0 c_b5_1
  refine (zdivmod_any S8.out.n.t.t.zb.zx S8.out.n.t.zb.zx (HG0.out)).mono ?_
  rintro e w18 ⟨r5_m, r5_0, r5_n, r5_c, r5_k, r5_1, r5_l, r5_d, rfl, hX, _, hB⟩
  rw [HE2.out] at hX
  have S9 := Lib.hid (((S8.out.step hB).zb (hX.zb (HBD.out) (by omega)) rfl))
  clear S8 hX hB
  obtain ⟨c_b4_0, c_b4_1⟩ := S9.out.b.t.c2
  obtain ⟨f_b4_0, f_b4_1⟩ := S9.out.b.t.f2
  go_upto_region 7 with (fail)
  clear c_b4_0 c_b4_1 f_b4_0 f_b4_1
  have S10 : Hid (Sx w _ [⟨(w14.heap.size), [.bool r3_m, .slice r3_0 r3_n r3_c]⟩, ⟨qb4, [.bool r5_m, .slice r5_0 r5_n r5_c]⟩, ⟨qb3, [.bool r4_m, .slice r4_0 r4_n r4_c]⟩, ⟨(w.heap.size + 1), [.bool false, .slice none 0 0, .bool false, .slice none 0 0]⟩, ⟨(w.heap.size), [.bool m, .slice ao n cap, .bool true, .slice bo l cb]⟩] _) := Lib.hid (Sx.set [⟨(w14.heap.size), [.bool r3_m, .slice r3_0 r3_n r3_c]⟩] [⟨qb3, [.bool r4_m, .slice r4_0 r4_n r4_c]⟩, ⟨(w.heap.size + 1), [.bool false, .slice none 0 0, .bool false, .slice none 0 0]⟩, ⟨(w.heap.size), [.bool m, .slice ao n cap, .bool true, .slice bo l cb]⟩] (Sx.set [⟨(w14.heap.size), [.bool r3_m, .slice r3_0 r3_n r3_c]⟩] [⟨qb3, [.bool r4_m, .slice r4_0 r4_n r4_c]⟩, ⟨(w.heap.size + 1), [.bool false, .slice none 0 0, .bool false, .slice none 0 0]⟩, ⟨(w.heap.size), [.bool m, .slice ao n cap, .bool true, .slice bo l cb]⟩] S9.out 0 (.bool r5_m)) 1 (.slice r5_0 r5_n r5_c))
  clear S9
  refine wp_world (fun w19 hW => ?_)
  rw [← hW] at S10
  clear hW
  have S11 := Lib.hid (S10.out.drew)
  clear S10
  refine wp_region_held_drew (S := fun w' => (w'.cell? ⟨qb3, 0, none⟩ = some (.bool r4_m) ∧ w'.cell? ⟨qb3, 1, none⟩ = some (.slice r4_0 r4_n r4_c)) ∧ (w'.cell? ⟨qb4, 0, none⟩ = some (.bool r5_m) ∧ w'.cell? ⟨qb4, 1, none⟩ = some (.slice r5_0 r5_n r5_c))) (by kernel_rfl) (⟨S11.out.b.t.t.c2, S11.out.b.t.c2⟩) (fun hH => ?_)
  refine anyH_world (fun w20 hW => ?_)
  rw [← hW] at S11 hH
  clear hW
  refine step_on 0 rfl (by kernel_rfl) (fun _ _ _ h => h) (by rfl) hH (by intro w hS; go_simp <;> with_reducible rfl) ?_
  try simp only [nrm]
  refine step_on 2 rfl (by kernel_rfl) (fun _ _ _ h => h) (by rfl) hH (by intro w hS; go_simp <;> with_reducible rfl) ?_
  try simp only [nrm]
  refine step_one 1 rfl (by kernel_rfl) (fun K hK => ?_)
  go_simp
  refine (zint_any S11.out.n.t.zb.zx).mono ?_
  rintro e w21 ⟨r6_m, r6_0, r6_n, r6_c, rfl, hX, hB⟩
  have S12 := Lib.hid (((S11.out.step hB).cb (hX.cb (S11.out.n.t.zb.bd) (by omega)) rfl))
  clear S11 hX hB
  go_wp2_with fail
  refine hK.out _ _ ⟨S12.out.b.t.t.c2, S12.out.b.t.c2⟩ (fun h2 => ?_)
  clear hK K hH
  have hH := h2
  clear h2
  try simp only [nrm]
  refine step_one 3 rfl (by kernel_rfl) (fun K hK => ?_)
  go_simp
  refine (zint_any S12.out.n.t.zb.zx).mono ?_
  rintro e w22 ⟨r7_m, r7_0, r7_n, r7_c, rfl, hX, hB⟩
  have S13 := Lib.hid (((S12.out.step hB).cb (hX.cb (S12.out.n.t.zb.bd) (by omega)) rfl))
  clear S12 hX hB
  go_wp2_with fail
  refine hK.out _ _ ⟨S13.out.b.t.t.c2, S13.out.b.t.c2⟩ (fun h2 => ?_)
  clear hK K hH
  have hH := h2
  clear h2
  try simp only [nrm]
  refine step_on 4 rfl (by kernel_rfl) (fun _ _ _ h => h) (by rfl) hH (by intro w hS; go_simp <;> with_reducible rfl) ?_
  try simp only [nrm]
  refine step_one 5 rfl (by kernel_rfl) (fun K hK => ?_)
  obtain ⟨c_b2_0, c_b2_1, c_b2_2, c_b2_3⟩ := S13.out.b.t.t.t.c4
  obtain ⟨f_b2_0, f_b2_1, f_b2_2, f_b2_3⟩ := S13.out.b.t.t.t.f4
  go_simp
  clear c_b2_0 c_b2_1 c_b2_2 c_b2_3 f_b2_0 f_b2_1 f_b2_2 f_b2_3
  have S14 : Hid (Sx w _ [⟨(w14.heap.size), [.bool r3_m, .slice r3_0 r3_n r3_c]⟩, ⟨qb4, [.bool r5_m, .slice r5_0 r5_n r5_c]⟩, ⟨qb3, [.bool r4_m, .slice r4_0 r4_n r4_c]⟩, ⟨(w.heap.size + 1), [.bool r6_m, .slice r6_0 r6_n r6_c, .bool r7_m, .slice r7_0 r7_n r7_c]⟩, ⟨(w.heap.size), [.bool m, .slice ao n cap, .bool true, .slice bo l cb]⟩] _) := Lib.hid (Sx.set [⟨(w14.heap.size), [.bool r3_m, .slice r3_0 r3_n r3_c]⟩, ⟨qb4, [.bool r5_m, .slice r5_0 r5_n r5_c]⟩, ⟨qb3, [.bool r4_m, .slice r4_0 r4_n r4_c]⟩] [⟨(w.heap.size), [.bool m, .slice ao n cap, .bool true, .slice bo l cb]⟩] (Sx.set [⟨(w14.heap.size), [.bool r3_m, .slice r3_0 r3_n r3_c]⟩, ⟨qb4, [.bool r5_m, .slice r5_0 r5_n r5_c]⟩, ⟨qb3, [.bool r4_m, .slice r4_0 r4_n r4_c]⟩] [⟨(w.heap.size), [.bool m, .slice ao n cap, .bool true, .slice bo l cb]⟩] (Sx.set [⟨(w14.heap.size), [.bool r3_m, .slice r3_0 r3_n r3_c]⟩, ⟨qb4, [.bool r5_m, .slice r5_0 r5_n r5_c]⟩, ⟨qb3, [.bool r4_m, .slice r4_0 r4_n r4_c]⟩] [⟨(w.heap.size), [.bool m, .slice ao n cap, .bool true, .slice bo l cb]⟩] (Sx.set [⟨(w14.heap.size), [.bool r3_m, .slice r3_0 r3_n r3_c]⟩, ⟨qb4, [.bool r5_m, .slice r5_0 r5_n r5_c]⟩, ⟨qb3, [.bool r4_m, .slice r4_0 r4_n r4_c]⟩] [⟨(w.heap.size), [.bool m, .slice ao n cap, .bool true, .slice bo l cb]⟩] S13.out 0 (.bool r6_m)) 1 (.slice r6_0 r6_n r6_c)) 2 (.bool r7_m)) 3 (.slice r7_0 r7_n r7_c))
  clear S13
  refine hK.out _ _ ⟨S14.out.b.t.t.c2, S14.out.b.t.c2⟩ (fun h2 => ?_)
  clear hK K hH
  have hH := h2
  clear h2
  try simp only [nrm]
  refine anyH_world (fun w23 hW => ?_)
  rw [← hW] at S14 hH
  clear hW
  refine wpAnyH_done (by kernel_rfl) ?_ _
  clear hH
  obtain ⟨c_b2_0, c_b2_1, c_b2_2, c_b2_3⟩ := S14.out.b.t.t.t.c4
  obtain ⟨f_b2_0, f_b2_1, f_b2_2, f_b2_3⟩ := S14.out.b.t.t.t.f4
  go_wp2_with fail
  refine bodyPost_ret (v := .agg #[.bool r6_m, .slice r6_0 r6_n r6_c, .bool r7_m, .slice r7_0 r7_n r7_c]) (by simp [results, Tryz.results16, go_sem, c_b2_0, c_b2_1, c_b2_2, c_b2_3]) rfl ?_
  exact ⟨_, _, _, _, _, _, _, _, rfl, ⟨S14.out.n.t.cb.cx, S14.out.n.cb.cx, S14.out.n.t.cb.bd, S14.out.n.cb.bd⟩, S14.out.h⟩

theorem qrat_any {m : Bool} {ao : Option Addr} {n cap : Nat} {k : Bool} {bo : Option Addr} {l cb : Nat} {x d : Int} {q : Rat} {j : Nat} {w : World} (hx : Qx w m ao n cap k bo l cb x d q j) (h1 : 1 ≤ j) (h2 : j ≤ 50000) :
    Calls Tryz.prog 16 #[.agg #[.bool m, .slice ao n cap, .bool k, .slice bo l cb]] w (NewR w q j) := by
  cases k
  · exact qrat_false hx h1 h2
  · exact qrat_true hx h1 h2

end Go.Proofs.YteceomlbnajihaaGreatDoor
