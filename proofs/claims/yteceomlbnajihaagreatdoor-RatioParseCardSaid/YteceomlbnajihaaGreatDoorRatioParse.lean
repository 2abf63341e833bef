/-
  The walk of the law RatioParse.
-/
import Derived.Test.YteceomlbnajihaaGreatDoorRatioPre
import Derived.Test.YteceomlbnajihaaGreatDoorRatioQPP
import Derived.Deep.Cut
import Derived.Deep.CutRange
set_option maxRecDepth 8192
namespace Go.Proofs.YteceomlbnajihaaGreatDoor
open Go.RowKit

theorem ratS_facts {q : Rat} {u : ByteArray} {j : Nat} (hu : u = ratS q) (hn : Bd q.num j) (hd : Bd (q.den : Int) j) (hj : j ≤ 900) : u.size ≤ 20000 ∧ rtOk u.data.toList = true ∧ rtQ u.data.toList = q := by
  subst hu
  have h := rt_own q
  have hl := ratTxt_len hn hd
  have e : (ratS q).data.toList = ratTxt q.num q.den := by unfold ratS; simp
  rw [e, Lib.size_eq, e]
  exact ⟨by omega, h⟩
theorem rx_facts {w : World} {m : Bool} {ao : Option Addr} {n cap : Nat} {k : Bool} {bo : Option Addr} {l cb : Nat} {x d : Int} {q : Rat} (h : Rx w m ao n cap k bo l cb x d q 8) {u : ByteArray} (hu : u = ratS q) : u.size ≤ 20000 ∧ rtOk u.data.toList = true ∧ rtQ u.data.toList = q :=
  ratS_facts hu (by rw [← h.val, qv_dn]; exact bd_num h.bn (dn_ne d)) (by rw [← h.val, qv_dn]; exact bd_den (dn_bd h.bd (by omega)) (dn_ne d)) (show 8 ≤ 900 by omega)

set_option maxHeartbeats 8000000 in
set_option maxRecDepth 100000 in
theorem ratioParse_long0 {s : ByteArray} {m0 k0 : Bool} {a0 b0 : Option Addr} {n0 c0 l0 d0 : Nat} {xs0 ys0 : List Nat} {w : World} (hs0 : Sl w a0 n0 c0 xs0) (ht0 : Sl w b0 l0 d0 ys0) (ht : Tab w) (hz : 200 < s.size) :
    Calls Tryz.prog 5 #[.string s, .agg #[.bool m0, .slice a0 n0 c0, .bool k0, .slice b0 l0 d0]] w (RetB (.bool true) w) := by
  have _u0 := hs0
  have _u1 := ht0
  have HT := Lib.hid ht
  clear ht
  have z1 : ¬ (s.size : Int) ≤ 200 := by omega
  have z2 : (200 : Int) < s.size := by omega
  have z3 : decide (200 < s.size) = true := decide_eq_true (by omega)
  go_enter Tryz.func5, Tryz.ntmps5
  have S0 := Lib.hid (Sx.start (w := w) (N := []) trivial)
  have S1 := Lib.hid (S0.out.var (w.heap.size) [.bool m0, .slice a0 n0 c0, .bool k0, .slice b0 l0 d0] 26 (by simp))
  clear S0
  go_upto_region 1 with (fail)
  refine wp_world (fun w1 hW => ?_)
  rw [← hW] at S1
  clear hW
  go_wp2_with fail
  refine (known6_any _ (HT.out.below S1.out.h)).mono ?_
  rintro e w2 ⟨rfl, hB⟩
  have S2 := Lib.hid ((S1.out.step hB))
  clear S1 hB
  go_wp2_with fail
  go_ret
  exact ⟨rfl, S2.out.h⟩

set_option maxHeartbeats 8000000 in
set_option maxRecDepth 100000 in
theorem ratioParse_long1 {s : ByteArray} {m0 k0 : Bool} {a0 b0 : Option Addr} {n0 c0 l0 d0 : Nat} {xs0 ys0 : List Nat} {w : World} (hs0 : Sl w a0 n0 c0 xs0) (ht0 : Sl w b0 l0 d0 ys0) (ht : Tab w) (hz : s.size ≤ 200) (hg : ((decide (8 < n0) || decide (8 < l0))) = true) :
    Calls Tryz.prog 5 #[.string s, .agg #[.bool m0, .slice a0 n0 c0, .bool k0, .slice b0 l0 d0]] w (RetB (.bool true) w) := by
  have _u0 := hs0
  have _u1 := ht0
  have HT := Lib.hid ht
  have HG := Lib.hid hg
  clear ht hg
  have z1 : (s.size : Int) ≤ 200 := by omega
  have z2 : ¬ (200 : Int) < s.size := by omega
  have z3 : decide (200 < s.size) = false := decide_eq_false (by omega)
  go_enter Tryz.func5, Tryz.ntmps5
  have S0 := Lib.hid (Sx.start (w := w) (N := []) trivial)
  have S1 := Lib.hid (S0.out.var (w.heap.size) [.bool m0, .slice a0 n0 c0, .bool k0, .slice b0 l0 d0] 26 (by simp))
  clear S0
  go_upto_region 1 with (fail)
  refine wp_world (fun w1 hW => ?_)
  rw [← hW] at S1
  clear hW
  obtain ⟨c_b3_0, c_b3_1, c_b3_2, c_b3_3⟩ := S1.out.b.c4
  go_wp2_with fail
  clear c_b3_0 c_b3_1 c_b3_2 c_b3_3
  have S2 := Lib.hid (S1.out.var (w1.heap.size) [.bool m0, .slice a0 n0 c0, .bool k0, .slice b0 l0 d0] 26 (by simp))
  clear S1
  refine (great6_1 true S2.out.b.1 (HG.out)).mono ?_
  rintro e w2 ⟨rfl, hB⟩
  have S3 := Lib.hid ((S2.out.step hB))
  clear S2 hB
  have S4 := Lib.hid (S3.out.pop)
  clear S3
  go_wp2_with fail
  refine (known6_any _ (HT.out.below S4.out.h)).mono ?_
  rintro e w3 ⟨rfl, hB⟩
  have S5 := Lib.hid ((S4.out.step hB))
  clear S4 hB
  go_wp2_with fail
  go_ret
  exact ⟨rfl, S5.out.h⟩

set_option maxHeartbeats 8000000 in
set_option maxRecDepth 100000 in
theorem ratioParse_main0 {s : ByteArray} {m0 k0 : Bool} {a0 b0 : Option Addr} {n0 c0 l0 d0 : Nat} {xs0 ys0 : List Nat} {w : World} (hs0 : Sl w a0 n0 c0 xs0) (ht0 : Sl w b0 l0 d0 ys0) (ht : Tab w) (p0 : n0 ≤ 8) (q0 : l0 ≤ 8) (hz : s.size ≤ 200) (hok : rtOk s.data.toList = false) :
    Calls Tryz.prog 5 #[.string s, .agg #[.bool m0, .slice a0 n0 c0, .bool k0, .slice b0 l0 d0]] w (RetB (.bool true) w) := by
  obtain ⟨x0, hx0⟩ : ∃ x, zOf m0 (val xs0) = x := ⟨_, rfl⟩
  obtain ⟨e0, he0⟩ : ∃ x, zOf k0 (val ys0) = x := ⟨_, rfl⟩
  obtain ⟨r0, hr0⟩ : ∃ q, qv x0 e0 = q := ⟨_, rfl⟩
  have hR0 := rx_of hs0 ht0 hx0 he0 hr0 p0 q0
  have P0 := Lib.hid (lim_no p0)
  have Q0 := Lib.hid (lim_no q0)
  clear hx0 he0 hr0 p0 q0
  have HT := Lib.hid ht
  clear ht
  have z1 : (s.size : Int) ≤ 200 := by omega
  have z2 : ¬ (200 : Int) < s.size := by omega
  have z3 : decide (200 < s.size) = false := decide_eq_false (by omega)
  have HSZ : Hid (s.size ≤ 20000) := by show s.size ≤ 20000; omega
  have HOK := Lib.hid hok
  clear hok hz
  obtain ⟨q1, hq1⟩ : ∃ x, rtQ s.data.toList = x := ⟨_, rfl⟩
  have Hq1 := Lib.hid hq1
  clear hq1
  obtain ⟨u, hu⟩ : ∃ u : ByteArray, u = ratS r0 := ⟨_, rfl⟩
  have HF := Lib.hid (rx_facts hR0 hu)
  have HU := Lib.hid hu
  clear hu
  go_enter Tryz.func5, Tryz.ntmps5
  have S0 := Lib.hid (Sx.start (w := w) (N := [.rx m0 a0 n0 c0 k0 b0 l0 d0 x0 e0 r0 8]) ⟨hR0, trivial⟩)
  clear hR0
  have S1 := Lib.hid (S0.out.var (w.heap.size) [.bool m0, .slice a0 n0 c0, .bool k0, .slice b0 l0 d0] 26 (by simp))
  clear S0
  go_upto_region 1 with (fail)
  refine wp_world (fun w1 hW => ?_)
  rw [← hW] at S1
  clear hW
  obtain ⟨c_b3_0, c_b3_1, c_b3_2, c_b3_3⟩ := S1.out.b.c4
  go_wp2_with fail
  clear c_b3_0 c_b3_1 c_b3_2 c_b3_3
  have S2 := Lib.hid (S1.out.var (w1.heap.size) [.bool m0, .slice a0 n0 c0, .bool k0, .slice b0 l0 d0] 26 (by simp))
  clear S1
  refine (great6_1 false S2.out.b.1 (by rw [P0.out, Q0.out]; rfl)).mono ?_
  rintro e w2 ⟨rfl, hB⟩
  have S3 := Lib.hid ((S2.out.step hB))
  clear S2 hB
  have S4 := Lib.hid (S3.out.pop)
  clear S3
  go_wp2_with fail
  refine (ratparse_bad s _ (HSZ.out) (HOK.out)).mono ?_
  rintro e w3 ⟨rfl, hB⟩
  have S5 := Lib.hid ((S4.out.step hB))
  clear S4 hB
  go_upto_region 4 with (fail)
  have S6 := Lib.hid (S5.out.var (w3.heap.size) [.bool false, .slice none 0 0, .bool false, .slice none 0 0] 26 (by simp))
  clear S5
  refine wp_world (fun w4 hW => ?_)
  rw [← hW] at S6
  clear hW
  go_wp2_with fail
  refine (qparse_bad s _ (HSZ.out) (HOK.out)).mono ?_
  rintro e w5 ⟨rfl, hB⟩
  have S7 := Lib.hid ((S6.out.step hB))
  clear S6 hB
  go_upto_region 5 with (fail)
  have S8 := Lib.hid (S7.out.var (w5.heap.size) [.bool false, .slice none 0 0, .bool false, .slice none 0 0] 26 (by simp))
  clear S7
  refine wp_world (fun w6 hW => ?_)
  rw [← hW] at S8
  clear hW
  obtain ⟨c_b3_0, c_b3_1, c_b3_2, c_b3_3⟩ := S8.out.b.t.t.c4
  go_wp2_with fail
  clear c_b3_0 c_b3_1 c_b3_2 c_b3_3
  refine (rattext_any S8.out.n.rx (HT.out.below S8.out.h) (by omega) (by omega)).mono ?_
  rintro e w7 ⟨rfl, hB⟩
  rw [← HU.out]
  have S9 := Lib.hid ((S8.out.step hB))
  clear S8 hB
  go_wp2_with fail
  refine (ratparse_ok u _ (HF.out.1) (HF.out.2.1)).mono ?_
  rintro e w8 ⟨r1_m, r1_0, r1_n, r1_c, r1_k, r1_1, r1_l, r1_d, rfl, hX, hB⟩
  rw [HF.out.2.2] at hX
  have S10 := Lib.hid (((S9.out.step hB).rc hX rfl))
  clear S9 hX hB
  go_upto_region 6 with (fail)
  have S11 := Lib.hid (S10.out.var (w8.heap.size) [.bool r1_m, .slice r1_0 r1_n r1_c, .bool r1_k, .slice r1_1 r1_l r1_d] 26 (by simp))
  clear S10
  refine wp_world (fun w9 hW => ?_)
  rw [← hW] at S11
  clear hW
  have S12 := Lib.hid (S11.out.drew)
  clear S11
  refine wp_region_held_drew (S := fun w' => (w'.cell? ⟨(w3.heap.size), 0, none⟩ = some (.bool false) ∧ w'.cell? ⟨(w3.heap.size), 1, none⟩ = some (.slice none 0 0) ∧ w'.cell? ⟨(w3.heap.size), 2, none⟩ = some (.bool false) ∧ w'.cell? ⟨(w3.heap.size), 3, none⟩ = some (.slice none 0 0)) ∧ (w'.cell? ⟨(w5.heap.size), 0, none⟩ = some (.bool false) ∧ w'.cell? ⟨(w5.heap.size), 1, none⟩ = some (.slice none 0 0) ∧ w'.cell? ⟨(w5.heap.size), 2, none⟩ = some (.bool false) ∧ w'.cell? ⟨(w5.heap.size), 3, none⟩ = some (.slice none 0 0)) ∧ (w'.cell? ⟨(w8.heap.size), 0, none⟩ = some (.bool r1_m) ∧ w'.cell? ⟨(w8.heap.size), 1, none⟩ = some (.slice r1_0 r1_n r1_c) ∧ w'.cell? ⟨(w8.heap.size), 2, none⟩ = some (.bool r1_k) ∧ w'.cell? ⟨(w8.heap.size), 3, none⟩ = some (.slice r1_1 r1_l r1_d)) ∧ (w'.cell? ⟨(w.heap.size), 0, none⟩ = some (.bool m0) ∧ w'.cell? ⟨(w.heap.size), 1, none⟩ = some (.slice a0 n0 c0) ∧ w'.cell? ⟨(w.heap.size), 2, none⟩ = some (.bool k0) ∧ w'.cell? ⟨(w.heap.size), 3, none⟩ = some (.slice b0 l0 d0))) (by kernel_rfl) (⟨S12.out.b.t.t.c4, S12.out.b.t.c4, S12.out.b.c4, S12.out.b.t.t.t.c4⟩) (fun hH => ?_)
  refine anyH_world (fun w10 hW => ?_)
  rw [← hW] at S12 hH
  clear hW
  refine step_on 0 rfl (by kernel_rfl) (fun _ _ _ h => h) (by rfl) hH (by intro w hS; go_simp <;> with_reducible rfl) ?_
  try simp only [nrm]
  refine step_on 1 rfl (by kernel_rfl) (fun _ _ _ h => h) (by rfl) hH (by intro w hS; go_simp <;> with_reducible rfl) ?_
  try simp only [nrm]
  refine step_on 2 rfl (by kernel_rfl) (fun _ _ _ h => h) (by rfl) hH (by intro w hS; go_simp <;> with_reducible rfl) ?_
  try simp only [nrm]
  refine step_on 3 rfl (by kernel_rfl) (fun _ _ _ h => h) (by rfl) hH (by intro w hS; go_simp <;> with_reducible rfl) ?_
  try simp only [nrm]
  refine step_on 4 rfl (by kernel_rfl) (fun _ _ _ h => h) (by rfl) hH (by intro w hS; go_simp <;> with_reducible rfl) ?_
  try simp only [nrm]
  refine step_on 5 rfl (by kernel_rfl) (fun _ _ _ h => h) (by rfl) hH (by intro w hS; go_simp <;> with_reducible rfl) ?_
  try simp only [nrm]
  refine step_one 6 rfl (by kernel_rfl) (fun K hK => ?_)
  go_simp
  refine (rsame_self (zero_cx _).cn.sl (zero_cx _).cn.sl (zero_cx _).cn.sl (zero_cx _).cn.sl).mono ?_
  rintro e w11 ⟨rfl, hB⟩
  have S13 := Lib.hid ((S12.out.step hB))
  clear S12 hB
  go_wp2_with fail
  refine hK.out _ _ ⟨S13.out.b.t.t.c4, S13.out.b.t.c4, S13.out.b.c4, S13.out.b.t.t.t.c4⟩ (fun h2 => ?_)
  clear hK K hH
  have hH := h2
  clear h2
  try simp only [nrm]
  refine step_on 7 rfl (by kernel_rfl) (fun _ _ _ h => h) (by rfl) hH (by intro w hS; go_simp <;> with_reducible rfl) ?_
  try simp only [nrm]
  refine step_on 8 rfl (by kernel_rfl) (fun _ _ _ h => h) (by rfl) hH (by intro w hS; go_simp <;> with_reducible rfl) ?_
  try simp only [nrm]
  refine step_on 9 rfl (by kernel_rfl) (fun _ _ _ h => h) (by rfl) hH (by intro w hS; go_simp <;> with_reducible rfl) ?_
  try simp only [nrm]
  refine step_on 10 rfl (by kernel_rfl) (fun _ _ _ h => h) (by rfl) hH (by intro w hS; go_simp <;> with_reducible rfl) ?_
  try simp only [nrm]
  refine step_on 11 rfl (by kernel_rfl) (fun _ _ _ h => h) (by rfl) hH (by intro w hS; go_simp <;> with_reducible rfl) ?_
  try simp only [nrm]
  refine step_on 12 rfl (by kernel_rfl) (fun _ _ _ h => h) (by rfl) hH (by intro w hS; go_simp <;> with_reducible rfl) ?_
  try simp only [nrm]
  refine step_on 13 rfl (by kernel_rfl) (fun _ _ _ h => h) (by rfl) hH (by intro w hS; go_simp <;> with_reducible rfl) ?_
  try simp only [nrm]
  refine step_on 14 rfl (by kernel_rfl) (fun _ _ _ h => h) (by rfl) hH (by intro w hS; go_simp <;> with_reducible rfl) ?_
  try simp only [nrm]
  refine step_one 15 rfl (by kernel_rfl) (fun K hK => ?_)
  go_simp
  refine (qof_any S13.out.n.t.rx (by omega) (by omega)).mono ?_
  rintro e w12 ⟨r2_m, r2_0, r2_n, r2_c, r2_k, r2_1, r2_l, r2_d, rfl, hX, hB⟩
  have S14 := Lib.hid (((S13.out.step hB).qx hX rfl))
  clear S13 hX hB
  go_wp2_with fail
  refine hK.out _ _ ⟨S14.out.b.t.t.c4, S14.out.b.t.c4, S14.out.b.c4, S14.out.b.t.t.t.c4⟩ (fun h2 => ?_)
  clear hK K hH
  have hH := h2
  clear h2
  try simp only [nrm]
  refine step_one 16 rfl (by kernel_rfl) (fun K hK => ?_)
  go_simp
  refine (qrat_any S14.out.n.qx (by omega) (by omega)).mono ?_
  rintro e w13 ⟨r3_m, r3_0, r3_n, r3_c, r3_k, r3_1, r3_l, r3_d, rfl, hX, hB⟩
  have S15 := Lib.hid (((S14.out.step hB).rc hX rfl))
  clear S14 hX hB
  go_wp2_with fail
  refine hK.out _ _ ⟨S15.out.b.t.t.c4, S15.out.b.t.c4, S15.out.b.c4, S15.out.b.t.t.t.c4⟩ (fun h2 => ?_)
  clear hK K hH
  have hH := h2
  clear h2
  try simp only [nrm]
  refine step_one 17 rfl (by kernel_rfl) (fun K hK => ?_)
  go_simp
  refine (rsame_eq S15.out.n.t.t.rc S15.out.n.rc (rfl)).mono ?_
  rintro e w14 ⟨rfl, hB⟩
  have S16 := Lib.hid ((S15.out.step hB))
  clear S15 hB
  go_wp2_with fail
  refine hK.out _ _ ⟨S16.out.b.t.t.c4, S16.out.b.t.c4, S16.out.b.c4, S16.out.b.t.t.t.c4⟩ (fun h2 => ?_)
  clear hK K hH
  have hH := h2
  clear h2
  try simp only [nrm]
  refine step_on 18 rfl (by kernel_rfl) (fun _ _ _ h => h) (by rfl) hH (by intro w hS; go_simp <;> with_reducible rfl) ?_
  try simp only [nrm]
  refine step_on 19 rfl (by kernel_rfl) (fun _ _ _ h => h) (by rfl) hH (by intro w hS; go_simp <;> with_reducible rfl) ?_
  try simp only [nrm]
  refine step_one 20 rfl (by kernel_rfl) (fun K hK => ?_)
  go_simp
  refine (known6_any _ (HT.out.below S16.out.h)).mono ?_
  rintro e w15 ⟨rfl, hB⟩
  have S17 := Lib.hid ((S16.out.step hB))
  clear S16 hB
  go_wp2_with fail
  refine hK.out _ _ ⟨S17.out.b.t.t.c4, S17.out.b.t.c4, S17.out.b.c4, S17.out.b.t.t.t.c4⟩ (fun h2 => ?_)
  clear hK K hH
  have hH := h2
  clear h2
  try simp only [nrm]
  refine step_on 21 rfl (by kernel_rfl) (fun _ _ _ h => h) (by rfl) hH (by intro w hS; go_simp <;> with_reducible rfl) ?_
  try simp only [nrm]
  refine step_on 22 rfl (by kernel_rfl) (fun _ _ _ h => h) (by rfl) hH (by intro w hS; go_simp <;> with_reducible rfl) ?_
  try simp only [nrm]
  refine wpAnyH_done (by kernel_rfl) ?_ _
  clear hH
  go_wp2_with fail
  go_ret
  exact ⟨rfl, S17.out.h⟩

set_option maxHeartbeats 8000000 in
set_option maxRecDepth 100000 in
theorem ratioParse_main1 {s : ByteArray} {m0 k0 : Bool} {a0 b0 : Option Addr} {n0 c0 l0 d0 : Nat} {xs0 ys0 : List Nat} {w : World} (hs0 : Sl w a0 n0 c0 xs0) (ht0 : Sl w b0 l0 d0 ys0) (ht : Tab w) (p0 : n0 ≤ 8) (q0 : l0 ≤ 8) (hz : s.size ≤ 200) (hok : rtOk s.data.toList = true) :
    Calls Tryz.prog 5 #[.string s, .agg #[.bool m0, .slice a0 n0 c0, .bool k0, .slice b0 l0 d0]] w (RetB (.bool true) w) := by
  obtain ⟨x0, hx0⟩ : ∃ x, zOf m0 (val xs0) = x := ⟨_, rfl⟩
  obtain ⟨e0, he0⟩ : ∃ x, zOf k0 (val ys0) = x := ⟨_, rfl⟩
  obtain ⟨r0, hr0⟩ : ∃ q, qv x0 e0 = q := ⟨_, rfl⟩
  have hR0 := rx_of hs0 ht0 hx0 he0 hr0 p0 q0
  have P0 := Lib.hid (lim_no p0)
  have Q0 := Lib.hid (lim_no q0)
  clear hx0 he0 hr0 p0 q0
  have HT := Lib.hid ht
  clear ht
  have z1 : (s.size : Int) ≤ 200 := by omega
  have z2 : ¬ (200 : Int) < s.size := by omega
  have z3 : decide (200 < s.size) = false := decide_eq_false (by omega)
  have HSZ : Hid (s.size ≤ 20000) := by show s.size ≤ 20000; omega
  have HOK := Lib.hid hok
  clear hok hz
  obtain ⟨q1, hq1⟩ : ∃ x, rtQ s.data.toList = x := ⟨_, rfl⟩
  have Hq1 := Lib.hid hq1
  clear hq1
  obtain ⟨u, hu⟩ : ∃ u : ByteArray, u = ratS r0 := ⟨_, rfl⟩
  have HF := Lib.hid (rx_facts hR0 hu)
  have HU := Lib.hid hu
  clear hu
  go_enter Tryz.func5, Tryz.ntmps5
  have S0 := Lib.hid (Sx.start (w := w) (N := [.rx m0 a0 n0 c0 k0 b0 l0 d0 x0 e0 r0 8]) ⟨hR0, trivial⟩)
  clear hR0
  have S1 := Lib.hid (S0.out.var (w.heap.size) [.bool m0, .slice a0 n0 c0, .bool k0, .slice b0 l0 d0] 26 (by simp))
  clear S0
  go_upto_region 1 with (fail)
  refine wp_world (fun w1 hW => ?_)
  rw [← hW] at S1
  clear hW
  obtain ⟨c_b3_0, c_b3_1, c_b3_2, c_b3_3⟩ := S1.out.b.c4
  go_wp2_with fail
  clear c_b3_0 c_b3_1 c_b3_2 c_b3_3
  have S2 := Lib.hid (S1.out.var (w1.heap.size) [.bool m0, .slice a0 n0 c0, .bool k0, .slice b0 l0 d0] 26 (by simp))
  clear S1
  refine (great6_1 false S2.out.b.1 (by rw [P0.out, Q0.out]; rfl)).mono ?_
  rintro e w2 ⟨rfl, hB⟩
  have S3 := Lib.hid ((S2.out.step hB))
  clear S2 hB
  have S4 := Lib.hid (S3.out.pop)
  clear S3
  go_wp2_with fail
  refine (ratparse_ok s _ (HSZ.out) (HOK.out)).mono ?_
  rintro e w3 ⟨r1_m, r1_0, r1_n, r1_c, r1_k, r1_1, r1_l, r1_d, rfl, hX, hB⟩
  rw [Hq1.out] at hX
  have S5 := Lib.hid (((S4.out.step hB).rc hX rfl))
  clear S4 hX hB
  go_upto_region 4 with (fail)
  have S6 := Lib.hid (S5.out.var (w3.heap.size) [.bool r1_m, .slice r1_0 r1_n r1_c, .bool r1_k, .slice r1_1 r1_l r1_d] 26 (by simp))
  clear S5
  refine wp_world (fun w4 hW => ?_)
  rw [← hW] at S6
  clear hW
  go_wp2_with fail
  refine (qparse_ok s _ (HSZ.out) (HOK.out)).mono ?_
  rintro e w5 ⟨r2_m, r2_0, r2_n, r2_c, r2_k, r2_1, r2_l, r2_d, rfl, hX, hB⟩
  rw [Hq1.out] at hX
  have S7 := Lib.hid (((S6.out.step hB).rc hX rfl))
  clear S6 hX hB
  go_upto_region 5 with (fail)
  have S8 := Lib.hid (S7.out.var (w5.heap.size) [.bool r2_m, .slice r2_0 r2_n r2_c, .bool r2_k, .slice r2_1 r2_l r2_d] 26 (by simp))
  clear S7
  refine wp_world (fun w6 hW => ?_)
  rw [← hW] at S8
  clear hW
  obtain ⟨c_b3_0, c_b3_1, c_b3_2, c_b3_3⟩ := S8.out.b.t.t.c4
  go_wp2_with fail
  clear c_b3_0 c_b3_1 c_b3_2 c_b3_3
  refine (rattext_any S8.out.n.t.t.rx (HT.out.below S8.out.h) (by omega) (by omega)).mono ?_
  rintro e w7 ⟨rfl, hB⟩
  rw [← HU.out]
  have S9 := Lib.hid ((S8.out.step hB))
  clear S8 hB
  go_wp2_with fail
  refine (ratparse_ok u _ (HF.out.1) (HF.out.2.1)).mono ?_
  rintro e w8 ⟨r3_m, r3_0, r3_n, r3_c, r3_k, r3_1, r3_l, r3_d, rfl, hX, hB⟩
  rw [HF.out.2.2] at hX
  have S10 := Lib.hid (((S9.out.step hB).rc hX rfl))
  clear S9 hX hB
  go_upto_region 6 with (fail)
  have S11 := Lib.hid (S10.out.var (w8.heap.size) [.bool r3_m, .slice r3_0 r3_n r3_c, .bool r3_k, .slice r3_1 r3_l r3_d] 26 (by simp))
  clear S10
  refine wp_world (fun w9 hW => ?_)
  rw [← hW] at S11
  clear hW
  have S12 := Lib.hid (S11.out.drew)
  clear S11
  refine wp_region_held_drew (S := fun w' => (w'.cell? ⟨(w3.heap.size), 0, none⟩ = some (.bool r1_m) ∧ w'.cell? ⟨(w3.heap.size), 1, none⟩ = some (.slice r1_0 r1_n r1_c) ∧ w'.cell? ⟨(w3.heap.size), 2, none⟩ = some (.bool r1_k) ∧ w'.cell? ⟨(w3.heap.size), 3, none⟩ = some (.slice r1_1 r1_l r1_d)) ∧ (w'.cell? ⟨(w5.heap.size), 0, none⟩ = some (.bool r2_m) ∧ w'.cell? ⟨(w5.heap.size), 1, none⟩ = some (.slice r2_0 r2_n r2_c) ∧ w'.cell? ⟨(w5.heap.size), 2, none⟩ = some (.bool r2_k) ∧ w'.cell? ⟨(w5.heap.size), 3, none⟩ = some (.slice r2_1 r2_l r2_d)) ∧ (w'.cell? ⟨(w8.heap.size), 0, none⟩ = some (.bool r3_m) ∧ w'.cell? ⟨(w8.heap.size), 1, none⟩ = some (.slice r3_0 r3_n r3_c) ∧ w'.cell? ⟨(w8.heap.size), 2, none⟩ = some (.bool r3_k) ∧ w'.cell? ⟨(w8.heap.size), 3, none⟩ = some (.slice r3_1 r3_l r3_d)) ∧ (w'.cell? ⟨(w.heap.size), 0, none⟩ = some (.bool m0) ∧ w'.cell? ⟨(w.heap.size), 1, none⟩ = some (.slice a0 n0 c0) ∧ w'.cell? ⟨(w.heap.size), 2, none⟩ = some (.bool k0) ∧ w'.cell? ⟨(w.heap.size), 3, none⟩ = some (.slice b0 l0 d0))) (by kernel_rfl) (⟨S12.out.b.t.t.c4, S12.out.b.t.c4, S12.out.b.c4, S12.out.b.t.t.t.c4⟩) (fun hH => ?_)
  refine anyH_world (fun w10 hW => ?_)
  rw [← hW] at S12 hH
  clear hW
  refine step_on 0 rfl (by kernel_rfl) (fun _ _ _ h => h) (by rfl) hH (by intro w hS; go_simp <;> with_reducible rfl) ?_
  try simp only [nrm]
  refine step_on 1 rfl (by kernel_rfl) (fun _ _ _ h => h) (by rfl) hH (by intro w hS; go_simp <;> with_reducible rfl) ?_
  try simp only [nrm]
  refine step_on 2 rfl (by kernel_rfl) (fun _ _ _ h => h) (by rfl) hH (by intro w hS; go_simp <;> with_reducible rfl) ?_
  try simp only [nrm]
  refine step_on 3 rfl (by kernel_rfl) (fun _ _ _ h => h) (by rfl) hH (by intro w hS; go_simp <;> with_reducible rfl) ?_
  try simp only [nrm]
  refine step_on 4 rfl (by kernel_rfl) (fun _ _ _ h => h) (by rfl) hH (by intro w hS; go_simp <;> with_reducible rfl) ?_
  try simp only [nrm]
  refine step_on 5 rfl (by kernel_rfl) (fun _ _ _ h => h) (by rfl) hH (by intro w hS; go_simp <;> with_reducible rfl) ?_
  try simp only [nrm]
  refine step_one 6 rfl (by kernel_rfl) (fun K hK => ?_)
  go_simp
  refine (rsame_eq S12.out.n.t.t.rc S12.out.n.t.rc (rfl)).mono ?_
  rintro e w11 ⟨rfl, hB⟩
  have S13 := Lib.hid ((S12.out.step hB))
  clear S12 hB
  go_wp2_with fail
  refine hK.out _ _ ⟨S13.out.b.t.t.c4, S13.out.b.t.c4, S13.out.b.c4, S13.out.b.t.t.t.c4⟩ (fun h2 => ?_)
  clear hK K hH
  have hH := h2
  clear h2
  try simp only [nrm]
  refine step_on 7 rfl (by kernel_rfl) (fun _ _ _ h => h) (by rfl) hH (by intro w hS; go_simp <;> with_reducible rfl) ?_
  try simp only [nrm]
  refine step_on 8 rfl (by kernel_rfl) (fun _ _ _ h => h) (by rfl) hH (by intro w hS; go_simp <;> with_reducible rfl) ?_
  try simp only [nrm]
  refine step_on 9 rfl (by kernel_rfl) (fun _ _ _ h => h) (by rfl) hH (by intro w hS; go_simp <;> with_reducible rfl) ?_
  try simp only [nrm]
  refine step_on 10 rfl (by kernel_rfl) (fun _ _ _ h => h) (by rfl) hH (by intro w hS; go_simp <;> with_reducible rfl) ?_
  try simp only [nrm]
  refine step_on 11 rfl (by kernel_rfl) (fun _ _ _ h => h) (by rfl) hH (by intro w hS; go_simp <;> with_reducible rfl) ?_
  try simp only [nrm]
  refine step_on 12 rfl (by kernel_rfl) (fun _ _ _ h => h) (by rfl) hH (by intro w hS; go_simp <;> with_reducible rfl) ?_
  try simp only [nrm]
  refine step_on 13 rfl (by kernel_rfl) (fun _ _ _ h => h) (by rfl) hH (by intro w hS; go_simp <;> with_reducible rfl) ?_
  try simp only [nrm]
  refine step_on 14 rfl (by kernel_rfl) (fun _ _ _ h => h) (by rfl) hH (by intro w hS; go_simp <;> with_reducible rfl) ?_
  try simp only [nrm]
  refine step_one 15 rfl (by kernel_rfl) (fun K hK => ?_)
  go_simp
  refine (qof_any S13.out.n.t.t.t.rx (by omega) (by omega)).mono ?_
  rintro e w12 ⟨r4_m, r4_0, r4_n, r4_c, r4_k, r4_1, r4_l, r4_d, rfl, hX, hB⟩
  have S14 := Lib.hid (((S13.out.step hB).qx hX rfl))
  clear S13 hX hB
  go_wp2_with fail
  refine hK.out _ _ ⟨S14.out.b.t.t.c4, S14.out.b.t.c4, S14.out.b.c4, S14.out.b.t.t.t.c4⟩ (fun h2 => ?_)
  clear hK K hH
  have hH := h2
  clear h2
  try simp only [nrm]
  refine step_one 16 rfl (by kernel_rfl) (fun K hK => ?_)
  go_simp
  refine (qrat_any S14.out.n.qx (by omega) (by omega)).mono ?_
  rintro e w13 ⟨r5_m, r5_0, r5_n, r5_c, r5_k, r5_1, r5_l, r5_d, rfl, hX, hB⟩
  have S15 := Lib.hid (((S14.out.step hB).rc hX rfl))
  clear S14 hX hB
  go_wp2_with fail
  refine hK.out _ _ ⟨S15.out.b.t.t.c4, S15.out.b.t.c4, S15.out.b.c4, S15.out.b.t.t.t.c4⟩ (fun h2 => ?_)
  clear hK K hH
  have hH := h2
  clear h2
  try simp only [nrm]
  refine step_one 17 rfl (by kernel_rfl) (fun K hK => ?_)
  go_simp
  refine (rsame_eq S15.out.n.t.t.rc S15.out.n.rc (rfl)).mono ?_
  rintro e w14 ⟨rfl, hB⟩
  have S16 := Lib.hid ((S15.out.step hB))
  clear S15 hB
  go_wp2_with fail
  refine hK.out _ _ ⟨S16.out.b.t.t.c4, S16.out.b.t.c4, S16.out.b.c4, S16.out.b.t.t.t.c4⟩ (fun h2 => ?_)
  clear hK K hH
  have hH := h2
  clear h2
  try simp only [nrm]
  refine step_on 18 rfl (by kernel_rfl) (fun _ _ _ h => h) (by rfl) hH (by intro w hS; go_simp <;> with_reducible rfl) ?_
  try simp only [nrm]
  refine step_on 19 rfl (by kernel_rfl) (fun _ _ _ h => h) (by rfl) hH (by intro w hS; go_simp <;> with_reducible rfl) ?_
  try simp only [nrm]
  refine step_one 20 rfl (by kernel_rfl) (fun K hK => ?_)
  go_simp
  refine (known6_any _ (HT.out.below S16.out.h)).mono ?_
  rintro e w15 ⟨rfl, hB⟩
  have S17 := Lib.hid ((S16.out.step hB))
  clear S16 hB
  go_wp2_with fail
  refine hK.out _ _ ⟨S17.out.b.t.t.c4, S17.out.b.t.c4, S17.out.b.c4, S17.out.b.t.t.t.c4⟩ (fun h2 => ?_)
  clear hK K hH
  have hH := h2
  clear h2
  try simp only [nrm]
  refine step_on 21 rfl (by kernel_rfl) (fun _ _ _ h => h) (by rfl) hH (by intro w hS; go_simp <;> with_reducible rfl) ?_
  try simp only [nrm]
  refine step_on 22 rfl (by kernel_rfl) (fun _ _ _ h => h) (by rfl) hH (by intro w hS; go_simp <;> with_reducible rfl) ?_
  try simp only [nrm]
  refine wpAnyH_done (by kernel_rfl) ?_ _
  clear hH
  go_wp2_with fail
  go_ret
  exact ⟨rfl, S17.out.h⟩

theorem ratioParse_row {s : ByteArray} {m0 k0 : Bool} {a0 b0 : Option Addr} {n0 c0 l0 d0 : Nat} {xs0 ys0 : List Nat} {w : World} (hs0 : Sl w a0 n0 c0 xs0) (ht0 : Sl w b0 l0 d0 ys0) (ht : Tab w) : Calls Tryz.prog 5 #[.string s, .agg #[.bool m0, .slice a0 n0 c0, .bool k0, .slice b0 l0 d0]] w (RetB (.bool true) w) := by
  rcases Nat.lt_or_ge 200 s.size with hz | hz
  · exact ratioParse_long0 hs0 ht0 ht hz
  · cases hg : ((decide (8 < n0) || decide (8 < l0))) with
    | true => exact ratioParse_long1 hs0 ht0 ht hz hg
    | false =>
      simp only [Bool.or_eq_false_iff, decide_eq_false_iff_not, Nat.not_lt] at hg
      cases hok : rtOk s.data.toList with
      | false => exact ratioParse_main0 hs0 ht0 ht hg.1 hg.2 hz hok
      | true => exact ratioParse_main1 hs0 ht0 ht hg.1 hg.2 hz hok

end Go.Proofs.YteceomlbnajihaaGreatDoor
