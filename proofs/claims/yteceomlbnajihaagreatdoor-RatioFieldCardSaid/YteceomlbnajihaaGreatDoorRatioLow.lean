/-
  The contract of ratio.lowest.
-/
import Derived.Test.YteceomlbnajihaaGreatDoorRatioA
import Derived.Test.YteceomlbnajihaaGreatDoorGWD
import Derived.Test.YteceomlbnajihaaGreatDoorGWA
import Derived.Deep.Cut
import Derived.Deep.CutRange
set_option maxRecDepth 8192
namespace Go.Proofs.YteceomlbnajihaaGreatDoor
open Go.RowKit

set_option maxHeartbeats 1000000 in
set_option maxRecDepth 100000 in
theorem lowest_pos {m : Bool} {ao : Option Addr} {n cap : Nat} {k : Bool} {bo : Option Addr} {l cb : Nat} {x d : Int} {q : Rat} {j : Nat} {w : World} (hx : Rx w m ao n cap k bo l cb x d q j) (h1 : 1 ≤ j) (h2 : j ≤ 100000) (hp : 0 < dn d) :
    Calls Tryz.prog 41 #[.agg #[.bool m, .slice ao n cap, .bool k, .slice bo l cb]] w (NewR w q j) := by
  have hv := hx.val
  have hbn : Bd q.num j := by rw [← hv, qv_dn]; exact bd_num hx.bn (dn_ne d)
  have hbd : Bd (q.den : Int) j := by rw [← hv, qv_dn]; exact bd_den (dn_bd hx.bd h1) (dn_ne d)
  have hg0 : ((Int.gcd x (dn d) : Nat) : Int) ≠ 0 := by have := Int.gcd_pos_of_ne_zero_right x (dn_ne d); omega
  obtain ⟨g, hg⟩ : ∃ g, ((Int.gcd x (dn d) : Nat) : Int) = g := ⟨_, rfl⟩
  have hgx : g ∣ x := by rw [← hg]; exact Int.gcd_dvd_left _ _
  have hgd : g ∣ dn d := by rw [← hg]; exact Int.gcd_dvd_right _ _
  rw [hg] at hg0
  have HG := Lib.hid hg
  have HBN := Lib.hid hbn
  have HBD := Lib.hid hbd
  obtain ⟨s, hs⟩ : ∃ s, (dn d).sign = s := ⟨_, rfl⟩
  have e1 : decide (s < 0) = false := by rw [← hs]; simp; omega
  have H0 := Lib.hid hg0
  have HR1 := Lib.hid (Int.tmod_eq_zero_of_dvd hgx)
  have HR2 := Lib.hid (Int.tmod_eq_zero_of_dvd hgd)
  have HE1 : Hid (x.tdiv g = q.num) := by rw [Hid, ← hv, qv_dn, q_num_pos hp, ← hg]
  have HE2 : Hid ((dn d).tdiv g = (q.den : Int)) := by rw [Hid, ← hv, qv_dn, q_den_pos hp, ← hg]
  have HS := Lib.hid hs
  clear hs hv hbn hbd hg0 hg hgx hgd hp
  go_enter Tryz.func41, Tryz.ntmps41
  have S0 := Lib.hid (Sx.start (w := w) (N := [.rx m ao n cap k bo l cb x d q j]) ⟨hx, trivial⟩)
  clear hx
  have S1 := Lib.hid (S0.out.var (w.heap.size) [.bool m, .slice ao n cap, .bool k, .slice bo l cb] 26 (by simp))
  clear S0
  have S2 := Lib.hid (S1.out.var (w.heap.size + 1) [.bool false, .slice none 0 0, .bool false, .slice none 0 0] 26 (by simp))
  clear S1
  go_upto_region 1 with (fail)
  refine wp_world (fun w1 hW => ?_)
  rw [← hW] at S2
  clear hW
  obtain ⟨c_b1_0, c_b1_1, c_b1_2, c_b1_3⟩ := S2.out.b.t.c4
  go_wp2_with fail
  clear c_b1_0 c_b1_1 c_b1_2 c_b1_3
  refine (den_any S2.out.n.rx).mono ?_
  rintro e w2 ⟨r1_m, r1_0, r1_n, r1_c, rfl, hX, hB⟩
  have S3 := Lib.hid (((S2.out.step hB).nb ⟨hX, dn_bd S2.out.n.rx.bd (by omega)⟩ rfl))
  clear S2 hX hB
  go_upto_region 2 with (fail)
  have S4 := Lib.hid (S3.out.var (w2.heap.size) [.bool r1_m, .slice r1_0 r1_n r1_c] 24 (by simp))
  clear S3
  refine wp_world (fun w3 hW => ?_)
  rw [← hW] at S4
  clear hW
  obtain ⟨c_b1_0, c_b1_1, c_b1_2, c_b1_3⟩ := S4.out.b.t.t.c4
  obtain ⟨c_b3_0, c_b3_1⟩ := S4.out.b.c2
  go_wp2_with fail
  clear c_b1_0 c_b1_1 c_b1_2 c_b1_3 c_b3_0 c_b3_1
  refine (wgcd_any S4.out.n.t.rx.num S4.out.n.nb.nx).mono ?_
  rintro e w4 ⟨r2_m, r2_0, r2_n, r2_c, rfl, hX, hB⟩
  rw [HG.out] at hX
  have S5 := Lib.hid (((S4.out.step hB).cb (hX.cb (HG.out ▸ gcd_bd S4.out.n.nb.bd (dn_ne d)) (by omega)) rfl))
  clear S4 hX hB
  go_upto_region 3 with (fail)
  have S6 := Lib.hid (S5.out.var (w4.heap.size) [.bool r2_m, .slice r2_0 r2_n r2_c] 24 (by simp))
  clear S5
  refine wp_world (fun w5 hW => ?_)
  rw [← hW] at S6
  clear hW
  obtain ⟨c_b3_0, c_b3_1⟩ := S6.out.b.t.c2
  go_wp2_with fail
  clear c_b3_0 c_b3_1
  refine (wsign_is (s) S6.out.n.t.nb.nx (HS.out)).mono ?_
  rintro e w6 ⟨rfl, hB⟩
  have S7 := Lib.hid ((S6.out.step hB))
  clear S6 hB
  obtain ⟨c_b1_0, c_b1_1, c_b1_2, c_b1_3⟩ := S7.out.b.t.t.t.c4
  obtain ⟨c_b4_0, c_b4_1⟩ := S7.out.b.c2
  go_wp2_with fail
  clear c_b1_0 c_b1_1 c_b1_2 c_b1_3 c_b4_0 c_b4_1
  refine (wexact_any S7.out.n.t.t.rx.num S7.out.n.cb.cx.nx (H0.out) (HR1.out)).mono ?_
  rintro e w7 ⟨r3_m, r3_0, r3_n, r3_c, rfl, hX, hB⟩
  rw [HE1.out] at hX
  have S8 := Lib.hid (((S7.out.step hB).cb (hX.cb (HBN.out) (by omega)) rfl))
  clear S7 hX hB
  obtain ⟨c_b1_0, c_b1_1, c_b1_2, c_b1_3⟩ := S8.out.b.t.t.t.c4
  obtain ⟨f_b1_0, f_b1_1, f_b1_2, f_b1_3⟩ := S8.out.b.t.t.t.f4
  go_upto_region 6 with (fail)
  clear c_b1_0 c_b1_1 c_b1_2 c_b1_3 f_b1_0 f_b1_1 f_b1_2 f_b1_3
  have S9 : Hid (Sx w _ [⟨(w4.heap.size), [.bool r2_m, .slice r2_0 r2_n r2_c]⟩, ⟨(w2.heap.size), [.bool r1_m, .slice r1_0 r1_n r1_c]⟩, ⟨(w.heap.size + 1), [.bool false, .slice none 0 0, .bool false, .slice none 0 0]⟩, ⟨(w.heap.size), [.bool r3_m, .slice r3_0 r3_n r3_c, .bool k, .slice bo l cb]⟩] _) := Lib.hid (Sx.set [⟨(w4.heap.size), [.bool r2_m, .slice r2_0 r2_n r2_c]⟩, ⟨(w2.heap.size), [.bool r1_m, .slice r1_0 r1_n r1_c]⟩, ⟨(w.heap.size + 1), [.bool false, .slice none 0 0, .bool false, .slice none 0 0]⟩] [] (Sx.set [⟨(w4.heap.size), [.bool r2_m, .slice r2_0 r2_n r2_c]⟩, ⟨(w2.heap.size), [.bool r1_m, .slice r1_0 r1_n r1_c]⟩, ⟨(w.heap.size + 1), [.bool false, .slice none 0 0, .bool false, .slice none 0 0]⟩] [] S8.out 0 (.bool r3_m)) 1 (.slice r3_0 r3_n r3_c))
  clear S8
  refine wp_world (fun w8 hW => ?_)
  rw [← hW] at S9
  clear hW
  obtain ⟨c_b3_0, c_b3_1⟩ := S9.out.b.t.c2
  obtain ⟨c_b4_0, c_b4_1⟩ := S9.out.b.c2
  go_wp2_with fail
  clear c_b3_0 c_b3_1 c_b4_0 c_b4_1
  refine (wexact_any S9.out.n.t.t.nb.nx S9.out.n.t.cb.cx.nx (H0.out) (HR2.out)).mono ?_
  rintro e w9 ⟨r4_m, r4_0, r4_n, r4_c, rfl, hX, hB⟩
  rw [HE2.out] at hX
  have S10 := Lib.hid (((S9.out.step hB).cb (hX.cb (HBD.out) (by omega)) rfl))
  clear S9 hX hB
  obtain ⟨c_b1_0, c_b1_1, c_b1_2, c_b1_3⟩ := S10.out.b.t.t.t.c4
  obtain ⟨f_b1_0, f_b1_1, f_b1_2, f_b1_3⟩ := S10.out.b.t.t.t.f4
  go_upto_region 7 with (fail)
  clear c_b1_0 c_b1_1 c_b1_2 c_b1_3 f_b1_0 f_b1_1 f_b1_2 f_b1_3
  have S11 : Hid (Sx w _ [⟨(w4.heap.size), [.bool r2_m, .slice r2_0 r2_n r2_c]⟩, ⟨(w2.heap.size), [.bool r1_m, .slice r1_0 r1_n r1_c]⟩, ⟨(w.heap.size + 1), [.bool false, .slice none 0 0, .bool false, .slice none 0 0]⟩, ⟨(w.heap.size), [.bool r3_m, .slice r3_0 r3_n r3_c, .bool r4_m, .slice r4_0 r4_n r4_c]⟩] _) := Lib.hid (Sx.set [⟨(w4.heap.size), [.bool r2_m, .slice r2_0 r2_n r2_c]⟩, ⟨(w2.heap.size), [.bool r1_m, .slice r1_0 r1_n r1_c]⟩, ⟨(w.heap.size + 1), [.bool false, .slice none 0 0, .bool false, .slice none 0 0]⟩] [] (Sx.set [⟨(w4.heap.size), [.bool r2_m, .slice r2_0 r2_n r2_c]⟩, ⟨(w2.heap.size), [.bool r1_m, .slice r1_0 r1_n r1_c]⟩, ⟨(w.heap.size + 1), [.bool false, .slice none 0 0, .bool false, .slice none 0 0]⟩] [] S10.out 2 (.bool r4_m)) 3 (.slice r4_0 r4_n r4_c))
  clear S10
  refine wp_world (fun w10 hW => ?_)
  rw [← hW] at S11
  clear hW
  obtain ⟨c_b1_0, c_b1_1, c_b1_2, c_b1_3⟩ := S11.out.b.t.t.t.c4
  obtain ⟨c_b2_0, c_b2_1, c_b2_2, c_b2_3⟩ := S11.out.b.t.t.c4
  obtain ⟨f_b2_0, f_b2_1, f_b2_2, f_b2_3⟩ := S11.out.b.t.t.f4
  go_wp2_with fail
  have S12 : Hid (Sx w _ [⟨(w4.heap.size), [.bool r2_m, .slice r2_0 r2_n r2_c]⟩, ⟨(w2.heap.size), [.bool r1_m, .slice r1_0 r1_n r1_c]⟩, ⟨(w.heap.size + 1), [.bool r3_m, .slice r3_0 r3_n r3_c, .bool r4_m, .slice r4_0 r4_n r4_c]⟩, ⟨(w.heap.size), [.bool r3_m, .slice r3_0 r3_n r3_c, .bool r4_m, .slice r4_0 r4_n r4_c]⟩] _) := Lib.hid (Sx.set [⟨(w4.heap.size), [.bool r2_m, .slice r2_0 r2_n r2_c]⟩, ⟨(w2.heap.size), [.bool r1_m, .slice r1_0 r1_n r1_c]⟩] [⟨(w.heap.size), [.bool r3_m, .slice r3_0 r3_n r3_c, .bool r4_m, .slice r4_0 r4_n r4_c]⟩] (Sx.set [⟨(w4.heap.size), [.bool r2_m, .slice r2_0 r2_n r2_c]⟩, ⟨(w2.heap.size), [.bool r1_m, .slice r1_0 r1_n r1_c]⟩] [⟨(w.heap.size), [.bool r3_m, .slice r3_0 r3_n r3_c, .bool r4_m, .slice r4_0 r4_n r4_c]⟩] (Sx.set [⟨(w4.heap.size), [.bool r2_m, .slice r2_0 r2_n r2_c]⟩, ⟨(w2.heap.size), [.bool r1_m, .slice r1_0 r1_n r1_c]⟩] [⟨(w.heap.size), [.bool r3_m, .slice r3_0 r3_n r3_c, .bool r4_m, .slice r4_0 r4_n r4_c]⟩] (Sx.set [⟨(w4.heap.size), [.bool r2_m, .slice r2_0 r2_n r2_c]⟩, ⟨(w2.heap.size), [.bool r1_m, .slice r1_0 r1_n r1_c]⟩] [⟨(w.heap.size), [.bool r3_m, .slice r3_0 r3_n r3_c, .bool r4_m, .slice r4_0 r4_n r4_c]⟩] S11.out 0 (.bool r3_m)) 1 (.slice r3_0 r3_n r3_c)) 2 (.bool r4_m)) 3 (.slice r4_0 r4_n r4_c))
  clear S11
  refine bodyPost_ret (v := .agg #[.bool r3_m, .slice r3_0 r3_n r3_c, .bool r4_m, .slice r4_0 r4_n r4_c]) (by simp [results, Tryz.results41, go_sem, c_b2_0, c_b2_1, c_b2_2, c_b2_3]) rfl ?_
  exact ⟨_, _, _, _, _, _, _, _, rfl, ⟨S12.out.n.t.cb.cx, S12.out.n.cb.cx, S12.out.n.t.cb.bd, S12.out.n.cb.bd⟩, S12.out.h⟩

set_option maxHeartbeats 1000000 in
set_option maxRecDepth 100000 in
theorem lowest_neg {m : Bool} {ao : Option Addr} {n cap : Nat} {k : Bool} {bo : Option Addr} {l cb : Nat} {x d : Int} {q : Rat} {j : Nat} {w : World} (hx : Rx w m ao n cap k bo l cb x d q j) (h1 : 1 ≤ j) (h2 : j ≤ 100000) (hp : dn d < 0) :
    Calls Tryz.prog 41 #[.agg #[.bool m, .slice ao n cap, .bool k, .slice bo l cb]] w (NewR w q j) := by
  have hv := hx.val
  have hbn : Bd q.num j := by rw [← hv, qv_dn]; exact bd_num hx.bn (dn_ne d)
  have hbd : Bd (q.den : Int) j := by rw [← hv, qv_dn]; exact bd_den (dn_bd hx.bd h1) (dn_ne d)
  have hg0 : ((Int.gcd x (dn d) : Nat) : Int) ≠ 0 := by have := Int.gcd_pos_of_ne_zero_right x (dn_ne d); omega
  obtain ⟨g, hg⟩ : ∃ g, ((Int.gcd x (dn d) : Nat) : Int) = g := ⟨_, rfl⟩
  have hgx : g ∣ x := by rw [← hg]; exact Int.gcd_dvd_left _ _
  have hgd : g ∣ dn d := by rw [← hg]; exact Int.gcd_dvd_right _ _
  rw [hg] at hg0
  have HG := Lib.hid hg
  have HBN := Lib.hid hbn
  have HBD := Lib.hid hbd
  obtain ⟨s, hs⟩ : ∃ s, (dn d).sign = s := ⟨_, rfl⟩
  have e1 : decide (s < 0) = true := by rw [← hs]; simp; omega
  have H0 : Hid (-g ≠ 0) := by show -g ≠ 0; omega
  have HR1 : Hid (x.tmod (-g) = 0) := by rw [Hid, Int.tmod_neg]; exact Int.tmod_eq_zero_of_dvd hgx
  have HR2 : Hid ((dn d).tmod (-g) = 0) := by rw [Hid, Int.tmod_neg]; exact Int.tmod_eq_zero_of_dvd hgd
  have HE1 : Hid (x.tdiv (-g) = q.num) := by rw [Hid, ← hv, qv_dn, q_num_neg hp, ← hg, Int.neg_gcd, Int.gcd_neg, Int.tdiv_neg, Int.neg_tdiv]
  have HE2 : Hid ((dn d).tdiv (-g) = (q.den : Int)) := by rw [Hid, ← hv, qv_dn, q_den_neg hp, ← hg, Int.neg_gcd, Int.gcd_neg, Int.tdiv_neg, Int.neg_tdiv]
  have HS := Lib.hid hs
  clear hs hv hbn hbd hg0 hg hgx hgd hp
  go_enter Tryz.func41, Tryz.ntmps41
  have S0 := Lib.hid (Sx.start (w := w) (N := [.rx m ao n cap k bo l cb x d q j]) ⟨hx, trivial⟩)
  clear hx
  have S1 := Lib.hid (S0.out.var (w.heap.size) [.bool m, .slice ao n cap, .bool k, .slice bo l cb] 26 (by simp))
  clear S0
  have S2 := Lib.hid (S1.out.var (w.heap.size + 1) [.bool false, .slice none 0 0, .bool false, .slice none 0 0] 26 (by simp))
  clear S1
  go_upto_region 1 with (fail)
  refine wp_world (fun w1 hW => ?_)
  rw [← hW] at S2
  clear hW
  obtain ⟨c_b1_0, c_b1_1, c_b1_2, c_b1_3⟩ := S2.out.b.t.c4
  go_wp2_with fail
  clear c_b1_0 c_b1_1 c_b1_2 c_b1_3
  refine (den_any S2.out.n.rx).mono ?_
  rintro e w2 ⟨r1_m, r1_0, r1_n, r1_c, rfl, hX, hB⟩
  have S3 := Lib.hid (((S2.out.step hB).nb ⟨hX, dn_bd S2.out.n.rx.bd (by omega)⟩ rfl))
  clear S2 hX hB
  go_upto_region 2 with (fail)
  have S4 := Lib.hid (S3.out.var (w2.heap.size) [.bool r1_m, .slice r1_0 r1_n r1_c] 24 (by simp))
  clear S3
  refine wp_world (fun w3 hW => ?_)
  rw [← hW] at S4
  clear hW
  obtain ⟨c_b1_0, c_b1_1, c_b1_2, c_b1_3⟩ := S4.out.b.t.t.c4
  obtain ⟨c_b3_0, c_b3_1⟩ := S4.out.b.c2
  go_wp2_with fail
  clear c_b1_0 c_b1_1 c_b1_2 c_b1_3 c_b3_0 c_b3_1
  refine (wgcd_any S4.out.n.t.rx.num S4.out.n.nb.nx).mono ?_
  rintro e w4 ⟨r2_m, r2_0, r2_n, r2_c, rfl, hX, hB⟩
  rw [HG.out] at hX
  have S5 := Lib.hid (((S4.out.step hB).cb (hX.cb (HG.out ▸ gcd_bd S4.out.n.nb.bd (dn_ne d)) (by omega)) rfl))
  clear S4 hX hB
  go_upto_region 3 with (fail)
  have S6 := Lib.hid (S5.out.var (w4.heap.size) [.bool r2_m, .slice r2_0 r2_n r2_c] 24 (by simp))
  clear S5
  refine wp_world (fun w5 hW => ?_)
  rw [← hW] at S6
  clear hW
  obtain ⟨c_b3_0, c_b3_1⟩ := S6.out.b.t.c2
  go_wp2_with fail
  clear c_b3_0 c_b3_1
  refine (wsign_is (s) S6.out.n.t.nb.nx (HS.out)).mono ?_
  rintro e w6 ⟨rfl, hB⟩
  have S7 := Lib.hid ((S6.out.step hB))
  clear S6 hB
  obtain ⟨c_b4_0, c_b4_1⟩ := S7.out.b.c2
  go_wp2_with fail
  clear c_b4_0 c_b4_1
  refine (wneg_any S7.out.n.cb.cx.nx).mono ?_
  rintro e w7 ⟨r3_m, r3_0, r3_n, r3_c, rfl, hX, hB⟩
  have S8 := Lib.hid (((S7.out.step hB).cb (hX.cb (S7.out.n.cb.bd.neg) (by omega)) rfl))
  clear S7 hX hB
  obtain ⟨c_b4_0, c_b4_1⟩ := S8.out.b.c2
  obtain ⟨f_b4_0, f_b4_1⟩ := S8.out.b.f2
  go_upto_region 5 with (fail)
  clear c_b4_0 c_b4_1 f_b4_0 f_b4_1
  have S9 : Hid (Sx w _ [⟨(w4.heap.size), [.bool r3_m, .slice r3_0 r3_n r3_c]⟩, ⟨(w2.heap.size), [.bool r1_m, .slice r1_0 r1_n r1_c]⟩, ⟨(w.heap.size + 1), [.bool false, .slice none 0 0, .bool false, .slice none 0 0]⟩, ⟨(w.heap.size), [.bool m, .slice ao n cap, .bool k, .slice bo l cb]⟩] _) := Lib.hid (Sx.set [] [⟨(w2.heap.size), [.bool r1_m, .slice r1_0 r1_n r1_c]⟩, ⟨(w.heap.size + 1), [.bool false, .slice none 0 0, .bool false, .slice none 0 0]⟩, ⟨(w.heap.size), [.bool m, .slice ao n cap, .bool k, .slice bo l cb]⟩] (Sx.set [] [⟨(w2.heap.size), [.bool r1_m, .slice r1_0 r1_n r1_c]⟩, ⟨(w.heap.size + 1), [.bool false, .slice none 0 0, .bool false, .slice none 0 0]⟩, ⟨(w.heap.size), [.bool m, .slice ao n cap, .bool k, .slice bo l cb]⟩] S8.out 0 (.bool r3_m)) 1 (.slice r3_0 r3_n r3_c))
  clear S8
  refine wp_world (fun w8 hW => ?_)
  rw [← hW] at S9
  clear hW
  obtain ⟨c_b1_0, c_b1_1, c_b1_2, c_b1_3⟩ := S9.out.b.t.t.t.c4
  obtain ⟨c_b4_0, c_b4_1⟩ := S9.out.b.c2
  go_wp2_with fail
  clear c_b1_0 c_b1_1 c_b1_2 c_b1_3 c_b4_0 c_b4_1
  refine (wexact_any S9.out.n.t.t.t.rx.num S9.out.n.cb.cx.nx (H0.out) (HR1.out)).mono ?_
  rintro e w9 ⟨r4_m, r4_0, r4_n, r4_c, rfl, hX, hB⟩
  rw [HE1.out] at hX
  have S10 := Lib.hid (((S9.out.step hB).cb (hX.cb (HBN.out) (by omega)) rfl))
  clear S9 hX hB
  obtain ⟨c_b1_0, c_b1_1, c_b1_2, c_b1_3⟩ := S10.out.b.t.t.t.c4
  obtain ⟨f_b1_0, f_b1_1, f_b1_2, f_b1_3⟩ := S10.out.b.t.t.t.f4
  go_upto_region 6 with (fail)
  clear c_b1_0 c_b1_1 c_b1_2 c_b1_3 f_b1_0 f_b1_1 f_b1_2 f_b1_3
  have S11 : Hid (Sx w _ [⟨(w4.heap.size), [.bool r3_m, .slice r3_0 r3_n r3_c]⟩, ⟨(w2.heap.size), [.bool r1_m, .slice r1_0 r1_n r1_c]⟩, ⟨(w.heap.size + 1), [.bool false, .slice none 0 0, .bool false, .slice none 0 0]⟩, ⟨(w.heap.size), [.bool r4_m, .slice r4_0 r4_n r4_c, .bool k, .slice bo l cb]⟩] _) := Lib.hid (Sx.set [⟨(w4.heap.size), [.bool r3_m, .slice r3_0 r3_n r3_c]⟩, ⟨(w2.heap.size), [.bool r1_m, .slice r1_0 r1_n r1_c]⟩, ⟨(w.heap.size + 1), [.bool false, .slice none 0 0, .bool false, .slice none 0 0]⟩] [] (Sx.set [⟨(w4.heap.size), [.bool r3_m, .slice r3_0 r3_n r3_c]⟩, ⟨(w2.heap.size), [.bool r1_m, .slice r1_0 r1_n r1_c]⟩, ⟨(w.heap.size + 1), [.bool false, .slice none 0 0, .bool false, .slice none 0 0]⟩] [] S10.out 0 (.bool r4_m)) 1 (.slice r4_0 r4_n r4_c))
  clear S10
  refine wp_world (fun w10 hW => ?_)
  rw [← hW] at S11
  clear hW
  obtain ⟨c_b3_0, c_b3_1⟩ := S11.out.b.t.c2
  obtain ⟨c_b4_0, c_b4_1⟩ := S11.out.b.c2
  go_wp2_with fail
  clear c_b3_0 c_b3_1 c_b4_0 c_b4_1
  refine (wexact_any S11.out.n.t.t.t.nb.nx S11.out.n.t.cb.cx.nx (H0.out) (HR2.out)).mono ?_
  rintro e w11 ⟨r5_m, r5_0, r5_n, r5_c, rfl, hX, hB⟩
  rw [HE2.out] at hX
  have S12 := Lib.hid (((S11.out.step hB).cb (hX.cb (HBD.out) (by omega)) rfl))
  clear S11 hX hB
  obtain ⟨c_b1_0, c_b1_1, c_b1_2, c_b1_3⟩ := S12.out.b.t.t.t.c4
  obtain ⟨f_b1_0, f_b1_1, f_b1_2, f_b1_3⟩ := S12.out.b.t.t.t.f4
  go_upto_region 7 with (fail)
  clear c_b1_0 c_b1_1 c_b1_2 c_b1_3 f_b1_0 f_b1_1 f_b1_2 f_b1_3
  have S13 : Hid (Sx w _ [⟨(w4.heap.size), [.bool r3_m, .slice r3_0 r3_n r3_c]⟩, ⟨(w2.heap.size), [.bool r1_m, .slice r1_0 r1_n r1_c]⟩, ⟨(w.heap.size + 1), [.bool false, .slice none 0 0, .bool false, .slice none 0 0]⟩, ⟨(w.heap.size), [.bool r4_m, .slice r4_0 r4_n r4_c, .bool r5_m, .slice r5_0 r5_n r5_c]⟩] _) := Lib.hid (Sx.set [⟨(w4.heap.size), [.bool r3_m, .slice r3_0 r3_n r3_c]⟩, ⟨(w2.heap.size), [.bool r1_m, .slice r1_0 r1_n r1_c]⟩, ⟨(w.heap.size + 1), [.bool false, .slice none 0 0, .bool false, .slice none 0 0]⟩] [] (Sx.set [⟨(w4.heap.size), [.bool r3_m, .slice r3_0 r3_n r3_c]⟩, ⟨(w2.heap.size), [.bool r1_m, .slice r1_0 r1_n r1_c]⟩, ⟨(w.heap.size + 1), [.bool false, .slice none 0 0, .bool false, .slice none 0 0]⟩] [] S12.out 2 (.bool r5_m)) 3 (.slice r5_0 r5_n r5_c))
  clear S12
  refine wp_world (fun w12 hW => ?_)
  rw [← hW] at S13
  clear hW
  obtain ⟨c_b1_0, c_b1_1, c_b1_2, c_b1_3⟩ := S13.out.b.t.t.t.c4
  obtain ⟨c_b2_0, c_b2_1, c_b2_2, c_b2_3⟩ := S13.out.b.t.t.c4
  obtain ⟨f_b2_0, f_b2_1, f_b2_2, f_b2_3⟩ := S13.out.b.t.t.f4
  go_wp2_with fail
  have S14 : Hid (Sx w _ [⟨(w4.heap.size), [.bool r3_m, .slice r3_0 r3_n r3_c]⟩, ⟨(w2.heap.size), [.bool r1_m, .slice r1_0 r1_n r1_c]⟩, ⟨(w.heap.size + 1), [.bool r4_m, .slice r4_0 r4_n r4_c, .bool r5_m, .slice r5_0 r5_n r5_c]⟩, ⟨(w.heap.size), [.bool r4_m, .slice r4_0 r4_n r4_c, .bool r5_m, .slice r5_0 r5_n r5_c]⟩] _) := Lib.hid (Sx.set [⟨(w4.heap.size), [.bool r3_m, .slice r3_0 r3_n r3_c]⟩, ⟨(w2.heap.size), [.bool r1_m, .slice r1_0 r1_n r1_c]⟩] [⟨(w.heap.size), [.bool r4_m, .slice r4_0 r4_n r4_c, .bool r5_m, .slice r5_0 r5_n r5_c]⟩] (Sx.set [⟨(w4.heap.size), [.bool r3_m, .slice r3_0 r3_n r3_c]⟩, ⟨(w2.heap.size), [.bool r1_m, .slice r1_0 r1_n r1_c]⟩] [⟨(w.heap.size), [.bool r4_m, .slice r4_0 r4_n r4_c, .bool r5_m, .slice r5_0 r5_n r5_c]⟩] (Sx.set [⟨(w4.heap.size), [.bool r3_m, .slice r3_0 r3_n r3_c]⟩, ⟨(w2.heap.size), [.bool r1_m, .slice r1_0 r1_n r1_c]⟩] [⟨(w.heap.size), [.bool r4_m, .slice r4_0 r4_n r4_c, .bool r5_m, .slice r5_0 r5_n r5_c]⟩] (Sx.set [⟨(w4.heap.size), [.bool r3_m, .slice r3_0 r3_n r3_c]⟩, ⟨(w2.heap.size), [.bool r1_m, .slice r1_0 r1_n r1_c]⟩] [⟨(w.heap.size), [.bool r4_m, .slice r4_0 r4_n r4_c, .bool r5_m, .slice r5_0 r5_n r5_c]⟩] S13.out 0 (.bool r4_m)) 1 (.slice r4_0 r4_n r4_c)) 2 (.bool r5_m)) 3 (.slice r5_0 r5_n r5_c))
  clear S13
  refine bodyPost_ret (v := .agg #[.bool r4_m, .slice r4_0 r4_n r4_c, .bool r5_m, .slice r5_0 r5_n r5_c]) (by simp [results, Tryz.results41, go_sem, c_b2_0, c_b2_1, c_b2_2, c_b2_3]) rfl ?_
  exact ⟨_, _, _, _, _, _, _, _, rfl, ⟨S14.out.n.t.cb.cx, S14.out.n.cb.cx, S14.out.n.t.cb.bd, S14.out.n.cb.bd⟩, S14.out.h⟩

theorem lowest_any {m : Bool} {ao : Option Addr} {n cap : Nat} {k : Bool} {bo : Option Addr} {l cb : Nat} {x d : Int} {q : Rat} {j : Nat} {w : World} (hx : Rx w m ao n cap k bo l cb x d q j) (h1 : 1 ≤ j) (h2 : j ≤ 100000) :
    Calls Tryz.prog 41 #[.agg #[.bool m, .slice ao n cap, .bool k, .slice bo l cb]] w (NewR w q j) := by
  by_cases h : 0 < dn d
  · exact lowest_pos hx h1 h2 h
  · exact lowest_neg hx h1 h2 (by have := dn_ne d; omega)

end Go.Proofs.YteceomlbnajihaaGreatDoor
