/-
  The law PolyLaws, two or three of the lists being polynomials.
-/
import Derived.Test.YtmbgljjfmbhelaaGreatPolyLawsA
import Derived.Test.YtmbgljjfmbhelaaGreatGPp
set_option maxRecDepth 8192
namespace Go.Proofs.YtmbgljjfmbhelaaGreat
open Lib (hid)
open Go.RowKit
set_option maxHeartbeats 16000000 in
set_option maxRecDepth 100000 in
theorem polyLaws_bad3 {ao bo ro : Option Addr} {n cap m cb k cr : Nat} {p q : List Term} {rs : List Raw} {w : World} (hp : Pr w ao n cap (p.map rawC)) (hq : Pr w bo m cb (q.map rawC)) (hr : Pr w ro k cr rs)
    (g0 : greatR (p.map rawC) 8 = false) (g1 : greatR (q.map rawC) 8 = false) (g2 : greatR rs 8 = false) (hlp : ∀ t ∈ (p.map rawC), t.1.2.length ≤ 20) (hlq : ∀ t ∈ (q.map rawC), t.1.2.length ≤ 20) (hlr : ∀ t ∈ rs, t.1.2.length ≤ 20) (hn : n ≤ 8) (hm : m ≤ 8) (x y z : Int) (hx : limR (p.map rawC) = x) (hy : limR (q.map rawC) = y) (hz : limR rs = z) (bx : 0 ≤ x ∧ x ≤ 20) (by_ : 0 ≤ y ∧ y ≤ 20) (bz : 0 ≤ z ∧ z ≤ 20) (hg : decide (24 < x + y + z) = false) (hfp : fall p) (hfq : fall q) (hpn : p.length = n) (hqm : q.length = m) (h3 : mayR rs = false) :
    Calls Tryz.prog 7 #[.slice ao n cap, .slice bo m cb, .slice ro k cr] w (RetB (.bool true) w) := by
  have P_0 := hid hp
  have Q_0 := hid hq
  have R_0 := hid hr
  have HB_0 := hid (Below.refl w.heap.size w)
  clear hp hq hr
  go_enter Tryz.func7, Tryz.ntmps7
  go_wp2_with fail
  refine (great_any8 false 8 P_0.out g0).mono ?_
  rintro e w1 ⟨rfl, hB⟩
  have P_1 := hid (P_0.out.below hB)
  have Q_1 := hid (Q_0.out.below hB)
  have R_1 := hid (R_0.out.below hB)
  have HB_1 := hid (Below.steps HB_0.out hB)
  clear hB  HB_0 P_0 Q_0 R_0
  go_wp2_with fail
  refine (great_any8 false 8 Q_1.out g1).mono ?_
  rintro e w2 ⟨rfl, hB⟩
  have P_2 := hid (P_1.out.below hB)
  have Q_2 := hid (Q_1.out.below hB)
  have R_2 := hid (R_1.out.below hB)
  have HB_2 := hid (Below.steps HB_1.out hB)
  clear hB  HB_1 P_1 Q_1 R_1
  go_wp2_with fail
  refine (great_any8 false 8 R_2.out g2).mono ?_
  rintro e w3 ⟨rfl, hB⟩
  have P_3 := hid (P_2.out.below hB)
  have Q_3 := hid (Q_2.out.below hB)
  have R_3 := hid (R_2.out.below hB)
  have HB_3 := hid (Below.steps HB_2.out hB)
  clear hB  HB_2 P_2 Q_2 R_2
  have hl1 : ∀ t ∈ (p.map rawC), t.1.2.length ≤ 1000 := fun t ht => Nat.le_trans (hlp t ht) (by omega)
  have hl2 : ∀ t ∈ (q.map rawC), t.1.2.length ≤ 1000 := fun t ht => Nat.le_trans (hlq t ht) (by omega)
  have hl3 : ∀ t ∈ rs, t.1.2.length ≤ 1000 := fun t ht => Nat.le_trans (hlr t ht) (by omega)
  go_wp2_with fail
  refine (plimbs_any x P_3.out hl1 hx).mono ?_
  rintro e w4 ⟨rfl, hB⟩
  have P_4 := hid (P_3.out.below hB)
  have Q_4 := hid (Q_3.out.below hB)
  have R_4 := hid (R_3.out.below hB)
  have HB_4 := hid (Below.steps HB_3.out hB)
  clear hB  HB_3 P_3 Q_3 R_3
  go_wp2_with fail
  refine (plimbs_any y Q_4.out hl2 hy).mono ?_
  rintro e w5 ⟨rfl, hB⟩
  have P_5 := hid (P_4.out.below hB)
  have Q_5 := hid (Q_4.out.below hB)
  have R_5 := hid (R_4.out.below hB)
  have HB_5 := hid (Below.steps HB_4.out hB)
  clear hB  HB_4 P_4 Q_4 R_4
  go_wp2_with fail
  refine (plimbs_any z R_5.out hl3 hz).mono ?_
  rintro e w6 ⟨rfl, hB⟩
  have P_6 := hid (P_5.out.below hB)
  have Q_6 := hid (Q_5.out.below hB)
  have R_6 := hid (R_5.out.below hB)
  have HB_6 := hid (Below.steps HB_5.out hB)
  clear hB  HB_5 P_5 Q_5 R_5
  have hnm : n * m ≤ 64 := Nat.mul_le_mul hn hm
  have hmn : m * n ≤ 64 := Nat.mul_le_mul hm hn
  have hpq : p.length * q.length ≤ 64 := by rw [hpn, hqm]; exact hnm
  have hqp : q.length * p.length ≤ 64 := by rw [hpn, hqm]; exact hmn
  have HP := hid (Pr.pc (p := p) P_6.out hlp)
  have HQ := hid (Pr.pc (p := q) Q_6.out hlq)
  have PC_6 := HP
  have QC_6 := HQ
  clear HP HQ
  go_wp2_with fail
  refine (padd_any PC_6.out QC_6.out hfp hfq (by omega) (by omega)).mono ?_
  rintro e w7 ⟨vao, van, vac, rfl, hX, hB⟩
  have ea := hX.len
  have la := addT_length p q
  have P_7 := hid (P_6.out.below hB)
  have Q_7 := hid (Q_6.out.below hB)
  have R_7 := hid (R_6.out.below hB)
  have PC_7 := hid (PC_6.out.below hB)
  have QC_7 := hid (QC_6.out.below hB)
  have HB_7 := hid (Below.steps HB_6.out hB)
  have A_7 := hid (hX)
  clear hB hX HB_6 P_6 Q_6 R_6 PC_6 QC_6
  go_wp2_with fail
  refine (padd_any QC_7.out PC_7.out hfq hfp (by omega) (by omega)).mono ?_
  rintro e w8 ⟨vbo, vbn, vbc, rfl, hX, hB⟩
  have eb := hX.len
  rw [← add_comm_T hfp hfq] at hX eb
  have P_8 := hid (P_7.out.below hB)
  have Q_8 := hid (Q_7.out.below hB)
  have R_8 := hid (R_7.out.below hB)
  have PC_8 := hid (PC_7.out.below hB)
  have QC_8 := hid (QC_7.out.below hB)
  have A_8 := hid (A_7.out.below hB)
  have HB_8 := hid (Below.steps HB_7.out hB)
  have B_8 := hid (hX)
  clear hB hX HB_7 P_7 Q_7 R_7 PC_7 QC_7 A_7
  go_wp2_with fail
  refine (ptimes_try PC_8.out QC_8.out hfp hfq (by omega) (by omega) (by omega) (by omega)).mono ?_
  rintro e w9 ⟨vco, vcn, vcc, rfl, hX, hB⟩
  have ec := hX.len
  have lc := tryT_length p q
  have P_9 := hid (P_8.out.below hB)
  have Q_9 := hid (Q_8.out.below hB)
  have R_9 := hid (R_8.out.below hB)
  have PC_9 := hid (PC_8.out.below hB)
  have QC_9 := hid (QC_8.out.below hB)
  have A_9 := hid (A_8.out.below hB)
  have B_9 := hid (B_8.out.below hB)
  have HB_9 := hid (Below.steps HB_8.out hB)
  have C_9 := hid (hX)
  clear hB hX HB_8 P_8 Q_8 R_8 PC_8 QC_8 A_8 B_8
  go_wp2_with fail
  refine (ptimes_try QC_9.out PC_9.out hfq hfp (by omega) (by omega) (by omega) (by omega)).mono ?_
  rintro e w10 ⟨vdo, vdn, vdc, rfl, hX, hB⟩
  have ed := hX.len
  rw [← try_comm hfp hfq] at hX ed
  rw [← err_comm hfp hfq]
  have P_10 := hid (P_9.out.below hB)
  have Q_10 := hid (Q_9.out.below hB)
  have R_10 := hid (R_9.out.below hB)
  have PC_10 := hid (PC_9.out.below hB)
  have QC_10 := hid (QC_9.out.below hB)
  have A_10 := hid (A_9.out.below hB)
  have B_10 := hid (B_9.out.below hB)
  have C_10 := hid (C_9.out.below hB)
  have HB_10 := hid (Below.steps HB_9.out hB)
  have D_10 := hid (hX)
  clear hB hX HB_9 P_9 Q_9 R_9 PC_9 QC_9 A_9 B_9 C_9
  obtain ⟨g, hge⟩ : ∃ g, errT p q = g := ⟨_, rfl⟩
  rw [hge]
  have HG := hid hge
  clear hge
  have hgg : (g == g) = true := beq_self_eq_true g
  have hgn : (g != g) = false := by simp
  go_wp2_with fail
  refine (psame_any true A_10.out.raw B_10.out.raw (decide_eq_true rfl)).mono ?_
  rintro e w11 ⟨rfl, hB⟩
  have P_11 := hid (P_10.out.below hB)
  have Q_11 := hid (Q_10.out.below hB)
  have R_11 := hid (R_10.out.below hB)
  have PC_11 := hid (PC_10.out.below hB)
  have QC_11 := hid (QC_10.out.below hB)
  have A_11 := hid (A_10.out.below hB)
  have B_11 := hid (B_10.out.below hB)
  have C_11 := hid (C_10.out.below hB)
  have D_11 := hid (D_10.out.below hB)
  have HB_11 := hid (Below.steps HB_10.out hB)
  clear hB  HB_10 P_10 Q_10 R_10 PC_10 QC_10 A_10 B_10 C_10 D_10
  go_wp2_with fail
  refine (psame_any true C_11.out.raw D_11.out.raw (decide_eq_true rfl)).mono ?_
  rintro e w12 ⟨rfl, hB⟩
  have P_12 := hid (P_11.out.below hB)
  have Q_12 := hid (Q_11.out.below hB)
  have R_12 := hid (R_11.out.below hB)
  have PC_12 := hid (PC_11.out.below hB)
  have QC_12 := hid (QC_11.out.below hB)
  have A_12 := hid (A_11.out.below hB)
  have B_12 := hid (B_11.out.below hB)
  have C_12 := hid (C_11.out.below hB)
  have D_12 := hid (D_11.out.below hB)
  have HB_12 := hid (Below.steps HB_11.out hB)
  clear hB  HB_11 P_11 Q_11 R_11 PC_11 QC_11 A_11 B_11 C_11 D_11
  clear B_12
  clear D_12
  have ha3 : ∀ t ∈ (addT p q).map rawC, t.1.2.length ≤ 1000 := fun t ht => Nat.le_trans (A_12.out.lens t ht) (by omega)
  go_wp2_with fail
  refine (ptimes_bad2 A_12.out.raw ha3 (mayR_rawC (addT_spec hfp (fall_mays hfq)).1) R_12.out hl3 h3).mono ?_
  rintro e w13 ⟨vxo, vxn, vxc, rfl, hX, hB⟩
  obtain rfl : vxn = 0 := hX.len.symm
  have P_13 := hid (P_12.out.below hB)
  have Q_13 := hid (Q_12.out.below hB)
  have R_13 := hid (R_12.out.below hB)
  have PC_13 := hid (PC_12.out.below hB)
  have QC_13 := hid (QC_12.out.below hB)
  have A_13 := hid (A_12.out.below hB)
  have C_13 := hid (C_12.out.below hB)
  have HB_13 := hid (Below.steps HB_12.out hB)
  have X_13 := hid (hX.raw)
  clear hB hX HB_12 P_12 Q_12 R_12 PC_12 QC_12 A_12 C_12
  go_wp2_with fail
  refine (ptimes_bad2 P_13.out hl1 (mayR_rawC hfp) R_13.out hl3 h3).mono ?_
  rintro e w14 ⟨vyo, vyn, vyc, rfl, hX, hB⟩
  obtain rfl : vyn = 0 := hX.len.symm
  have P_14 := hid (P_13.out.below hB)
  have Q_14 := hid (Q_13.out.below hB)
  have R_14 := hid (R_13.out.below hB)
  have PC_14 := hid (PC_13.out.below hB)
  have QC_14 := hid (QC_13.out.below hB)
  have A_14 := hid (A_13.out.below hB)
  have C_14 := hid (C_13.out.below hB)
  have X_14 := hid (X_13.out.below hB)
  have HB_14 := hid (Below.steps HB_13.out hB)
  have Y_14 := hid (hX.raw)
  clear hB hX HB_13 P_13 Q_13 R_13 PC_13 QC_13 A_13 C_13 X_13
  go_wp2_with fail
  refine (ptimes_bad2 Q_14.out hl2 (mayR_rawC hfq) R_14.out hl3 h3).mono ?_
  rintro e w15 ⟨vzo, vzn, vzc, rfl, hX, hB⟩
  obtain rfl : vzn = 0 := hX.len.symm
  have P_15 := hid (P_14.out.below hB)
  have Q_15 := hid (Q_14.out.below hB)
  have R_15 := hid (R_14.out.below hB)
  have PC_15 := hid (PC_14.out.below hB)
  have QC_15 := hid (QC_14.out.below hB)
  have A_15 := hid (A_14.out.below hB)
  have C_15 := hid (C_14.out.below hB)
  have X_15 := hid (X_14.out.below hB)
  have Y_15 := hid (Y_14.out.below hB)
  have HB_15 := hid (Below.steps HB_14.out hB)
  have Z_15 := hid (hX.raw)
  clear hB hX HB_14 P_14 Q_14 R_14 PC_14 QC_14 A_14 C_14 X_14 Y_14
  by_cases hg0 : g = 0
  · have hg1 : (g != 0) = false := by rw [hg0]; rfl
    go_wp2_with fail
    refine (known8_any _).mono ?_
    rintro e w16 ⟨rfl, hB⟩
    have P_16 := hid (P_15.out.below hB)
    have Q_16 := hid (Q_15.out.below hB)
    have R_16 := hid (R_15.out.below hB)
    have PC_16 := hid (PC_15.out.below hB)
    have QC_16 := hid (QC_15.out.below hB)
    have A_16 := hid (A_15.out.below hB)
    have C_16 := hid (C_15.out.below hB)
    have X_16 := hid (X_15.out.below hB)
    have Y_16 := hid (Y_15.out.below hB)
    have Z_16 := hid (Z_15.out.below hB)
    have HB_16 := hid (Below.steps HB_15.out hB)
    clear hB  HB_15 P_15 Q_15 R_15 PC_15 QC_15 A_15 C_15 X_15 Y_15 Z_15
    go_wp2_with fail
    go_ret
    exact ⟨rfl, HB_16.out⟩
  · have hg1 : (g != 0) = true := by simpa using hg0
    go_wp2_with fail
    refine (known8_any _).mono ?_
    rintro e w16 ⟨rfl, hB⟩
    have P_16 := hid (P_15.out.below hB)
    have Q_16 := hid (Q_15.out.below hB)
    have R_16 := hid (R_15.out.below hB)
    have PC_16 := hid (PC_15.out.below hB)
    have QC_16 := hid (QC_15.out.below hB)
    have A_16 := hid (A_15.out.below hB)
    have C_16 := hid (C_15.out.below hB)
    have X_16 := hid (X_15.out.below hB)
    have Y_16 := hid (Y_15.out.below hB)
    have Z_16 := hid (Z_15.out.below hB)
    have HB_16 := hid (Below.steps HB_15.out hB)
    clear hB  HB_15 P_15 Q_15 R_15 PC_15 QC_15 A_15 C_15 X_15 Y_15 Z_15
    go_wp2_with fail
    go_ret
    exact ⟨rfl, HB_16.out⟩
end Go.Proofs.YtmbgljjfmbhelaaGreat
