/-
  The law PolyLaws, two or three of the lists being polynomials.
-/
import Derived.Test.YtmbgljjfmbhelaaGreatPolyLawsC
import Derived.Test.YtmbgljjfmbhelaaGreatGPp
set_option maxRecDepth 8192
namespace Go.Proofs.YtmbgljjfmbhelaaGreat
open Lib (hid)
open Go.RowKit
set_option maxHeartbeats 16000000 in
set_option maxRecDepth 100000 in
theorem polyLaws_all {ao bo ro : Option Addr} {n cap m cb k cr : Nat} {p q r : List Term} {w : World} (hp : Pr w ao n cap (p.map rawC)) (hq : Pr w bo m cb (q.map rawC)) (hr : Pr w ro k cr (r.map rawC))
    (g0 : greatR (p.map rawC) 8 = false) (g1 : greatR (q.map rawC) 8 = false) (g2 : greatR (r.map rawC) 8 = false) (hlp : ∀ t ∈ (p.map rawC), t.1.2.length ≤ 20) (hlq : ∀ t ∈ (q.map rawC), t.1.2.length ≤ 20) (hlr : ∀ t ∈ (r.map rawC), t.1.2.length ≤ 20) (hn : n ≤ 8) (hm : m ≤ 8) (hk : k ≤ 8) (x y z : Int) (hx : limR (p.map rawC) = x) (hy : limR (q.map rawC) = y) (hz : limR (r.map rawC) = z) (bx : 0 ≤ x ∧ x ≤ 20) (by_ : 0 ≤ y ∧ y ≤ 20) (bz : 0 ≤ z ∧ z ≤ 20) (hg : decide (24 < x + y + z) = false) (hfp : fall p) (hfq : fall q) (hpn : p.length = n) (hqm : q.length = m) (hfr : fall r) (hrk : r.length = k) (f1 : fitT p q) (f2 : fitT (addT p q) r) (f3 : fitT p r) (f4 : fitT q r) :
    Calls Tryz.prog 7 #[.slice ao n cap, .slice bo m cb, .slice ro k cr] w (RetB (.bool true) w) := by
  have P_0 := hid hp
  have Q_0 := hid hq
  have R_0 := hid hr
  have HB_0 := hid (Below.refl w.heap.size w)
  clear hp hq hr
  go_enter Tryz.func7, Tryz.ntmps7
  go_wp2_with fail
  refine (great_any8 false 8 P_0.out g0).mono ?_
  rintro e w1 ⟨rfl, hB⟩
  have P_1 := hid (P_0.out.below hB)
  have Q_1 := hid (Q_0.out.below hB)
  have R_1 := hid (R_0.out.below hB)
  have HB_1 := hid (Below.steps HB_0.out hB)
  clear hB  HB_0 P_0 Q_0 R_0
  go_wp2_with fail
  refine (great_any8 false 8 Q_1.out g1).mono ?_
  rintro e w2 ⟨rfl, hB⟩
  have P_2 := hid (P_1.out.below hB)
  have Q_2 := hid (Q_1.out.below hB)
  have R_2 := hid (R_1.out.below hB)
  have HB_2 := hid (Below.steps HB_1.out hB)
  clear hB  HB_1 P_1 Q_1 R_1
  go_wp2_with fail
  refine (great_any8 false 8 R_2.out g2).mono ?_
  rintro e w3 ⟨rfl, hB⟩
  have P_3 := hid (P_2.out.below hB)
  have Q_3 := hid (Q_2.out.below hB)
  have R_3 := hid (R_2.out.below hB)
  have HB_3 := hid (Below.steps HB_2.out hB)
  clear hB  HB_2 P_2 Q_2 R_2
  have hl1 : ∀ t ∈ (p.map rawC), t.1.2.length ≤ 1000 := fun t ht => Nat.le_trans (hlp t ht) (by omega)
  have hl2 : ∀ t ∈ (q.map rawC), t.1.2.length ≤ 1000 := fun t ht => Nat.le_trans (hlq t ht) (by omega)
  have hl3 : ∀ t ∈ (r.map rawC), t.1.2.length ≤ 1000 := fun t ht => Nat.le_trans (hlr t ht) (by omega)
  go_wp2_with fail
  refine (plimbs_any x P_3.out hl1 hx).mono ?_
  rintro e w4 ⟨rfl, hB⟩
  have P_4 := hid (P_3.out.below hB)
  have Q_4 := hid (Q_3.out.below hB)
  have R_4 := hid (R_3.out.below hB)
  have HB_4 := hid (Below.steps HB_3.out hB)
  clear hB  HB_3 P_3 Q_3 R_3
  go_wp2_with fail
  refine (plimbs_any y Q_4.out hl2 hy).mono ?_
  rintro e w5 ⟨rfl, hB⟩
  have P_5 := hid (P_4.out.below hB)
  have Q_5 := hid (Q_4.out.below hB)
  have R_5 := hid (R_4.out.below hB)
  have HB_5 := hid (Below.steps HB_4.out hB)
  clear hB  HB_4 P_4 Q_4 R_4
  go_wp2_with fail
  refine (plimbs_any z R_5.out hl3 hz).mono ?_
  rintro e w6 ⟨rfl, hB⟩
  have P_6 := hid (P_5.out.below hB)
  have Q_6 := hid (Q_5.out.below hB)
  have R_6 := hid (R_5.out.below hB)
  have HB_6 := hid (Below.steps HB_5.out hB)
  clear hB  HB_5 P_5 Q_5 R_5
  have hnm : n * m ≤ 64 := Nat.mul_le_mul hn hm
  have hmn : m * n ≤ 64 := Nat.mul_le_mul hm hn
  have hpq : p.length * q.length ≤ 64 := by rw [hpn, hqm]; exact hnm
  have hqp : q.length * p.length ≤ 64 := by rw [hpn, hqm]; exact hmn
  have HP := hid (Pr.pc (p := p) P_6.out hlp)
  have HQ := hid (Pr.pc (p := q) Q_6.out hlq)
  have PC_6 := HP
  have QC_6 := HQ
  clear HP HQ
  go_wp2_with fail
  refine (padd_any PC_6.out QC_6.out hfp hfq (by omega) (by omega)).mono ?_
  rintro e w7 ⟨vao, van, vac, rfl, hX, hB⟩
  have ea := hX.len
  have la := addT_length p q
  have P_7 := hid (P_6.out.below hB)
  have Q_7 := hid (Q_6.out.below hB)
  have R_7 := hid (R_6.out.below hB)
  have PC_7 := hid (PC_6.out.below hB)
  have QC_7 := hid (QC_6.out.below hB)
  have HB_7 := hid (Below.steps HB_6.out hB)
  have A_7 := hid (hX)
  clear hB hX HB_6 P_6 Q_6 R_6 PC_6 QC_6
  go_wp2_with fail
  refine (padd_any QC_7.out PC_7.out hfq hfp (by omega) (by omega)).mono ?_
  rintro e w8 ⟨vbo, vbn, vbc, rfl, hX, hB⟩
  have eb := hX.len
  rw [← add_comm_T hfp hfq] at hX eb
  have P_8 := hid (P_7.out.below hB)
  have Q_8 := hid (Q_7.out.below hB)
  have R_8 := hid (R_7.out.below hB)
  have PC_8 := hid (PC_7.out.below hB)
  have QC_8 := hid (QC_7.out.below hB)
  have A_8 := hid (A_7.out.below hB)
  have HB_8 := hid (Below.steps HB_7.out hB)
  have B_8 := hid (hX)
  clear hB hX HB_7 P_7 Q_7 R_7 PC_7 QC_7 A_7
  go_wp2_with fail
  refine (ptimes_try PC_8.out QC_8.out hfp hfq (by omega) (by omega) (by omega) (by omega)).mono ?_
  rintro e w9 ⟨vco, vcn, vcc, rfl, hX, hB⟩
  have ec := hX.len
  have lc := tryT_length p q
  have P_9 := hid (P_8.out.below hB)
  have Q_9 := hid (Q_8.out.below hB)
  have R_9 := hid (R_8.out.below hB)
  have PC_9 := hid (PC_8.out.below hB)
  have QC_9 := hid (QC_8.out.below hB)
  have A_9 := hid (A_8.out.below hB)
  have B_9 := hid (B_8.out.below hB)
  have HB_9 := hid (Below.steps HB_8.out hB)
  have C_9 := hid (hX)
  clear hB hX HB_8 P_8 Q_8 R_8 PC_8 QC_8 A_8 B_8
  go_wp2_with fail
  refine (ptimes_try QC_9.out PC_9.out hfq hfp (by omega) (by omega) (by omega) (by omega)).mono ?_
  rintro e w10 ⟨vdo, vdn, vdc, rfl, hX, hB⟩
  have ed := hX.len
  rw [← try_comm hfp hfq] at hX ed
  rw [← err_comm hfp hfq]
  have P_10 := hid (P_9.out.below hB)
  have Q_10 := hid (Q_9.out.below hB)
  have R_10 := hid (R_9.out.below hB)
  have PC_10 := hid (PC_9.out.below hB)
  have QC_10 := hid (QC_9.out.below hB)
  have A_10 := hid (A_9.out.below hB)
  have B_10 := hid (B_9.out.below hB)
  have C_10 := hid (C_9.out.below hB)
  have HB_10 := hid (Below.steps HB_9.out hB)
  have D_10 := hid (hX)
  clear hB hX HB_9 P_9 Q_9 R_9 PC_9 QC_9 A_9 B_9 C_9
  obtain ⟨g, hge⟩ : ∃ g, errT p q = g := ⟨_, rfl⟩
  rw [hge]
  have HG := hid hge
  clear hge
  have hgg : (g == g) = true := beq_self_eq_true g
  have hgn : (g != g) = false := by simp
  go_wp2_with fail
  refine (psame_any true A_10.out.raw B_10.out.raw (decide_eq_true rfl)).mono ?_
  rintro e w11 ⟨rfl, hB⟩
  have P_11 := hid (P_10.out.below hB)
  have Q_11 := hid (Q_10.out.below hB)
  have R_11 := hid (R_10.out.below hB)
  have PC_11 := hid (PC_10.out.below hB)
  have QC_11 := hid (QC_10.out.below hB)
  have A_11 := hid (A_10.out.below hB)
  have B_11 := hid (B_10.out.below hB)
  have C_11 := hid (C_10.out.below hB)
  have D_11 := hid (D_10.out.below hB)
  have HB_11 := hid (Below.steps HB_10.out hB)
  clear hB  HB_10 P_10 Q_10 R_10 PC_10 QC_10 A_10 B_10 C_10 D_10
  go_wp2_with fail
  refine (psame_any true C_11.out.raw D_11.out.raw (decide_eq_true rfl)).mono ?_
  rintro e w12 ⟨rfl, hB⟩
  have P_12 := hid (P_11.out.below hB)
  have Q_12 := hid (Q_11.out.below hB)
  have R_12 := hid (R_11.out.below hB)
  have PC_12 := hid (PC_11.out.below hB)
  have QC_12 := hid (QC_11.out.below hB)
  have A_12 := hid (A_11.out.below hB)
  have B_12 := hid (B_11.out.below hB)
  have C_12 := hid (C_11.out.below hB)
  have D_12 := hid (D_11.out.below hB)
  have HB_12 := hid (Below.steps HB_11.out hB)
  clear hB  HB_11 P_11 Q_11 R_11 PC_11 QC_11 A_11 B_11 C_11 D_11
  clear B_12
  clear D_12
  have RC_12 := hid (Pr.pc (p := r) R_12.out hlr)
  have hfa := (addT_spec hfp (fall_mays hfq)).1
  have hak : van * k ≤ 16 * 8 := Nat.mul_le_mul (by omega) hk
  have hnk : n * k ≤ 64 := Nat.mul_le_mul hn hk
  have hmk : m * k ≤ 64 := Nat.mul_le_mul hm hk
  go_wp2_with fail
  refine (ptimes_try (K := 21) A_12.out (RC_12.out.mono (by omega)) hfa hfr (by omega) (by omega) (by omega) (by omega)).mono ?_
  rintro e w13 ⟨vxo, vxn, vxc, rfl, hX, hB⟩
  have ex := hX.len
  have P_13 := hid (P_12.out.below hB)
  have Q_13 := hid (Q_12.out.below hB)
  have R_13 := hid (R_12.out.below hB)
  have PC_13 := hid (PC_12.out.below hB)
  have QC_13 := hid (QC_12.out.below hB)
  have A_13 := hid (A_12.out.below hB)
  have C_13 := hid (C_12.out.below hB)
  have RC_13 := hid (RC_12.out.below hB)
  have HB_13 := hid (Below.steps HB_12.out hB)
  have X_13 := hid (hX)
  clear hB hX HB_12 P_12 Q_12 R_12 PC_12 QC_12 A_12 C_12 RC_12
  go_wp2_with fail
  refine (ptimes_try PC_13.out RC_13.out hfp hfr (by omega) (by omega) (by omega) (by omega)).mono ?_
  rintro e w14 ⟨vyo, vyn, vyc, rfl, hX, hB⟩
  have ey := hX.len
  have P_14 := hid (P_13.out.below hB)
  have Q_14 := hid (Q_13.out.below hB)
  have R_14 := hid (R_13.out.below hB)
  have PC_14 := hid (PC_13.out.below hB)
  have QC_14 := hid (QC_13.out.below hB)
  have A_14 := hid (A_13.out.below hB)
  have C_14 := hid (C_13.out.below hB)
  have RC_14 := hid (RC_13.out.below hB)
  have X_14 := hid (X_13.out.below hB)
  have HB_14 := hid (Below.steps HB_13.out hB)
  have Y_14 := hid (hX)
  clear hB hX HB_13 P_13 Q_13 R_13 PC_13 QC_13 A_13 C_13 RC_13 X_13
  go_wp2_with fail
  refine (ptimes_try QC_14.out RC_14.out hfq hfr (by omega) (by omega) (by omega) (by omega)).mono ?_
  rintro e w15 ⟨vzo, vzn, vzc, rfl, hX, hB⟩
  have ez := hX.len
  have P_15 := hid (P_14.out.below hB)
  have Q_15 := hid (Q_14.out.below hB)
  have R_15 := hid (R_14.out.below hB)
  have PC_15 := hid (PC_14.out.below hB)
  have QC_15 := hid (QC_14.out.below hB)
  have A_15 := hid (A_14.out.below hB)
  have C_15 := hid (C_14.out.below hB)
  have RC_15 := hid (RC_14.out.below hB)
  have X_15 := hid (X_14.out.below hB)
  have Y_15 := hid (Y_14.out.below hB)
  have HB_15 := hid (Below.steps HB_14.out hB)
  have Z_15 := hid (hX)
  clear hB hX HB_14 P_14 Q_14 R_14 PC_14 QC_14 A_14 C_14 RC_14 X_14 Y_14
  rw [err_yes f2, err_yes f3, err_yes f4]
  obtain rfl : g = 0 := by rw [← HG.out]; exact err_yes f1
  have hCT := (tryT_yes f1)
  have tS := timesT_spec (fall_mays hfp) (fall_mays hfq) f1
  have tX := timesT_spec (fall_mays hfa) (fall_mays hfr) f2
  have tY := timesT_spec (fall_mays hfp) (fall_mays hfr) f3
  have tZ := timesT_spec (fall_mays hfq) (fall_mays hfr) f4
  have C2_15 : Hid (Pc (20 + 20 + n + m) w15 vco vcn vcc (timesT p q)) := by have h := C_15.out; rw [tryT_yes f1] at h; exact h
  have X2_15 : Hid (Pc (21 + 21 + van + k) w15 vxo vxn vxc (timesT (addT p q) r)) := by have h := X_15.out; rw [tryT_yes f2] at h; exact h
  have Y2_15 : Hid (Pc (20 + 20 + n + k) w15 vyo vyn vyc (timesT p r)) := by have h := Y_15.out; rw [tryT_yes f3] at h; exact h
  have Z2_15 : Hid (Pc (20 + 20 + m + k) w15 vzo vzn vzc (timesT q r)) := by have h := Z_15.out; rw [tryT_yes f4] at h; exact h
  clear C_15
  clear X_15
  clear Y_15
  clear Z_15
  clear A_15
  clear Q_15
  clear R_15
  have lc2 : vcn ≤ 64 := by have := timesT_length p q; have h := C2_15.out.len; omega
  have ly2 : vyn ≤ 64 := by have := timesT_length p r; have h := Y2_15.out.len; rw [hpn, hrk] at this; omega
  have lz2 : vzn ≤ 64 := by have := timesT_length q r; have h := Z2_15.out.len; rw [hqm, hrk] at this; omega
  have lx2 : vxn ≤ 128 := by have := timesT_length (addT p q) r; have h := X2_15.out.len; rw [ea, hrk] at this; omega
  have hck : vcn * k ≤ 64 * 8 := Nat.mul_le_mul lc2 hk
  have hnz : n * vzn ≤ 8 * 64 := Nat.mul_le_mul hn lz2
  go_wp2_with fail
  refine (padd_any (K := 60) (Y2_15.out.mono (by omega)) (Z2_15.out.mono (by omega)) tY.1 tZ.1 (by omega) (by omega)).mono ?_
  rintro e w16 ⟨vso, vsn, vsc, rfl, hX, hB⟩
  have es := hX.len
  have P_16 := hid (P_15.out.below hB)
  have PC_16 := hid (PC_15.out.below hB)
  have QC_16 := hid (QC_15.out.below hB)
  have RC_16 := hid (RC_15.out.below hB)
  have C2_16 := hid (C2_15.out.below hB)
  have X2_16 := hid (X2_15.out.below hB)
  have Y2_16 := hid (Y2_15.out.below hB)
  have Z2_16 := hid (Z2_15.out.below hB)
  have HB_16 := hid (Below.steps HB_15.out hB)
  have S_16 := hid (hX)
  clear hB hX HB_15 P_15 PC_15 QC_15 RC_15 C2_15 X2_15 Y2_15 Z2_15
  go_wp2_with fail
  refine (ptimes_try (K := 60) (C2_16.out.mono (by omega)) (RC_16.out.mono (by omega)) tS.1 hfr (by omega) (by omega) (by omega) (by omega)).mono ?_
  rintro e w17 ⟨vuo, vun, vuc, rfl, hX, hB⟩
  have eu := hX.len
  have lu := tryT_length (timesT p q) r
  have P_17 := hid (P_16.out.below hB)
  have PC_17 := hid (PC_16.out.below hB)
  have QC_17 := hid (QC_16.out.below hB)
  have RC_17 := hid (RC_16.out.below hB)
  have C2_17 := hid (C2_16.out.below hB)
  have X2_17 := hid (X2_16.out.below hB)
  have Y2_17 := hid (Y2_16.out.below hB)
  have Z2_17 := hid (Z2_16.out.below hB)
  have S_17 := hid (S_16.out.below hB)
  have HB_17 := hid (Below.steps HB_16.out hB)
  have U_17 := hid (hX)
  clear hB hX HB_16 P_16 PC_16 QC_16 RC_16 C2_16 X2_16 Y2_16 Z2_16 S_16
  go_wp2_with fail
  refine (ptimes_try (K := 60) (PC_17.out.mono (by omega)) (Z2_17.out.mono (by omega)) hfp tZ.1 (by omega) (by omega) (by omega) (by omega)).mono ?_
  rintro e w18 ⟨vvo, vvn, vvc, rfl, hX, hB⟩
  have ev := hX.len
  rw [← try_assoc hfp hfq hfr f1 f4] at hX ev
  rw [← err_assoc hfp hfq hfr f1 f4]
  have P_18 := hid (P_17.out.below hB)
  have PC_18 := hid (PC_17.out.below hB)
  have QC_18 := hid (QC_17.out.below hB)
  have RC_18 := hid (RC_17.out.below hB)
  have C2_18 := hid (C2_17.out.below hB)
  have X2_18 := hid (X2_17.out.below hB)
  have Y2_18 := hid (Y2_17.out.below hB)
  have Z2_18 := hid (Z2_17.out.below hB)
  have S_18 := hid (S_17.out.below hB)
  have U_18 := hid (U_17.out.below hB)
  have HB_18 := hid (Below.steps HB_17.out hB)
  have V_18 := hid (hX)
  clear hB hX HB_17 P_17 PC_17 QC_17 RC_17 C2_17 X2_17 Y2_17 Z2_17 S_17 U_17
  obtain ⟨g, hge⟩ : ∃ g, errT (timesT p q) r = g := ⟨_, rfl⟩
  rw [hge]
  have hgg : (g == g) = true := beq_self_eq_true g
  have hgn : (g != g) = false := by simp
  clear hge
  go_wp2_with fail
  refine (psub_any PC_18.out PC_18.out hfp hfp (by omega) (by omega)).mono ?_
  rintro e w19 ⟨voo, von, voc, rfl, hX, hB⟩
  rw [sub_self_T hfp] at hX
  obtain rfl : von = 0 := hX.len.symm
  clear hX
  have P_19 := hid (P_18.out.below hB)
  have PC_19 := hid (PC_18.out.below hB)
  have QC_19 := hid (QC_18.out.below hB)
  have RC_19 := hid (RC_18.out.below hB)
  have C2_19 := hid (C2_18.out.below hB)
  have X2_19 := hid (X2_18.out.below hB)
  have Y2_19 := hid (Y2_18.out.below hB)
  have Z2_19 := hid (Z2_18.out.below hB)
  have S_19 := hid (S_18.out.below hB)
  have U_19 := hid (U_18.out.below hB)
  have V_19 := hid (V_18.out.below hB)
  have HB_19 := hid (Below.steps HB_18.out hB)
  clear hB  HB_18 P_18 PC_18 QC_18 RC_18 C2_18 X2_18 Y2_18 Z2_18 S_18 U_18 V_18
  go_wp2_with fail
  refine (psame_any true U_19.out.raw V_19.out.raw (decide_eq_true rfl)).mono ?_
  rintro e w20 ⟨rfl, hB⟩
  have P_20 := hid (P_19.out.below hB)
  have PC_20 := hid (PC_19.out.below hB)
  have QC_20 := hid (QC_19.out.below hB)
  have RC_20 := hid (RC_19.out.below hB)
  have C2_20 := hid (C2_19.out.below hB)
  have X2_20 := hid (X2_19.out.below hB)
  have Y2_20 := hid (Y2_19.out.below hB)
  have Z2_20 := hid (Z2_19.out.below hB)
  have S_20 := hid (S_19.out.below hB)
  have U_20 := hid (U_19.out.below hB)
  have V_20 := hid (V_19.out.below hB)
  have HB_20 := hid (Below.steps HB_19.out hB)
  clear hB  HB_19 P_19 PC_19 QC_19 RC_19 C2_19 X2_19 Y2_19 Z2_19 S_19 U_19 V_19
  go_wp2_with fail
  refine (psame_any true X2_20.out.raw S_20.out.raw (decide_eq_true (by rw [times_add_T hfp hfq hfr f3 f4 f2]))).mono ?_
  rintro e w21 ⟨rfl, hB⟩
  have P_21 := hid (P_20.out.below hB)
  have PC_21 := hid (PC_20.out.below hB)
  have QC_21 := hid (QC_20.out.below hB)
  have RC_21 := hid (RC_20.out.below hB)
  have C2_21 := hid (C2_20.out.below hB)
  have X2_21 := hid (X2_20.out.below hB)
  have Y2_21 := hid (Y2_20.out.below hB)
  have Z2_21 := hid (Z2_20.out.below hB)
  have S_21 := hid (S_20.out.below hB)
  have U_21 := hid (U_20.out.below hB)
  have V_21 := hid (V_20.out.below hB)
  have HB_21 := hid (Below.steps HB_20.out hB)
  clear hB  HB_20 P_20 PC_20 QC_20 RC_20 C2_20 X2_20 Y2_20 Z2_20 S_20 U_20 V_20
  obtain ⟨zc, hzc⟩ : ∃ b, ((vcn : Int) == 0) = b := ⟨_, rfl⟩
  obtain ⟨zp, hzp⟩ : ∃ b, ((n : Int) == 0) = b := ⟨_, rfl⟩
  obtain ⟨zq, hzq⟩ : ∃ b, ((m : Int) == 0) = b := ⟨_, rfl⟩
  have hzz : zc = (zp || zq) := by
    have h1 := times_nil_T hfp hfq f1
    have h2 := C2_21.out.len
    rw [← hzc, ← hzp, ← hzq, Bool.eq_iff_iff]
    simp only [beq_iff_eq, Bool.or_eq_true]
    rw [← List.length_eq_zero_iff, ← List.length_eq_zero_iff, ← List.length_eq_zero_iff, hpn, hqm, h2] at h1
    omega
  cases zp with
  | true =>
    cases zq with
    | true =>
      obtain rfl : zc = true := hzz
      go_wp2_with fail
      refine (mayP_any X2_21.out tX.1 (by omega)).mono ?_
      rintro e w22 ⟨rfl, hB⟩
      have P_22 := hid (P_21.out.below hB)
      have PC_22 := hid (PC_21.out.below hB)
      have QC_22 := hid (QC_21.out.below hB)
      have RC_22 := hid (RC_21.out.below hB)
      have C2_22 := hid (C2_21.out.below hB)
      have X2_22 := hid (X2_21.out.below hB)
      have Y2_22 := hid (Y2_21.out.below hB)
      have Z2_22 := hid (Z2_21.out.below hB)
      have S_22 := hid (S_21.out.below hB)
      have U_22 := hid (U_21.out.below hB)
      have V_22 := hid (V_21.out.below hB)
      have HB_22 := hid (Below.steps HB_21.out hB)
      clear hB  HB_21 P_21 PC_21 QC_21 RC_21 C2_21 X2_21 Y2_21 Z2_21 S_21 U_21 V_21
      go_wp2_with fail
      refine (mayP_any U_22.out (tryT_fall (fall_mays tS.1) (fall_mays hfr)) (by omega)).mono ?_
      rintro e w23 ⟨rfl, hB⟩
      have P_23 := hid (P_22.out.below hB)
      have PC_23 := hid (PC_22.out.below hB)
      have QC_23 := hid (QC_22.out.below hB)
      have RC_23 := hid (RC_22.out.below hB)
      have C2_23 := hid (C2_22.out.below hB)
      have X2_23 := hid (X2_22.out.below hB)
      have Y2_23 := hid (Y2_22.out.below hB)
      have Z2_23 := hid (Z2_22.out.below hB)
      have S_23 := hid (S_22.out.below hB)
      have U_23 := hid (U_22.out.below hB)
      have V_23 := hid (V_22.out.below hB)
      have HB_23 := hid (Below.steps HB_22.out hB)
      clear hB  HB_22 P_22 PC_22 QC_22 RC_22 C2_22 X2_22 Y2_22 Z2_22 S_22 U_22 V_22
      go_wp2_with fail
      refine (known8_any _).mono ?_
      rintro e w24 ⟨rfl, hB⟩
      have P_24 := hid (P_23.out.below hB)
      have PC_24 := hid (PC_23.out.below hB)
      have QC_24 := hid (QC_23.out.below hB)
      have RC_24 := hid (RC_23.out.below hB)
      have C2_24 := hid (C2_23.out.below hB)
      have X2_24 := hid (X2_23.out.below hB)
      have Y2_24 := hid (Y2_23.out.below hB)
      have Z2_24 := hid (Z2_23.out.below hB)
      have S_24 := hid (S_23.out.below hB)
      have U_24 := hid (U_23.out.below hB)
      have V_24 := hid (V_23.out.below hB)
      have HB_24 := hid (Below.steps HB_23.out hB)
      clear hB  HB_23 P_23 PC_23 QC_23 RC_23 C2_23 X2_23 Y2_23 Z2_23 S_23 U_23 V_23
      go_wp2_with fail
      go_ret
      exact ⟨rfl, HB_24.out⟩
    | false =>
      obtain rfl : zc = true := hzz
      go_wp2_with fail
      refine (mayP_any X2_21.out tX.1 (by omega)).mono ?_
      rintro e w22 ⟨rfl, hB⟩
      have P_22 := hid (P_21.out.below hB)
      have PC_22 := hid (PC_21.out.below hB)
      have QC_22 := hid (QC_21.out.below hB)
      have RC_22 := hid (RC_21.out.below hB)
      have C2_22 := hid (C2_21.out.below hB)
      have X2_22 := hid (X2_21.out.below hB)
      have Y2_22 := hid (Y2_21.out.below hB)
      have Z2_22 := hid (Z2_21.out.below hB)
      have S_22 := hid (S_21.out.below hB)
      have U_22 := hid (U_21.out.below hB)
      have V_22 := hid (V_21.out.below hB)
      have HB_22 := hid (Below.steps HB_21.out hB)
      clear hB  HB_21 P_21 PC_21 QC_21 RC_21 C2_21 X2_21 Y2_21 Z2_21 S_21 U_21 V_21
      go_wp2_with fail
      refine (mayP_any U_22.out (tryT_fall (fall_mays tS.1) (fall_mays hfr)) (by omega)).mono ?_
      rintro e w23 ⟨rfl, hB⟩
      have P_23 := hid (P_22.out.below hB)
      have PC_23 := hid (PC_22.out.below hB)
      have QC_23 := hid (QC_22.out.below hB)
      have RC_23 := hid (RC_22.out.below hB)
      have C2_23 := hid (C2_22.out.below hB)
      have X2_23 := hid (X2_22.out.below hB)
      have Y2_23 := hid (Y2_22.out.below hB)
      have Z2_23 := hid (Z2_22.out.below hB)
      have S_23 := hid (S_22.out.below hB)
      have U_23 := hid (U_22.out.below hB)
      have V_23 := hid (V_22.out.below hB)
      have HB_23 := hid (Below.steps HB_22.out hB)
      clear hB  HB_22 P_22 PC_22 QC_22 RC_22 C2_22 X2_22 Y2_22 Z2_22 S_22 U_22 V_22
      go_wp2_with fail
      refine (known8_any _).mono ?_
      rintro e w24 ⟨rfl, hB⟩
      have P_24 := hid (P_23.out.below hB)
      have PC_24 := hid (PC_23.out.below hB)
      have QC_24 := hid (QC_23.out.below hB)
      have RC_24 := hid (RC_23.out.below hB)
      have C2_24 := hid (C2_23.out.below hB)
      have X2_24 := hid (X2_23.out.below hB)
      have Y2_24 := hid (Y2_23.out.below hB)
      have Z2_24 := hid (Z2_23.out.below hB)
      have S_24 := hid (S_23.out.below hB)
      have U_24 := hid (U_23.out.below hB)
      have V_24 := hid (V_23.out.below hB)
      have HB_24 := hid (Below.steps HB_23.out hB)
      clear hB  HB_23 P_23 PC_23 QC_23 RC_23 C2_23 X2_23 Y2_23 Z2_23 S_23 U_23 V_23
      go_wp2_with fail
      go_ret
      exact ⟨rfl, HB_24.out⟩
  | false =>
    cases zq with
    | true =>
      obtain rfl : zc = true := hzz
      go_wp2_with fail
      refine (mayP_any X2_21.out tX.1 (by omega)).mono ?_
      rintro e w22 ⟨rfl, hB⟩
      have P_22 := hid (P_21.out.below hB)
      have PC_22 := hid (PC_21.out.below hB)
      have QC_22 := hid (QC_21.out.below hB)
      have RC_22 := hid (RC_21.out.below hB)
      have C2_22 := hid (C2_21.out.below hB)
      have X2_22 := hid (X2_21.out.below hB)
      have Y2_22 := hid (Y2_21.out.below hB)
      have Z2_22 := hid (Z2_21.out.below hB)
      have S_22 := hid (S_21.out.below hB)
      have U_22 := hid (U_21.out.below hB)
      have V_22 := hid (V_21.out.below hB)
      have HB_22 := hid (Below.steps HB_21.out hB)
      clear hB  HB_21 P_21 PC_21 QC_21 RC_21 C2_21 X2_21 Y2_21 Z2_21 S_21 U_21 V_21
      go_wp2_with fail
      refine (mayP_any U_22.out (tryT_fall (fall_mays tS.1) (fall_mays hfr)) (by omega)).mono ?_
      rintro e w23 ⟨rfl, hB⟩
      have P_23 := hid (P_22.out.below hB)
      have PC_23 := hid (PC_22.out.below hB)
      have QC_23 := hid (QC_22.out.below hB)
      have RC_23 := hid (RC_22.out.below hB)
      have C2_23 := hid (C2_22.out.below hB)
      have X2_23 := hid (X2_22.out.below hB)
      have Y2_23 := hid (Y2_22.out.below hB)
      have Z2_23 := hid (Z2_22.out.below hB)
      have S_23 := hid (S_22.out.below hB)
      have U_23 := hid (U_22.out.below hB)
      have V_23 := hid (V_22.out.below hB)
      have HB_23 := hid (Below.steps HB_22.out hB)
      clear hB  HB_22 P_22 PC_22 QC_22 RC_22 C2_22 X2_22 Y2_22 Z2_22 S_22 U_22 V_22
      go_wp2_with fail
      refine (known8_any _).mono ?_
      rintro e w24 ⟨rfl, hB⟩
      have P_24 := hid (P_23.out.below hB)
      have PC_24 := hid (PC_23.out.below hB)
      have QC_24 := hid (QC_23.out.below hB)
      have RC_24 := hid (RC_23.out.below hB)
      have C2_24 := hid (C2_23.out.below hB)
      have X2_24 := hid (X2_23.out.below hB)
      have Y2_24 := hid (Y2_23.out.below hB)
      have Z2_24 := hid (Z2_23.out.below hB)
      have S_24 := hid (S_23.out.below hB)
      have U_24 := hid (U_23.out.below hB)
      have V_24 := hid (V_23.out.below hB)
      have HB_24 := hid (Below.steps HB_23.out hB)
      clear hB  HB_23 P_23 PC_23 QC_23 RC_23 C2_23 X2_23 Y2_23 Z2_23 S_23 U_23 V_23
      go_wp2_with fail
      go_ret
      exact ⟨rfl, HB_24.out⟩
    | false =>
      obtain rfl : zc = false := hzz
      go_wp2_with fail
      refine (mayP_any X2_21.out tX.1 (by omega)).mono ?_
      rintro e w22 ⟨rfl, hB⟩
      have P_22 := hid (P_21.out.below hB)
      have PC_22 := hid (PC_21.out.below hB)
      have QC_22 := hid (QC_21.out.below hB)
      have RC_22 := hid (RC_21.out.below hB)
      have C2_22 := hid (C2_21.out.below hB)
      have X2_22 := hid (X2_21.out.below hB)
      have Y2_22 := hid (Y2_21.out.below hB)
      have Z2_22 := hid (Z2_21.out.below hB)
      have S_22 := hid (S_21.out.below hB)
      have U_22 := hid (U_21.out.below hB)
      have V_22 := hid (V_21.out.below hB)
      have HB_22 := hid (Below.steps HB_21.out hB)
      clear hB  HB_21 P_21 PC_21 QC_21 RC_21 C2_21 X2_21 Y2_21 Z2_21 S_21 U_21 V_21
      go_wp2_with fail
      refine (mayP_any U_22.out (tryT_fall (fall_mays tS.1) (fall_mays hfr)) (by omega)).mono ?_
      rintro e w23 ⟨rfl, hB⟩
      have P_23 := hid (P_22.out.below hB)
      have PC_23 := hid (PC_22.out.below hB)
      have QC_23 := hid (QC_22.out.below hB)
      have RC_23 := hid (RC_22.out.below hB)
      have C2_23 := hid (C2_22.out.below hB)
      have X2_23 := hid (X2_22.out.below hB)
      have Y2_23 := hid (Y2_22.out.below hB)
      have Z2_23 := hid (Z2_22.out.below hB)
      have S_23 := hid (S_22.out.below hB)
      have U_23 := hid (U_22.out.below hB)
      have V_23 := hid (V_22.out.below hB)
      have HB_23 := hid (Below.steps HB_22.out hB)
      clear hB  HB_22 P_22 PC_22 QC_22 RC_22 C2_22 X2_22 Y2_22 Z2_22 S_22 U_22 V_22
      go_wp2_with fail
      refine (known8_any _).mono ?_
      rintro e w24 ⟨rfl, hB⟩
      have P_24 := hid (P_23.out.below hB)
      have PC_24 := hid (PC_23.out.below hB)
      have QC_24 := hid (QC_23.out.below hB)
      have RC_24 := hid (RC_23.out.below hB)
      have C2_24 := hid (C2_23.out.below hB)
      have X2_24 := hid (X2_23.out.below hB)
      have Y2_24 := hid (Y2_23.out.below hB)
      have Z2_24 := hid (Z2_23.out.below hB)
      have S_24 := hid (S_23.out.below hB)
      have U_24 := hid (U_23.out.below hB)
      have V_24 := hid (V_23.out.below hB)
      have HB_24 := hid (Below.steps HB_23.out hB)
      clear hB  HB_23 P_23 PC_23 QC_23 RC_23 C2_23 X2_23 Y2_23 Z2_23 S_23 U_23 V_23
      go_wp2_with fail
      go_ret
      exact ⟨rfl, HB_24.out⟩
end Go.Proofs.YtmbgljjfmbhelaaGreat
