/-
  The law ViewProducts, both being polynomials that have a product.
-/
import Derived.Test.YtmaanhmdgmjhdaaGreatViewProductsA
set_option maxRecDepth 8192
namespace Go.Proofs.YtmaanhmdgmjhdaaGreat
open Lib (hid)
open Go.RowKit
set_option maxHeartbeats 16000000 in
set_option maxRecDepth 100000 in
theorem viewProd_same {ao bo : Option Addr} {n cap m cb : Nat} {p q : List Term} {w : World} (v : Int) (hv64 : in64 v) (hp : Pr w ao n cap (p.map rawC)) (hq : Pr w bo m cb (q.map rawC))
    (g0 : greatR (p.map rawC) 8 = false) (g1 : greatR (q.map rawC) 8 = false) (hlp : ∀ t ∈ (p.map rawC), t.1.2.length ≤ 20) (hlq : ∀ t ∈ (q.map rawC), t.1.2.length ≤ 20) (hn : n ≤ 8) (hm : m ≤ 8) (h0 : 0 < n) (h1 : 0 < m) (hfp : fall p) (hfq : fall q) (hpn : p.length = n) (hqm : q.length = m) (hf : fitB p q = true) (he : clsP p = clsP q) :
    Calls Tryz.prog 12 #[.slice ao n cap, .slice bo m cb, .int .i64 v] w (RetB (.bool true) w) := by
  have _ := h0
  have _ := h1
  have hd0 : ((n : Int) == 0) = false := by simpa using (show ¬ (n : Int) = 0 by omega)
  have hd1 : ((m : Int) == 0) = false := by simpa using (show ¬ (m : Int) = 0 by omega)
  have hnm : n * m ≤ 64 := Nat.mul_le_mul hn hm
  have hpq : p.length * q.length ≤ 64 := by rw [hpn, hqm]; exact hnm
  have P_0 := hid hp
  have Q_0 := hid hq
  have HB_0 := hid (Below.refl w.heap.size w)
  clear hp hq
  go_enter Tryz.func12, Tryz.ntmps12
  go_wp2_with fail
  refine (great_any8 false 8 P_0.out g0).mono ?_
  rintro e w1 ⟨rfl, hB⟩
  have P_1 := hid (P_0.out.below hB)
  have Q_1 := hid (Q_0.out.below hB)
  have HB_1 := hid (Below.steps HB_0.out hB)
  clear hB  HB_0 P_0 Q_0
  go_wp2_with fail
  refine (great_any8 false 8 Q_1.out g1).mono ?_
  rintro e w2 ⟨rfl, hB⟩
  have P_2 := hid (P_1.out.below hB)
  have Q_2 := hid (Q_1.out.below hB)
  have HB_2 := hid (Below.steps HB_1.out hB)
  clear hB  HB_1 P_1 Q_1
  have hl1 : ∀ t ∈ p.map rawC, t.1.2.length ≤ 1000 := fun t ht => Nat.le_trans (hlp t ht) (by omega)
  have hl2 : ∀ t ∈ q.map rawC, t.1.2.length ≤ 1000 := fun t ht => Nat.le_trans (hlq t ht) (by omega)
  have PC_2 := hid (Pr.pc (p := p) P_2.out hlp)
  have QC_2 := hid (Pr.pc (p := q) Q_2.out hlq)
  have hft := fitB_iff.1 hf
  have hp0 : p ≠ [] := fun e => by subst e; simp at hpn; omega
  have hq0 : q ≠ [] := fun e => by subst e; simp at hqm; omega
  have hct := timesT_fall hfp hfq hft
  obtain ⟨a, ha⟩ : ∃ a, clsP p = a := ⟨_, rfl⟩
  obtain ⟨b, hb⟩ : ∃ b, clsP q = b := ⟨_, rfl⟩
  have hcc := cls_times hfp hfq hft hp0 hq0
  rw [ha, hb] at hcc
  obtain ⟨z, hz⟩ : ∃ z, max a b = z := ⟨_, rfl⟩
  rw [hz] at hcc
  obtain ⟨d, hd⟩ : ∃ d, degP p v = d := ⟨_, rfl⟩
  obtain ⟨f, hff⟩ : ∃ f, degP q v = f := ⟨_, rfl⟩
  have hdd := deg_times hfp hfq hft hp0 hq0 v
  rw [hd, hff] at hdd
  have hdb := degP_le (fall_mays hfp) v
  have hfb := degP_le (fall_mays hfq) v
  have hdz := degP_zero p v
  have hfz := degP_zero q v
  rw [hd] at hdb hdz
  rw [hff] at hfb hfz
  obtain ⟨u, hu⟩ : ∃ u, d + f = u := ⟨_, rfl⟩
  rw [hu] at hdd
  have hw : IntKind.i64.wrap (d + f) = u := by rw [← hu]; exact IntWalk.i64_in _ ⟨by omega, by omega⟩
  have hzz : (z != z) = false := by simp
  have huu : (u != u) = false := by simp
  have hab : (a == b) = true := by rw [← ha, ← hb, he]; simp
  go_wp2_with fail
  refine (ptimes_any PC_2.out QC_2.out hfp hfq (by omega) (by omega) (by omega) (by omega) hf).mono ?_
  rintro e w3 ⟨vco, vcn, vcc, rfl, hX, hB⟩
  have ecn := hX.len
  have ec2 := timesT_length p q
  have P_3 := hid (P_2.out.below hB)
  have Q_3 := hid (Q_2.out.below hB)
  have PC_3 := hid (PC_2.out.below hB)
  have QC_3 := hid (QC_2.out.below hB)
  have HB_3 := hid (Below.steps HB_2.out hB)
  have C_3 := hid (hX.mono (show 20 + 20 + n + m ≤ 56 by omega))
  clear hB hX HB_2 P_2 Q_2 PC_2 QC_2
  go_wp2_with fail
  refine (vClass_any a P_3.out hl1 (by rw [pln_raw hfp]; exact ha)).mono ?_
  rintro e w4 ⟨rfl, hB⟩
  have P_4 := hid (P_3.out.below hB)
  have Q_4 := hid (Q_3.out.below hB)
  have PC_4 := hid (PC_3.out.below hB)
  have QC_4 := hid (QC_3.out.below hB)
  have C_4 := hid (C_3.out.below hB)
  have HB_4 := hid (Below.steps HB_3.out hB)
  clear hB  HB_3 P_3 Q_3 PC_3 QC_3 C_3
  go_wp2_with fail
  refine (vClass_any b Q_4.out hl2 (by rw [pln_raw hfq]; exact hb)).mono ?_
  rintro e w5 ⟨rfl, hB⟩
  have P_5 := hid (P_4.out.below hB)
  have Q_5 := hid (Q_4.out.below hB)
  have PC_5 := hid (PC_4.out.below hB)
  have QC_5 := hid (QC_4.out.below hB)
  have C_5 := hid (C_4.out.below hB)
  have HB_5 := hid (Below.steps HB_4.out hB)
  clear hB  HB_4 P_4 Q_4 PC_4 QC_4 C_4
  go_wp2_with fail
  refine (vInit_any P_5.out hlp (by omega) (by omega)).mono ?_
  rintro e w6 ⟨vio, vin, vic, rfl, hX, hB⟩
  rw [pln_raw hfp] at hX
  have ein := hX.pc.len
  have P_6 := hid (P_5.out.below hB)
  have Q_6 := hid (Q_5.out.below hB)
  have PC_6 := hid (PC_5.out.below hB)
  have QC_6 := hid (QC_5.out.below hB)
  have C_6 := hid (C_5.out.below hB)
  have HB_6 := hid (Below.steps HB_5.out hB)
  have IP_6 := hid (hX.pc)
  clear hB hX HB_5 P_5 Q_5 PC_5 QC_5 C_5
  have eip := init_len p
  go_wp2_with fail
  refine (vInit_any Q_6.out hlq (by omega) (by omega)).mono ?_
  rintro e w7 ⟨vjo, vjn, vjc, rfl, hX, hB⟩
  rw [pln_raw hfq] at hX
  have ejn := hX.pc.len
  have P_7 := hid (P_6.out.below hB)
  have Q_7 := hid (Q_6.out.below hB)
  have PC_7 := hid (PC_6.out.below hB)
  have QC_7 := hid (QC_6.out.below hB)
  have C_7 := hid (C_6.out.below hB)
  have IP_7 := hid (IP_6.out.below hB)
  have HB_7 := hid (Below.steps HB_6.out hB)
  have IQ_7 := hid (hX.pc)
  clear hB hX HB_6 P_6 Q_6 PC_6 QC_6 C_6 IP_6
  have eiq := init_len q
  have hij : vin * vjn ≤ 64 := Nat.mul_le_mul (show vin ≤ 8 by omega) (show vjn ≤ 8 by omega)
  go_wp2_with fail
  refine (ptimes_try IP_7.out IQ_7.out (init_fall hfp) (init_fall hfq) (by omega) (by omega) (by omega) (by omega)).mono ?_
  rintro e w8 ⟨vko, vkn, vkc, rfl, hX, hB⟩
  have P_8 := hid (P_7.out.below hB)
  have Q_8 := hid (Q_7.out.below hB)
  have PC_8 := hid (PC_7.out.below hB)
  have QC_8 := hid (QC_7.out.below hB)
  have C_8 := hid (C_7.out.below hB)
  have IP_8 := hid (IP_7.out.below hB)
  have IQ_8 := hid (IQ_7.out.below hB)
  have HB_8 := hid (Below.steps HB_7.out hB)
  have IT_8 := hid (hX)
  clear hB hX HB_7 P_7 Q_7 PC_7 QC_7 C_7 IP_7 IQ_7
  clear IP_8
  clear IQ_8
  have hl3 : ∀ t ∈ (timesT p q).map rawC, t.1.2.length ≤ 56 := C_8.out.lens
  go_wp2_with fail
  refine (vClass_any z C_8.out.raw (fun t ht => Nat.le_trans (hl3 t ht) (by omega)) (by rw [pln_raw hct]; exact hcc)).mono ?_
  rintro e w9 ⟨rfl, hB⟩
  have P_9 := hid (P_8.out.below hB)
  have Q_9 := hid (Q_8.out.below hB)
  have PC_9 := hid (PC_8.out.below hB)
  have QC_9 := hid (QC_8.out.below hB)
  have C_9 := hid (C_8.out.below hB)
  have IT_9 := hid (IT_8.out.below hB)
  have HB_9 := hid (Below.steps HB_8.out hB)
  clear hB  HB_8 P_8 Q_8 PC_8 QC_8 C_8 IT_8
  go_wp2_with fail
  refine (vDegree_any v u C_9.out.raw (fun t ht => Nat.le_trans (hl3 t ht) (by omega)) (by rw [pln_raw hct]; exact hdd)).mono ?_
  rintro e w10 ⟨rfl, hB⟩
  have P_10 := hid (P_9.out.below hB)
  have Q_10 := hid (Q_9.out.below hB)
  have PC_10 := hid (PC_9.out.below hB)
  have QC_10 := hid (QC_9.out.below hB)
  have C_10 := hid (C_9.out.below hB)
  have IT_10 := hid (IT_9.out.below hB)
  have HB_10 := hid (Below.steps HB_9.out hB)
  clear hB  HB_9 P_9 Q_9 PC_9 QC_9 C_9 IT_9
  go_wp2_with fail
  refine (vDegree_any v d P_10.out hl1 (by rw [pln_raw hfp]; exact hd)).mono ?_
  rintro e w11 ⟨rfl, hB⟩
  have P_11 := hid (P_10.out.below hB)
  have Q_11 := hid (Q_10.out.below hB)
  have PC_11 := hid (PC_10.out.below hB)
  have QC_11 := hid (QC_10.out.below hB)
  have C_11 := hid (C_10.out.below hB)
  have IT_11 := hid (IT_10.out.below hB)
  have HB_11 := hid (Below.steps HB_10.out hB)
  clear hB  HB_10 P_10 Q_10 PC_10 QC_10 C_10 IT_10
  go_wp2_with fail
  refine (vDegree_any v f Q_11.out hl2 (by rw [pln_raw hfq]; exact hff)).mono ?_
  rintro e w12 ⟨rfl, hB⟩
  have P_12 := hid (P_11.out.below hB)
  have Q_12 := hid (Q_11.out.below hB)
  have PC_12 := hid (PC_11.out.below hB)
  have QC_12 := hid (QC_11.out.below hB)
  have C_12 := hid (C_11.out.below hB)
  have IT_12 := hid (IT_11.out.below hB)
  have HB_12 := hid (Below.steps HB_11.out hB)
  clear hB  HB_11 P_11 Q_11 PC_11 QC_11 C_11 IT_11
  go_wp2_with fail
  refine (vInit_any C_12.out.raw hl3 (by omega) (by omega)).mono ?_
  rintro e w13 ⟨vlo, vln, vlc, rfl, hX, hB⟩
  rw [pln_raw hct] at hX
  have eln := hX.pc.len
  have P_13 := hid (P_12.out.below hB)
  have Q_13 := hid (Q_12.out.below hB)
  have PC_13 := hid (PC_12.out.below hB)
  have QC_13 := hid (QC_12.out.below hB)
  have C_13 := hid (C_12.out.below hB)
  have IT_13 := hid (IT_12.out.below hB)
  have HB_13 := hid (Below.steps HB_12.out hB)
  have IC_13 := hid (hX.pc)
  clear hB hX HB_12 P_12 Q_12 PC_12 QC_12 C_12 IT_12
  go_wp2_with fail
  refine (psame_any true IC_13.out.raw IT_13.out.raw (decide_eq_true (by have h := init_times hfp hfq hft hp0 hq0 he; rw [h.2, tryT_yes h.1]))).mono ?_
  rintro e w14 ⟨rfl, hB⟩
  have P_14 := hid (P_13.out.below hB)
  have Q_14 := hid (Q_13.out.below hB)
  have PC_14 := hid (PC_13.out.below hB)
  have QC_14 := hid (QC_13.out.below hB)
  have C_14 := hid (C_13.out.below hB)
  have IT_14 := hid (IT_13.out.below hB)
  have IC_14 := hid (IC_13.out.below hB)
  have HB_14 := hid (Below.steps HB_13.out hB)
  clear hB  HB_13 P_13 Q_13 PC_13 QC_13 C_13 IT_13 IC_13
  clear IC_14
  clear IT_14
  obtain ⟨hfd1, hfd2, hder⟩ := der_times hfp hfq hft v
  have hdp := der_fall hfp v
  have hdq := der_fall hfq v
  go_wp2_with fail
  refine (vDer_any v hv64 P_14.out hlp (by omega) (by omega)).mono ?_
  rintro e w15 ⟨vdo, vdn, vdc, rfl, hX, hB⟩
  rw [pln_raw hfp] at hX
  have edn := hX.pc.len
  have P_15 := hid (P_14.out.below hB)
  have Q_15 := hid (Q_14.out.below hB)
  have PC_15 := hid (PC_14.out.below hB)
  have QC_15 := hid (QC_14.out.below hB)
  have C_15 := hid (C_14.out.below hB)
  have HB_15 := hid (Below.steps HB_14.out hB)
  have DP_15 := hid (hX.pc)
  clear hB hX HB_14 P_14 Q_14 PC_14 QC_14 C_14
  have edp := der_len v p
  have hdm : vdn * m ≤ 64 := Nat.mul_le_mul (show vdn ≤ 8 by omega) hm
  go_wp2_with fail
  refine (ptimes_any (K := 21) DP_15.out (QC_15.out.mono (by omega)) hdp hfq (by omega) (by omega) (by omega) (by omega) (fitB_iff.2 hfd1)).mono ?_
  rintro e w16 ⟨vxo, vxn, vxc, rfl, hX, hB⟩
  have exn := hX.len
  have ex2 := timesT_length (derP p v) q
  have hdm2 : (derP p v).length * q.length ≤ 64 := Nat.mul_le_mul (show _ ≤ 8 by omega) (show _ ≤ 8 by omega)
  have P_16 := hid (P_15.out.below hB)
  have Q_16 := hid (Q_15.out.below hB)
  have PC_16 := hid (PC_15.out.below hB)
  have QC_16 := hid (QC_15.out.below hB)
  have C_16 := hid (C_15.out.below hB)
  have DP_16 := hid (DP_15.out.below hB)
  have HB_16 := hid (Below.steps HB_15.out hB)
  have X_16 := hid (hX.mono (show 21 + 21 + vdn + m ≤ 58 by omega))
  clear hB hX HB_15 P_15 Q_15 PC_15 QC_15 C_15 DP_15
  clear DP_16
  go_wp2_with fail
  refine (vDer_any v hv64 Q_16.out hlq (by omega) (by omega)).mono ?_
  rintro e w17 ⟨veo, ven, vec, rfl, hX, hB⟩
  rw [pln_raw hfq] at hX
  have een := hX.pc.len
  have P_17 := hid (P_16.out.below hB)
  have Q_17 := hid (Q_16.out.below hB)
  have PC_17 := hid (PC_16.out.below hB)
  have QC_17 := hid (QC_16.out.below hB)
  have C_17 := hid (C_16.out.below hB)
  have X_17 := hid (X_16.out.below hB)
  have HB_17 := hid (Below.steps HB_16.out hB)
  have DQ_17 := hid (hX.pc)
  clear hB hX HB_16 P_16 Q_16 PC_16 QC_16 C_16 X_16
  have edq := der_len v q
  have hnd : n * ven ≤ 64 := Nat.mul_le_mul hn (show ven ≤ 8 by omega)
  go_wp2_with fail
  refine (ptimes_any (K := 21) (PC_17.out.mono (by omega)) DQ_17.out hfp hdq (by omega) (by omega) (by omega) (by omega) (fitB_iff.2 hfd2)).mono ?_
  rintro e w18 ⟨vyo, vyn, vyc, rfl, hX, hB⟩
  have eyn := hX.len
  have ey2 := timesT_length p (derP q v)
  have hnd2 : p.length * (derP q v).length ≤ 64 := Nat.mul_le_mul (show _ ≤ 8 by omega) (show _ ≤ 8 by omega)
  have P_18 := hid (P_17.out.below hB)
  have Q_18 := hid (Q_17.out.below hB)
  have PC_18 := hid (PC_17.out.below hB)
  have QC_18 := hid (QC_17.out.below hB)
  have C_18 := hid (C_17.out.below hB)
  have X_18 := hid (X_17.out.below hB)
  have DQ_18 := hid (DQ_17.out.below hB)
  have HB_18 := hid (Below.steps HB_17.out hB)
  have Y_18 := hid (hX.mono (show 21 + 21 + n + ven ≤ 58 by omega))
  clear hB hX HB_17 P_17 Q_17 PC_17 QC_17 C_17 X_17 DQ_17
  clear DQ_18
  go_wp2_with fail
  refine (padd_any X_18.out Y_18.out (timesT_fall hdp hfq hfd1) (timesT_fall hfp hdq hfd2) (by omega) (by omega)).mono ?_
  rintro e w19 ⟨vzo, vzn, vzc, rfl, hX, hB⟩
  rw [← hder] at hX
  have P_19 := hid (P_18.out.below hB)
  have Q_19 := hid (Q_18.out.below hB)
  have PC_19 := hid (PC_18.out.below hB)
  have QC_19 := hid (QC_18.out.below hB)
  have C_19 := hid (C_18.out.below hB)
  have X_19 := hid (X_18.out.below hB)
  have Y_19 := hid (Y_18.out.below hB)
  have HB_19 := hid (Below.steps HB_18.out hB)
  have Z_19 := hid (hX)
  clear hB hX HB_18 P_18 Q_18 PC_18 QC_18 C_18 X_18 Y_18
  clear X_19
  clear Y_19
  go_wp2_with fail
  refine (padd_any PC_19.out QC_19.out hfp hfq (by omega) (by omega)).mono ?_
  rintro e w20 ⟨vso, vsn, vsc, rfl, hX, hB⟩
  have esn := hX.len
  have es2 := addT_length p q
  have P_20 := hid (P_19.out.below hB)
  have Q_20 := hid (Q_19.out.below hB)
  have PC_20 := hid (PC_19.out.below hB)
  have QC_20 := hid (QC_19.out.below hB)
  have C_20 := hid (C_19.out.below hB)
  have Z_20 := hid (Z_19.out.below hB)
  have HB_20 := hid (Below.steps HB_19.out hB)
  have S_20 := hid (hX)
  clear hB hX HB_19 P_19 Q_19 PC_19 QC_19 C_19 Z_19
  go_wp2_with fail
  refine (vDer_any v hv64 P_20.out hlp (by omega) (by omega)).mono ?_
  rintro e w21 ⟨vgo, vgn, vgc, rfl, hX, hB⟩
  rw [pln_raw hfp] at hX
  have egn := hX.pc.len
  have P_21 := hid (P_20.out.below hB)
  have Q_21 := hid (Q_20.out.below hB)
  have PC_21 := hid (PC_20.out.below hB)
  have QC_21 := hid (QC_20.out.below hB)
  have C_21 := hid (C_20.out.below hB)
  have Z_21 := hid (Z_20.out.below hB)
  have S_21 := hid (S_20.out.below hB)
  have HB_21 := hid (Below.steps HB_20.out hB)
  have DP_21 := hid (hX.pc)
  clear hB hX HB_20 P_20 Q_20 PC_20 QC_20 C_20 Z_20 S_20
  go_wp2_with fail
  refine (vDer_any v hv64 Q_21.out hlq (by omega) (by omega)).mono ?_
  rintro e w22 ⟨vho, vhn, vhc, rfl, hX, hB⟩
  rw [pln_raw hfq] at hX
  have ehn := hX.pc.len
  have P_22 := hid (P_21.out.below hB)
  have Q_22 := hid (Q_21.out.below hB)
  have PC_22 := hid (PC_21.out.below hB)
  have QC_22 := hid (QC_21.out.below hB)
  have C_22 := hid (C_21.out.below hB)
  have Z_22 := hid (Z_21.out.below hB)
  have S_22 := hid (S_21.out.below hB)
  have DP_22 := hid (DP_21.out.below hB)
  have HB_22 := hid (Below.steps HB_21.out hB)
  have DQ_22 := hid (hX.pc)
  clear hB hX HB_21 P_21 Q_21 PC_21 QC_21 C_21 Z_21 S_21 DP_21
  go_wp2_with fail
  refine (padd_any DP_22.out DQ_22.out hdp hdq (by omega) (by omega)).mono ?_
  rintro e w23 ⟨vto, vtn, vtc, rfl, hX, hB⟩
  rw [← der_add hfp hfq v] at hX
  have P_23 := hid (P_22.out.below hB)
  have Q_23 := hid (Q_22.out.below hB)
  have PC_23 := hid (PC_22.out.below hB)
  have QC_23 := hid (QC_22.out.below hB)
  have C_23 := hid (C_22.out.below hB)
  have Z_23 := hid (Z_22.out.below hB)
  have S_23 := hid (S_22.out.below hB)
  have DP_23 := hid (DP_22.out.below hB)
  have DQ_23 := hid (DQ_22.out.below hB)
  have HB_23 := hid (Below.steps HB_22.out hB)
  have TT_23 := hid (hX)
  clear hB hX HB_22 P_22 Q_22 PC_22 QC_22 C_22 Z_22 S_22 DP_22 DQ_22
  clear DP_23
  clear DQ_23
  go_wp2_with fail
  refine (vDer_any v hv64 C_23.out.raw hl3 (by omega) (by omega)).mono ?_
  rintro e w24 ⟨vqo, vqn, vqc, rfl, hX, hB⟩
  rw [pln_raw hct] at hX
  have eqn := hX.pc.len
  have P_24 := hid (P_23.out.below hB)
  have Q_24 := hid (Q_23.out.below hB)
  have PC_24 := hid (PC_23.out.below hB)
  have QC_24 := hid (QC_23.out.below hB)
  have C_24 := hid (C_23.out.below hB)
  have Z_24 := hid (Z_23.out.below hB)
  have S_24 := hid (S_23.out.below hB)
  have TT_24 := hid (TT_23.out.below hB)
  have HB_24 := hid (Below.steps HB_23.out hB)
  have DC_24 := hid (hX.pc)
  clear hB hX HB_23 P_23 Q_23 PC_23 QC_23 C_23 Z_23 S_23 TT_23
  go_wp2_with fail
  refine (psame_any true DC_24.out.raw Z_24.out.raw (decide_eq_true rfl)).mono ?_
  rintro e w25 ⟨rfl, hB⟩
  have P_25 := hid (P_24.out.below hB)
  have Q_25 := hid (Q_24.out.below hB)
  have PC_25 := hid (PC_24.out.below hB)
  have QC_25 := hid (QC_24.out.below hB)
  have C_25 := hid (C_24.out.below hB)
  have Z_25 := hid (Z_24.out.below hB)
  have S_25 := hid (S_24.out.below hB)
  have TT_25 := hid (TT_24.out.below hB)
  have DC_25 := hid (DC_24.out.below hB)
  have HB_25 := hid (Below.steps HB_24.out hB)
  clear hB  HB_24 P_24 Q_24 PC_24 QC_24 C_24 Z_24 S_24 TT_24 DC_24
  clear DC_25
  clear Z_25
  have hl4 : ∀ t ∈ (addT p q).map rawC, t.1.2.length ≤ 21 := S_25.out.lens
  have hst := (addT_spec hfp (fall_mays hfq)).1
  go_wp2_with fail
  refine (vDer_any v hv64 S_25.out.raw hl4 (by omega) (by omega)).mono ?_
  rintro e w26 ⟨vro, vrn, vrc, rfl, hX, hB⟩
  rw [pln_raw hst] at hX
  have ern := hX.pc.len
  have P_26 := hid (P_25.out.below hB)
  have Q_26 := hid (Q_25.out.below hB)
  have PC_26 := hid (PC_25.out.below hB)
  have QC_26 := hid (QC_25.out.below hB)
  have C_26 := hid (C_25.out.below hB)
  have S_26 := hid (S_25.out.below hB)
  have TT_26 := hid (TT_25.out.below hB)
  have HB_26 := hid (Below.steps HB_25.out hB)
  have DS_26 := hid (hX.pc)
  clear hB hX HB_25 P_25 Q_25 PC_25 QC_25 C_25 S_25 TT_25
  go_wp2_with fail
  refine (psame_any true DS_26.out.raw TT_26.out.raw (decide_eq_true rfl)).mono ?_
  rintro e w27 ⟨rfl, hB⟩
  have P_27 := hid (P_26.out.below hB)
  have Q_27 := hid (Q_26.out.below hB)
  have PC_27 := hid (PC_26.out.below hB)
  have QC_27 := hid (QC_26.out.below hB)
  have C_27 := hid (C_26.out.below hB)
  have S_27 := hid (S_26.out.below hB)
  have TT_27 := hid (TT_26.out.below hB)
  have DS_27 := hid (DS_26.out.below hB)
  have HB_27 := hid (Below.steps HB_26.out hB)
  clear hB  HB_26 P_26 Q_26 PC_26 QC_26 C_26 S_26 TT_26 DS_26
  go_wp2_with fail
  refine (known9_any _).mono ?_
  rintro e w28 ⟨rfl, hB⟩
  have P_28 := hid (P_27.out.below hB)
  have Q_28 := hid (Q_27.out.below hB)
  have PC_28 := hid (PC_27.out.below hB)
  have QC_28 := hid (QC_27.out.below hB)
  have C_28 := hid (C_27.out.below hB)
  have S_28 := hid (S_27.out.below hB)
  have TT_28 := hid (TT_27.out.below hB)
  have DS_28 := hid (DS_27.out.below hB)
  have HB_28 := hid (Below.steps HB_27.out hB)
  clear hB  HB_27 P_27 Q_27 PC_27 QC_27 C_27 S_27 TT_27 DS_27
  go_wp2_with fail
  go_ret
  exact ⟨rfl, HB_28.out⟩
set_option maxHeartbeats 16000000 in
set_option maxRecDepth 100000 in
theorem viewProd_other {ao bo : Option Addr} {n cap m cb : Nat} {p q : List Term} {w : World} (v : Int) (hv64 : in64 v) (hp : Pr w ao n cap (p.map rawC)) (hq : Pr w bo m cb (q.map rawC))
    (g0 : greatR (p.map rawC) 8 = false) (g1 : greatR (q.map rawC) 8 = false) (hlp : ∀ t ∈ (p.map rawC), t.1.2.length ≤ 20) (hlq : ∀ t ∈ (q.map rawC), t.1.2.length ≤ 20) (hn : n ≤ 8) (hm : m ≤ 8) (h0 : 0 < n) (h1 : 0 < m) (hfp : fall p) (hfq : fall q) (hpn : p.length = n) (hqm : q.length = m) (hf : fitB p q = true) (he : ¬ clsP p = clsP q) :
    Calls Tryz.prog 12 #[.slice ao n cap, .slice bo m cb, .int .i64 v] w (RetB (.bool true) w) := by
  have _ := h0
  have _ := h1
  have hd0 : ((n : Int) == 0) = false := by simpa using (show ¬ (n : Int) = 0 by omega)
  have hd1 : ((m : Int) == 0) = false := by simpa using (show ¬ (m : Int) = 0 by omega)
  have hnm : n * m ≤ 64 := Nat.mul_le_mul hn hm
  have hpq : p.length * q.length ≤ 64 := by rw [hpn, hqm]; exact hnm
  have P_0 := hid hp
  have Q_0 := hid hq
  have HB_0 := hid (Below.refl w.heap.size w)
  clear hp hq
  go_enter Tryz.func12, Tryz.ntmps12
  go_wp2_with fail
  refine (great_any8 false 8 P_0.out g0).mono ?_
  rintro e w1 ⟨rfl, hB⟩
  have P_1 := hid (P_0.out.below hB)
  have Q_1 := hid (Q_0.out.below hB)
  have HB_1 := hid (Below.steps HB_0.out hB)
  clear hB  HB_0 P_0 Q_0
  go_wp2_with fail
  refine (great_any8 false 8 Q_1.out g1).mono ?_
  rintro e w2 ⟨rfl, hB⟩
  have P_2 := hid (P_1.out.below hB)
  have Q_2 := hid (Q_1.out.below hB)
  have HB_2 := hid (Below.steps HB_1.out hB)
  clear hB  HB_1 P_1 Q_1
  have hl1 : ∀ t ∈ p.map rawC, t.1.2.length ≤ 1000 := fun t ht => Nat.le_trans (hlp t ht) (by omega)
  have hl2 : ∀ t ∈ q.map rawC, t.1.2.length ≤ 1000 := fun t ht => Nat.le_trans (hlq t ht) (by omega)
  have PC_2 := hid (Pr.pc (p := p) P_2.out hlp)
  have QC_2 := hid (Pr.pc (p := q) Q_2.out hlq)
  have hft := fitB_iff.1 hf
  have hp0 : p ≠ [] := fun e => by subst e; simp at hpn; omega
  have hq0 : q ≠ [] := fun e => by subst e; simp at hqm; omega
  have hct := timesT_fall hfp hfq hft
  obtain ⟨a, ha⟩ : ∃ a, clsP p = a := ⟨_, rfl⟩
  obtain ⟨b, hb⟩ : ∃ b, clsP q = b := ⟨_, rfl⟩
  have hcc := cls_times hfp hfq hft hp0 hq0
  rw [ha, hb] at hcc
  obtain ⟨z, hz⟩ : ∃ z, max a b = z := ⟨_, rfl⟩
  rw [hz] at hcc
  obtain ⟨d, hd⟩ : ∃ d, degP p v = d := ⟨_, rfl⟩
  obtain ⟨f, hff⟩ : ∃ f, degP q v = f := ⟨_, rfl⟩
  have hdd := deg_times hfp hfq hft hp0 hq0 v
  rw [hd, hff] at hdd
  have hdb := degP_le (fall_mays hfp) v
  have hfb := degP_le (fall_mays hfq) v
  have hdz := degP_zero p v
  have hfz := degP_zero q v
  rw [hd] at hdb hdz
  rw [hff] at hfb hfz
  obtain ⟨u, hu⟩ : ∃ u, d + f = u := ⟨_, rfl⟩
  rw [hu] at hdd
  have hw : IntKind.i64.wrap (d + f) = u := by rw [← hu]; exact IntWalk.i64_in _ ⟨by omega, by omega⟩
  have hzz : (z != z) = false := by simp
  have huu : (u != u) = false := by simp
  have hab : (a == b) = false := by rw [← ha, ← hb]; simpa using he
  go_wp2_with fail
  refine (ptimes_any PC_2.out QC_2.out hfp hfq (by omega) (by omega) (by omega) (by omega) hf).mono ?_
  rintro e w3 ⟨vco, vcn, vcc, rfl, hX, hB⟩
  have ecn := hX.len
  have ec2 := timesT_length p q
  have P_3 := hid (P_2.out.below hB)
  have Q_3 := hid (Q_2.out.below hB)
  have PC_3 := hid (PC_2.out.below hB)
  have QC_3 := hid (QC_2.out.below hB)
  have HB_3 := hid (Below.steps HB_2.out hB)
  have C_3 := hid (hX.mono (show 20 + 20 + n + m ≤ 56 by omega))
  clear hB hX HB_2 P_2 Q_2 PC_2 QC_2
  go_wp2_with fail
  refine (vClass_any a P_3.out hl1 (by rw [pln_raw hfp]; exact ha)).mono ?_
  rintro e w4 ⟨rfl, hB⟩
  have P_4 := hid (P_3.out.below hB)
  have Q_4 := hid (Q_3.out.below hB)
  have PC_4 := hid (PC_3.out.below hB)
  have QC_4 := hid (QC_3.out.below hB)
  have C_4 := hid (C_3.out.below hB)
  have HB_4 := hid (Below.steps HB_3.out hB)
  clear hB  HB_3 P_3 Q_3 PC_3 QC_3 C_3
  go_wp2_with fail
  refine (vClass_any b Q_4.out hl2 (by rw [pln_raw hfq]; exact hb)).mono ?_
  rintro e w5 ⟨rfl, hB⟩
  have P_5 := hid (P_4.out.below hB)
  have Q_5 := hid (Q_4.out.below hB)
  have PC_5 := hid (PC_4.out.below hB)
  have QC_5 := hid (QC_4.out.below hB)
  have C_5 := hid (C_4.out.below hB)
  have HB_5 := hid (Below.steps HB_4.out hB)
  clear hB  HB_4 P_4 Q_4 PC_4 QC_4 C_4
  go_wp2_with fail
  refine (vInit_any P_5.out hlp (by omega) (by omega)).mono ?_
  rintro e w6 ⟨vio, vin, vic, rfl, hX, hB⟩
  rw [pln_raw hfp] at hX
  have ein := hX.pc.len
  have P_6 := hid (P_5.out.below hB)
  have Q_6 := hid (Q_5.out.below hB)
  have PC_6 := hid (PC_5.out.below hB)
  have QC_6 := hid (QC_5.out.below hB)
  have C_6 := hid (C_5.out.below hB)
  have HB_6 := hid (Below.steps HB_5.out hB)
  have IP_6 := hid (hX.pc)
  clear hB hX HB_5 P_5 Q_5 PC_5 QC_5 C_5
  have eip := init_len p
  go_wp2_with fail
  refine (vInit_any Q_6.out hlq (by omega) (by omega)).mono ?_
  rintro e w7 ⟨vjo, vjn, vjc, rfl, hX, hB⟩
  rw [pln_raw hfq] at hX
  have ejn := hX.pc.len
  have P_7 := hid (P_6.out.below hB)
  have Q_7 := hid (Q_6.out.below hB)
  have PC_7 := hid (PC_6.out.below hB)
  have QC_7 := hid (QC_6.out.below hB)
  have C_7 := hid (C_6.out.below hB)
  have IP_7 := hid (IP_6.out.below hB)
  have HB_7 := hid (Below.steps HB_6.out hB)
  have IQ_7 := hid (hX.pc)
  clear hB hX HB_6 P_6 Q_6 PC_6 QC_6 C_6 IP_6
  have eiq := init_len q
  have hij : vin * vjn ≤ 64 := Nat.mul_le_mul (show vin ≤ 8 by omega) (show vjn ≤ 8 by omega)
  go_wp2_with fail
  refine (ptimes_try IP_7.out IQ_7.out (init_fall hfp) (init_fall hfq) (by omega) (by omega) (by omega) (by omega)).mono ?_
  rintro e w8 ⟨vko, vkn, vkc, rfl, hX, hB⟩
  have P_8 := hid (P_7.out.below hB)
  have Q_8 := hid (Q_7.out.below hB)
  have PC_8 := hid (PC_7.out.below hB)
  have QC_8 := hid (QC_7.out.below hB)
  have C_8 := hid (C_7.out.below hB)
  have IP_8 := hid (IP_7.out.below hB)
  have IQ_8 := hid (IQ_7.out.below hB)
  have HB_8 := hid (Below.steps HB_7.out hB)
  have IT_8 := hid (hX)
  clear hB hX HB_7 P_7 Q_7 PC_7 QC_7 C_7 IP_7 IQ_7
  clear IP_8
  clear IQ_8
  have hl3 : ∀ t ∈ (timesT p q).map rawC, t.1.2.length ≤ 56 := C_8.out.lens
  go_wp2_with fail
  refine (vClass_any z C_8.out.raw (fun t ht => Nat.le_trans (hl3 t ht) (by omega)) (by rw [pln_raw hct]; exact hcc)).mono ?_
  rintro e w9 ⟨rfl, hB⟩
  have P_9 := hid (P_8.out.below hB)
  have Q_9 := hid (Q_8.out.below hB)
  have PC_9 := hid (PC_8.out.below hB)
  have QC_9 := hid (QC_8.out.below hB)
  have C_9 := hid (C_8.out.below hB)
  have IT_9 := hid (IT_8.out.below hB)
  have HB_9 := hid (Below.steps HB_8.out hB)
  clear hB  HB_8 P_8 Q_8 PC_8 QC_8 C_8 IT_8
  go_wp2_with fail
  refine (vDegree_any v u C_9.out.raw (fun t ht => Nat.le_trans (hl3 t ht) (by omega)) (by rw [pln_raw hct]; exact hdd)).mono ?_
  rintro e w10 ⟨rfl, hB⟩
  have P_10 := hid (P_9.out.below hB)
  have Q_10 := hid (Q_9.out.below hB)
  have PC_10 := hid (PC_9.out.below hB)
  have QC_10 := hid (QC_9.out.below hB)
  have C_10 := hid (C_9.out.below hB)
  have IT_10 := hid (IT_9.out.below hB)
  have HB_10 := hid (Below.steps HB_9.out hB)
  clear hB  HB_9 P_9 Q_9 PC_9 QC_9 C_9 IT_9
  go_wp2_with fail
  refine (vDegree_any v d P_10.out hl1 (by rw [pln_raw hfp]; exact hd)).mono ?_
  rintro e w11 ⟨rfl, hB⟩
  have P_11 := hid (P_10.out.below hB)
  have Q_11 := hid (Q_10.out.below hB)
  have PC_11 := hid (PC_10.out.below hB)
  have QC_11 := hid (QC_10.out.below hB)
  have C_11 := hid (C_10.out.below hB)
  have IT_11 := hid (IT_10.out.below hB)
  have HB_11 := hid (Below.steps HB_10.out hB)
  clear hB  HB_10 P_10 Q_10 PC_10 QC_10 C_10 IT_10
  go_wp2_with fail
  refine (vDegree_any v f Q_11.out hl2 (by rw [pln_raw hfq]; exact hff)).mono ?_
  rintro e w12 ⟨rfl, hB⟩
  have P_12 := hid (P_11.out.below hB)
  have Q_12 := hid (Q_11.out.below hB)
  have PC_12 := hid (PC_11.out.below hB)
  have QC_12 := hid (QC_11.out.below hB)
  have C_12 := hid (C_11.out.below hB)
  have IT_12 := hid (IT_11.out.below hB)
  have HB_12 := hid (Below.steps HB_11.out hB)
  clear hB  HB_11 P_11 Q_11 PC_11 QC_11 C_11 IT_11
  clear IT_12
  obtain ⟨hfd1, hfd2, hder⟩ := der_times hfp hfq hft v
  have hdp := der_fall hfp v
  have hdq := der_fall hfq v
  go_wp2_with fail
  refine (vDer_any v hv64 P_12.out hlp (by omega) (by omega)).mono ?_
  rintro e w13 ⟨vdo, vdn, vdc, rfl, hX, hB⟩
  rw [pln_raw hfp] at hX
  have edn := hX.pc.len
  have P_13 := hid (P_12.out.below hB)
  have Q_13 := hid (Q_12.out.below hB)
  have PC_13 := hid (PC_12.out.below hB)
  have QC_13 := hid (QC_12.out.below hB)
  have C_13 := hid (C_12.out.below hB)
  have HB_13 := hid (Below.steps HB_12.out hB)
  have DP_13 := hid (hX.pc)
  clear hB hX HB_12 P_12 Q_12 PC_12 QC_12 C_12
  have edp := der_len v p
  have hdm : vdn * m ≤ 64 := Nat.mul_le_mul (show vdn ≤ 8 by omega) hm
  go_wp2_with fail
  refine (ptimes_any (K := 21) DP_13.out (QC_13.out.mono (by omega)) hdp hfq (by omega) (by omega) (by omega) (by omega) (fitB_iff.2 hfd1)).mono ?_
  rintro e w14 ⟨vxo, vxn, vxc, rfl, hX, hB⟩
  have exn := hX.len
  have ex2 := timesT_length (derP p v) q
  have hdm2 : (derP p v).length * q.length ≤ 64 := Nat.mul_le_mul (show _ ≤ 8 by omega) (show _ ≤ 8 by omega)
  have P_14 := hid (P_13.out.below hB)
  have Q_14 := hid (Q_13.out.below hB)
  have PC_14 := hid (PC_13.out.below hB)
  have QC_14 := hid (QC_13.out.below hB)
  have C_14 := hid (C_13.out.below hB)
  have DP_14 := hid (DP_13.out.below hB)
  have HB_14 := hid (Below.steps HB_13.out hB)
  have X_14 := hid (hX.mono (show 21 + 21 + vdn + m ≤ 58 by omega))
  clear hB hX HB_13 P_13 Q_13 PC_13 QC_13 C_13 DP_13
  clear DP_14
  go_wp2_with fail
  refine (vDer_any v hv64 Q_14.out hlq (by omega) (by omega)).mono ?_
  rintro e w15 ⟨veo, ven, vec, rfl, hX, hB⟩
  rw [pln_raw hfq] at hX
  have een := hX.pc.len
  have P_15 := hid (P_14.out.below hB)
  have Q_15 := hid (Q_14.out.below hB)
  have PC_15 := hid (PC_14.out.below hB)
  have QC_15 := hid (QC_14.out.below hB)
  have C_15 := hid (C_14.out.below hB)
  have X_15 := hid (X_14.out.below hB)
  have HB_15 := hid (Below.steps HB_14.out hB)
  have DQ_15 := hid (hX.pc)
  clear hB hX HB_14 P_14 Q_14 PC_14 QC_14 C_14 X_14
  have edq := der_len v q
  have hnd : n * ven ≤ 64 := Nat.mul_le_mul hn (show ven ≤ 8 by omega)
  go_wp2_with fail
  refine (ptimes_any (K := 21) (PC_15.out.mono (by omega)) DQ_15.out hfp hdq (by omega) (by omega) (by omega) (by omega) (fitB_iff.2 hfd2)).mono ?_
  rintro e w16 ⟨vyo, vyn, vyc, rfl, hX, hB⟩
  have eyn := hX.len
  have ey2 := timesT_length p (derP q v)
  have hnd2 : p.length * (derP q v).length ≤ 64 := Nat.mul_le_mul (show _ ≤ 8 by omega) (show _ ≤ 8 by omega)
  have P_16 := hid (P_15.out.below hB)
  have Q_16 := hid (Q_15.out.below hB)
  have PC_16 := hid (PC_15.out.below hB)
  have QC_16 := hid (QC_15.out.below hB)
  have C_16 := hid (C_15.out.below hB)
  have X_16 := hid (X_15.out.below hB)
  have DQ_16 := hid (DQ_15.out.below hB)
  have HB_16 := hid (Below.steps HB_15.out hB)
  have Y_16 := hid (hX.mono (show 21 + 21 + n + ven ≤ 58 by omega))
  clear hB hX HB_15 P_15 Q_15 PC_15 QC_15 C_15 X_15 DQ_15
  clear DQ_16
  go_wp2_with fail
  refine (padd_any X_16.out Y_16.out (timesT_fall hdp hfq hfd1) (timesT_fall hfp hdq hfd2) (by omega) (by omega)).mono ?_
  rintro e w17 ⟨vzo, vzn, vzc, rfl, hX, hB⟩
  rw [← hder] at hX
  have P_17 := hid (P_16.out.below hB)
  have Q_17 := hid (Q_16.out.below hB)
  have PC_17 := hid (PC_16.out.below hB)
  have QC_17 := hid (QC_16.out.below hB)
  have C_17 := hid (C_16.out.below hB)
  have X_17 := hid (X_16.out.below hB)
  have Y_17 := hid (Y_16.out.below hB)
  have HB_17 := hid (Below.steps HB_16.out hB)
  have Z_17 := hid (hX)
  clear hB hX HB_16 P_16 Q_16 PC_16 QC_16 C_16 X_16 Y_16
  clear X_17
  clear Y_17
  go_wp2_with fail
  refine (padd_any PC_17.out QC_17.out hfp hfq (by omega) (by omega)).mono ?_
  rintro e w18 ⟨vso, vsn, vsc, rfl, hX, hB⟩
  have esn := hX.len
  have es2 := addT_length p q
  have P_18 := hid (P_17.out.below hB)
  have Q_18 := hid (Q_17.out.below hB)
  have PC_18 := hid (PC_17.out.below hB)
  have QC_18 := hid (QC_17.out.below hB)
  have C_18 := hid (C_17.out.below hB)
  have Z_18 := hid (Z_17.out.below hB)
  have HB_18 := hid (Below.steps HB_17.out hB)
  have S_18 := hid (hX)
  clear hB hX HB_17 P_17 Q_17 PC_17 QC_17 C_17 Z_17
  go_wp2_with fail
  refine (vDer_any v hv64 P_18.out hlp (by omega) (by omega)).mono ?_
  rintro e w19 ⟨vgo, vgn, vgc, rfl, hX, hB⟩
  rw [pln_raw hfp] at hX
  have egn := hX.pc.len
  have P_19 := hid (P_18.out.below hB)
  have Q_19 := hid (Q_18.out.below hB)
  have PC_19 := hid (PC_18.out.below hB)
  have QC_19 := hid (QC_18.out.below hB)
  have C_19 := hid (C_18.out.below hB)
  have Z_19 := hid (Z_18.out.below hB)
  have S_19 := hid (S_18.out.below hB)
  have HB_19 := hid (Below.steps HB_18.out hB)
  have DP_19 := hid (hX.pc)
  clear hB hX HB_18 P_18 Q_18 PC_18 QC_18 C_18 Z_18 S_18
  go_wp2_with fail
  refine (vDer_any v hv64 Q_19.out hlq (by omega) (by omega)).mono ?_
  rintro e w20 ⟨vho, vhn, vhc, rfl, hX, hB⟩
  rw [pln_raw hfq] at hX
  have ehn := hX.pc.len
  have P_20 := hid (P_19.out.below hB)
  have Q_20 := hid (Q_19.out.below hB)
  have PC_20 := hid (PC_19.out.below hB)
  have QC_20 := hid (QC_19.out.below hB)
  have C_20 := hid (C_19.out.below hB)
  have Z_20 := hid (Z_19.out.below hB)
  have S_20 := hid (S_19.out.below hB)
  have DP_20 := hid (DP_19.out.below hB)
  have HB_20 := hid (Below.steps HB_19.out hB)
  have DQ_20 := hid (hX.pc)
  clear hB hX HB_19 P_19 Q_19 PC_19 QC_19 C_19 Z_19 S_19 DP_19
  go_wp2_with fail
  refine (padd_any DP_20.out DQ_20.out hdp hdq (by omega) (by omega)).mono ?_
  rintro e w21 ⟨vto, vtn, vtc, rfl, hX, hB⟩
  rw [← der_add hfp hfq v] at hX
  have P_21 := hid (P_20.out.below hB)
  have Q_21 := hid (Q_20.out.below hB)
  have PC_21 := hid (PC_20.out.below hB)
  have QC_21 := hid (QC_20.out.below hB)
  have C_21 := hid (C_20.out.below hB)
  have Z_21 := hid (Z_20.out.below hB)
  have S_21 := hid (S_20.out.below hB)
  have DP_21 := hid (DP_20.out.below hB)
  have DQ_21 := hid (DQ_20.out.below hB)
  have HB_21 := hid (Below.steps HB_20.out hB)
  have TT_21 := hid (hX)
  clear hB hX HB_20 P_20 Q_20 PC_20 QC_20 C_20 Z_20 S_20 DP_20 DQ_20
  clear DP_21
  clear DQ_21
  go_wp2_with fail
  refine (vDer_any v hv64 C_21.out.raw hl3 (by omega) (by omega)).mono ?_
  rintro e w22 ⟨vqo, vqn, vqc, rfl, hX, hB⟩
  rw [pln_raw hct] at hX
  have eqn := hX.pc.len
  have P_22 := hid (P_21.out.below hB)
  have Q_22 := hid (Q_21.out.below hB)
  have PC_22 := hid (PC_21.out.below hB)
  have QC_22 := hid (QC_21.out.below hB)
  have C_22 := hid (C_21.out.below hB)
  have Z_22 := hid (Z_21.out.below hB)
  have S_22 := hid (S_21.out.below hB)
  have TT_22 := hid (TT_21.out.below hB)
  have HB_22 := hid (Below.steps HB_21.out hB)
  have DC_22 := hid (hX.pc)
  clear hB hX HB_21 P_21 Q_21 PC_21 QC_21 C_21 Z_21 S_21 TT_21
  go_wp2_with fail
  refine (psame_any true DC_22.out.raw Z_22.out.raw (decide_eq_true rfl)).mono ?_
  rintro e w23 ⟨rfl, hB⟩
  have P_23 := hid (P_22.out.below hB)
  have Q_23 := hid (Q_22.out.below hB)
  have PC_23 := hid (PC_22.out.below hB)
  have QC_23 := hid (QC_22.out.below hB)
  have C_23 := hid (C_22.out.below hB)
  have Z_23 := hid (Z_22.out.below hB)
  have S_23 := hid (S_22.out.below hB)
  have TT_23 := hid (TT_22.out.below hB)
  have DC_23 := hid (DC_22.out.below hB)
  have HB_23 := hid (Below.steps HB_22.out hB)
  clear hB  HB_22 P_22 Q_22 PC_22 QC_22 C_22 Z_22 S_22 TT_22 DC_22
  clear DC_23
  clear Z_23
  have hl4 : ∀ t ∈ (addT p q).map rawC, t.1.2.length ≤ 21 := S_23.out.lens
  have hst := (addT_spec hfp (fall_mays hfq)).1
  go_wp2_with fail
  refine (vDer_any v hv64 S_23.out.raw hl4 (by omega) (by omega)).mono ?_
  rintro e w24 ⟨vro, vrn, vrc, rfl, hX, hB⟩
  rw [pln_raw hst] at hX
  have ern := hX.pc.len
  have P_24 := hid (P_23.out.below hB)
  have Q_24 := hid (Q_23.out.below hB)
  have PC_24 := hid (PC_23.out.below hB)
  have QC_24 := hid (QC_23.out.below hB)
  have C_24 := hid (C_23.out.below hB)
  have S_24 := hid (S_23.out.below hB)
  have TT_24 := hid (TT_23.out.below hB)
  have HB_24 := hid (Below.steps HB_23.out hB)
  have DS_24 := hid (hX.pc)
  clear hB hX HB_23 P_23 Q_23 PC_23 QC_23 C_23 S_23 TT_23
  go_wp2_with fail
  refine (psame_any true DS_24.out.raw TT_24.out.raw (decide_eq_true rfl)).mono ?_
  rintro e w25 ⟨rfl, hB⟩
  have P_25 := hid (P_24.out.below hB)
  have Q_25 := hid (Q_24.out.below hB)
  have PC_25 := hid (PC_24.out.below hB)
  have QC_25 := hid (QC_24.out.below hB)
  have C_25 := hid (C_24.out.below hB)
  have S_25 := hid (S_24.out.below hB)
  have TT_25 := hid (TT_24.out.below hB)
  have DS_25 := hid (DS_24.out.below hB)
  have HB_25 := hid (Below.steps HB_24.out hB)
  clear hB  HB_24 P_24 Q_24 PC_24 QC_24 C_24 S_24 TT_24 DS_24
  go_wp2_with fail
  refine (known9_any _).mono ?_
  rintro e w26 ⟨rfl, hB⟩
  have P_26 := hid (P_25.out.below hB)
  have Q_26 := hid (Q_25.out.below hB)
  have PC_26 := hid (PC_25.out.below hB)
  have QC_26 := hid (QC_25.out.below hB)
  have C_26 := hid (C_25.out.below hB)
  have S_26 := hid (S_25.out.below hB)
  have TT_26 := hid (TT_25.out.below hB)
  have DS_26 := hid (DS_25.out.below hB)
  have HB_26 := hid (Below.steps HB_25.out hB)
  clear hB  HB_25 P_25 Q_25 PC_25 QC_25 C_25 S_25 TT_25 DS_25
  go_wp2_with fail
  go_ret
  exact ⟨rfl, HB_26.out⟩
end Go.Proofs.YtmaanhmdgmjhdaaGreat
