/-
  The law PolyRing, both lists being polynomials.
-/
import Derived.Test.YtmaanhmdgmjhdaaGreatPolyRingB
set_option maxRecDepth 8192
namespace Go.Proofs.YtmaanhmdgmjhdaaGreat
open Lib (hid)
open Go.RowKit
set_option maxHeartbeats 16000000 in
set_option maxRecDepth 100000 in
theorem polyRing_nofit {ao bo : Option Addr} {n cap m cb : Nat} {p q : List Term} {w : World} (hp : Pr w ao n cap (p.map rawC)) (hq : Pr w bo m cb (q.map rawC)) (hg : greatR (p.map rawC) 20 = false) (hh : greatR (q.map rawC) 20 = false) (hpn : (p.map rawC).length = n) (hqn : (q.map rawC).length = m) (hn : n ≤ 20) (hm : m ≤ 20) (hlp : ∀ t ∈ p.map rawC, t.1.2.length ≤ 20) (hlq : ∀ t ∈ q.map rawC, t.1.2.length ≤ 20) (hfp : fall p) (hfq : fall q) (hf : fitB p q = false) (r : Bool) (hr : decide (p.map rawC = q.map rawC) = r) :
    Calls Tryz.prog 3 #[.slice ao n cap, .slice bo m cb] w (RetB (.bool true) w) := by
  have hrr : (r != r) = false := by simp
  have hf2 : ¬ fitT p q := fun h => by rw [fitB_iff.2 h] at hf; cases hf
  have P_0 := hid hp
  have Q_0 := hid hq
  have HB_0 := hid (Below.refl w.heap.size w)
  clear hp hq
  go_enter Tryz.func3, Tryz.ntmps3
  go_wp2_with fail
  refine (great_any8 false 20 P_0.out hg).mono ?_
  rintro e w1 ⟨rfl, hB⟩
  have P_1 := hid (P_0.out.below hB)
  have Q_1 := hid (Q_0.out.below hB)
  have HB_1 := hid (Below.steps HB_0.out hB)
  clear hB  HB_0 P_0 Q_0
  go_wp2_with fail
  refine (great_any8 false 20 Q_1.out hh).mono ?_
  rintro e w2 ⟨rfl, hB⟩
  have P_2 := hid (P_1.out.below hB)
  have Q_2 := hid (Q_1.out.below hB)
  have HB_2 := hid (Below.steps HB_1.out hB)
  clear hB  HB_1 P_1 Q_1
  go_wp2_with fail
  refine (copy_any8 P_2.out (by omega)).mono ?_
  rintro e w3 ⟨xo, xn, xc, rfl, hX, hB⟩
  obtain rfl : n = xn := by rw [← hX.len, hpn]
  have P_3 := hid (P_2.out.below hB)
  have Q_3 := hid (Q_2.out.below hB)
  have HB_3 := hid (Below.steps HB_2.out hB)
  have X_3 := hid (hX)
  clear hB hX HB_2 P_2 Q_2
  go_wp2_with fail
  refine (copy_any8 Q_3.out (by omega)).mono ?_
  rintro e w4 ⟨yo, yn, yc, rfl, hX, hB⟩
  obtain rfl : m = yn := by rw [← hX.len, hqn]
  have P_4 := hid (P_3.out.below hB)
  have Q_4 := hid (Q_3.out.below hB)
  have X_4 := hid (X_3.out.below hB)
  have HB_4 := hid (Below.steps HB_3.out hB)
  have Y_4 := hid (hX)
  clear hB hX HB_3 P_3 Q_3 X_3
  have hnm : n * m ≤ 400 := Nat.mul_le_mul hn hm
  have hp20 : p.length ≤ 20 := by have h := hpn; rw [List.length_map] at h; omega
  have hq20 : q.length ≤ 20 := by have h := hqn; rw [List.length_map] at h; omega
  have hpq : p.length * q.length ≤ 400 := Nat.mul_le_mul hp20 hq20
  have hlp2 : ∀ t ∈ p.map rawC, t.1.2.length ≤ 1000 := fun t ht => Nat.le_trans (hlp t ht) (by omega)
  have hlq2 : ∀ t ∈ q.map rawC, t.1.2.length ≤ 1000 := fun t ht => Nat.le_trans (hlq t ht) (by omega)
  have XC_4 := hid (Pr.pc X_4.out hlp)
  have YC_4 := hid (Pr.pc Y_4.out hlq)
  go_wp2_with fail
  refine (padd_any XC_4.out YC_4.out hfp hfq (by omega) (by omega)).mono ?_
  rintro e w5 ⟨vao, van, vac, rfl, hX, hB⟩
  have P_5 := hid (P_4.out.below hB)
  have Q_5 := hid (Q_4.out.below hB)
  have X_5 := hid (X_4.out.below hB)
  have Y_5 := hid (Y_4.out.below hB)
  have XC_5 := hid (XC_4.out.below hB)
  have YC_5 := hid (YC_4.out.below hB)
  have HB_5 := hid (Below.steps HB_4.out hB)
  have A_5 := hid (hX)
  clear hB hX HB_4 P_4 Q_4 X_4 Y_4 XC_4 YC_4
  go_wp2_with fail
  refine (psub_any XC_5.out YC_5.out hfp hfq (by omega) (by omega)).mono ?_
  rintro e w6 ⟨vbo, vbn, vbc, rfl, hX, hB⟩
  have P_6 := hid (P_5.out.below hB)
  have Q_6 := hid (Q_5.out.below hB)
  have X_6 := hid (X_5.out.below hB)
  have Y_6 := hid (Y_5.out.below hB)
  have XC_6 := hid (XC_5.out.below hB)
  have YC_6 := hid (YC_5.out.below hB)
  have A_6 := hid (A_5.out.below hB)
  have HB_6 := hid (Below.steps HB_5.out hB)
  have B_6 := hid (hX)
  clear hB hX HB_5 P_5 Q_5 X_5 Y_5 XC_5 YC_5 A_5
  go_wp2_with fail
  refine (pneg_any XC_6.out hfp (by omega) (by omega)).mono ?_
  rintro e w7 ⟨vco, vcn, vcc, rfl, hX, hB⟩
  have P_7 := hid (P_6.out.below hB)
  have Q_7 := hid (Q_6.out.below hB)
  have X_7 := hid (X_6.out.below hB)
  have Y_7 := hid (Y_6.out.below hB)
  have XC_7 := hid (XC_6.out.below hB)
  have YC_7 := hid (YC_6.out.below hB)
  have A_7 := hid (A_6.out.below hB)
  have B_7 := hid (B_6.out.below hB)
  have HB_7 := hid (Below.steps HB_6.out hB)
  have C_7 := hid (hX)
  clear hB hX HB_6 P_6 Q_6 X_6 Y_6 XC_6 YC_6 A_6 B_6
  go_wp2_with fail
  refine (ptimes_no XC_7.out YC_7.out hfp hfq (by omega) (by omega) (by omega) hf).mono ?_
  rintro e w8 ⟨vdo, vdn, vdc, rfl, hX, hB⟩
  obtain rfl : vdn = 0 := hX.len.symm
  clear hX
  have P_8 := hid (P_7.out.below hB)
  have Q_8 := hid (Q_7.out.below hB)
  have X_8 := hid (X_7.out.below hB)
  have Y_8 := hid (Y_7.out.below hB)
  have XC_8 := hid (XC_7.out.below hB)
  have YC_8 := hid (YC_7.out.below hB)
  have A_8 := hid (A_7.out.below hB)
  have B_8 := hid (B_7.out.below hB)
  have C_8 := hid (C_7.out.below hB)
  have HB_8 := hid (Below.steps HB_7.out hB)
  clear hB  HB_7 P_7 Q_7 X_7 Y_7 XC_7 YC_7 A_7 B_7 C_7
  go_wp2_with fail
  refine (may_any8 true P_8.out hlp2 (mayR_rawC hfp)).mono ?_
  rintro e w9 ⟨rfl, hB⟩
  have P_9 := hid (P_8.out.below hB)
  have Q_9 := hid (Q_8.out.below hB)
  have X_9 := hid (X_8.out.below hB)
  have Y_9 := hid (Y_8.out.below hB)
  have XC_9 := hid (XC_8.out.below hB)
  have YC_9 := hid (YC_8.out.below hB)
  have A_9 := hid (A_8.out.below hB)
  have B_9 := hid (B_8.out.below hB)
  have C_9 := hid (C_8.out.below hB)
  have HB_9 := hid (Below.steps HB_8.out hB)
  clear hB  HB_8 P_8 Q_8 X_8 Y_8 XC_8 YC_8 A_8 B_8 C_8
  go_wp2_with fail
  refine (may_any8 true Q_9.out hlq2 (mayR_rawC hfq)).mono ?_
  rintro e w10 ⟨rfl, hB⟩
  have P_10 := hid (P_9.out.below hB)
  have Q_10 := hid (Q_9.out.below hB)
  have X_10 := hid (X_9.out.below hB)
  have Y_10 := hid (Y_9.out.below hB)
  have XC_10 := hid (XC_9.out.below hB)
  have YC_10 := hid (YC_9.out.below hB)
  have A_10 := hid (A_9.out.below hB)
  have B_10 := hid (B_9.out.below hB)
  have C_10 := hid (C_9.out.below hB)
  have HB_10 := hid (Below.steps HB_9.out hB)
  clear hB  HB_9 P_9 Q_9 X_9 Y_9 XC_9 YC_9 A_9 B_9 C_9
  go_wp2_with fail
  refine (mayP_any XC_10.out hfp (by omega)).mono ?_
  rintro e w11 ⟨rfl, hB⟩
  have P_11 := hid (P_10.out.below hB)
  have Q_11 := hid (Q_10.out.below hB)
  have X_11 := hid (X_10.out.below hB)
  have Y_11 := hid (Y_10.out.below hB)
  have XC_11 := hid (XC_10.out.below hB)
  have YC_11 := hid (YC_10.out.below hB)
  have A_11 := hid (A_10.out.below hB)
  have B_11 := hid (B_10.out.below hB)
  have C_11 := hid (C_10.out.below hB)
  have HB_11 := hid (Below.steps HB_10.out hB)
  clear hB  HB_10 P_10 Q_10 X_10 Y_10 XC_10 YC_10 A_10 B_10 C_10
  go_wp2_with fail
  refine (psame_any r X_11.out Y_11.out hr).mono ?_
  rintro e w12 ⟨rfl, hB⟩
  have P_12 := hid (P_11.out.below hB)
  have Q_12 := hid (Q_11.out.below hB)
  have X_12 := hid (X_11.out.below hB)
  have Y_12 := hid (Y_11.out.below hB)
  have XC_12 := hid (XC_11.out.below hB)
  have YC_12 := hid (YC_11.out.below hB)
  have A_12 := hid (A_11.out.below hB)
  have B_12 := hid (B_11.out.below hB)
  have C_12 := hid (C_11.out.below hB)
  have HB_12 := hid (Below.steps HB_11.out hB)
  clear hB  HB_11 P_11 Q_11 X_11 Y_11 XC_11 YC_11 A_11 B_11 C_11
  go_wp2_with fail
  refine (same_any8 r P_12.out Q_12.out hr).mono ?_
  rintro e w13 ⟨rfl, hB⟩
  have P_13 := hid (P_12.out.below hB)
  have Q_13 := hid (Q_12.out.below hB)
  have X_13 := hid (X_12.out.below hB)
  have Y_13 := hid (Y_12.out.below hB)
  have XC_13 := hid (XC_12.out.below hB)
  have YC_13 := hid (YC_12.out.below hB)
  have A_13 := hid (A_12.out.below hB)
  have B_13 := hid (B_12.out.below hB)
  have C_13 := hid (C_12.out.below hB)
  have HB_13 := hid (Below.steps HB_12.out hB)
  clear hB  HB_12 P_12 Q_12 X_12 Y_12 XC_12 YC_12 A_12 B_12 C_12
  go_wp2_with fail
  refine (of_any8 (K := 20) (Pr.pc P_13.out hlp).inn (fall_mays hfp) (by omega) (by omega)).mono ?_
  rintro e w14 ⟨uo, un, uc, rfl, hX, hB⟩
  rw [ofT_fall hfp] at hX
  obtain rfl : n = un := by have h1 := hX.len; have h2 := hpn; simp at h2; omega
  have P_14 := hid (P_13.out.below hB)
  have Q_14 := hid (Q_13.out.below hB)
  have X_14 := hid (X_13.out.below hB)
  have Y_14 := hid (Y_13.out.below hB)
  have XC_14 := hid (XC_13.out.below hB)
  have YC_14 := hid (YC_13.out.below hB)
  have A_14 := hid (A_13.out.below hB)
  have B_14 := hid (B_13.out.below hB)
  have C_14 := hid (C_13.out.below hB)
  have HB_14 := hid (Below.steps HB_13.out hB)
  have U_14 := hid (hX)
  clear hB hX HB_13 P_13 Q_13 X_13 Y_13 XC_13 YC_13 A_13 B_13 C_13
  go_wp2_with fail
  refine (of_any8 (K := 20) (Pr.pc Q_14.out hlq).inn (fall_mays hfq) (by omega) (by omega)).mono ?_
  rintro e w15 ⟨zo, zn, zc, rfl, hX, hB⟩
  rw [ofT_fall hfq] at hX
  obtain rfl : m = zn := by have h1 := hX.len; have h2 := hqn; simp at h2; omega
  have P_15 := hid (P_14.out.below hB)
  have Q_15 := hid (Q_14.out.below hB)
  have X_15 := hid (X_14.out.below hB)
  have Y_15 := hid (Y_14.out.below hB)
  have XC_15 := hid (XC_14.out.below hB)
  have YC_15 := hid (YC_14.out.below hB)
  have A_15 := hid (A_14.out.below hB)
  have B_15 := hid (B_14.out.below hB)
  have C_15 := hid (C_14.out.below hB)
  have U_15 := hid (U_14.out.below hB)
  have HB_15 := hid (Below.steps HB_14.out hB)
  have V_15 := hid (hX)
  clear hB hX HB_14 P_14 Q_14 X_14 Y_14 XC_14 YC_14 A_14 B_14 C_14 U_14
  have htt := tryT_length p q
  go_wp2_with fail
  refine (times_any8 U_15.out V_15.out (fall_mays hfp) (fall_mays hfq) (by omega)).mono ?_
  rintro e w16 ⟨tpo, tpn, tpc, rfl, hX, hB⟩
  rw [tryT_no hf2] at hX
  rw [tryT_no hf2]
  have P_16 := hid (P_15.out.below hB)
  have Q_16 := hid (Q_15.out.below hB)
  have X_16 := hid (X_15.out.below hB)
  have Y_16 := hid (Y_15.out.below hB)
  have XC_16 := hid (XC_15.out.below hB)
  have YC_16 := hid (YC_15.out.below hB)
  have A_16 := hid (A_15.out.below hB)
  have B_16 := hid (B_15.out.below hB)
  have C_16 := hid (C_15.out.below hB)
  have U_16 := hid (U_15.out.below hB)
  have V_16 := hid (V_15.out.below hB)
  have HB_16 := hid (Below.steps HB_15.out hB)
  have PR_16 := hid (hX)
  clear hB hX HB_15 P_15 Q_15 X_15 Y_15 XC_15 YC_15 A_15 B_15 C_15 U_15 V_15
  go_wp2_with fail
  refine (add_any8 (U_16.out.mono (show 20 + n ≤ 40 by omega)) (V_16.out.mono (show 20 + m ≤ 40 by omega)) hfp (fall_mays hfq) (by omega) (by omega)).mono ?_
  rintro e w17 ⟨sao, san, sac, rfl, hX, hB⟩
  have hls := hX.len
  have hla := addT_length p q
  have P_17 := hid (P_16.out.below hB)
  have Q_17 := hid (Q_16.out.below hB)
  have X_17 := hid (X_16.out.below hB)
  have Y_17 := hid (Y_16.out.below hB)
  have XC_17 := hid (XC_16.out.below hB)
  have YC_17 := hid (YC_16.out.below hB)
  have A_17 := hid (A_16.out.below hB)
  have B_17 := hid (B_16.out.below hB)
  have C_17 := hid (C_16.out.below hB)
  have U_17 := hid (U_16.out.below hB)
  have V_17 := hid (V_16.out.below hB)
  have PR_17 := hid (PR_16.out.below hB)
  have HB_17 := hid (Below.steps HB_16.out hB)
  have SA_17 := hid (hX)
  clear hB hX HB_16 P_16 Q_16 X_16 Y_16 XC_16 YC_16 A_16 B_16 C_16 U_16 V_16 PR_16
  go_wp2_with fail
  refine (told_ok 0 A_17.out.raw SA_17.out (by omega) (by omega) rfl).mono ?_
  rintro e w18 ⟨rfl, hB⟩
  have P_18 := hid (P_17.out.below hB)
  have Q_18 := hid (Q_17.out.below hB)
  have X_18 := hid (X_17.out.below hB)
  have Y_18 := hid (Y_17.out.below hB)
  have XC_18 := hid (XC_17.out.below hB)
  have YC_18 := hid (YC_17.out.below hB)
  have A_18 := hid (A_17.out.below hB)
  have B_18 := hid (B_17.out.below hB)
  have C_18 := hid (C_17.out.below hB)
  have U_18 := hid (U_17.out.below hB)
  have V_18 := hid (V_17.out.below hB)
  have PR_18 := hid (PR_17.out.below hB)
  have SA_18 := hid (SA_17.out.below hB)
  have HB_18 := hid (Below.steps HB_17.out hB)
  clear hB  HB_17 P_17 Q_17 X_17 Y_17 XC_17 YC_17 A_17 B_17 C_17 U_17 V_17 PR_17 SA_17
  go_wp2_with fail
  refine (sub_any8 (U_18.out.mono (show 20 + n ≤ 40 by omega)) (V_18.out.mono (show 20 + m ≤ 40 by omega)) hfp (fall_mays hfq) (by omega) (by omega)).mono ?_
  rintro e w19 ⟨sbo, sbn, sbc, rfl, hX, hB⟩
  have hlb := hX.len
  have hlb2 := subT_length p q
  have P_19 := hid (P_18.out.below hB)
  have Q_19 := hid (Q_18.out.below hB)
  have X_19 := hid (X_18.out.below hB)
  have Y_19 := hid (Y_18.out.below hB)
  have XC_19 := hid (XC_18.out.below hB)
  have YC_19 := hid (YC_18.out.below hB)
  have A_19 := hid (A_18.out.below hB)
  have B_19 := hid (B_18.out.below hB)
  have C_19 := hid (C_18.out.below hB)
  have U_19 := hid (U_18.out.below hB)
  have V_19 := hid (V_18.out.below hB)
  have PR_19 := hid (PR_18.out.below hB)
  have SA_19 := hid (SA_18.out.below hB)
  have HB_19 := hid (Below.steps HB_18.out hB)
  have SB_19 := hid (hX)
  clear hB hX HB_18 P_18 Q_18 X_18 Y_18 XC_18 YC_18 A_18 B_18 C_18 U_18 V_18 PR_18 SA_18
  go_wp2_with fail
  refine (told_ok 0 B_19.out.raw SB_19.out (by omega) (by omega) rfl).mono ?_
  rintro e w20 ⟨rfl, hB⟩
  have P_20 := hid (P_19.out.below hB)
  have Q_20 := hid (Q_19.out.below hB)
  have X_20 := hid (X_19.out.below hB)
  have Y_20 := hid (Y_19.out.below hB)
  have XC_20 := hid (XC_19.out.below hB)
  have YC_20 := hid (YC_19.out.below hB)
  have A_20 := hid (A_19.out.below hB)
  have B_20 := hid (B_19.out.below hB)
  have C_20 := hid (C_19.out.below hB)
  have U_20 := hid (U_19.out.below hB)
  have V_20 := hid (V_19.out.below hB)
  have PR_20 := hid (PR_19.out.below hB)
  have SA_20 := hid (SA_19.out.below hB)
  have SB_20 := hid (SB_19.out.below hB)
  have HB_20 := hid (Below.steps HB_19.out hB)
  clear hB  HB_19 P_19 Q_19 X_19 Y_19 XC_19 YC_19 A_19 B_19 C_19 U_19 V_19 PR_19 SA_19 SB_19
  go_wp2_with fail
  refine (neg_any8 U_20.out (by omega) (by omega)).mono ?_
  rintro e w21 ⟨sco, scn, scc, rfl, hX, hB⟩
  have hlc := hX.len
  rw [neg_len] at hlc
  have P_21 := hid (P_20.out.below hB)
  have Q_21 := hid (Q_20.out.below hB)
  have X_21 := hid (X_20.out.below hB)
  have Y_21 := hid (Y_20.out.below hB)
  have XC_21 := hid (XC_20.out.below hB)
  have YC_21 := hid (YC_20.out.below hB)
  have A_21 := hid (A_20.out.below hB)
  have B_21 := hid (B_20.out.below hB)
  have C_21 := hid (C_20.out.below hB)
  have U_21 := hid (U_20.out.below hB)
  have V_21 := hid (V_20.out.below hB)
  have PR_21 := hid (PR_20.out.below hB)
  have SA_21 := hid (SA_20.out.below hB)
  have SB_21 := hid (SB_20.out.below hB)
  have HB_21 := hid (Below.steps HB_20.out hB)
  have SC_21 := hid (hX)
  clear hB hX HB_20 P_20 Q_20 X_20 Y_20 XC_20 YC_20 A_20 B_20 C_20 U_20 V_20 PR_20 SA_20 SB_20
  go_wp2_with fail
  refine (told_ok 0 C_21.out.raw SC_21.out (by omega) (by omega) (by rw [sub_nil hfp])).mono ?_
  rintro e w22 ⟨rfl, hB⟩
  have P_22 := hid (P_21.out.below hB)
  have Q_22 := hid (Q_21.out.below hB)
  have X_22 := hid (X_21.out.below hB)
  have Y_22 := hid (Y_21.out.below hB)
  have XC_22 := hid (XC_21.out.below hB)
  have YC_22 := hid (YC_21.out.below hB)
  have A_22 := hid (A_21.out.below hB)
  have B_22 := hid (B_21.out.below hB)
  have C_22 := hid (C_21.out.below hB)
  have U_22 := hid (U_21.out.below hB)
  have V_22 := hid (V_21.out.below hB)
  have PR_22 := hid (PR_21.out.below hB)
  have SA_22 := hid (SA_21.out.below hB)
  have SB_22 := hid (SB_21.out.below hB)
  have SC_22 := hid (SC_21.out.below hB)
  have HB_22 := hid (Below.steps HB_21.out hB)
  clear hB  HB_21 P_21 Q_21 X_21 Y_21 XC_21 YC_21 A_21 B_21 C_21 U_21 V_21 PR_21 SA_21 SB_21 SC_21
  go_wp2_with fail
  refine (told_no 8).mono ?_
  rintro e w23 ⟨rfl, hB⟩
  have P_23 := hid (P_22.out.below hB)
  have Q_23 := hid (Q_22.out.below hB)
  have X_23 := hid (X_22.out.below hB)
  have Y_23 := hid (Y_22.out.below hB)
  have XC_23 := hid (XC_22.out.below hB)
  have YC_23 := hid (YC_22.out.below hB)
  have A_23 := hid (A_22.out.below hB)
  have B_23 := hid (B_22.out.below hB)
  have C_23 := hid (C_22.out.below hB)
  have U_23 := hid (U_22.out.below hB)
  have V_23 := hid (V_22.out.below hB)
  have PR_23 := hid (PR_22.out.below hB)
  have SA_23 := hid (SA_22.out.below hB)
  have SB_23 := hid (SB_22.out.below hB)
  have SC_23 := hid (SC_22.out.below hB)
  have HB_23 := hid (Below.steps HB_22.out hB)
  clear hB  HB_22 P_22 Q_22 X_22 Y_22 XC_22 YC_22 A_22 B_22 C_22 U_22 V_22 PR_22 SA_22 SB_22 SC_22
  go_wp2_with fail
  refine (same_any8 true X_23.out P_23.out (decide_eq_true rfl)).mono ?_
  rintro e w24 ⟨rfl, hB⟩
  have P_24 := hid (P_23.out.below hB)
  have Q_24 := hid (Q_23.out.below hB)
  have X_24 := hid (X_23.out.below hB)
  have Y_24 := hid (Y_23.out.below hB)
  have XC_24 := hid (XC_23.out.below hB)
  have YC_24 := hid (YC_23.out.below hB)
  have A_24 := hid (A_23.out.below hB)
  have B_24 := hid (B_23.out.below hB)
  have C_24 := hid (C_23.out.below hB)
  have U_24 := hid (U_23.out.below hB)
  have V_24 := hid (V_23.out.below hB)
  have PR_24 := hid (PR_23.out.below hB)
  have SA_24 := hid (SA_23.out.below hB)
  have SB_24 := hid (SB_23.out.below hB)
  have SC_24 := hid (SC_23.out.below hB)
  have HB_24 := hid (Below.steps HB_23.out hB)
  clear hB  HB_23 P_23 Q_23 X_23 Y_23 XC_23 YC_23 A_23 B_23 C_23 U_23 V_23 PR_23 SA_23 SB_23 SC_23
  go_wp2_with fail
  refine (same_any8 true Y_24.out Q_24.out (decide_eq_true rfl)).mono ?_
  rintro e w25 ⟨rfl, hB⟩
  have P_25 := hid (P_24.out.below hB)
  have Q_25 := hid (Q_24.out.below hB)
  have X_25 := hid (X_24.out.below hB)
  have Y_25 := hid (Y_24.out.below hB)
  have XC_25 := hid (XC_24.out.below hB)
  have YC_25 := hid (YC_24.out.below hB)
  have A_25 := hid (A_24.out.below hB)
  have B_25 := hid (B_24.out.below hB)
  have C_25 := hid (C_24.out.below hB)
  have U_25 := hid (U_24.out.below hB)
  have V_25 := hid (V_24.out.below hB)
  have PR_25 := hid (PR_24.out.below hB)
  have SA_25 := hid (SA_24.out.below hB)
  have SB_25 := hid (SB_24.out.below hB)
  have SC_25 := hid (SC_24.out.below hB)
  have HB_25 := hid (Below.steps HB_24.out hB)
  clear hB  HB_24 P_24 Q_24 X_24 Y_24 XC_24 YC_24 A_24 B_24 C_24 U_24 V_24 PR_24 SA_24 SB_24 SC_24
  go_wp2_with fail
  refine (known8_any _).mono ?_
  rintro e w26 ⟨rfl, hB⟩
  have P_26 := hid (P_25.out.below hB)
  have Q_26 := hid (Q_25.out.below hB)
  have X_26 := hid (X_25.out.below hB)
  have Y_26 := hid (Y_25.out.below hB)
  have XC_26 := hid (XC_25.out.below hB)
  have YC_26 := hid (YC_25.out.below hB)
  have A_26 := hid (A_25.out.below hB)
  have B_26 := hid (B_25.out.below hB)
  have C_26 := hid (C_25.out.below hB)
  have U_26 := hid (U_25.out.below hB)
  have V_26 := hid (V_25.out.below hB)
  have PR_26 := hid (PR_25.out.below hB)
  have SA_26 := hid (SA_25.out.below hB)
  have SB_26 := hid (SB_25.out.below hB)
  have SC_26 := hid (SC_25.out.below hB)
  have HB_26 := hid (Below.steps HB_25.out hB)
  clear hB  HB_25 P_25 Q_25 X_25 Y_25 XC_25 YC_25 A_25 B_25 C_25 U_25 V_25 PR_25 SA_25 SB_25 SC_25
  go_wp2_with fail
  go_ret
  exact ⟨rfl, HB_26.out⟩
end Go.Proofs.YtmaanhmdgmjhdaaGreat
