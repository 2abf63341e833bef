/-
  The law ViewTells, on any list of terms.
-/
import Derived.Test.YtmaanhmdgmjhdaaGreatVKn
import Derived.Test.YtmaanhmdgmjhdaaGreatGP8
set_option maxRecDepth 8192
namespace Go.Proofs.YtmaanhmdgmjhdaaGreat
open Lib (hid)
open Go.RowKit
set_option maxHeartbeats 16000000 in
set_option maxRecDepth 100000 in
theorem viewTells_great {ao : Option Addr} {n cap : Nat} {ps : List Raw} {w : World} (v e0 : Int) (hv64 : in64 v) (hp : Pr w ao n cap ps)
    (hg : greatR ps 20 = true) :
    Calls Tryz.prog 9 #[.slice ao n cap, .int .i64 v, .int .i64 e0] w (RetB (.bool true) w) := by
  have _ := v
  have _ := e0
  have _ := hv64
  have P_0 := hid hp
  have HB_0 := hid (Below.refl w.heap.size w)
  clear hp
  go_enter Tryz.func9, Tryz.ntmps9
  go_wp2_with fail
  refine (great_any8 true 20 P_0.out hg).mono ?_
  rintro e w1 ⟨rfl, hB⟩
  have P_1 := hid (P_0.out.below hB)
  have HB_1 := hid (Below.steps HB_0.out hB)
  clear hB  HB_0 P_0
  go_wp2_with fail
  refine (known9_any _).mono ?_
  rintro e w2 ⟨rfl, hB⟩
  have P_2 := hid (P_1.out.below hB)
  have HB_2 := hid (Below.steps HB_1.out hB)
  clear hB  HB_1 P_1
  go_wp2_with fail
  go_ret
  exact ⟨rfl, HB_2.out⟩
set_option maxHeartbeats 16000000 in
set_option maxRecDepth 100000 in
theorem viewTells_var {ao : Option Addr} {n cap : Nat} {ps : List Raw} {w : World} (v e0 : Int) (hv64 : in64 v) (hp : Pr w ao n cap ps)
    (hg : greatR ps 20 = false) (hpn : ps.length = n) (hn : n ≤ 20) (hl : ∀ t ∈ ps, t.1.2.length ≤ 20) (hv : 1 ≤ v ∧ v ≤ 200) :
    Calls Tryz.prog 9 #[.slice ao n cap, .int .i64 v, .int .i64 e0] w (RetB (.bool true) w) := by
  have _ := hn
  have P_0 := hid hp
  have HB_0 := hid (Below.refl w.heap.size w)
  have hl2 : ∀ t ∈ ps, t.1.2.length ≤ 1000 := fun t ht => Nat.le_trans (hl t ht) (by omega)
  have HF := hid (pln_fall hp.wfs)
  have hpl := pln_len ps
  rw [hp.len] at hpl
  clear hp
  have hva : decide (v ≥ 1) = true := decide_eq_true hv.1
  have hvb : decide (v ≤ 200) = true := decide_eq_true hv.2
  have hvc : decide (1 ≤ v) = true := decide_eq_true hv.1
  obtain ⟨p, hpp⟩ : ∃ p, plnR ps = p := ⟨_, rfl⟩
  rw [hpp] at HF hpl
  obtain ⟨c, hc⟩ : ∃ c, clsP p = c := ⟨_, rfl⟩
  obtain ⟨d, hd⟩ : ∃ d, degP p v = d := ⟨_, rfl⟩
  have hcc : (c == c) = true := beq_self_eq_true c
  have hddd : (d == d) = true := beq_self_eq_true d
  go_enter Tryz.func9, Tryz.ntmps9
  go_wp2_with fail
  refine (great_any8 false 20 P_0.out hg).mono ?_
  rintro e w1 ⟨rfl, hB⟩
  have P_1 := hid (P_0.out.below hB)
  have HB_1 := hid (Below.steps HB_0.out hB)
  clear hB  HB_0 P_0
  go_wp2_with fail
  refine (copy_any8 P_1.out (by omega)).mono ?_
  rintro e w2 ⟨xo, xn, xc, rfl, hX, hB⟩
  obtain rfl : n = xn := by rw [← hX.len, hpn]
  have P_2 := hid (P_1.out.below hB)
  have HB_2 := hid (Below.steps HB_1.out hB)
  have X_2 := hid (hX)
  clear hB hX HB_1 P_1
  go_wp2_with fail
  refine (plain9_any P_2.out hl (by omega) (by omega)).mono ?_
  rintro e w3 ⟨zo, zn, zc, rfl, hX, hB⟩
  rw [hpp] at hX
  have hzl := hX.len
  have P_3 := hid (P_2.out.below hB)
  have X_3 := hid (X_2.out.below hB)
  have HB_3 := hid (Below.steps HB_2.out hB)
  have Z_3 := hid (hX.mono (show 20 + n ≤ 40 by omega))
  clear hB hX HB_2 P_2 X_2
  go_wp2_with fail
  refine (rcoef_any v e0 Z_3.out HF.out (by omega) (by omega)).mono ?_
  rintro e w4 ⟨vao, van, vac, rfl, hX, hB⟩
  have hal := hX.len
  have hal2 := coef_len v e0 p
  have P_4 := hid (P_3.out.below hB)
  have X_4 := hid (X_3.out.below hB)
  have Z_4 := hid (Z_3.out.below hB)
  have HB_4 := hid (Below.steps HB_3.out hB)
  have CA_4 := hid (hX.mono (show 40 + zn ≤ 60 by omega))
  clear hB hX HB_3 P_3 X_3 Z_3
  go_wp2_with fail
  refine (rder_any v Z_4.out HF.out (by omega) (by omega)).mono ?_
  rintro e w5 ⟨vbo, vbn, vbc, rfl, hX, hB⟩
  have hbl := hX.len
  have hbl2 := der_len v p
  have P_5 := hid (P_4.out.below hB)
  have X_5 := hid (X_4.out.below hB)
  have Z_5 := hid (Z_4.out.below hB)
  have CA_5 := hid (CA_4.out.below hB)
  have HB_5 := hid (Below.steps HB_4.out hB)
  have DA_5 := hid (hX.mono (show 40 + 5 + zn ≤ 65 by omega))
  clear hB hX HB_4 P_4 X_4 Z_4 CA_4
  go_wp2_with fail
  refine (rdeg_any v d Z_5.out HF.out hd).mono ?_
  rintro e w6 ⟨rfl, hB⟩
  have P_6 := hid (P_5.out.below hB)
  have X_6 := hid (X_5.out.below hB)
  have Z_6 := hid (Z_5.out.below hB)
  have CA_6 := hid (CA_5.out.below hB)
  have DA_6 := hid (DA_5.out.below hB)
  have HB_6 := hid (Below.steps HB_5.out hB)
  clear hB  HB_5 P_5 X_5 Z_5 CA_5 DA_5
  go_wp2_with fail
  refine (vClass_any c X_6.out hl2 (by rw [hpp]; exact hc)).mono ?_
  rintro e w7 ⟨rfl, hB⟩
  have P_7 := hid (P_6.out.below hB)
  have X_7 := hid (X_6.out.below hB)
  have Z_7 := hid (Z_6.out.below hB)
  have CA_7 := hid (CA_6.out.below hB)
  have DA_7 := hid (DA_6.out.below hB)
  have HB_7 := hid (Below.steps HB_6.out hB)
  clear hB  HB_6 P_6 X_6 Z_6 CA_6 DA_6
  go_wp2_with fail
  refine (rcls_any c Z_7.out HF.out hc).mono ?_
  rintro e w8 ⟨rfl, hB⟩
  have P_8 := hid (P_7.out.below hB)
  have X_8 := hid (X_7.out.below hB)
  have Z_8 := hid (Z_7.out.below hB)
  have CA_8 := hid (CA_7.out.below hB)
  have DA_8 := hid (DA_7.out.below hB)
  have HB_8 := hid (Below.steps HB_7.out hB)
  clear hB  HB_7 P_7 X_7 Z_7 CA_7 DA_7
  go_wp2_with fail
  refine (vDegree_any v d X_8.out hl2 (by rw [hpp]; exact hd)).mono ?_
  rintro e w9 ⟨rfl, hB⟩
  have P_9 := hid (P_8.out.below hB)
  have X_9 := hid (X_8.out.below hB)
  have Z_9 := hid (Z_8.out.below hB)
  have CA_9 := hid (CA_8.out.below hB)
  have DA_9 := hid (DA_8.out.below hB)
  have HB_9 := hid (Below.steps HB_8.out hB)
  clear hB  HB_8 P_8 X_8 Z_8 CA_8 DA_8
  go_wp2_with fail
  refine (vInit_any X_9.out hl (by omega) (by omega)).mono ?_
  rintro e w10 ⟨veo, ven, vec, rfl, hX, hB⟩
  rw [hpp] at hX
  have P_10 := hid (P_9.out.below hB)
  have X_10 := hid (X_9.out.below hB)
  have Z_10 := hid (Z_9.out.below hB)
  have CA_10 := hid (CA_9.out.below hB)
  have DA_10 := hid (DA_9.out.below hB)
  have HB_10 := hid (Below.steps HB_9.out hB)
  have I_10 := hid (hX.pc)
  clear hB hX HB_9 P_9 X_9 Z_9 CA_9 DA_9
  go_wp2_with fail
  refine (rinit_any Z_10.out HF.out (by omega) (by omega)).mono ?_
  rintro e w11 ⟨vfo, vfn, vfc, rfl, hX, hB⟩
  have hfl := hX.len
  have hfl2 := init_len p
  have P_11 := hid (P_10.out.below hB)
  have X_11 := hid (X_10.out.below hB)
  have Z_11 := hid (Z_10.out.below hB)
  have CA_11 := hid (CA_10.out.below hB)
  have DA_11 := hid (DA_10.out.below hB)
  have I_11 := hid (I_10.out.below hB)
  have HB_11 := hid (Below.steps HB_10.out hB)
  have I2_11 := hid (hX)
  clear hB hX HB_10 P_10 X_10 Z_10 CA_10 DA_10 I_10
  go_wp2_with fail
  refine (poly_any8 I2_11.out (by omega) (by omega)).mono ?_
  rintro e w12 ⟨vgo, vgn, vgc, rfl, hX, hB⟩
  have P_12 := hid (P_11.out.below hB)
  have X_12 := hid (X_11.out.below hB)
  have Z_12 := hid (Z_11.out.below hB)
  have CA_12 := hid (CA_11.out.below hB)
  have DA_12 := hid (DA_11.out.below hB)
  have I_12 := hid (I_11.out.below hB)
  have I2_12 := hid (I2_11.out.below hB)
  have HB_12 := hid (Below.steps HB_11.out hB)
  have I3_12 := hid (hX)
  clear hB hX HB_11 P_11 X_11 Z_11 CA_11 DA_11 I_11 I2_11
  go_wp2_with fail
  refine (same_any8 true I_12.out.raw I3_12.out.raw (decide_eq_true rfl)).mono ?_
  rintro e w13 ⟨rfl, hB⟩
  have P_13 := hid (P_12.out.below hB)
  have X_13 := hid (X_12.out.below hB)
  have Z_13 := hid (Z_12.out.below hB)
  have CA_13 := hid (CA_12.out.below hB)
  have DA_13 := hid (DA_12.out.below hB)
  have I_13 := hid (I_12.out.below hB)
  have I2_13 := hid (I2_12.out.below hB)
  have I3_13 := hid (I3_12.out.below hB)
  have HB_13 := hid (Below.steps HB_12.out hB)
  clear hB  HB_12 P_12 X_12 Z_12 CA_12 DA_12 I_12 I2_12 I3_12
  clear I_13
  clear I2_13
  clear I3_13
  go_wp2_with fail
  refine (vTail_any X_13.out hl (by omega) (by omega)).mono ?_
  rintro e w14 ⟨vho, vhn, vhc, rfl, hX, hB⟩
  rw [hpp] at hX
  have P_14 := hid (P_13.out.below hB)
  have X_14 := hid (X_13.out.below hB)
  have Z_14 := hid (Z_13.out.below hB)
  have CA_14 := hid (CA_13.out.below hB)
  have DA_14 := hid (DA_13.out.below hB)
  have HB_14 := hid (Below.steps HB_13.out hB)
  have I_14 := hid (hX.pc)
  clear hB hX HB_13 P_13 X_13 Z_13 CA_13 DA_13
  go_wp2_with fail
  refine (rtail_any Z_14.out HF.out (by omega) (by omega)).mono ?_
  rintro e w15 ⟨vio, vin, vic, rfl, hX, hB⟩
  have htl := hX.len
  have htl2 : (tailP p).length ≤ p.length := List.length_filter_le _ _
  have P_15 := hid (P_14.out.below hB)
  have X_15 := hid (X_14.out.below hB)
  have Z_15 := hid (Z_14.out.below hB)
  have CA_15 := hid (CA_14.out.below hB)
  have DA_15 := hid (DA_14.out.below hB)
  have I_15 := hid (I_14.out.below hB)
  have HB_15 := hid (Below.steps HB_14.out hB)
  have I2_15 := hid (hX)
  clear hB hX HB_14 P_14 X_14 Z_14 CA_14 DA_14 I_14
  go_wp2_with fail
  refine (poly_any8 I2_15.out (by omega) (by omega)).mono ?_
  rintro e w16 ⟨vjo, vjn, vjc, rfl, hX, hB⟩
  have P_16 := hid (P_15.out.below hB)
  have X_16 := hid (X_15.out.below hB)
  have Z_16 := hid (Z_15.out.below hB)
  have CA_16 := hid (CA_15.out.below hB)
  have DA_16 := hid (DA_15.out.below hB)
  have I_16 := hid (I_15.out.below hB)
  have I2_16 := hid (I2_15.out.below hB)
  have HB_16 := hid (Below.steps HB_15.out hB)
  have I3_16 := hid (hX)
  clear hB hX HB_15 P_15 X_15 Z_15 CA_15 DA_15 I_15 I2_15
  go_wp2_with fail
  refine (same_any8 true I_16.out.raw I3_16.out.raw (decide_eq_true rfl)).mono ?_
  rintro e w17 ⟨rfl, hB⟩
  have P_17 := hid (P_16.out.below hB)
  have X_17 := hid (X_16.out.below hB)
  have Z_17 := hid (Z_16.out.below hB)
  have CA_17 := hid (CA_16.out.below hB)
  have DA_17 := hid (DA_16.out.below hB)
  have I_17 := hid (I_16.out.below hB)
  have I2_17 := hid (I2_16.out.below hB)
  have I3_17 := hid (I3_16.out.below hB)
  have HB_17 := hid (Below.steps HB_16.out hB)
  clear hB  HB_16 P_16 X_16 Z_16 CA_16 DA_16 I_16 I2_16 I3_16
  clear I_17
  clear I2_17
  clear I3_17
  go_wp2_with fail
  refine (vCoef_any v e0 X_17.out hl (by omega) (by omega)).mono ?_
  rintro e w18 ⟨vko, vkn, vkc, rfl, hX, hB⟩
  rw [hpp, show coefV p v e0 = coefP p v e0 from if_pos hv] at hX
  have P_18 := hid (P_17.out.below hB)
  have X_18 := hid (X_17.out.below hB)
  have Z_18 := hid (Z_17.out.below hB)
  have CA_18 := hid (CA_17.out.below hB)
  have DA_18 := hid (DA_17.out.below hB)
  have HB_18 := hid (Below.steps HB_17.out hB)
  have I_18 := hid (hX.pc)
  clear hB hX HB_17 P_17 X_17 Z_17 CA_17 DA_17
  go_wp2_with fail
  refine (poly_any8 CA_18.out (by omega) (by omega)).mono ?_
  rintro e w19 ⟨vlo, vln, vlc, rfl, hX, hB⟩
  have P_19 := hid (P_18.out.below hB)
  have X_19 := hid (X_18.out.below hB)
  have Z_19 := hid (Z_18.out.below hB)
  have CA_19 := hid (CA_18.out.below hB)
  have DA_19 := hid (DA_18.out.below hB)
  have I_19 := hid (I_18.out.below hB)
  have HB_19 := hid (Below.steps HB_18.out hB)
  have I3_19 := hid (hX)
  clear hB hX HB_18 P_18 X_18 Z_18 CA_18 DA_18 I_18
  go_wp2_with fail
  refine (same_any8 true I_19.out.raw I3_19.out.raw (decide_eq_true rfl)).mono ?_
  rintro e w20 ⟨rfl, hB⟩
  have P_20 := hid (P_19.out.below hB)
  have X_20 := hid (X_19.out.below hB)
  have Z_20 := hid (Z_19.out.below hB)
  have CA_20 := hid (CA_19.out.below hB)
  have DA_20 := hid (DA_19.out.below hB)
  have I_20 := hid (I_19.out.below hB)
  have I3_20 := hid (I3_19.out.below hB)
  have HB_20 := hid (Below.steps HB_19.out hB)
  clear hB  HB_19 P_19 X_19 Z_19 CA_19 DA_19 I_19 I3_19
  clear I_20
  clear I3_20
  clear CA_20
  go_wp2_with fail
  refine (vDer_any v hv64 X_20.out hl (by omega) (by omega)).mono ?_
  rintro e w21 ⟨vmo, vmn, vmc, rfl, hX, hB⟩
  rw [hpp] at hX
  have P_21 := hid (P_20.out.below hB)
  have X_21 := hid (X_20.out.below hB)
  have Z_21 := hid (Z_20.out.below hB)
  have DA_21 := hid (DA_20.out.below hB)
  have HB_21 := hid (Below.steps HB_20.out hB)
  have I_21 := hid (hX.pc)
  clear hB hX HB_20 P_20 X_20 Z_20 DA_20
  go_wp2_with fail
  refine (poly_any8 DA_21.out (by omega) (by omega)).mono ?_
  rintro e w22 ⟨vqo, vqn, vqc, rfl, hX, hB⟩
  have P_22 := hid (P_21.out.below hB)
  have X_22 := hid (X_21.out.below hB)
  have Z_22 := hid (Z_21.out.below hB)
  have DA_22 := hid (DA_21.out.below hB)
  have I_22 := hid (I_21.out.below hB)
  have HB_22 := hid (Below.steps HB_21.out hB)
  have I3_22 := hid (hX)
  clear hB hX HB_21 P_21 X_21 Z_21 DA_21 I_21
  go_wp2_with fail
  refine (same_any8 true I_22.out.raw I3_22.out.raw (decide_eq_true rfl)).mono ?_
  rintro e w23 ⟨rfl, hB⟩
  have P_23 := hid (P_22.out.below hB)
  have X_23 := hid (X_22.out.below hB)
  have Z_23 := hid (Z_22.out.below hB)
  have DA_23 := hid (DA_22.out.below hB)
  have I_23 := hid (I_22.out.below hB)
  have I3_23 := hid (I3_22.out.below hB)
  have HB_23 := hid (Below.steps HB_22.out hB)
  clear hB  HB_22 P_22 X_22 Z_22 DA_22 I_22 I3_22
  clear I_23
  clear I3_23
  clear DA_23
  go_wp2_with fail
  refine (same_any8 true X_23.out P_23.out (decide_eq_true rfl)).mono ?_
  rintro e w24 ⟨rfl, hB⟩
  have P_24 := hid (P_23.out.below hB)
  have X_24 := hid (X_23.out.below hB)
  have Z_24 := hid (Z_23.out.below hB)
  have HB_24 := hid (Below.steps HB_23.out hB)
  clear hB  HB_23 P_23 X_23 Z_23
  go_wp2_with fail
  refine (known9_any _).mono ?_
  rintro e w25 ⟨rfl, hB⟩
  have P_25 := hid (P_24.out.below hB)
  have X_25 := hid (X_24.out.below hB)
  have Z_25 := hid (Z_24.out.below hB)
  have HB_25 := hid (Below.steps HB_24.out hB)
  clear hB  HB_24 P_24 X_24 Z_24
  go_wp2_with fail
  go_ret
  exact ⟨rfl, HB_25.out⟩
set_option maxHeartbeats 16000000 in
set_option maxRecDepth 100000 in
theorem viewTells_low {ao : Option Addr} {n cap : Nat} {ps : List Raw} {w : World} (v e0 : Int) (hv64 : in64 v) (hp : Pr w ao n cap ps)
    (hg : greatR ps 20 = false) (hpn : ps.length = n) (hn : n ≤ 20) (hl : ∀ t ∈ ps, t.1.2.length ≤ 20) (hv : ¬ (1 ≤ v ∧ v ≤ 200)) (hlow : v < 1) :
    Calls Tryz.prog 9 #[.slice ao n cap, .int .i64 v, .int .i64 e0] w (RetB (.bool true) w) := by
  have _ := hn
  have _ := hlow
  have P_0 := hid hp
  have HB_0 := hid (Below.refl w.heap.size w)
  have hl2 : ∀ t ∈ ps, t.1.2.length ≤ 1000 := fun t ht => Nat.le_trans (hl t ht) (by omega)
  have HF := hid (pln_fall hp.wfs)
  have hpl := pln_len ps
  rw [hp.len] at hpl
  clear hp
  have hdz := degP_out (fall_mays HF.out) (show v < 1 ∨ 200 < v by omega)
  have hcz : coefV (plnR ps) v e0 = [] := if_neg hv
  have hrz := der_out (fall_mays HF.out) (show v < 1 ∨ 200 < v by omega)
  obtain ⟨p, hpp⟩ : ∃ p, plnR ps = p := ⟨_, rfl⟩
  rw [hpp] at HF hpl hdz hcz hrz
  obtain ⟨c, hc⟩ : ∃ c, clsP p = c := ⟨_, rfl⟩
  obtain ⟨d, hd⟩ : ∃ d, degP p v = d := ⟨_, rfl⟩
  have hcc : (c == c) = true := beq_self_eq_true c
  have hddd : (d == d) = true := beq_self_eq_true d
  have hva : decide (v ≥ 1) = false := decide_eq_false (by omega)
  have hvc : decide (1 ≤ v) = false := decide_eq_false (by omega)
  obtain rfl : d = 0 := by rw [← hd]; exact hdz
  clear hdz hddd
  have hddd : ((0 : Int) == 0) = true := rfl
  go_enter Tryz.func9, Tryz.ntmps9
  go_wp2_with fail
  refine (great_any8 false 20 P_0.out hg).mono ?_
  rintro e w1 ⟨rfl, hB⟩
  have P_1 := hid (P_0.out.below hB)
  have HB_1 := hid (Below.steps HB_0.out hB)
  clear hB  HB_0 P_0
  go_wp2_with fail
  refine (copy_any8 P_1.out (by omega)).mono ?_
  rintro e w2 ⟨xo, xn, xc, rfl, hX, hB⟩
  obtain rfl : n = xn := by rw [← hX.len, hpn]
  have P_2 := hid (P_1.out.below hB)
  have HB_2 := hid (Below.steps HB_1.out hB)
  have X_2 := hid (hX)
  clear hB hX HB_1 P_1
  go_wp2_with fail
  refine (plain9_any P_2.out hl (by omega) (by omega)).mono ?_
  rintro e w3 ⟨zo, zn, zc, rfl, hX, hB⟩
  rw [hpp] at hX
  have hzl := hX.len
  have P_3 := hid (P_2.out.below hB)
  have X_3 := hid (X_2.out.below hB)
  have HB_3 := hid (Below.steps HB_2.out hB)
  have Z_3 := hid (hX.mono (show 20 + n ≤ 40 by omega))
  clear hB hX HB_2 P_2 X_2
  go_wp2_with fail
  refine (vClass_any c X_3.out hl2 (by rw [hpp]; exact hc)).mono ?_
  rintro e w4 ⟨rfl, hB⟩
  have P_4 := hid (P_3.out.below hB)
  have X_4 := hid (X_3.out.below hB)
  have Z_4 := hid (Z_3.out.below hB)
  have HB_4 := hid (Below.steps HB_3.out hB)
  clear hB  HB_3 P_3 X_3 Z_3
  go_wp2_with fail
  refine (rcls_any c Z_4.out HF.out hc).mono ?_
  rintro e w5 ⟨rfl, hB⟩
  have P_5 := hid (P_4.out.below hB)
  have X_5 := hid (X_4.out.below hB)
  have Z_5 := hid (Z_4.out.below hB)
  have HB_5 := hid (Below.steps HB_4.out hB)
  clear hB  HB_4 P_4 X_4 Z_4
  go_wp2_with fail
  refine (vDegree_any v 0 X_5.out hl2 (by rw [hpp]; exact hd)).mono ?_
  rintro e w6 ⟨rfl, hB⟩
  have P_6 := hid (P_5.out.below hB)
  have X_6 := hid (X_5.out.below hB)
  have Z_6 := hid (Z_5.out.below hB)
  have HB_6 := hid (Below.steps HB_5.out hB)
  clear hB  HB_5 P_5 X_5 Z_5
  go_wp2_with fail
  refine (vInit_any X_6.out hl (by omega) (by omega)).mono ?_
  rintro e w7 ⟨veo, ven, vec, rfl, hX, hB⟩
  rw [hpp] at hX
  have P_7 := hid (P_6.out.below hB)
  have X_7 := hid (X_6.out.below hB)
  have Z_7 := hid (Z_6.out.below hB)
  have HB_7 := hid (Below.steps HB_6.out hB)
  have I_7 := hid (hX.pc)
  clear hB hX HB_6 P_6 X_6 Z_6
  go_wp2_with fail
  refine (rinit_any Z_7.out HF.out (by omega) (by omega)).mono ?_
  rintro e w8 ⟨vfo, vfn, vfc, rfl, hX, hB⟩
  have hfl := hX.len
  have hfl2 := init_len p
  have P_8 := hid (P_7.out.below hB)
  have X_8 := hid (X_7.out.below hB)
  have Z_8 := hid (Z_7.out.below hB)
  have I_8 := hid (I_7.out.below hB)
  have HB_8 := hid (Below.steps HB_7.out hB)
  have I2_8 := hid (hX)
  clear hB hX HB_7 P_7 X_7 Z_7 I_7
  go_wp2_with fail
  refine (poly_any8 I2_8.out (by omega) (by omega)).mono ?_
  rintro e w9 ⟨vgo, vgn, vgc, rfl, hX, hB⟩
  have P_9 := hid (P_8.out.below hB)
  have X_9 := hid (X_8.out.below hB)
  have Z_9 := hid (Z_8.out.below hB)
  have I_9 := hid (I_8.out.below hB)
  have I2_9 := hid (I2_8.out.below hB)
  have HB_9 := hid (Below.steps HB_8.out hB)
  have I3_9 := hid (hX)
  clear hB hX HB_8 P_8 X_8 Z_8 I_8 I2_8
  go_wp2_with fail
  refine (same_any8 true I_9.out.raw I3_9.out.raw (decide_eq_true rfl)).mono ?_
  rintro e w10 ⟨rfl, hB⟩
  have P_10 := hid (P_9.out.below hB)
  have X_10 := hid (X_9.out.below hB)
  have Z_10 := hid (Z_9.out.below hB)
  have I_10 := hid (I_9.out.below hB)
  have I2_10 := hid (I2_9.out.below hB)
  have I3_10 := hid (I3_9.out.below hB)
  have HB_10 := hid (Below.steps HB_9.out hB)
  clear hB  HB_9 P_9 X_9 Z_9 I_9 I2_9 I3_9
  clear I_10
  clear I2_10
  clear I3_10
  go_wp2_with fail
  refine (vTail_any X_10.out hl (by omega) (by omega)).mono ?_
  rintro e w11 ⟨vho, vhn, vhc, rfl, hX, hB⟩
  rw [hpp] at hX
  have P_11 := hid (P_10.out.below hB)
  have X_11 := hid (X_10.out.below hB)
  have Z_11 := hid (Z_10.out.below hB)
  have HB_11 := hid (Below.steps HB_10.out hB)
  have I_11 := hid (hX.pc)
  clear hB hX HB_10 P_10 X_10 Z_10
  go_wp2_with fail
  refine (rtail_any Z_11.out HF.out (by omega) (by omega)).mono ?_
  rintro e w12 ⟨vio, vin, vic, rfl, hX, hB⟩
  have htl := hX.len
  have htl2 : (tailP p).length ≤ p.length := List.length_filter_le _ _
  have P_12 := hid (P_11.out.below hB)
  have X_12 := hid (X_11.out.below hB)
  have Z_12 := hid (Z_11.out.below hB)
  have I_12 := hid (I_11.out.below hB)
  have HB_12 := hid (Below.steps HB_11.out hB)
  have I2_12 := hid (hX)
  clear hB hX HB_11 P_11 X_11 Z_11 I_11
  go_wp2_with fail
  refine (poly_any8 I2_12.out (by omega) (by omega)).mono ?_
  rintro e w13 ⟨vjo, vjn, vjc, rfl, hX, hB⟩
  have P_13 := hid (P_12.out.below hB)
  have X_13 := hid (X_12.out.below hB)
  have Z_13 := hid (Z_12.out.below hB)
  have I_13 := hid (I_12.out.below hB)
  have I2_13 := hid (I2_12.out.below hB)
  have HB_13 := hid (Below.steps HB_12.out hB)
  have I3_13 := hid (hX)
  clear hB hX HB_12 P_12 X_12 Z_12 I_12 I2_12
  go_wp2_with fail
  refine (same_any8 true I_13.out.raw I3_13.out.raw (decide_eq_true rfl)).mono ?_
  rintro e w14 ⟨rfl, hB⟩
  have P_14 := hid (P_13.out.below hB)
  have X_14 := hid (X_13.out.below hB)
  have Z_14 := hid (Z_13.out.below hB)
  have I_14 := hid (I_13.out.below hB)
  have I2_14 := hid (I2_13.out.below hB)
  have I3_14 := hid (I3_13.out.below hB)
  have HB_14 := hid (Below.steps HB_13.out hB)
  clear hB  HB_13 P_13 X_13 Z_13 I_13 I2_13 I3_13
  clear I_14
  clear I2_14
  clear I3_14
  go_wp2_with fail
  refine (vCoef_any v e0 X_14.out hl (by omega) (by omega)).mono ?_
  rintro e w15 ⟨vko, vkn, vkc, rfl, hX, hB⟩
  rw [hpp, hcz] at hX
  have P_15 := hid (P_14.out.below hB)
  have X_15 := hid (X_14.out.below hB)
  have Z_15 := hid (Z_14.out.below hB)
  have HB_15 := hid (Below.steps HB_14.out hB)
  have I_15 := hid (hX.pc)
  clear hB hX HB_14 P_14 X_14 Z_14
  go_wp2_with fail
  refine (poly_any8 (Pz.zero 0 _) (by omega) (by omega)).mono ?_
  rintro e w16 ⟨vlo, vln, vlc, rfl, hX, hB⟩
  have P_16 := hid (P_15.out.below hB)
  have X_16 := hid (X_15.out.below hB)
  have Z_16 := hid (Z_15.out.below hB)
  have I_16 := hid (I_15.out.below hB)
  have HB_16 := hid (Below.steps HB_15.out hB)
  have I3_16 := hid (hX)
  clear hB hX HB_15 P_15 X_15 Z_15 I_15
  go_wp2_with fail
  refine (same_any8 true I_16.out.raw I3_16.out.raw (decide_eq_true rfl)).mono ?_
  rintro e w17 ⟨rfl, hB⟩
  have P_17 := hid (P_16.out.below hB)
  have X_17 := hid (X_16.out.below hB)
  have Z_17 := hid (Z_16.out.below hB)
  have I_17 := hid (I_16.out.below hB)
  have I3_17 := hid (I3_16.out.below hB)
  have HB_17 := hid (Below.steps HB_16.out hB)
  clear hB  HB_16 P_16 X_16 Z_16 I_16 I3_16
  clear I_17
  clear I3_17
  go_wp2_with fail
  refine (vDer_any v hv64 X_17.out hl (by omega) (by omega)).mono ?_
  rintro e w18 ⟨vmo, vmn, vmc, rfl, hX, hB⟩
  rw [hpp, hrz] at hX
  have P_18 := hid (P_17.out.below hB)
  have X_18 := hid (X_17.out.below hB)
  have Z_18 := hid (Z_17.out.below hB)
  have HB_18 := hid (Below.steps HB_17.out hB)
  have I_18 := hid (hX.pc)
  clear hB hX HB_17 P_17 X_17 Z_17
  go_wp2_with fail
  refine (poly_any8 (Pz.zero 0 _) (by omega) (by omega)).mono ?_
  rintro e w19 ⟨vqo, vqn, vqc, rfl, hX, hB⟩
  have P_19 := hid (P_18.out.below hB)
  have X_19 := hid (X_18.out.below hB)
  have Z_19 := hid (Z_18.out.below hB)
  have I_19 := hid (I_18.out.below hB)
  have HB_19 := hid (Below.steps HB_18.out hB)
  have I3_19 := hid (hX)
  clear hB hX HB_18 P_18 X_18 Z_18 I_18
  go_wp2_with fail
  refine (same_any8 true I_19.out.raw I3_19.out.raw (decide_eq_true rfl)).mono ?_
  rintro e w20 ⟨rfl, hB⟩
  have P_20 := hid (P_19.out.below hB)
  have X_20 := hid (X_19.out.below hB)
  have Z_20 := hid (Z_19.out.below hB)
  have I_20 := hid (I_19.out.below hB)
  have I3_20 := hid (I3_19.out.below hB)
  have HB_20 := hid (Below.steps HB_19.out hB)
  clear hB  HB_19 P_19 X_19 Z_19 I_19 I3_19
  clear I_20
  clear I3_20
  go_wp2_with fail
  refine (same_any8 true X_20.out P_20.out (decide_eq_true rfl)).mono ?_
  rintro e w21 ⟨rfl, hB⟩
  have P_21 := hid (P_20.out.below hB)
  have X_21 := hid (X_20.out.below hB)
  have Z_21 := hid (Z_20.out.below hB)
  have HB_21 := hid (Below.steps HB_20.out hB)
  clear hB  HB_20 P_20 X_20 Z_20
  go_wp2_with fail
  refine (known9_any _).mono ?_
  rintro e w22 ⟨rfl, hB⟩
  have P_22 := hid (P_21.out.below hB)
  have X_22 := hid (X_21.out.below hB)
  have Z_22 := hid (Z_21.out.below hB)
  have HB_22 := hid (Below.steps HB_21.out hB)
  clear hB  HB_21 P_21 X_21 Z_21
  go_wp2_with fail
  go_ret
  exact ⟨rfl, HB_22.out⟩
set_option maxHeartbeats 16000000 in
set_option maxRecDepth 100000 in
theorem viewTells_high {ao : Option Addr} {n cap : Nat} {ps : List Raw} {w : World} (v e0 : Int) (hv64 : in64 v) (hp : Pr w ao n cap ps)
    (hg : greatR ps 20 = false) (hpn : ps.length = n) (hn : n ≤ 20) (hl : ∀ t ∈ ps, t.1.2.length ≤ 20) (hv : ¬ (1 ≤ v ∧ v ≤ 200)) (hhigh : 200 < v) :
    Calls Tryz.prog 9 #[.slice ao n cap, .int .i64 v, .int .i64 e0] w (RetB (.bool true) w) := by
  have _ := hn
  have _ := hhigh
  have P_0 := hid hp
  have HB_0 := hid (Below.refl w.heap.size w)
  have hl2 : ∀ t ∈ ps, t.1.2.length ≤ 1000 := fun t ht => Nat.le_trans (hl t ht) (by omega)
  have HF := hid (pln_fall hp.wfs)
  have hpl := pln_len ps
  rw [hp.len] at hpl
  clear hp
  have hdz := degP_out (fall_mays HF.out) (show v < 1 ∨ 200 < v by omega)
  have hcz : coefV (plnR ps) v e0 = [] := if_neg hv
  have hrz := der_out (fall_mays HF.out) (show v < 1 ∨ 200 < v by omega)
  obtain ⟨p, hpp⟩ : ∃ p, plnR ps = p := ⟨_, rfl⟩
  rw [hpp] at HF hpl hdz hcz hrz
  obtain ⟨c, hc⟩ : ∃ c, clsP p = c := ⟨_, rfl⟩
  obtain ⟨d, hd⟩ : ∃ d, degP p v = d := ⟨_, rfl⟩
  have hcc : (c == c) = true := beq_self_eq_true c
  have hddd : (d == d) = true := beq_self_eq_true d
  have hva : decide (v ≥ 1) = true := decide_eq_true (by omega)
  have hvc : decide (1 ≤ v) = true := decide_eq_true (by omega)
  have hvb : decide (v ≤ 200) = false := decide_eq_false (by omega)
  obtain rfl : d = 0 := by rw [← hd]; exact hdz
  clear hdz hddd
  have hddd : ((0 : Int) == 0) = true := rfl
  go_enter Tryz.func9, Tryz.ntmps9
  go_wp2_with fail
  refine (great_any8 false 20 P_0.out hg).mono ?_
  rintro e w1 ⟨rfl, hB⟩
  have P_1 := hid (P_0.out.below hB)
  have HB_1 := hid (Below.steps HB_0.out hB)
  clear hB  HB_0 P_0
  go_wp2_with fail
  refine (copy_any8 P_1.out (by omega)).mono ?_
  rintro e w2 ⟨xo, xn, xc, rfl, hX, hB⟩
  obtain rfl : n = xn := by rw [← hX.len, hpn]
  have P_2 := hid (P_1.out.below hB)
  have HB_2 := hid (Below.steps HB_1.out hB)
  have X_2 := hid (hX)
  clear hB hX HB_1 P_1
  go_wp2_with fail
  refine (plain9_any P_2.out hl (by omega) (by omega)).mono ?_
  rintro e w3 ⟨zo, zn, zc, rfl, hX, hB⟩
  rw [hpp] at hX
  have hzl := hX.len
  have P_3 := hid (P_2.out.below hB)
  have X_3 := hid (X_2.out.below hB)
  have HB_3 := hid (Below.steps HB_2.out hB)
  have Z_3 := hid (hX.mono (show 20 + n ≤ 40 by omega))
  clear hB hX HB_2 P_2 X_2
  go_wp2_with fail
  refine (vClass_any c X_3.out hl2 (by rw [hpp]; exact hc)).mono ?_
  rintro e w4 ⟨rfl, hB⟩
  have P_4 := hid (P_3.out.below hB)
  have X_4 := hid (X_3.out.below hB)
  have Z_4 := hid (Z_3.out.below hB)
  have HB_4 := hid (Below.steps HB_3.out hB)
  clear hB  HB_3 P_3 X_3 Z_3
  go_wp2_with fail
  refine (rcls_any c Z_4.out HF.out hc).mono ?_
  rintro e w5 ⟨rfl, hB⟩
  have P_5 := hid (P_4.out.below hB)
  have X_5 := hid (X_4.out.below hB)
  have Z_5 := hid (Z_4.out.below hB)
  have HB_5 := hid (Below.steps HB_4.out hB)
  clear hB  HB_4 P_4 X_4 Z_4
  go_wp2_with fail
  refine (vDegree_any v 0 X_5.out hl2 (by rw [hpp]; exact hd)).mono ?_
  rintro e w6 ⟨rfl, hB⟩
  have P_6 := hid (P_5.out.below hB)
  have X_6 := hid (X_5.out.below hB)
  have Z_6 := hid (Z_5.out.below hB)
  have HB_6 := hid (Below.steps HB_5.out hB)
  clear hB  HB_5 P_5 X_5 Z_5
  go_wp2_with fail
  refine (vInit_any X_6.out hl (by omega) (by omega)).mono ?_
  rintro e w7 ⟨veo, ven, vec, rfl, hX, hB⟩
  rw [hpp] at hX
  have P_7 := hid (P_6.out.below hB)
  have X_7 := hid (X_6.out.below hB)
  have Z_7 := hid (Z_6.out.below hB)
  have HB_7 := hid (Below.steps HB_6.out hB)
  have I_7 := hid (hX.pc)
  clear hB hX HB_6 P_6 X_6 Z_6
  go_wp2_with fail
  refine (rinit_any Z_7.out HF.out (by omega) (by omega)).mono ?_
  rintro e w8 ⟨vfo, vfn, vfc, rfl, hX, hB⟩
  have hfl := hX.len
  have hfl2 := init_len p
  have P_8 := hid (P_7.out.below hB)
  have X_8 := hid (X_7.out.below hB)
  have Z_8 := hid (Z_7.out.below hB)
  have I_8 := hid (I_7.out.below hB)
  have HB_8 := hid (Below.steps HB_7.out hB)
  have I2_8 := hid (hX)
  clear hB hX HB_7 P_7 X_7 Z_7 I_7
  go_wp2_with fail
  refine (poly_any8 I2_8.out (by omega) (by omega)).mono ?_
  rintro e w9 ⟨vgo, vgn, vgc, rfl, hX, hB⟩
  have P_9 := hid (P_8.out.below hB)
  have X_9 := hid (X_8.out.below hB)
  have Z_9 := hid (Z_8.out.below hB)
  have I_9 := hid (I_8.out.below hB)
  have I2_9 := hid (I2_8.out.below hB)
  have HB_9 := hid (Below.steps HB_8.out hB)
  have I3_9 := hid (hX)
  clear hB hX HB_8 P_8 X_8 Z_8 I_8 I2_8
  go_wp2_with fail
  refine (same_any8 true I_9.out.raw I3_9.out.raw (decide_eq_true rfl)).mono ?_
  rintro e w10 ⟨rfl, hB⟩
  have P_10 := hid (P_9.out.below hB)
  have X_10 := hid (X_9.out.below hB)
  have Z_10 := hid (Z_9.out.below hB)
  have I_10 := hid (I_9.out.below hB)
  have I2_10 := hid (I2_9.out.below hB)
  have I3_10 := hid (I3_9.out.below hB)
  have HB_10 := hid (Below.steps HB_9.out hB)
  clear hB  HB_9 P_9 X_9 Z_9 I_9 I2_9 I3_9
  clear I_10
  clear I2_10
  clear I3_10
  go_wp2_with fail
  refine (vTail_any X_10.out hl (by omega) (by omega)).mono ?_
  rintro e w11 ⟨vho, vhn, vhc, rfl, hX, hB⟩
  rw [hpp] at hX
  have P_11 := hid (P_10.out.below hB)
  have X_11 := hid (X_10.out.below hB)
  have Z_11 := hid (Z_10.out.below hB)
  have HB_11 := hid (Below.steps HB_10.out hB)
  have I_11 := hid (hX.pc)
  clear hB hX HB_10 P_10 X_10 Z_10
  go_wp2_with fail
  refine (rtail_any Z_11.out HF.out (by omega) (by omega)).mono ?_
  rintro e w12 ⟨vio, vin, vic, rfl, hX, hB⟩
  have htl := hX.len
  have htl2 : (tailP p).length ≤ p.length := List.length_filter_le _ _
  have P_12 := hid (P_11.out.below hB)
  have X_12 := hid (X_11.out.below hB)
  have Z_12 := hid (Z_11.out.below hB)
  have I_12 := hid (I_11.out.below hB)
  have HB_12 := hid (Below.steps HB_11.out hB)
  have I2_12 := hid (hX)
  clear hB hX HB_11 P_11 X_11 Z_11 I_11
  go_wp2_with fail
  refine (poly_any8 I2_12.out (by omega) (by omega)).mono ?_
  rintro e w13 ⟨vjo, vjn, vjc, rfl, hX, hB⟩
  have P_13 := hid (P_12.out.below hB)
  have X_13 := hid (X_12.out.below hB)
  have Z_13 := hid (Z_12.out.below hB)
  have I_13 := hid (I_12.out.below hB)
  have I2_13 := hid (I2_12.out.below hB)
  have HB_13 := hid (Below.steps HB_12.out hB)
  have I3_13 := hid (hX)
  clear hB hX HB_12 P_12 X_12 Z_12 I_12 I2_12
  go_wp2_with fail
  refine (same_any8 true I_13.out.raw I3_13.out.raw (decide_eq_true rfl)).mono ?_
  rintro e w14 ⟨rfl, hB⟩
  have P_14 := hid (P_13.out.below hB)
  have X_14 := hid (X_13.out.below hB)
  have Z_14 := hid (Z_13.out.below hB)
  have I_14 := hid (I_13.out.below hB)
  have I2_14 := hid (I2_13.out.below hB)
  have I3_14 := hid (I3_13.out.below hB)
  have HB_14 := hid (Below.steps HB_13.out hB)
  clear hB  HB_13 P_13 X_13 Z_13 I_13 I2_13 I3_13
  clear I_14
  clear I2_14
  clear I3_14
  go_wp2_with fail
  refine (vCoef_any v e0 X_14.out hl (by omega) (by omega)).mono ?_
  rintro e w15 ⟨vko, vkn, vkc, rfl, hX, hB⟩
  rw [hpp, hcz] at hX
  have P_15 := hid (P_14.out.below hB)
  have X_15 := hid (X_14.out.below hB)
  have Z_15 := hid (Z_14.out.below hB)
  have HB_15 := hid (Below.steps HB_14.out hB)
  have I_15 := hid (hX.pc)
  clear hB hX HB_14 P_14 X_14 Z_14
  go_wp2_with fail
  refine (poly_any8 (Pz.zero 0 _) (by omega) (by omega)).mono ?_
  rintro e w16 ⟨vlo, vln, vlc, rfl, hX, hB⟩
  have P_16 := hid (P_15.out.below hB)
  have X_16 := hid (X_15.out.below hB)
  have Z_16 := hid (Z_15.out.below hB)
  have I_16 := hid (I_15.out.below hB)
  have HB_16 := hid (Below.steps HB_15.out hB)
  have I3_16 := hid (hX)
  clear hB hX HB_15 P_15 X_15 Z_15 I_15
  go_wp2_with fail
  refine (same_any8 true I_16.out.raw I3_16.out.raw (decide_eq_true rfl)).mono ?_
  rintro e w17 ⟨rfl, hB⟩
  have P_17 := hid (P_16.out.below hB)
  have X_17 := hid (X_16.out.below hB)
  have Z_17 := hid (Z_16.out.below hB)
  have I_17 := hid (I_16.out.below hB)
  have I3_17 := hid (I3_16.out.below hB)
  have HB_17 := hid (Below.steps HB_16.out hB)
  clear hB  HB_16 P_16 X_16 Z_16 I_16 I3_16
  clear I_17
  clear I3_17
  go_wp2_with fail
  refine (vDer_any v hv64 X_17.out hl (by omega) (by omega)).mono ?_
  rintro e w18 ⟨vmo, vmn, vmc, rfl, hX, hB⟩
  rw [hpp, hrz] at hX
  have P_18 := hid (P_17.out.below hB)
  have X_18 := hid (X_17.out.below hB)
  have Z_18 := hid (Z_17.out.below hB)
  have HB_18 := hid (Below.steps HB_17.out hB)
  have I_18 := hid (hX.pc)
  clear hB hX HB_17 P_17 X_17 Z_17
  go_wp2_with fail
  refine (poly_any8 (Pz.zero 0 _) (by omega) (by omega)).mono ?_
  rintro e w19 ⟨vqo, vqn, vqc, rfl, hX, hB⟩
  have P_19 := hid (P_18.out.below hB)
  have X_19 := hid (X_18.out.below hB)
  have Z_19 := hid (Z_18.out.below hB)
  have I_19 := hid (I_18.out.below hB)
  have HB_19 := hid (Below.steps HB_18.out hB)
  have I3_19 := hid (hX)
  clear hB hX HB_18 P_18 X_18 Z_18 I_18
  go_wp2_with fail
  refine (same_any8 true I_19.out.raw I3_19.out.raw (decide_eq_true rfl)).mono ?_
  rintro e w20 ⟨rfl, hB⟩
  have P_20 := hid (P_19.out.below hB)
  have X_20 := hid (X_19.out.below hB)
  have Z_20 := hid (Z_19.out.below hB)
  have I_20 := hid (I_19.out.below hB)
  have I3_20 := hid (I3_19.out.below hB)
  have HB_20 := hid (Below.steps HB_19.out hB)
  clear hB  HB_19 P_19 X_19 Z_19 I_19 I3_19
  clear I_20
  clear I3_20
  go_wp2_with fail
  refine (same_any8 true X_20.out P_20.out (decide_eq_true rfl)).mono ?_
  rintro e w21 ⟨rfl, hB⟩
  have P_21 := hid (P_20.out.below hB)
  have X_21 := hid (X_20.out.below hB)
  have Z_21 := hid (Z_20.out.below hB)
  have HB_21 := hid (Below.steps HB_20.out hB)
  clear hB  HB_20 P_20 X_20 Z_20
  go_wp2_with fail
  refine (known9_any _).mono ?_
  rintro e w22 ⟨rfl, hB⟩
  have P_22 := hid (P_21.out.below hB)
  have X_22 := hid (X_21.out.below hB)
  have Z_22 := hid (Z_21.out.below hB)
  have HB_22 := hid (Below.steps HB_21.out hB)
  clear hB  HB_21 P_21 X_21 Z_21
  go_wp2_with fail
  go_ret
  exact ⟨rfl, HB_22.out⟩
theorem viewTells_any {ao : Option Addr} {n cap : Nat} {ps : List Raw} {w : World} (v e0 : Int) (hv64 : in64 v) (hp : Pr w ao n cap ps) :
    Calls Tryz.prog 9 #[.slice ao n cap, .int .i64 v, .int .i64 e0] w (RetB (.bool true) w) := by
  by_cases hg : greatR ps 20 = true
  · exact viewTells_great v e0 hv64 hp hg
  have hg : greatR ps 20 = false := by simpa using hg
  obtain ⟨g1, g2⟩ := great_facts hg
  have hpn := hp.len
  have hn : n ≤ 20 := by omega
  have hl : ∀ t ∈ ps, t.1.2.length ≤ 20 := fun t ht => (g2 t ht).1
  by_cases hv : 1 ≤ v ∧ v ≤ 200
  · exact viewTells_var v e0 hv64 hp hg hpn hn hl hv
  · by_cases h : v < 1
    · exact viewTells_low v e0 hv64 hp hg hpn hn hl hv h
    · exact viewTells_high v e0 hv64 hp hg hpn hn hl hv (by omega)
end Go.Proofs.YtmaanhmdgmjhdaaGreat
