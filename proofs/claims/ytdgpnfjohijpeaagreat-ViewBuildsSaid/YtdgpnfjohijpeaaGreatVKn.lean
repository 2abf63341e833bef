/-
  The contracts of porismlaw09.known (true) and plain.
-/
import Derived.Test.YtdgpnfjohijpeaaGreatGVR
set_option maxHeartbeats 40000000
set_option maxRecDepth 100000
namespace Go.Proofs.YtdgpnfjohijpeaaGreat
open Lib (hid)
open Go.RowKit
def k9A : List Term := [(1, [(1, 1)]), (3, [])]
def k9B : List Term := [(1, [(2, 2)])]
def k9C : List Term := [(1, [(1, 1), (2, 2)]), (3, [(2, 2)])]
def k9D : List Term := [(5, [(1, 1)])]
def k9P : List Term := [(1, [(1, 1), (2, 2)]), (3, [(2, 2)]), (5, [(1, 1)])]
theorem k9A_fall : fall k9A := fall_of_dec (by decide +kernel) (by decide +kernel)
theorem k9B_fall : fall k9B := fall_of_dec (by decide +kernel) (by decide +kernel)
theorem k9C_fall : fall k9C := fall_of_dec (by decide +kernel) (by decide +kernel)
theorem k9D_fall : fall k9D := fall_of_dec (by decide +kernel) (by decide +kernel)
theorem k9P_fall : fall k9P := fall_of_dec (by decide +kernel) (by decide +kernel)
theorem k9_A : addT kx (smallT 3) = k9A := by decide +kernel
theorem k9_B : (tryT ky ky).1 = k9B := by decide +kernel
theorem k9_C : (tryT k9A k9B).1 = k9C := by decide +kernel
theorem k9_D : (tryT (smallT 5) kx).1 = k9D := by decide +kernel
theorem k9_P : addT k9C k9D = k9P := by decide +kernel
theorem k9_I : initP k9P = k9A := by decide +kernel
theorem k9_T : tailP k9P = k9D := by decide +kernel
theorem k9_DR : derP k9P 2 = [(2, [(1, 1), (2, 1)]), (6, [(2, 1)])] := by decide +kernel
theorem k9_cls : clsP k9P = 2 := by decide +kernel
theorem k9_c7 : clsP (smallT 7) = 0 := by decide +kernel
theorem known9_any (w : World) : Calls Tryz.prog 7 #[] w (RetB (.bool true) w) := by
 have HB_0 := hid (Below.refl w.heap.size w)
 go_enter Tryz.func7, Tryz.ntmps7
 go_wp2_with fail
 refine (x_any8 1 _ (by unfold in64; omega)).mono ?_
 rintro e w1 ⟨vxo, vxn, vxc, rfl, hX, hB⟩; rw [← kx] at hX
 obtain rfl : vxn = 1 := hX.len.symm.trans (by decide +kernel)
 have HB_1 := hid (Below.steps HB_0.out hB); have X_1 := hid (hX); clear hB hX HB_0; go_wp2_with fail
 refine (x_any8 2 _ (by unfold in64; omega)).mono ?_
 rintro e w2 ⟨vyo, vyn, vyc, rfl, hX, hB⟩; rw [← ky] at hX
 obtain rfl : vyn = 1 := hX.len.symm.trans (by decide +kernel)
 have X_2 := hid (X_1.out.below hB); have HB_2 := hid (Below.steps HB_1.out hB); have Y_2 := hid (hX); clear hB hX HB_1 X_1; go_wp2_with fail
 refine (small_any8 3 _ (by omega)).mono ?_
 rintro e w3 ⟨vso, vsn, vsc, rfl, hX, hB⟩
 obtain rfl : vsn = 1 := hX.len.symm.trans (by decide +kernel)
 have X_3 := hid (X_2.out.below hB); have Y_3 := hid (Y_2.out.below hB); have HB_3 := hid (Below.steps HB_2.out hB); have S3_3 := hid (hX); clear hB hX HB_2 X_2 Y_2; go_wp2_with fail
 refine (add_any8 (X_3.out.mono (show 2 ≤ 3 by omega)) S3_3.out kx_fall (fall_mays (smallT_fall 3)) (by omega) (by omega)).mono ?_
 rintro e w4 ⟨vao, van, vac, rfl, hX, hB⟩; rw [k9_A] at hX
 obtain rfl : van = 2 := hX.len.symm.trans (by decide +kernel)
 have X_4 := hid (X_3.out.below hB); have Y_4 := hid (Y_3.out.below hB); have S3_4 := hid (S3_3.out.below hB); have HB_4 := hid (Below.steps HB_3.out hB); have A_4 := hid (hX); clear hB hX HB_3 X_3 Y_3 S3_3; go_wp2_with fail
 refine (mul_any8 Y_4.out Y_4.out (fall_mays ky_fall) (fall_mays ky_fall) (by omega)).mono ?_
 rintro e w5 ⟨vbo, vbn, vbc, rfl, hX, hB⟩; rw [k9_B] at hX
 obtain rfl : vbn = 1 := hX.len.symm.trans (by decide +kernel)
 have X_5 := hid (X_4.out.below hB); have Y_5 := hid (Y_4.out.below hB); have S3_5 := hid (S3_4.out.below hB); have A_5 := hid (A_4.out.below hB); have HB_5 := hid (Below.steps HB_4.out hB); have B_5 := hid (hX); clear hB hX HB_4 X_4 Y_4 S3_4 A_4; go_wp2_with fail
 refine (mul_any8 A_5.out B_5.out (fall_mays k9A_fall) (fall_mays k9B_fall) (by omega)).mono ?_
 rintro e w6 ⟨vco, vcn, vcc, rfl, hX, hB⟩; rw [k9_C] at hX
 obtain rfl : vcn = 2 := hX.len.symm.trans (by decide +kernel)
 have X_6 := hid (X_5.out.below hB); have Y_6 := hid (Y_5.out.below hB); have S3_6 := hid (S3_5.out.below hB); have A_6 := hid (A_5.out.below hB); have B_6 := hid (B_5.out.below hB); have HB_6 := hid (Below.steps HB_5.out hB); have C_6 := hid (hX); clear hB hX HB_5 X_5 Y_5 S3_5 A_5 B_5; go_wp2_with fail
 refine (small_any8 5 _ (by omega)).mono ?_
 rintro e w7 ⟨vto, vtn, vtc, rfl, hX, hB⟩
 obtain rfl : vtn = 1 := hX.len.symm.trans (by decide +kernel)
 have X_7 := hid (X_6.out.below hB); have Y_7 := hid (Y_6.out.below hB); have S3_7 := hid (S3_6.out.below hB); have A_7 := hid (A_6.out.below hB); have B_7 := hid (B_6.out.below hB); have C_7 := hid (C_6.out.below hB); have HB_7 := hid (Below.steps HB_6.out hB); have S5_7 := hid (hX); clear hB hX HB_6 X_6 Y_6 S3_6 A_6 B_6 C_6; go_wp2_with fail
 refine (mul_any8 S5_7.out X_7.out (fall_mays (smallT_fall 5)) (fall_mays kx_fall) (by omega)).mono ?_
 rintro e w8 ⟨vdo, vdn, vdc, rfl, hX, hB⟩; rw [k9_D] at hX
 obtain rfl : vdn = 1 := hX.len.symm.trans (by decide +kernel)
 have X_8 := hid (X_7.out.below hB); have Y_8 := hid (Y_7.out.below hB); have S3_8 := hid (S3_7.out.below hB); have A_8 := hid (A_7.out.below hB); have B_8 := hid (B_7.out.below hB); have C_8 := hid (C_7.out.below hB); have S5_8 := hid (S5_7.out.below hB); have HB_8 := hid (Below.steps HB_7.out hB); have D_8 := hid (hX); clear hB hX HB_7 X_7 Y_7 S3_7 A_7 B_7 C_7 S5_7; go_wp2_with fail
 refine (add_any8 (K := 20) (C_8.out.mono (by omega)) (D_8.out.mono (by omega)) k9C_fall (fall_mays k9D_fall) (by omega) (by omega)).mono ?_
 rintro e w9 ⟨vpo, vpn, vpc, rfl, hX, hB⟩; rw [k9_P] at hX
 obtain rfl : vpn = 3 := hX.len.symm.trans (by decide +kernel)
 have X_9 := hid (X_8.out.below hB); have Y_9 := hid (Y_8.out.below hB); have S3_9 := hid (S3_8.out.below hB); have A_9 := hid (A_8.out.below hB); have B_9 := hid (B_8.out.below hB); have C_9 := hid (C_8.out.below hB); have S5_9 := hid (S5_8.out.below hB); have D_9 := hid (D_8.out.below hB); have HB_9 := hid (Below.steps HB_8.out hB); have P_9 := hid (hX); clear hB hX HB_8 X_8 Y_8 S3_8 A_8 B_8 C_8 S5_8 D_8; clear Y_9; clear S3_9; clear A_9; clear B_9; clear C_9; clear S5_9; clear D_9; go_wp2_with fail
 refine (poly_any8 P_9.out (by omega) (by omega)).mono ?_
 rintro e w10 ⟨veo, ven, vec, rfl, hX, hB⟩
 obtain rfl : ven = 3 := hX.len.symm.trans (by decide +kernel)
 have X_10 := hid (X_9.out.below hB); have P_10 := hid (P_9.out.below hB); have HB_10 := hid (Below.steps HB_9.out hB); have PP_10 := hid (hX); clear hB hX HB_9 X_9 P_9
 have hkl : ∀ t ∈ k9P.map rawC, t.1.2.length ≤ 21 := PP_10.out.lens
 go_wp2_with fail
 refine (vInit_any PP_10.out.raw hkl (by omega) (by omega)).mono ?_
 rintro e w11 ⟨vio, vin, vic, rfl, hX, hB⟩; rw [pln_raw k9P_fall, k9_I] at hX
 obtain rfl : vin = 2 := hX.len.symm.trans (by decide +kernel)
 have X_11 := hid (X_10.out.below hB); have P_11 := hid (P_10.out.below hB); have PP_11 := hid (PP_10.out.below hB); have HB_11 := hid (Below.steps HB_10.out hB); have I_11 := hid (hX.pc); clear hB hX HB_10 X_10 P_10 PP_10; clear PP_11; go_wp2_with fail
 refine (poly_any8 P_11.out (by omega) (by omega)).mono ?_
 rintro e w12 ⟨vfo, vfn, vfc, rfl, hX, hB⟩
 obtain rfl : vfn = 3 := hX.len.symm.trans (by decide +kernel)
 have X_12 := hid (X_11.out.below hB); have P_12 := hid (P_11.out.below hB); have I_12 := hid (I_11.out.below hB); have HB_12 := hid (Below.steps HB_11.out hB); have PP_12 := hid (hX); clear hB hX HB_11 X_11 P_11 I_11; go_wp2_with fail
 refine (vClass_any 2 PP_12.out.raw (fun t ht => Nat.le_trans (hkl t ht) (by omega)) (by rw [pln_raw k9P_fall]; exact k9_cls)).mono ?_
 rintro e w13 ⟨rfl, hB⟩; have X_13 := hid (X_12.out.below hB); have P_13 := hid (P_12.out.below hB); have I_13 := hid (I_12.out.below hB); have PP_13 := hid (PP_12.out.below hB); have HB_13 := hid (Below.steps HB_12.out hB); clear hB  HB_12 X_12 P_12 I_12 PP_12; clear PP_13; go_wp2_with fail
 refine (small_any8 3 _ (by omega)).mono ?_
 rintro e w14 ⟨vgo, vgn, vgc, rfl, hX, hB⟩
 obtain rfl : vgn = 1 := hX.len.symm.trans (by decide +kernel)
 have X_14 := hid (X_13.out.below hB); have P_14 := hid (P_13.out.below hB); have I_14 := hid (I_13.out.below hB); have HB_14 := hid (Below.steps HB_13.out hB); have S3_14 := hid (hX); clear hB hX HB_13 X_13 P_13 I_13; go_wp2_with fail
 refine (add_any8 (X_14.out.mono (show 2 ≤ 3 by omega)) S3_14.out kx_fall (fall_mays (smallT_fall 3)) (by omega) (by omega)).mono ?_
 rintro e w15 ⟨vho, vhn, vhc, rfl, hX, hB⟩; rw [k9_A] at hX
 obtain rfl : vhn = 2 := hX.len.symm.trans (by decide +kernel)
 have X_15 := hid (X_14.out.below hB); have P_15 := hid (P_14.out.below hB); have I_15 := hid (I_14.out.below hB); have S3_15 := hid (S3_14.out.below hB); have HB_15 := hid (Below.steps HB_14.out hB); have A_15 := hid (hX); clear hB hX HB_14 X_14 P_14 I_14 S3_14; clear S3_15; clear X_15; go_wp2_with fail
 refine (poly_any8 A_15.out (by omega) (by omega)).mono ?_
 rintro e w16 ⟨vjo, vjn, vjc, rfl, hX, hB⟩
 obtain rfl : vjn = 2 := hX.len.symm.trans (by decide +kernel)
 have P_16 := hid (P_15.out.below hB); have I_16 := hid (I_15.out.below hB); have A_16 := hid (A_15.out.below hB); have HB_16 := hid (Below.steps HB_15.out hB); have AA_16 := hid (hX); clear hB hX HB_15 P_15 I_15 A_15; clear A_16; go_wp2_with fail; refine (same_any8 true I_16.out.raw AA_16.out.raw (decide_eq_true rfl)).mono ?_; rintro e w17 ⟨rfl, hB⟩; have P_17 := hid (P_16.out.below hB); have I_17 := hid (I_16.out.below hB); have AA_17 := hid (AA_16.out.below hB); have HB_17 := hid (Below.steps HB_16.out hB)
 clear hB  HB_16 P_16 I_16 AA_16; clear I_17; clear AA_17; go_wp2_with fail
 refine (poly_any8 P_17.out (by omega) (by omega)).mono ?_
 rintro e w18 ⟨vko, vkn, vkc, rfl, hX, hB⟩
 obtain rfl : vkn = 3 := hX.len.symm.trans (by decide +kernel)
 have P_18 := hid (P_17.out.below hB); have HB_18 := hid (Below.steps HB_17.out hB); have PP_18 := hid (hX); clear hB hX HB_17 P_17; go_wp2_with fail
 refine (vTail_any PP_18.out.raw hkl (by omega) (by omega)).mono ?_
 rintro e w19 ⟨vlo, vln, vlc, rfl, hX, hB⟩; rw [pln_raw k9P_fall, k9_T] at hX
 obtain rfl : vln = 1 := hX.len.symm.trans (by decide +kernel)
 have P_19 := hid (P_18.out.below hB); have PP_19 := hid (PP_18.out.below hB); have HB_19 := hid (Below.steps HB_18.out hB); have T_19 := hid (hX.pc); clear hB hX HB_18 P_18 PP_18; clear PP_19; clear T_19; go_wp2_with fail
 refine (poly_any8 P_19.out (by omega) (by omega)).mono ?_
 rintro e w20 ⟨vmo, vmn, vmc, rfl, hX, hB⟩
 obtain rfl : vmn = 3 := hX.len.symm.trans (by decide +kernel)
 have P_20 := hid (P_19.out.below hB); have HB_20 := hid (Below.steps HB_19.out hB); have PP_20 := hid (hX); clear hB hX HB_19 P_19; go_wp2_with fail
 refine (vDer_any 2 (by unfold in64; omega) PP_20.out.raw hkl (by omega) (by omega)).mono ?_
 rintro e w21 ⟨vno, vnn, vnc, rfl, hX, hB⟩; rw [pln_raw k9P_fall, k9_DR] at hX
 obtain rfl : vnn = 2 := hX.len.symm.trans (by decide +kernel)
 have P_21 := hid (P_20.out.below hB); have PP_21 := hid (PP_20.out.below hB); have HB_21 := hid (Below.steps HB_20.out hB); have T_21 := hid (hX.pc); clear hB hX HB_20 P_20 PP_20; clear PP_21; clear T_21; go_wp2_with fail
 refine (small_any8 7 _ (by omega)).mono ?_
 rintro e w22 ⟨vqo, vqn, vqc, rfl, hX, hB⟩
 obtain rfl : vqn = 1 := hX.len.symm.trans (by decide +kernel)
 have P_22 := hid (P_21.out.below hB); have HB_22 := hid (Below.steps HB_21.out hB); have S7_22 := hid (hX); clear hB hX HB_21 P_21; go_wp2_with fail
 refine (poly_any8 S7_22.out (by omega) (by omega)).mono ?_
 rintro e w23 ⟨vro, vrn, vrc, rfl, hX, hB⟩
 obtain rfl : vrn = 1 := hX.len.symm.trans (by decide +kernel)
 have P_23 := hid (P_22.out.below hB); have S7_23 := hid (S7_22.out.below hB); have HB_23 := hid (Below.steps HB_22.out hB); have P7_23 := hid (hX); clear hB hX HB_22 P_22 S7_22; go_wp2_with fail
 refine (vClass_any 0 P7_23.out.raw (fun t ht => Nat.le_trans (P7_23.out.lens t ht) (by omega)) (by rw [pln_raw (smallT_fall 7)]; exact k9_c7)).mono ?_
 rintro e w24 ⟨rfl, hB⟩; have P_24 := hid (P_23.out.below hB); have S7_24 := hid (S7_23.out.below hB); have P7_24 := hid (P7_23.out.below hB); have HB_24 := hid (Below.steps HB_23.out hB); clear hB  HB_23 P_23 S7_23 P7_23; go_wp2_with fail
 go_ret
 exact ⟨rfl, HB_24.out⟩
theorem plain9_any {K : Nat} {ao : Option Addr} {n cap : Nat} {ps : List Raw} {w : World} (hp : Pr w ao n cap ps) (hl : ∀ t ∈ ps, t.1.2.length ≤ K) (hK : K ≤ 1000) (hn : n ≤ 1000) :
  Calls Tryz.prog 9 #[.slice ao n cap] w (NewPz (K + n) w (plnR ps)) := by
 have hl2 : ∀ t ∈ ps, t.1.2.length ≤ 1000 := fun t ht => Nat.le_trans (hl t ht) hK
 have hfl := pln_fall hp.wfs
 cases hm : mayR ps with
 | true =>
  have HP := hid (hp.pln hl hm).1
  go_enter Tryz.func9, Tryz.ntmps9
  go_wp2_with fail; refine (may_any8 true hp hl2 hm).mono ?_
  rintro e w1 ⟨rfl, hB⟩; go_wp2_with fail
  refine (of_any8 (HP.out.below hB).inn (fall_mays hfl) (by omega) (by omega)).mono ?_
  rintro e w2 ⟨ro, rn, rc, rfl, hR, hB2⟩; rw [ofT_fall hfl] at hR; go_wp2_with fail
  go_ret
  exact ⟨_, _, _, rfl, hR, Below.steps hB hB2⟩
 | false =>
  rw [pln_no hm]
  go_enter Tryz.func9, Tryz.ntmps9
  go_wp2_with fail; refine (may_any8 false hp hl2 hm).mono ?_
  rintro e w1 ⟨rfl, hB⟩; go_wp2_with fail
  go_ret
  exact ⟨_, _, _, rfl, Pz.zero _ _, hB⟩
end Go.Proofs.YtdgpnfjohijpeaaGreat
