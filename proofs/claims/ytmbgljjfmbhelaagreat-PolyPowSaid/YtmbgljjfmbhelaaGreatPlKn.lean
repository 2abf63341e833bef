/-
  The contract of porismlaw08.known: true.
-/
import Derived.Test.YtmbgljjfmbhelaaGreatGP7
import Derived.Test.YtmbgljjfmbhelaaGreatGP8
set_option maxHeartbeats 40000000
set_option maxRecDepth 100000
namespace Go.Proofs.YtmbgljjfmbhelaaGreat
open Lib (hid)
open Go.RowKit
theorem k_fit : fitB kA kB = true := by decide +kernel
theorem k_PT : timesT kA kB = kP := by decide +kernel
theorem k_room1 : roomT kP kA = ([(1, 1), (2, 1)], 0) := by decide +kernel
theorem k_div1 : divT (1, [(2, 1)]) [(1, [(1, 1)])] [(1, 1), (2, 1)] 5 kP [] = some (kB, true) := by decide +kernel
theorem k_room2 : roomT kA kB = ([], 0) := by decide +kernel
theorem k_div2 : divT (1, [(2, 1)]) [(-1, [(1, 1)])] [] 5 kA [] = some ([], false) := by decide +kernel
theorem k_W : divZ kC (byT kC) = kW := by decide +kernel
theorem k_cont : contT kC = 2 := by decide +kernel
theorem csame_any {m k : Bool} {ao bo : Option Addr} {n cap l cb : Nat} {z : Int} {w : World} (hx : Cn w m ao n cap z) (hy : Cn w k bo l cb z) :
  Calls Tryz.prog 43 #[.agg #[.bool m, .slice ao n cap], .agg #[.bool k, .slice bo l cb]] w (RetB (.bool true) w) :=
 raw_same true hx.sl hy.sl (decide_eq_true (by rw [hx.neg, hy.neg]))
theorem zz95 (w : World) : Calls Tryz.prog 14 #[] w (RetB (.bool true) w) := by
 have HB_0 := hid (Below.refl w.heap.size w)
 go_enter Tryz.func14, Tryz.ntmps14
 go_wp2_with fail
 refine (x_any8 1 _ (by unfold in64; omega)).mono ?_
 rintro e w1 ⟨vxo, vxn, vxc, rfl, hX, hB⟩; rw [← kx] at hX
 obtain rfl : vxn = 1 := hX.len.symm.trans (by decide +kernel)
 have HB_1 := hid (Below.steps HB_0.out hB); have X_1 := hid (hX); clear hB hX  HB_0; go_wp2_with fail
 refine (x_any8 2 _ (by unfold in64; omega)).mono ?_
 rintro e w2 ⟨vyo, vyn, vyc, rfl, hX, hB⟩; rw [← ky] at hX
 obtain rfl : vyn = 1 := hX.len.symm.trans (by decide +kernel)
 have X_2 := hid (X_1.out.below hB); have HB_2 := hid (Below.steps HB_1.out hB); have Y_2 := hid (hX); clear hB hX X_1 HB_1; go_wp2_with fail
 refine (add_any8 Y_2.out X_2.out ky_fall (zz59 kx_fall) (by omega) (by omega)).mono ?_
 rintro e w3 ⟨vao, van, vac, rfl, hX, hB⟩; rw [k_A] at hX
 obtain rfl : van = 2 := hX.len.symm.trans (by decide +kernel)
 have X_3 := hid (X_2.out.below hB); have Y_3 := hid (Y_2.out.below hB); have HB_3 := hid (Below.steps HB_2.out hB); have ZA_3 := hid (hX); clear hB hX X_2 Y_2 HB_2; go_wp2_with fail
 refine (zz140 ZA_3.out (by omega) (by omega)).mono ?_
 rintro e w4 ⟨vbo, vbn, vbc, rfl, hX, hB⟩
 obtain rfl : vbn = 2 := hX.len.symm.trans (by decide +kernel)
 have X_4 := hid (X_3.out.below hB); have Y_4 := hid (Y_3.out.below hB); have ZA_4 := hid (ZA_3.out.below hB); have HB_4 := hid (Below.steps HB_3.out hB); have A_4 := hid (hX); clear hB hX X_3 Y_3 ZA_3 HB_3; go_wp2_with fail
 refine (sub_any8 Y_4.out X_4.out ky_fall (zz59 kx_fall) (by omega) (by omega)).mono ?_
 rintro e w5 ⟨vdo, vdn, vdc, rfl, hX, hB⟩; rw [k_B] at hX
 obtain rfl : vdn = 2 := hX.len.symm.trans (by decide +kernel)
 have X_5 := hid (X_4.out.below hB); have Y_5 := hid (Y_4.out.below hB); have ZA_5 := hid (ZA_4.out.below hB); have A_5 := hid (A_4.out.below hB); have HB_5 := hid (Below.steps HB_4.out hB); have ZB_5 := hid (hX); clear hB hX X_4 Y_4 ZA_4 A_4 HB_4; go_wp2_with fail
 refine (zz140 ZB_5.out (by omega) (by omega)).mono ?_
 rintro e w6 ⟨veo, ven, vec, rfl, hX, hB⟩
 obtain rfl : ven = 2 := hX.len.symm.trans (by decide +kernel)
 have X_6 := hid (X_5.out.below hB); have Y_6 := hid (Y_5.out.below hB); have ZA_6 := hid (ZA_5.out.below hB); have A_6 := hid (A_5.out.below hB); have ZB_6 := hid (ZB_5.out.below hB); have HB_6 := hid (Below.steps HB_5.out hB); have B_6 := hid (hX); clear hB hX X_5 Y_5 ZA_5 A_5 ZB_5 HB_5; go_wp2_with fail
 refine (ptimes_any (K := 3) A_6.out B_6.out kA_fall kB_fall (by omega) (by omega) (by omega) (by omega) k_fit).mono ?_
 rintro e w7 ⟨vpo, vpn, vpc, rfl, hX, hB⟩; rw [k_PT] at hX
 obtain rfl : vpn = 2 := hX.len.symm.trans (by decide +kernel)
 have X_7 := hid (X_6.out.below hB); have Y_7 := hid (Y_6.out.below hB); have ZA_7 := hid (ZA_6.out.below hB); have A_7 := hid (A_6.out.below hB); have ZB_7 := hid (ZB_6.out.below hB); have B_7 := hid (B_6.out.below hB); have HB_7 := hid (Below.steps HB_6.out hB); have P_7 := hid (hX); clear hB hX X_6 Y_6 ZA_6 A_6 ZB_6 B_6 HB_6; go_wp2_with fail
 refine (pover_run (K := 10) (n := 1) (m := 1) (F := 5) (KM := 101) (LM := 7) (.inl ⟨rfl, rfl⟩) P_7.out (A_7.out.mono (by omega)) kP_fall kA_fall (by omega) k_room1 k_div1 (by omega) (by omega) (by omega) (by omega) (by omega)).mono ?_
 rintro e w8 ⟨vqo, vqn, vqc, rfl, hX, hB⟩
 obtain rfl : vqn = 2 := hX.len.symm.trans (by decide +kernel)
 have X_8 := hid (X_7.out.below hB); have Y_8 := hid (Y_7.out.below hB); have ZA_8 := hid (ZA_7.out.below hB); have A_8 := hid (A_7.out.below hB); have ZB_8 := hid (ZB_7.out.below hB); have B_8 := hid (B_7.out.below hB); have P_8 := hid (P_7.out.below hB); have HB_8 := hid (Below.steps HB_7.out hB); have Q_8 := hid (hX); clear hB hX X_7 Y_7 ZA_7 A_7 ZB_7 B_7 P_7 HB_7; go_wp2_with fail
 refine (pover_run (K := 3) (n := 1) (m := 1) (F := 5) (KM := 59) (LM := 7) (.inr ⟨rfl, rfl⟩) A_8.out B_8.out kA_fall kB_fall (by omega) k_room2 k_div2 (by omega) (by omega) (by omega) (by omega) (by omega)).mono ?_
 rintro e w9 ⟨vno, vnn, vnc, rfl, hX, hB⟩
 obtain rfl : vnn = 0 := hX.len.symm.trans (by decide +kernel)
 have X_9 := hid (X_8.out.below hB); have Y_9 := hid (Y_8.out.below hB); have ZA_9 := hid (ZA_8.out.below hB); have A_9 := hid (A_8.out.below hB); have ZB_9 := hid (ZB_8.out.below hB); have B_9 := hid (B_8.out.below hB); have P_9 := hid (P_8.out.below hB); have Q_9 := hid (Q_8.out.below hB); have HB_9 := hid (Below.steps HB_8.out hB); have N_9 := hid (hX); clear hB hX X_8 Y_8 ZA_8 A_8 ZB_8 B_8 P_8 Q_8 HB_8; go_wp2_with fail
 refine (zz173 6 _ (by omega)).mono ?_
 rintro e w10 ⟨vso, vsn, vsc, rfl, hX, hB⟩
 obtain rfl : vsn = 1 := hX.len.symm.trans (by decide +kernel)
 have X_10 := hid (X_9.out.below hB); have Y_10 := hid (Y_9.out.below hB); have ZA_10 := hid (ZA_9.out.below hB); have A_10 := hid (A_9.out.below hB); have ZB_10 := hid (ZB_9.out.below hB); have B_10 := hid (B_9.out.below hB); have P_10 := hid (P_9.out.below hB); have Q_10 := hid (Q_9.out.below hB); have N_10 := hid (N_9.out.below hB); have HB_10 := hid (Below.steps HB_9.out hB); have S6_10 := hid (hX); clear hB hX X_9 Y_9 ZA_9 A_9 ZB_9 B_9 P_9 Q_9 N_9 HB_9; go_wp2_with fail
 refine (mul_any8 S6_10.out Y_10.out (zz59 (zz171 6)) (zz59 ky_fall) (by omega)).mono ?_
 rintro e w11 ⟨vto, vtn, vtc, rfl, hX, hB⟩; rw [k_6] at hX
 obtain rfl : vtn = 1 := hX.len.symm.trans (by decide +kernel)
 have X_11 := hid (X_10.out.below hB); have Y_11 := hid (Y_10.out.below hB); have ZA_11 := hid (ZA_10.out.below hB); have A_11 := hid (A_10.out.below hB); have ZB_11 := hid (ZB_10.out.below hB); have B_11 := hid (B_10.out.below hB); have P_11 := hid (P_10.out.below hB); have Q_11 := hid (Q_10.out.below hB); have N_11 := hid (N_10.out.below hB); have S6_11 := hid (S6_10.out.below hB); have HB_11 := hid (Below.steps HB_10.out hB); have M6_11 := hid (hX); clear hB hX X_10 Y_10 ZA_10 A_10 ZB_10 B_10 P_10 Q_10 N_10 S6_10 HB_10
 go_wp2_with fail
 refine (zz173 4 _ (by omega)).mono ?_
 rintro e w12 ⟨vuo, vun, vuc, rfl, hX, hB⟩
 obtain rfl : vun = 1 := hX.len.symm.trans (by decide +kernel)
 have X_12 := hid (X_11.out.below hB); have Y_12 := hid (Y_11.out.below hB); have ZA_12 := hid (ZA_11.out.below hB); have A_12 := hid (A_11.out.below hB); have ZB_12 := hid (ZB_11.out.below hB); have B_12 := hid (B_11.out.below hB); have P_12 := hid (P_11.out.below hB); have Q_12 := hid (Q_11.out.below hB); have N_12 := hid (N_11.out.below hB); have S6_12 := hid (S6_11.out.below hB); have M6_12 := hid (M6_11.out.below hB); have HB_12 := hid (Below.steps HB_11.out hB); have S4_12 := hid (hX); clear hB hX X_11 Y_11 ZA_11 A_11 ZB_11 B_11 P_11 Q_11 N_11 S6_11 M6_11 HB_11
 go_wp2_with fail
 refine (mul_any8 S4_12.out X_12.out (zz59 (zz171 4)) (zz59 kx_fall) (by omega)).mono ?_
 rintro e w13 ⟨vvo, vvn, vvc, rfl, hX, hB⟩; rw [k_4] at hX
 obtain rfl : vvn = 1 := hX.len.symm.trans (by decide +kernel)
 have X_13 := hid (X_12.out.below hB); have Y_13 := hid (Y_12.out.below hB); have ZA_13 := hid (ZA_12.out.below hB); have A_13 := hid (A_12.out.below hB); have ZB_13 := hid (ZB_12.out.below hB); have B_13 := hid (B_12.out.below hB); have P_13 := hid (P_12.out.below hB); have Q_13 := hid (Q_12.out.below hB); have N_13 := hid (N_12.out.below hB); have S6_13 := hid (S6_12.out.below hB); have M6_13 := hid (M6_12.out.below hB); have S4_13 := hid (S4_12.out.below hB); have HB_13 := hid (Below.steps HB_12.out hB)
 have M4_13 := hid (hX); clear hB hX X_12 Y_12 ZA_12 A_12 ZB_12 B_12 P_12 Q_12 N_12 S6_12 M6_12 S4_12 HB_12; go_wp2_with fail
 refine (sub_any8 M6_13.out M4_13.out (zz60 (by decide +kernel) (by decide +kernel)) (zz59 (zz60 (by decide +kernel) (by decide +kernel))) (by omega) (by omega)).mono ?_
 rintro e w14 ⟨vfo, vfn, vfc, rfl, hX, hB⟩; rw [k_C] at hX
 obtain rfl : vfn = 2 := hX.len.symm.trans (by decide +kernel)
 have X_14 := hid (X_13.out.below hB); have Y_14 := hid (Y_13.out.below hB); have ZA_14 := hid (ZA_13.out.below hB); have A_14 := hid (A_13.out.below hB); have ZB_14 := hid (ZB_13.out.below hB); have B_14 := hid (B_13.out.below hB); have P_14 := hid (P_13.out.below hB); have Q_14 := hid (Q_13.out.below hB); have N_14 := hid (N_13.out.below hB); have S6_14 := hid (S6_13.out.below hB); have M6_14 := hid (M6_13.out.below hB); have S4_14 := hid (S4_13.out.below hB); have M4_14 := hid (M4_13.out.below hB)
 have HB_14 := hid (Below.steps HB_13.out hB); have ZC_14 := hid (hX); clear hB hX X_13 Y_13 ZA_13 A_13 ZB_13 B_13 P_13 Q_13 N_13 S6_13 M6_13 S4_13 M4_13 HB_13; go_wp2_with fail
 refine (zz140 ZC_14.out (by omega) (by omega)).mono ?_
 rintro e w15 ⟨vco, vcn, vcc, rfl, hX, hB⟩
 obtain rfl : vcn = 2 := hX.len.symm.trans (by decide +kernel)
 have X_15 := hid (X_14.out.below hB); have Y_15 := hid (Y_14.out.below hB); have ZA_15 := hid (ZA_14.out.below hB); have A_15 := hid (A_14.out.below hB); have ZB_15 := hid (ZB_14.out.below hB); have B_15 := hid (B_14.out.below hB); have P_15 := hid (P_14.out.below hB); have Q_15 := hid (Q_14.out.below hB); have N_15 := hid (N_14.out.below hB); have S6_15 := hid (S6_14.out.below hB); have M6_15 := hid (M6_14.out.below hB); have S4_15 := hid (S4_14.out.below hB); have M4_15 := hid (M4_14.out.below hB)
 have ZC_15 := hid (ZC_14.out.below hB); have HB_15 := hid (Below.steps HB_14.out hB); have C_15 := hid (hX); clear hB hX X_14 Y_14 ZA_14 A_14 ZB_14 B_14 P_14 Q_14 N_14 S6_14 M6_14 S4_14 M4_14 ZC_14 HB_14; go_wp2_with fail
 refine (pwhole_any (K := 7) (C_15.out.mono (by omega)) kC_fall (by omega) (by omega) (by omega)).mono ?_
 rintro e w16 ⟨vho, vhn, vhc, rfl, hX, hB⟩; rw [k_W] at hX
 obtain rfl : vhn = 2 := hX.len.symm.trans (by decide +kernel)
 have X_16 := hid (X_15.out.below hB); have Y_16 := hid (Y_15.out.below hB); have ZA_16 := hid (ZA_15.out.below hB); have A_16 := hid (A_15.out.below hB); have ZB_16 := hid (ZB_15.out.below hB); have B_16 := hid (B_15.out.below hB); have P_16 := hid (P_15.out.below hB); have Q_16 := hid (Q_15.out.below hB); have N_16 := hid (N_15.out.below hB); have S6_16 := hid (S6_15.out.below hB); have M6_16 := hid (M6_15.out.below hB); have S4_16 := hid (S4_15.out.below hB); have M4_16 := hid (M4_15.out.below hB)
 have ZC_16 := hid (ZC_15.out.below hB); have C_16 := hid (C_15.out.below hB); have HB_16 := hid (Below.steps HB_15.out hB); have W_16 := hid (hX); clear hB hX X_15 Y_15 ZA_15 A_15 ZB_15 B_15 P_15 Q_15 N_15 S6_15 M6_15 S4_15 M4_15 ZC_15 C_15 HB_15; clear X_16; clear Y_16; clear ZA_16; clear A_16; clear ZB_16; clear P_16; clear N_16; clear S6_16; clear M6_16; clear S4_16; clear M4_16; clear ZC_16
 obtain ⟨hb, hf, hm0, ha0, hn0, hc0, hp0, hq0, hr0, hbo, hbl, hcl, hC0, hB0, _⟩ := W_16.out.at (k := 0) (by omega)
 subst hbo; rw [Nat.zero_mul, Nat.add_zero] at hcl; have HCL := hid hcl
 have H0_16 : Hid (Cn w16 hm0 ha0 hn0 hc0 3) := hC0
 clear hcl hC0 hB0 hbl; have HWB := hid (Below.refl w16.heap.size w16)
 go_upto_region 8 with (fail)
 refine wp_region_held_drew (S := fun w' => w'.cell? ⟨hb, hf, none⟩ = some (.bool hm0) ∧ w'.cell? ⟨hb, hf + 1, none⟩ = some (.slice ha0 hn0 hc0) ∧ w'.cell? ⟨hb, hf + 2, none⟩ = some (.slice hp0 hq0 hr0)) (by kernel_rfl) (HCL.out _ (Below.refl _ _).drew) (fun hH => ?_)
 have HW_16 := hid (HWB.out); clear HWB
 refine zz9 (fun w17 hW => ?_)
 have dr := (Below.refl w16.heap.size w16).drew
 have B_17 : Hid (Pc (2 + 1) w17 veo 2 vec kB) := by rw [hW]; exact B_16.out.below dr
 have Q_17 : Hid (Pc 101 w17 vqo 2 vqc kB) := by rw [hW]; exact Q_16.out.below dr
 have C_17 : Hid (Pc (3 + 2 + 1 * 1 + 1) w17 vco 2 vcc kC) := by rw [hW]; exact C_16.out.below dr
 have W_17 : Hid (Pc 7 w17 (some ⟨hb, hf, none⟩) 2 vhc kW) := by rw [hW]; exact W_16.out.below dr
 have H0_17 : Hid (Cn w17 hm0 ha0 hn0 hc0 3) := by rw [hW]; exact H0_16.out.below dr
 have HW_17 : Hid (Below w16.heap.size w16 w17) := by rw [hW]; exact HW_16.out.drew
 have HB_17 : Hid (Below w.heap.size w w17) := by rw [hW]; exact HB_16.out.drew
 rw [← hW] at hH; clear dr HB_16 B_16 Q_16 C_16 W_16 H0_16 HW_16
 clear hW
 refine son 0 hH ?_; try simp only [nrm]
 refine son 1 hH ?_; try simp only [nrm]
 refine son 2 hH ?_; try simp only [nrm]
 refine son 3 hH ?_; try simp only [nrm]
 refine son 4 hH ?_; try simp only [nrm]
 refine son 5 hH ?_; try simp only [nrm]
 refine son 6 hH ?_; try simp only [nrm]
 refine son 7 hH ?_; try simp only [nrm]
 refine son 8 hH ?_; try simp only [nrm]
 refine son 9 hH ?_; try simp only [nrm]
 refine son 10 hH ?_; try simp only [nrm]
 refine son 11 hH ?_; try simp only [nrm]
 refine son 12 hH ?_; try simp only [nrm]
 refine son 13 hH ?_; try simp only [nrm]
 refine son 14 hH ?_; try simp only [nrm]
 refine son 15 hH ?_; try simp only [nrm]
 refine son 16 hH ?_; try simp only [nrm]
 refine son 17 hH ?_; try simp only [nrm]
 refine son 18 hH ?_; try simp only [nrm]
 refine son 19 hH ?_; try simp only [nrm]
 refine son 20 hH ?_; try simp only [nrm]
 refine son 21 hH ?_; try simp only [nrm]
 refine zz176 22 rfl (by kernel_rfl) (fun KK hK => ?_)
 go_simp; refine (same_any8 true Q_17.out.raw B_17.out.raw (decide_eq_true rfl)).mono ?_
 rintro e w18 ⟨rfl, hB⟩; have B_18 := hid (B_17.out.below hB); have Q_18 := hid (Q_17.out.below hB); have C_18 := hid (C_17.out.below hB); have W_18 := hid (W_17.out.below hB); have H0_18 := hid (H0_17.out.below hB); have HW_18 := hid (Below.steps HW_17.out hB); have HB_18 := hid (Below.steps HB_17.out hB); clear hB  HB_17 B_17 Q_17 C_17 W_17 H0_17 HW_17; go_wp2_with fail
 clear hH; refine hK.out _ _ (HCL.out _ HW_18.out) fun hH => ?_; clear hK KK
 try simp only [nrm]
 refine son 23 hH ?_; try simp only [nrm]
 refine son 24 hH ?_; try simp only [nrm]
 refine son 25 hH ?_; try simp only [nrm]
 refine zz176 26 rfl (by kernel_rfl) (fun KK hK => ?_)
 go_simp
 refine (pcont_any (K := 7) (C_18.out.mono (by omega)) kC_fall (by omega) (by omega)).mono ?_
 rintro e w19 ⟨im, io, ik, ic, rfl, hX, hB⟩; rw [k_cont] at hX; have B_19 := hid (B_18.out.below hB); have Q_19 := hid (Q_18.out.below hB); have C_19 := hid (C_18.out.below hB); have W_19 := hid (W_18.out.below hB); have H0_19 := hid (H0_18.out.below hB); have HW_19 := hid (Below.steps HW_18.out hB); have HB_19 := hid (Below.steps HB_18.out hB); have CT_19 := hid (hX); clear hB hX HB_18 B_18 Q_18 C_18 W_18 H0_18 HW_18; go_wp2_with fail
 clear hH; refine hK.out _ _ (HCL.out _ HW_19.out) fun hH => ?_; clear hK KK
 try simp only [nrm]
 refine zz176 27 rfl (by kernel_rfl) (fun KK hK => ?_)
 go_simp
 refine (zz241 2 _ (by omega)).mono ?_
 rintro e w20 ⟨jm, jo, jn, jc, rfl, hX, hB⟩; have B_20 := hid (B_19.out.below hB); have Q_20 := hid (Q_19.out.below hB); have C_20 := hid (C_19.out.below hB); have W_20 := hid (W_19.out.below hB); have H0_20 := hid (H0_19.out.below hB); have HW_20 := hid (Below.steps HW_19.out hB); have CT_20 := hid (CT_19.out.below hB); have HB_20 := hid (Below.steps HB_19.out hB); have ZS_20 := hid (hX); clear hB hX HB_19 B_19 Q_19 C_19 W_19 H0_19 HW_19 CT_19; go_wp2_with fail
 clear hH; refine hK.out _ _ (HCL.out _ HW_20.out) fun hH => ?_; clear hK KK
 try simp only [nrm]
 refine zz176 28 rfl (by kernel_rfl) (fun KK hK => ?_)
 go_simp
 refine (zz239 (ZS_20.out.zx (k := 2) (zz12 (by omega)) (by omega))).mono ?_
 rintro e w21 ⟨lm, lo, ln, lc, rfl, hX, hB⟩; have B_21 := hid (B_20.out.below hB); have Q_21 := hid (Q_20.out.below hB); have C_21 := hid (C_20.out.below hB); have W_21 := hid (W_20.out.below hB); have H0_21 := hid (H0_20.out.below hB); have HW_21 := hid (Below.steps HW_20.out hB); have CT_21 := hid (CT_20.out.below hB); have ZS_21 := hid (ZS_20.out.below hB); have HB_21 := hid (Below.steps HB_20.out hB); have ZI_21 := hid (hX); clear hB hX HB_20 B_20 Q_20 C_20 W_20 H0_20 HW_20 CT_20 ZS_20; go_wp2_with fail
 clear hH; refine hK.out _ _ (HCL.out _ HW_21.out) fun hH => ?_; clear hK KK
 try simp only [nrm]
 refine zz176 29 rfl (by kernel_rfl) (fun KK hK => ?_)
 go_simp; refine (csame_any CT_21.out ZI_21.out).mono ?_
 rintro e w22 ⟨rfl, hB⟩; have B_22 := hid (B_21.out.below hB); have Q_22 := hid (Q_21.out.below hB); have C_22 := hid (C_21.out.below hB); have W_22 := hid (W_21.out.below hB); have H0_22 := hid (H0_21.out.below hB); have HW_22 := hid (Below.steps HW_21.out hB); have CT_22 := hid (CT_21.out.below hB); have ZS_22 := hid (ZS_21.out.below hB); have ZI_22 := hid (ZI_21.out.below hB); have HB_22 := hid (Below.steps HB_21.out hB); clear hB  HB_21 B_21 Q_21 C_21 W_21 H0_21 HW_21 CT_21 ZS_21 ZI_21; go_wp2_with fail
 clear hH; refine hK.out _ _ (HCL.out _ HW_22.out) fun hH => ?_; clear hK KK
 try simp only [nrm]
 refine son 30 hH ?_; try simp only [nrm]
 refine son 31 hH ?_; try simp only [nrm]
 refine son 32 hH ?_; try simp only [nrm]
 refine son 33 hH ?_; try simp only [nrm]
 refine son 34 hH ?_; try simp only [nrm]
 refine son 35 hH ?_; try simp only [nrm]
 refine son 36 hH ?_; try simp only [nrm]
 refine son 37 hH ?_; try simp only [nrm]
 refine son 38 hH ?_; try simp only [nrm]
 refine son 39 hH ?_; try simp only [nrm]
 refine son 40 hH ?_; try simp only [nrm]
 refine zz176 41 rfl (by kernel_rfl) (fun KK hK => ?_)
 go_simp
 refine (zz241 3 _ (by omega)).mono ?_
 rintro e w23 ⟨jm, jo, jn, jc, rfl, hX, hB⟩; have W_23 := hid (W_22.out.below hB); have H0_23 := hid (H0_22.out.below hB); have HW_23 := hid (Below.steps HW_22.out hB); have HB_23 := hid (Below.steps HB_22.out hB); have ZS_23 := hid (hX); clear hB hX HB_22 W_22 H0_22 HW_22; go_wp2_with fail
 clear hH; refine hK.out _ _ (HCL.out _ HW_23.out) fun hH => ?_; clear hK KK
 try simp only [nrm]
 refine zz176 42 rfl (by kernel_rfl) (fun KK hK => ?_)
 go_simp
 refine (zz239 (ZS_23.out.zx (k := 2) (zz12 (by omega)) (by omega))).mono ?_
 rintro e w24 ⟨lm, lo, ln, lc, rfl, hX, hB⟩; have W_24 := hid (W_23.out.below hB); have H0_24 := hid (H0_23.out.below hB); have HW_24 := hid (Below.steps HW_23.out hB); have ZS_24 := hid (ZS_23.out.below hB); have HB_24 := hid (Below.steps HB_23.out hB); have ZI_24 := hid (hX); clear hB hX HB_23 W_23 H0_23 HW_23 ZS_23; go_wp2_with fail
 clear hH; refine hK.out _ _ (HCL.out _ HW_24.out) fun hH => ?_; clear hK KK
 try simp only [nrm]
 refine zz176 43 rfl (by kernel_rfl) (fun KK hK => ?_)
 go_simp; refine (csame_any H0_24.out ZI_24.out).mono ?_
 rintro e w25 ⟨rfl, hB⟩; have W_25 := hid (W_24.out.below hB); have H0_25 := hid (H0_24.out.below hB); have HW_25 := hid (Below.steps HW_24.out hB); have ZS_25 := hid (ZS_24.out.below hB); have ZI_25 := hid (ZI_24.out.below hB); have HB_25 := hid (Below.steps HB_24.out hB); clear hB  HB_24 W_24 H0_24 HW_24 ZS_24 ZI_24; go_wp2_with fail
 clear hH; refine hK.out _ _ (HCL.out _ HW_25.out) fun hH => ?_; clear hK KK
 try simp only [nrm]
 refine son 44 hH ?_; try simp only [nrm]
 refine son 45 hH ?_; try simp only [nrm]
 refine zz176 46 rfl (by kernel_rfl) (fun KK hK => ?_)
 go_simp
 refine (zz108 (Pc.zero 0 _) trivial (by omega)).mono ?_
 rintro e w26 ⟨rfl, hB⟩; have W_26 := hid (W_25.out.below hB); have H0_26 := hid (H0_25.out.below hB); have HW_26 := hid (Below.steps HW_25.out hB); have ZS_26 := hid (ZS_25.out.below hB); have ZI_26 := hid (ZI_25.out.below hB); have HB_26 := hid (Below.steps HB_25.out hB); clear hB  HB_25 W_25 H0_25 HW_25 ZS_25 ZI_25; go_wp2_with fail
 clear hH; refine hK.out _ _ (HCL.out _ HW_26.out) fun hH => ?_; clear hK KK
 try simp only [nrm]
 refine son 47 hH ?_; try simp only [nrm]
 refine son 48 hH ?_; try simp only [nrm]
 refine wpAnyH_done (by kernel_rfl) ?_ _
 go_wp2_with fail
 go_ret
 exact ⟨rfl, HB_26.out⟩
end Go.Proofs.YtmbgljjfmbhelaaGreat
