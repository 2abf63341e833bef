/-
  The law PseudoIdentity.
-/
import Derived.Test.YtodcddkiodmklaaGreatGQ2
set_option maxHeartbeats 40000000
set_option maxRecDepth 100000
namespace Go.Proofs.YtodcddkiodmklaaGreat
open Lib (hid)
open Go.RowKit
theorem pid_bad1 [Ol] {ao bo : Option Addr} {n cap m cb : Nat} {ps qs : List Raw} {w : World} (v : Int) (hp : Pr w ao n cap ps) (hq : Pr w bo m cb qs) (hlo : Ol.lo ≤ w.heap.size)
  (hm : mayR ps = false) :
  Calls Tryz.prog 4 #[.slice ao n cap, .slice bo m cb, .int .i64 v] w (RetB (.bool true) w) := by
 have P_0 := hid hp; have Q_0 := hid hq; have HB_0 := hid (Below.refl w.heap.size w); have HLO := hid hlo
 have HMV : Hid (∀ V, MvIs V (.pointer none) none none) := fun V => .inl ⟨rfl, rfl, rfl⟩
 clear hlo hp hq
 go_enter Tryz.func4, Tryz.ntmps4
 go_wp2_with fail; refine (pgreat_any v P_0.out).mono ?_
 rintro e w1 ⟨r0, rfl, hB, hg0⟩; have P_1 := hid (P_0.out.below hB); have Q_1 := hid (Q_0.out.below hB); have HB_1 := hid (Below.steps HB_0.out hB); clear hB  HB_0 P_0 Q_0
 rcases Bool.eq_false_or_eq_true r0 with hr0 | hr0
 ·subst hr0
  clear hg0; go_wp2_with fail; refine (known12_any _ (Nat.le_trans HLO.out HB_1.out.size)).mono ?_; rintro e w2 ⟨rfl, hB⟩; have P_2 := hid (P_1.out.below hB); have Q_2 := hid (Q_1.out.below hB); have HB_2 := hid (Below.steps HB_1.out hB); clear hB  HB_1 P_1 Q_1; go_wp2_with fail
  go_ret
  exact ⟨rfl, HB_2.out⟩
 ·skip
  subst hr0; have HG0 := hid (hg0 rfl); clear hg0; go_wp2_with fail; refine (pgreat_any v Q_1.out).mono ?_; rintro e w2 ⟨r1, rfl, hB, hg1⟩; have P_2 := hid (P_1.out.below hB); have Q_2 := hid (Q_1.out.below hB); have HB_2 := hid (Below.steps HB_1.out hB); clear hB  HB_1 P_1 Q_1
  rcases Bool.eq_false_or_eq_true r1 with hr1 | hr1
  ·subst hr1
   clear hg1; go_wp2_with fail; refine (known12_any _ (Nat.le_trans HLO.out HB_2.out.size)).mono ?_; rintro e w3 ⟨rfl, hB⟩; have P_3 := hid (P_2.out.below hB); have Q_3 := hid (Q_2.out.below hB); have HB_3 := hid (Below.steps HB_2.out hB); clear hB  HB_2 P_2 Q_2; go_wp2_with fail
   go_ret
   exact ⟨rfl, HB_3.out⟩
  ·skip
   subst hr1; have HG1 := hid (hg1 rfl); clear hg1; go_wp2_with fail
   refine (divide_of (run_bad1 (kq := true) (HMV.out _) P_2.out (fun t ht => Nat.le_trans (HG0.out.2.1 t ht) (by omega)) hm)).mono ?_
   rintro e w3 ⟨u, zo, zn, zc, ro, rn, rc, hu, rfl, hq, hr, hmv, hgr⟩; have hB := below_none hgr; subst hu; clear hq hr; have P_3 := hid (P_2.out.below hB); have Q_3 := hid (Q_2.out.below hB); have HB_3 := hid (Below.steps HB_2.out hB); clear hB hgr hmv  HB_2 P_2 Q_2; go_wp2_with fail; refine (known12_any _ (Nat.le_trans HLO.out HB_3.out.size)).mono ?_; rintro e w4 ⟨rfl, hB⟩; have P_4 := hid (P_3.out.below hB); have Q_4 := hid (Q_3.out.below hB); have HB_4 := hid (Below.steps HB_3.out hB); clear hB  HB_3 P_3 Q_3
   go_wp2_with fail
   go_ret
   exact ⟨rfl, HB_4.out⟩
theorem pid_bad2 [Ol] {ao bo : Option Addr} {n cap m cb : Nat} {ps qs : List Raw} {w : World} (v : Int) (hp : Pr w ao n cap ps) (hq : Pr w bo m cb qs) (hlo : Ol.lo ≤ w.heap.size)
  (hm : mayR ps = true) (hd : degP (plnR qs) v = 0) :
  Calls Tryz.prog 4 #[.slice ao n cap, .slice bo m cb, .int .i64 v] w (RetB (.bool true) w) := by
 have P_0 := hid hp; have Q_0 := hid hq; have HB_0 := hid (Below.refl w.heap.size w); have HLO := hid hlo
 have HMV : Hid (∀ V, MvIs V (.pointer none) none none) := fun V => .inl ⟨rfl, rfl, rfl⟩
 clear hlo hp hq
 go_enter Tryz.func4, Tryz.ntmps4
 go_wp2_with fail; refine (pgreat_any v P_0.out).mono ?_
 rintro e w1 ⟨r0, rfl, hB, hg0⟩; have P_1 := hid (P_0.out.below hB); have Q_1 := hid (Q_0.out.below hB); have HB_1 := hid (Below.steps HB_0.out hB); clear hB  HB_0 P_0 Q_0
 rcases Bool.eq_false_or_eq_true r0 with hr0 | hr0
 ·subst hr0
  clear hg0; go_wp2_with fail; refine (known12_any _ (Nat.le_trans HLO.out HB_1.out.size)).mono ?_; rintro e w2 ⟨rfl, hB⟩; have P_2 := hid (P_1.out.below hB); have Q_2 := hid (Q_1.out.below hB); have HB_2 := hid (Below.steps HB_1.out hB); clear hB  HB_1 P_1 Q_1; go_wp2_with fail
  go_ret
  exact ⟨rfl, HB_2.out⟩
 ·skip
  subst hr0; have HG0 := hid (hg0 rfl); clear hg0; go_wp2_with fail; refine (pgreat_any v Q_1.out).mono ?_; rintro e w2 ⟨r1, rfl, hB, hg1⟩; have P_2 := hid (P_1.out.below hB); have Q_2 := hid (Q_1.out.below hB); have HB_2 := hid (Below.steps HB_1.out hB); clear hB  HB_1 P_1 Q_1
  rcases Bool.eq_false_or_eq_true r1 with hr1 | hr1
  ·subst hr1
   clear hg1; go_wp2_with fail; refine (known12_any _ (Nat.le_trans HLO.out HB_2.out.size)).mono ?_; rintro e w3 ⟨rfl, hB⟩; have P_3 := hid (P_2.out.below hB); have Q_3 := hid (Q_2.out.below hB); have HB_3 := hid (Below.steps HB_2.out hB); clear hB  HB_2 P_2 Q_2; go_wp2_with fail
   go_ret
   exact ⟨rfl, HB_3.out⟩
  ·skip
   subst hr1; have HG1 := hid (hg1 rfl); clear hg1; go_wp2_with fail
   refine (divide_of (run_bad2 (kq := true) (HMV.out _) P_2.out (fun t ht => Nat.le_trans (HG0.out.2.1 t ht) (by omega)) hm Q_2.out (fun t ht => Nat.le_trans (HG1.out.2.1 t ht) (by omega)) hd)).mono ?_
   rintro e w3 ⟨u, zo, zn, zc, ro, rn, rc, hu, rfl, hq, hr, hmv, hgr⟩; have hB := below_none hgr; subst hu; clear hq hr; have P_3 := hid (P_2.out.below hB); have Q_3 := hid (Q_2.out.below hB); have HB_3 := hid (Below.steps HB_2.out hB); clear hB hgr hmv  HB_2 P_2 Q_2; go_wp2_with fail; refine (known12_any _ (Nat.le_trans HLO.out HB_3.out.size)).mono ?_; rintro e w4 ⟨rfl, hB⟩; have P_4 := hid (P_3.out.below hB); have Q_4 := hid (Q_3.out.below hB); have HB_4 := hid (Below.steps HB_3.out hB); clear hB  HB_3 P_3 Q_3
   go_wp2_with fail
   go_ret
   exact ⟨rfl, HB_4.out⟩
theorem cn_r8 {k : Nat} (h : k ≤ 8) : ∀ j, j ≤ 8 → cn k j ≤ 6435 := fun j hj => cn_r k (by omega) j (by omega)
theorem sm_of {p : List Term} (hf : fall p) (h : greatR (p.map rawC) 8 = false ∧ (∀ t ∈ p.map rawC, t.1.2.length ≤ 8) ∧ ∀ t ∈ p.map rawC, ∀ x ∈ t.2, x.2 ≤ 8) (hb : ∀ t ∈ p, Bd t.1 8) : Sm 8 p :=
 ⟨hf, by have := (greatR_no h.1).2; rw [List.length_map] at this; omega, hb, eb_of_deg (fun t ht x hx => h.2.2 (rawC t) (List.mem_map.2 ⟨t, ht, rfl⟩) x hx) (by omega)⟩
theorem pid_main [Ol] {ao bo : Option Addr} {n cap m cb : Nat} {p q : List Term} {w : World} (v : Int) (hp : Pr w ao n cap (p.map rawC)) (hq : Pr w bo m cb (q.map rawC)) (hlo : Ol.lo ≤ w.heap.size)
  (hfp : fall p) (hfq : fall q) (hv : 1 ≤ v ∧ v ≤ 200) (h1 : 1 ≤ degP q v) :
  Calls Tryz.prog 4 #[.slice ao n cap, .slice bo m cb, .int .i64 v] w (RetB (.bool true) w) := by
 have P_0 := hid hp; have Q_0 := hid hq; have HB_0 := hid (Below.refl w.heap.size w); have HLO := hid hlo
 have HMV : Hid (∀ V, MvIs V (.pointer none) none none) := fun V => .inl ⟨rfl, rfl, rfl⟩
 clear hlo hp hq
 go_enter Tryz.func4, Tryz.ntmps4
 go_wp2_with fail; refine (pgreat_any v P_0.out).mono ?_
 rintro e w1 ⟨r0, rfl, hB, hg0⟩; have P_1 := hid (P_0.out.below hB); have Q_1 := hid (Q_0.out.below hB); have HB_1 := hid (Below.steps HB_0.out hB); clear hB  HB_0 P_0 Q_0
 rcases Bool.eq_false_or_eq_true r0 with hr0 | hr0
 ·subst hr0
  clear hg0; go_wp2_with fail; refine (known12_any _ (Nat.le_trans HLO.out HB_1.out.size)).mono ?_; rintro e w2 ⟨rfl, hB⟩; have P_2 := hid (P_1.out.below hB); have Q_2 := hid (Q_1.out.below hB); have HB_2 := hid (Below.steps HB_1.out hB); clear hB  HB_1 P_1 Q_1; go_wp2_with fail
  go_ret
  exact ⟨rfl, HB_2.out⟩
 ·skip
  subst hr0; have HG0 := hid (hg0 rfl); clear hg0; go_wp2_with fail; refine (pgreat_any v Q_1.out).mono ?_; rintro e w2 ⟨r1, rfl, hB, hg1⟩; have P_2 := hid (P_1.out.below hB); have Q_2 := hid (Q_1.out.below hB); have HB_2 := hid (Below.steps HB_1.out hB); clear hB  HB_1 P_1 Q_1
  rcases Bool.eq_false_or_eq_true r1 with hr1 | hr1
  ·subst hr1
   clear hg1; go_wp2_with fail; refine (known12_any _ (Nat.le_trans HLO.out HB_2.out.size)).mono ?_; rintro e w3 ⟨rfl, hB⟩; have P_3 := hid (P_2.out.below hB); have Q_3 := hid (Q_2.out.below hB); have HB_3 := hid (Below.steps HB_2.out hB); clear hB  HB_2 P_2 Q_2; go_wp2_with fail
   go_ret
   exact ⟨rfl, HB_3.out⟩
  ·skip
   subst hr1; have HG1 := hid (hg1 rfl); clear hg1; have PC_2 := hid (Pr.pc (p := p) P_2.out HG0.out.2.1); have QC_2 := hid (Pr.pc (p := q) Q_2.out HG1.out.2.1); clear P_2 Q_2
   have hsp : Sm 8 p := sm_of hfp HG0.out PC_2.out.bds
   have hsq : Sm 8 q := sm_of hfq HG1.out QC_2.out.bds
   have HSP := hid hsp; have HSQ := hid hsq
   have hnn : n ≤ 8 := by have := hsp.l; have := PC_2.out.len; omega
   have hmm : m ≤ 8 := by have := hsq.l; have := QC_2.out.len; omega
   have HDV := hid (hsp.div hsq hv h1); have HSZ := hid (hsp.sz hsq); have HV := hid hv; clear hsp hsq HG0 HG1; go_wp2_with fail
   refine (divide_of (run_any (kq := true) (K := 91) (HMV.out _) (PC_2.out.mono (by omega)) (QC_2.out.mono (by omega)) HDV.out (fun n hl => HSZ.out.ok HDV.out true n hl) (by omega) (by omega) (Nat.le_trans HLO.out HB_2.out.size))).mono ?_
   rintro e w3 ⟨u, zo, zn, zc, ro, rn, rc, hu, rfl, hq, hr, hmv, hgr⟩; have hB := below_none hgr; obtain ⟨s, hlong, hdeg, hue⟩ := ends_none hu; subst hue; clear hu; have HLG := hid hlong; have HDG := hid hdeg; have HIT := hid (HDV.out.it s hlong); have HAL := hid (HSZ.out.all HDV.out hlong); clear hlong hdeg; have hzn := hq.len; have hrn := hr.len; have PC_3 := hid (PC_2.out.below hB); have QC_3 := hid (QC_2.out.below hB); have HB_3 := hid (Below.steps HB_2.out hB); have Z_3 := hid (hq); have R_3 := hid (hr)
   clear hB hgr hmv hq hr HB_2 PC_2 QC_2
   have hs8 : s ≤ 8 := HAL.out.2.2.2.2
   have hrl : rn ≤ 51480 := by have := HAL.out.1; have h : (itP q v p s).2.length = rn := hrn; omega
   have hzl : zn ≤ 27456 := by have := HAL.out.2.1; have h := hzn; simp only [qk, if_true] at h; omega
   clear hzn hrn; obtain ⟨d, hd⟩ : ∃ d, degP q v = d := ⟨_, rfl⟩; have HD := hid hd; have hdb := degP_le (fall_mays HSQ.out.f) v; rw [hd] at hdb; clear hd; go_wp2_with fail
   refine (vDegreeC_any v d QC_3.out HSQ.out.f (by omega) HD.out).mono ?_
   rintro e w4 ⟨rfl, hB⟩; have PC_4 := hid (PC_3.out.below hB); have QC_4 := hid (QC_3.out.below hB); have Z_4 := hid (Z_3.out.below hB); have R_4 := hid (R_3.out.below hB); have HB_4 := hid (Below.steps HB_3.out hB); clear hB  HB_3 PC_3 QC_3 Z_3 R_3; go_wp2_with fail
   refine (vCoefC_any v d QC_4.out HSQ.out.f HV.out (by omega) (by omega)).mono ?_
   rintro e w5 ⟨vio, vin, vic, rfl, hX, hB⟩; have hin := hX.len
   have HI : Hid (hdP q v = coefP q v d) := by rw [Hid, ← HD.out]; rfl
   rw [← HI.out] at hX hin; have hib := hX.pc.lower (hd_bds HSQ.out.b)
   have PC_5 := hid (PC_4.out.below hB); have QC_5 := hid (QC_4.out.below hB); have Z_5 := hid (Z_4.out.below hB); have R_5 := hid (R_4.out.below hB); have HB_5 := hid (Below.steps HB_4.out hB)
   have I_5 := hid (hib.mono (show 8 ≤ 91 by omega))
   clear hB hX hib HB_4 PC_4 QC_4 Z_4 R_4; have hhl := hd_len q v
   have hin8 : vin ≤ 8 := by have := HSQ.out.l; omega
   have HPW := hid (powT_small (n := s) (N := 8) (L := 6435) (hd_fall HSQ.out.f v) (HSQ.out.e.hd (fall_mays HSQ.out.f) v) hs8 (by omega) (cn_r8 (by omega)) (by omega) (by omega) (S := 4294967296 ^ 9) (K := 91) (by have := sumC_parts q v; have := HSQ.out.sum (by omega); omega) (Nat.pow_pos (by omega)) (by decide +kernel))
   have HIN : Hid ((hdP q v).length = vin) := hin
   clear hhl hin; go_wp2_with fail
   refine (ppowL_any s (by omega) I_5.out (hd_fall HSQ.out.f v) (by omega) (by omega) HPW.out.1 HPW.out.2.1 (by rw [← HIN.out]; exact HPW.out.2.2)).mono ?_
   rintro e w6 ⟨vxo, vxn, vxc, rfl, hX, hB⟩; have hxn := hX.len; have PC_6 := hid (PC_5.out.below hB); have QC_6 := hid (QC_5.out.below hB); have Z_6 := hid (Z_5.out.below hB); have R_6 := hid (R_5.out.below hB); have I_6 := hid (I_5.out.below hB); have HB_6 := hid (Below.steps HB_5.out hB); have X_6 := hid (hX); clear hB hX HB_5 PC_5 QC_5 Z_5 R_5 I_5; clear I_6; have HXF := hid (powT_fall (fall_mays (hd_fall HSQ.out.f v)) s); have HXE := hid (powT_eb (hd_fall HSQ.out.f v) HPW.out.1 (HSQ.out.e.hd (fall_mays HSQ.out.f) v) s (Nat.le_refl s))
   have hxl : vxn ≤ 6435 := by have h := powT_len (hd_fall HSQ.out.f v) HPW.out.1 s (Nat.le_refl s); have h2 := cn_r (hdP q v).length (by have := HIN.out; omega) s (by omega); omega
   clear hxn
   have HF1 : Hid (fitT (powT (hdP q v) s).1 p) := EB.fit (fall_mays HXF.out) (fall_mays HSP.out.f) HXE.out HSP.out.e (by omega)
   have hnm1 : vxn * n ≤ 51480 := Nat.mul_le_mul hxl hnn
   have HXS : Hid (sumC (powT (hdP q v) s).1 ≤ (4294967296 ^ 9) ^ 8) := Nat.le_trans (powT_sum (hd_fall HSQ.out.f v) HPW.out.1 s (Nat.le_refl s)) (Nat.le_trans (Nat.pow_le_pow_left (by have := sumC_parts q v; have := HSQ.out.sum (by omega); omega : sumC (hdP q v) ≤ 4294967296 ^ 9) s) (Nat.pow_le_pow_right (Nat.pow_pos (by omega)) hs8))
   go_wp2_with fail
   refine (ptimes_any X_6.out (PC_6.out.mono (show 8 ≤ 91 by omega)) HXF.out HSP.out.f (by omega) (by omega) (by omega) (by omega) (fitB_iff.2 HF1.out)).mono ?_
   rintro e w7 ⟨vao, van, vac, rfl, hX, hB⟩
   have hX2 := hX.lower (K := 91) (bd_sum (Nat.lt_of_le_of_lt (Nat.le_trans (sumC_times _ _) (Nat.mul_le_mul HXS.out (HSP.out.sum (by omega)))) (by decide +kernel)))
   have PC_7 := hid (PC_6.out.below hB); have QC_7 := hid (QC_6.out.below hB); have Z_7 := hid (Z_6.out.below hB); have R_7 := hid (R_6.out.below hB); have X_7 := hid (X_6.out.below hB); have HB_7 := hid (Below.steps HB_6.out hB); have A_7 := hid (hX2); clear hB hX hX2 HB_6 PC_6 QC_6 Z_6 R_6 X_6; clear X_7
   have HF2 : Hid (fitT (itP q v p s).1 q) := EB.fit (fall_mays HIT.out.fq) (fall_mays HSQ.out.f) HIT.out.eq HSQ.out.e (by omega)
   have hnm2 : zn * m ≤ 219648 := Nat.mul_le_mul hzl hmm
   go_wp2_with fail
   refine (ptimes_any (p := (itP q v p s).1) Z_7.out (QC_7.out.mono (show 8 ≤ 91 by omega)) HIT.out.fq HSQ.out.f (by omega) (by omega) (by omega) (by omega) (fitB_iff.2 HF2.out)).mono ?_
   rintro e w8 ⟨vbo, vbn, vbc, rfl, hX, hB⟩; have hyn := hX.len; have hyl := timesT_length (itP q v p s).1 q
   have hX2 := hX.lower (K := 91) (bd_sum (Nat.lt_of_le_of_lt (Nat.le_trans (sumC_times _ _) (Nat.mul_le_mul (Nat.le_trans HAL.out.2.2.2.1 (Nat.mul_le_mul hs8 (Nat.mul_le_mul_right _ (Nat.pow_le_pow_right (Nat.pow_pos (by omega)) hs8)))) (HSQ.out.sum (by omega)))) (by decide +kernel)))
   have hbl : vbn ≤ 219648 := by have h1 : (itP q v p s).1.length * q.length ≤ 27456 * 8 := Nat.mul_le_mul HAL.out.2.1 HSQ.out.l; omega
   have PC_8 := hid (PC_7.out.below hB); have QC_8 := hid (QC_7.out.below hB); have Z_8 := hid (Z_7.out.below hB); have R_8 := hid (R_7.out.below hB); have A_8 := hid (A_7.out.below hB); have HB_8 := hid (Below.steps HB_7.out hB); have Y_8 := hid (hX2); clear hB hX hX2 hyn hyl HB_7 PC_7 QC_7 Z_7 R_7 A_7; have HYF := hid (timesT_fall HIT.out.fq HSQ.out.f HF2.out); go_wp2_with fail
   refine (padd_any Y_8.out (R_8.out.mono (Nat.le_refl 91)) HYF.out HIT.out.fr (by omega) (by omega)).mono ?_
   rintro e w9 ⟨vco, vcn, vcc, rfl, hX, hB⟩; have PC_9 := hid (PC_8.out.below hB); have QC_9 := hid (QC_8.out.below hB); have Z_9 := hid (Z_8.out.below hB); have R_9 := hid (R_8.out.below hB); have A_9 := hid (A_8.out.below hB); have Y_9 := hid (Y_8.out.below hB); have HB_9 := hid (Below.steps HB_8.out hB); have W_9 := hid (hX); clear hB hX HB_8 PC_8 QC_8 Z_8 R_8 A_8 Y_8
   have HEQ : Hid (timesT (powT (hdP q v) s).1 p = addT (timesT (itP q v p s).1 q) (itP q v p s).2) := by
    refine fall_ext (timesT_fall HXF.out HSP.out.f HF1.out) (addT_spec HYF.out (fall_mays HIT.out.fr)).1 fun ρ => ?_
    rw [(timesT_spec (fall_mays HXF.out) (fall_mays HSP.out.f) HF1.out).2, (addT_spec HYF.out (fall_mays HIT.out.fr)).2, (timesT_spec (fall_mays HIT.out.fq) (fall_mays HSQ.out.f) HF2.out).2, powT_ev (hd_fall HSQ.out.f v) HPW.out.1 ρ s (Nat.le_refl s)]
    exact HIT.out.ev ρ
   go_wp2_with fail
   refine (psame_any true A_9.out.raw W_9.out.raw (decide_eq_true (by rw [HEQ.out]))).mono ?_
   rintro e w10 ⟨rfl, hB⟩; have PC_10 := hid (PC_9.out.below hB); have QC_10 := hid (QC_9.out.below hB); have Z_10 := hid (Z_9.out.below hB); have R_10 := hid (R_9.out.below hB); have A_10 := hid (A_9.out.below hB); have Y_10 := hid (Y_9.out.below hB); have W_10 := hid (W_9.out.below hB); have HB_10 := hid (Below.steps HB_9.out hB); clear hB  HB_9 PC_9 QC_9 Z_9 R_9 A_9 Y_9 W_9; clear A_10; clear W_10; clear Y_10; clear Z_10; obtain ⟨fd, hfd⟩ : ∃ fd, degP p v = fd := ⟨_, rfl⟩; have HFD := hid hfd
   have hfb := degP_le (fall_mays HSP.out.f) v; have hf0 := degP_zero p v; rw [hfd] at hfb hf0; have hsl := steps_le HDV.out HLG.out; rw [hfd, HD.out] at hsl; clear hfd; have hd1 := HDV.out.h1; rw [HD.out] at hd1; obtain ⟨y, hy⟩ : ∃ y, fd - d + 1 = y := ⟨_, rfl⟩
   have hw1 : IntKind.i64.wrap (fd - d) = fd - d := IntWalk.i64_in _ ⟨by omega, by omega⟩
   have hw2 : IntKind.i64.wrap (fd - d + 1) = y := by rw [hy]; exact IntWalk.i64_in _ ⟨by omega, by omega⟩
   rw [hy] at hsl; have HYY := hid hy
   clear hy
   by_cases h0 : rn = 0
   ·subst h0
    have hz0 : (((0 : Nat) : Int) == 0) = true := rfl
    go_wp2_with fail
    refine (vDegreeC_any v fd PC_10.out HSP.out.f (by omega) HFD.out).mono ?_
    rintro e w11 ⟨rfl, hB⟩; have PC_11 := hid (PC_10.out.below hB); have QC_11 := hid (QC_10.out.below hB); have R_11 := hid (R_10.out.below hB); have HB_11 := hid (Below.steps HB_10.out hB); clear hB  HB_10 PC_10 QC_10 R_10
    by_cases hy0 : y < 0
    ·have hm0 : decide (y < 0) = true := decide_eq_true hy0
     have hs0 : decide ((s : Int) ≤ 0) = true := decide_eq_true (by omega)
     go_wp2_with fail; refine (known12_any _ (Nat.le_trans HLO.out HB_11.out.size)).mono ?_
     rintro e w12 ⟨rfl, hB⟩; have PC_12 := hid (PC_11.out.below hB); have QC_12 := hid (QC_11.out.below hB); have R_12 := hid (R_11.out.below hB); have HB_12 := hid (Below.steps HB_11.out hB); clear hB  HB_11 PC_11 QC_11 R_11; go_wp2_with fail
     go_ret
     exact ⟨rfl, HB_12.out⟩
    ·skip
     have hm0 : decide (y < 0) = false := decide_eq_false hy0
     have hs0 : decide ((s : Int) ≤ y) = true := decide_eq_true (by omega)
     go_wp2_with fail; refine (known12_any _ (Nat.le_trans HLO.out HB_11.out.size)).mono ?_
     rintro e w12 ⟨rfl, hB⟩; have PC_12 := hid (PC_11.out.below hB); have QC_12 := hid (QC_11.out.below hB); have R_12 := hid (R_11.out.below hB); have HB_12 := hid (Below.steps HB_11.out hB); clear hB  HB_11 PC_11 QC_11 R_11; go_wp2_with fail
     go_ret
     exact ⟨rfl, HB_12.out⟩
   ·skip
    have hz0 : ((rn : Int) == 0) = false := by simpa using (show ¬ (rn : Int) = 0 by omega)
    obtain ⟨rd, hrd⟩ : ∃ rd, degP (itP q v p s).2 v = rd := ⟨_, rfl⟩; have HRD := hid hrd
    have hlt : rd < d := by have := HDG.out; rw [hrd, HD.out] at this; exact this
    have hltd : decide (rd < d) = true := decide_eq_true hlt
    clear hrd; go_wp2_with fail
    refine (vDegreeC_any v rd R_10.out HIT.out.fr (by omega) HRD.out).mono ?_
    rintro e w11 ⟨rfl, hB⟩; have PC_11 := hid (PC_10.out.below hB); have QC_11 := hid (QC_10.out.below hB); have R_11 := hid (R_10.out.below hB); have HB_11 := hid (Below.steps HB_10.out hB); clear hB  HB_10 PC_10 QC_10 R_10; go_wp2_with fail
    refine (vDegreeC_any v fd PC_11.out HSP.out.f (by omega) HFD.out).mono ?_
    rintro e w12 ⟨rfl, hB⟩; have PC_12 := hid (PC_11.out.below hB); have QC_12 := hid (QC_11.out.below hB); have R_12 := hid (R_11.out.below hB); have HB_12 := hid (Below.steps HB_11.out hB); clear hB  HB_11 PC_11 QC_11 R_11
    by_cases hy0 : y < 0
    ·have hm0 : decide (y < 0) = true := decide_eq_true hy0
     have hs0 : decide ((s : Int) ≤ 0) = true := decide_eq_true (by omega)
     go_wp2_with fail; refine (known12_any _ (Nat.le_trans HLO.out HB_12.out.size)).mono ?_
     rintro e w13 ⟨rfl, hB⟩; have PC_13 := hid (PC_12.out.below hB); have QC_13 := hid (QC_12.out.below hB); have R_13 := hid (R_12.out.below hB); have HB_13 := hid (Below.steps HB_12.out hB); clear hB  HB_12 PC_12 QC_12 R_12; go_wp2_with fail
     go_ret
     exact ⟨rfl, HB_13.out⟩
    ·skip
     have hm0 : decide (y < 0) = false := decide_eq_false hy0
     have hs0 : decide ((s : Int) ≤ y) = true := decide_eq_true (by omega)
     go_wp2_with fail; refine (known12_any _ (Nat.le_trans HLO.out HB_12.out.size)).mono ?_
     rintro e w13 ⟨rfl, hB⟩; have PC_13 := hid (PC_12.out.below hB); have QC_13 := hid (QC_12.out.below hB); have R_13 := hid (R_12.out.below hB); have HB_13 := hid (Below.steps HB_12.out hB); clear hB  HB_12 PC_12 QC_12 R_12; go_wp2_with fail
     go_ret
     exact ⟨rfl, HB_13.out⟩
theorem pseudoIdentity_any [Ol] {ao bo : Option Addr} {n cap m cb : Nat} {ps qs : List Raw} {w : World} (v : Int) (hp : Pr w ao n cap ps) (hq : Pr w bo m cb qs) (hlo : Ol.lo ≤ w.heap.size) : Calls Tryz.prog 4 #[.slice ao n cap, .slice bo m cb, .int .i64 v] w (RetB (.bool true) w) := by
 cases h1 : mayR ps with
 | false => exact pid_bad1 v hp hq hlo h1
 | true =>
  by_cases h2 : degP (plnR qs) v = 0
  ·exact pid_bad2 v hp hq hlo h1 h2
  ·cases h3 : mayR qs with
   | false => rw [pln_no h3] at h2; exact absurd rfl h2
   | true =>
    obtain ⟨hfp, hpp⟩ := mayR_yes hp.wf' h1; obtain ⟨hfq, hqq⟩ := mayR_yes hq.wf' h3; rw [pln_yes h3] at h2
    generalize ps.map rawV = p at hpp hfp
    generalize qs.map rawV = q at hqq hfq h2
    subst hpp; subst hqq
    have hv : 1 ≤ v ∧ v ≤ 200 := Classical.byContradiction fun h => h2 (degP_out (fall_mays hfq) (by omega))
    exact pid_main v hp hq hlo hfp hfq hv (by have := degP_zero q v; omega)
end Go.Proofs.YtodcddkiodmklaaGreat
