/-
  The law RankLowers.
-/
import Derived.Test.YtmmgipcacceakaaGreatRkLo
import Derived.Test.YtmmgipcacceakaaGreatGRk3
import Derived.Test.YtmmgipcacceakaaGreatPlMayU
set_option maxHeartbeats 40000000
set_option maxRecDepth 100000
namespace Go.Proofs.YtmmgipcacceakaaGreat
open Lib (hid)
open Go.RowKit
theorem Pr.nil [Ol] (w : World) : Pr w none 0 0 [] := ⟨[], Gl.zero 3 w, trivial⟩
theorem rankLowers_great [Ol] {ao bo : Option Addr} {n cap m cb : Nat} {ps qs : List Raw} {w : World} (hp : Pr w ao n cap ps) (hq : Pr w bo m cb qs) (hg : Grt 2 (fun k => [ps, qs].getD k [])) :
  Calls Tryz.prog 4 #[.slice ao n cap, .slice bo m cb] w (RetB (.bool true) w) := by
 obtain ⟨v, hv⟩ : ∃ v, clsP (plnR ps) = v := ⟨_, rfl⟩; have HP := hid (And.intro hp (And.intro hq (And.intro hg hv))); clear hp hq hg hv
 go_enter Tryz.func4, Tryz.ntmps4
 go_wp2_with fail; refine (vClassU_any v HP.out.1 HP.out.2.2.2).mono ?_
 rintro e w1 ⟨rfl, hB⟩; have HB1 := hid hB; clear hB; go_wp2_with fail; refine (great15_any true (Plx.two (HP.out.1.below HB1.out) (HP.out.2.1.below HB1.out) _) (iff_of_true rfl HP.out.2.2.1)).mono ?_; rintro e w2 ⟨rfl, hB⟩; have HB2 := hid (Below.steps HB1.out (Below.steps (below_alloc _ _) hB)); clear hB HP; go_wp2_with fail; refine (known15_any _).mono ?_; rintro e w3 ⟨rfl, hB⟩; have HB3 := hid (Below.steps HB2.out hB); clear hB HB1 HB2; go_wp2_with fail
 go_ret
 exact ⟨rfl, HB3.out⟩
theorem rankLowers_num [Ol] {ao bo : Option Addr} {n cap m cb : Nat} {ps qs : List Raw} {w : World} (hp : Pr w ao n cap ps) (hq : Pr w bo m cb qs) (hng : ¬ Grt 2 (fun k => [ps, qs].getD k [])) (hv : clsP (plnR ps) = 0) :
  Calls Tryz.prog 4 #[.slice ao n cap, .slice bo m cb] w (RetB (.bool true) w) := by
 have HP := hid (And.intro hp (And.intro hq (And.intro hng hv))); clear hp hq hng hv
 go_enter Tryz.func4, Tryz.ntmps4
 go_wp2_with fail; refine (vClassU_any 0 HP.out.1 HP.out.2.2.2).mono ?_
 rintro e w1 ⟨rfl, hB⟩; have HB1 := hid hB; clear hB; go_wp2_with fail
 refine (great15_any false (Plx.two (HP.out.1.below HB1.out) (HP.out.2.1.below HB1.out) _) ⟨(fun h => by cases h), fun h => absurd h HP.out.2.2.1⟩).mono ?_
 rintro e w2 ⟨rfl, hB⟩; have HB2 := hid (Below.steps HB1.out (Below.steps (below_alloc _ _) hB)); clear hB HP; go_wp2_with fail; refine (known15_any _).mono ?_; rintro e w3 ⟨rfl, hB⟩; have HB3 := hid (Below.steps HB2.out hB); clear hB HB1 HB2; go_wp2_with fail
 go_ret
 exact ⟨rfl, HB3.out⟩
theorem rankLowers_main [Ol] {ao bo : Option Addr} {n cap m cb : Nat} {ps qs : List Raw} {w : World} (hp : Pr w ao n cap ps) (hq : Pr w bo m cb qs) (hng : ¬ Grt 2 (fun k => [ps, qs].getD k [])) (v : Int) (hv : clsP (plnR ps) = v) (hv0 : v ≠ 0) :
  Calls Tryz.prog 4 #[.slice ao n cap, .slice bo m cb] w (RetB (.bool true) w) := by
 have hs := Small15.of (ls := [ps, qs]) (fun _ _ => rfl) hng
 have hn : n ≤ 12 := by
  have h := (great_facts (hs.ok ps (by simp))).1
  rw [hp.len] at h
  omega
 have hm : m ≤ 12 := by
  have h := (great_facts (hs.ok qs (by simp))).1
  rw [hq.len] at h
  omega
 obtain ⟨p, hpp⟩ : ∃ p, plnR ps = p := ⟨_, rfl⟩
 have hf : fall p := by rw [← hpp]; exact pln_fall hp.wfs
 have HQF : Hid (fall (plnR qs)) := pln_fall hq.wfs
 have HV := hid (And.intro hv (And.intro hpp hf))
 have hv1 : 0 < v ∧ v ≤ 200 := by
  have := clsP_bd hf
  rw [hpp] at hv; rw [hv] at this
  omega
 obtain ⟨hv2, hv3⟩ := hv1
 have HVC : Hid (clsP p = v) := by rw [Hid, ← hpp]; exact hv
 have HIN : Hid (∀ {jn : Nat}, (initP p).length = jn → jn ≤ 1000000) := fun h => by
  have h1 := init_len p; have h2 := pln_len ps; rw [hpp, hp.len] at h2
  omega
 have HN := hid hng
 have HL := hid (And.intro (hs.lim2 ps (by simp)) (And.intro (hs.lim2 qs (by simp)) (And.intro (hs.lim ps (by simp)) (hs.lim qs (by simp)))))
 have P_0 := hid hp; have Q_0 := hid hq; have HB_0 := hid (Below.refl w.heap.size w)
 have hve : (v == 0) = false := by simpa using hv0
 clear hp hq hng hs hv hpp hf
 go_enter Tryz.func4, Tryz.ntmps4
 go_wp2_with fail; refine (vClass_any v P_0.out HL.out.1 HV.out.1).mono ?_
 rintro e w1 ⟨rfl, hB⟩; have P_1 := hid (P_0.out.below hB); have Q_1 := hid (Q_0.out.below hB); have HB_1 := hid (Below.steps HB_0.out hB); clear hB  HB_0 P_0 Q_0; go_wp2_with fail
 refine (great15_any false (Plx.two P_1.out Q_1.out _) ⟨(fun h => by cases h), fun h => absurd h HN.out⟩).mono ?_
 rintro e w2 ⟨rfl, hB0⟩; have hB := Below.steps (below_alloc _ _) hB0; clear hB0; have P_2 := hid (P_1.out.below hB); have Q_2 := hid (Q_1.out.below hB); have HB_2 := hid (Below.steps HB_1.out hB); clear hB  HB_1 P_1 Q_1; go_wp2_with fail
 refine (vInit_any P_2.out HL.out.2.2.1 (by omega) (by omega)).mono ?_
 rintro e w3 ⟨io, jn, ic, rfl, hX, hB⟩; rw [HV.out.2.1] at hX; have P_3 := hid (P_2.out.below hB); have Q_3 := hid (Q_2.out.below hB); have HB_3 := hid (Below.steps HB_2.out hB); have I_3 := hid (hX.pc); clear hB hX HB_2 P_2 Q_2; go_wp2_with fail
 refine (vTail_any P_3.out HL.out.2.2.1 (by omega) (by omega)).mono ?_
 rintro e w4 ⟨tao, tn, tc, rfl, hX, hB⟩; rw [HV.out.2.1] at hX; have P_4 := hid (P_3.out.below hB); have Q_4 := hid (Q_3.out.below hB); have I_4 := hid (I_3.out.below hB); have HB_4 := hid (Below.steps HB_3.out hB); have T_4 := hid (hX.pc); clear hB hX HB_3 P_3 Q_3 I_3; go_wp2_with fail
 refine (vDer_any v (by unfold in64; omega) P_4.out HL.out.2.2.1 (by omega) (by omega)).mono ?_
 rintro e w5 ⟨xo, dn, dc, rfl, hX, hB⟩; rw [HV.out.2.1] at hX; have P_5 := hid (P_4.out.below hB); have Q_5 := hid (Q_4.out.below hB); have I_5 := hid (I_4.out.below hB); have T_5 := hid (T_4.out.below hB); have HB_5 := hid (Below.steps HB_4.out hB); have D_5 := hid (hX.pc); clear hB hX HB_4 P_4 Q_4 I_4 T_4
 have hvx : ¬ v = 0 := by omega
 have htl := T_5.out.len; have hdl := D_5.out.len
 go_upto_region 5 with (fail)
 go_cut [57] from 27 to 57 (fun s wx => s = .bool false ∧ Hid (Below w5.heap.size w5 wx))
 case first =>
  by_cases ht0 : tn = 0
  ·subst ht0
   by_cases hd0 : dn = 0
   ·subst hd0
    have HC_5 := hid (Below.refl w5.heap.size w5); go_wp2_with fail
    refine (rcompare_any (-1) I_5.out.raw (fun t ht => Nat.le_trans (I_5.out.lens t ht) (by omega)) P_5.out HL.out.1 (by rw [pln_raw (init_fall HV.out.2.2), HV.out.2.1]; exact lower_cls (init_lower HV.out.2.2 (by rw [HVC.out]; omega)))).mono ?_
    rintro e w6 ⟨rfl, hB⟩; have P_6 := hid (P_5.out.below hB); have I_6 := hid (I_5.out.below hB); have T_6 := hid (T_5.out.below hB); have D_6 := hid (D_5.out.below hB); have HC_6 := hid (Below.steps HC_5.out hB); clear hB HC_5; go_wp2_with fail
    refine (rreduced_any false P_6.out HL.out.1 (by omega) P_6.out HL.out.1 (by rw [HV.out.2.1]; exact red_self (by rw [HVC.out]; omega))).mono ?_
    rintro e w7 ⟨rfl, hB⟩; have P_7 := hid (P_6.out.below hB); have I_7 := hid (I_6.out.below hB); have T_7 := hid (T_6.out.below hB); have D_7 := hid (D_6.out.below hB); have HC_7 := hid (Below.steps HC_6.out hB); clear hB HC_6; go_wp2_with fail
    go_meet
    case rel => exact ⟨rfl, HC_7.out⟩
   ·have hd1 : (0 : Int) < (dn : Int) := by omega
    have HC_5 := hid (Below.refl w5.heap.size w5); go_wp2_with fail
    refine (rcompare_any (-1) I_5.out.raw (fun t ht => Nat.le_trans (I_5.out.lens t ht) (by omega)) P_5.out HL.out.1 (by rw [pln_raw (init_fall HV.out.2.2), HV.out.2.1]; exact lower_cls (init_lower HV.out.2.2 (by rw [HVC.out]; omega)))).mono ?_
    rintro e w6 ⟨rfl, hB⟩; have P_6 := hid (P_5.out.below hB); have I_6 := hid (I_5.out.below hB); have T_6 := hid (T_5.out.below hB); have D_6 := hid (D_5.out.below hB); have HC_6 := hid (Below.steps HC_5.out hB); clear hB HC_5; go_wp2_with fail
    refine (rcompare_any (-1) D_6.out.raw (fun t ht => Nat.le_trans (D_6.out.lens t ht) (by omega)) P_6.out HL.out.1 (by rw [pln_raw (der_fall HV.out.2.2 v), HV.out.2.1, ← HVC.out]; exact der_rk HV.out.2.2 (by rw [HVC.out]; omega))).mono ?_
    rintro e w7 ⟨rfl, hB⟩; have P_7 := hid (P_6.out.below hB); have I_7 := hid (I_6.out.below hB); have T_7 := hid (T_6.out.below hB); have D_7 := hid (D_6.out.below hB); have HC_7 := hid (Below.steps HC_6.out hB); clear hB HC_6; go_wp2_with fail
    refine (rreduced_any false P_7.out HL.out.1 (by omega) P_7.out HL.out.1 (by rw [HV.out.2.1]; exact red_self (by rw [HVC.out]; omega))).mono ?_
    rintro e w8 ⟨rfl, hB⟩; have P_8 := hid (P_7.out.below hB); have I_8 := hid (I_7.out.below hB); have T_8 := hid (T_7.out.below hB); have D_8 := hid (D_7.out.below hB); have HC_8 := hid (Below.steps HC_7.out hB); clear hB HC_7; go_wp2_with fail
    go_meet
    case rel => exact ⟨rfl, HC_8.out⟩
  ·have ht1 : (0 : Int) < (tn : Int) := by omega
   have HTN : Hid (tailP p ≠ []) := fun e => ht0 (by rw [← htl, e]; rfl)
   by_cases hd0 : dn = 0
   ·subst hd0
    have HC_5 := hid (Below.refl w5.heap.size w5); go_wp2_with fail
    refine (rcompare_any (-1) I_5.out.raw (fun t ht => Nat.le_trans (I_5.out.lens t ht) (by omega)) P_5.out HL.out.1 (by rw [pln_raw (init_fall HV.out.2.2), HV.out.2.1]; exact lower_cls (init_lower HV.out.2.2 (by rw [HVC.out]; omega)))).mono ?_
    rintro e w6 ⟨rfl, hB⟩; have P_6 := hid (P_5.out.below hB); have I_6 := hid (I_5.out.below hB); have T_6 := hid (T_5.out.below hB); have D_6 := hid (D_5.out.below hB); have HC_6 := hid (Below.steps HC_5.out hB); clear hB HC_5; go_wp2_with fail
    refine (rcompare_any (-1) T_6.out.raw (fun t ht => Nat.le_trans (T_6.out.lens t ht) (by omega)) P_6.out HL.out.1 (by rw [pln_raw (tail_fall HV.out.2.2), HV.out.2.1]; exact tail_rk HV.out.2.2 (by rw [HVC.out]; omega) HTN.out)).mono ?_
    rintro e w7 ⟨rfl, hB⟩; have P_7 := hid (P_6.out.below hB); have I_7 := hid (I_6.out.below hB); have T_7 := hid (T_6.out.below hB); have D_7 := hid (D_6.out.below hB); have HC_7 := hid (Below.steps HC_6.out hB); clear hB HC_6; go_wp2_with fail
    refine (rreduced_any false P_7.out HL.out.1 (by omega) P_7.out HL.out.1 (by rw [HV.out.2.1]; exact red_self (by rw [HVC.out]; omega))).mono ?_
    rintro e w8 ⟨rfl, hB⟩; have P_8 := hid (P_7.out.below hB); have I_8 := hid (I_7.out.below hB); have T_8 := hid (T_7.out.below hB); have D_8 := hid (D_7.out.below hB); have HC_8 := hid (Below.steps HC_7.out hB); clear hB HC_7; go_wp2_with fail
    go_meet
    case rel => exact ⟨rfl, HC_8.out⟩
   ·have hd1 : (0 : Int) < (dn : Int) := by omega
    have HC_5 := hid (Below.refl w5.heap.size w5); go_wp2_with fail
    refine (rcompare_any (-1) I_5.out.raw (fun t ht => Nat.le_trans (I_5.out.lens t ht) (by omega)) P_5.out HL.out.1 (by rw [pln_raw (init_fall HV.out.2.2), HV.out.2.1]; exact lower_cls (init_lower HV.out.2.2 (by rw [HVC.out]; omega)))).mono ?_
    rintro e w6 ⟨rfl, hB⟩; have P_6 := hid (P_5.out.below hB); have I_6 := hid (I_5.out.below hB); have T_6 := hid (T_5.out.below hB); have D_6 := hid (D_5.out.below hB); have HC_6 := hid (Below.steps HC_5.out hB); clear hB HC_5; go_wp2_with fail
    refine (rcompare_any (-1) T_6.out.raw (fun t ht => Nat.le_trans (T_6.out.lens t ht) (by omega)) P_6.out HL.out.1 (by rw [pln_raw (tail_fall HV.out.2.2), HV.out.2.1]; exact tail_rk HV.out.2.2 (by rw [HVC.out]; omega) HTN.out)).mono ?_
    rintro e w7 ⟨rfl, hB⟩; have P_7 := hid (P_6.out.below hB); have I_7 := hid (I_6.out.below hB); have T_7 := hid (T_6.out.below hB); have D_7 := hid (D_6.out.below hB); have HC_7 := hid (Below.steps HC_6.out hB); clear hB HC_6; go_wp2_with fail
    refine (rcompare_any (-1) D_7.out.raw (fun t ht => Nat.le_trans (D_7.out.lens t ht) (by omega)) P_7.out HL.out.1 (by rw [pln_raw (der_fall HV.out.2.2 v), HV.out.2.1, ← HVC.out]; exact der_rk HV.out.2.2 (by rw [HVC.out]; omega))).mono ?_
    rintro e w8 ⟨rfl, hB⟩; have P_8 := hid (P_7.out.below hB); have I_8 := hid (I_7.out.below hB); have T_8 := hid (T_7.out.below hB); have D_8 := hid (D_7.out.below hB); have HC_8 := hid (Below.steps HC_7.out hB); clear hB HC_7; go_wp2_with fail
    refine (rreduced_any false P_8.out HL.out.1 (by omega) P_8.out HL.out.1 (by rw [HV.out.2.1]; exact red_self (by rw [HVC.out]; omega))).mono ?_
    rintro e w9 ⟨rfl, hB⟩; have P_9 := hid (P_8.out.below hB); have I_9 := hid (I_8.out.below hB); have T_9 := hid (T_8.out.below hB); have D_9 := hid (D_8.out.below hB); have HC_9 := hid (Below.steps HC_8.out hB); clear hB HC_8; go_wp2_with fail
    go_meet
    case rel => exact ⟨rfl, HC_9.out⟩
 case rest =>
 obtain ⟨rfl, HC⟩ := hcut; obtain ⟨w6, hW⟩ : ∃ w6, w6 = wc := ⟨_, rfl⟩; rw [← hW] at HC ⊢; clear hW; have P_6 := hid (P_5.out.below HC.out); have Q_6 := hid (Q_5.out.below HC.out); have I_6 := hid (I_5.out.below HC.out); have HB_6 := hid (Below.steps HB_5.out HC.out); clear HC T_5 D_5 P_5 Q_5 I_5 HB_5 htl hdl; obtain ⟨c, hc⟩ : ∃ c, clsP (plnR qs) = c := ⟨_, rfl⟩; have HCC := hid hc; clear hc; go_wp2_with fail; refine (vClass_any c Q_6.out HL.out.2.1 HCC.out).mono ?_; rintro e w7 ⟨rfl, hB⟩; have P_7 := hid (P_6.out.below hB)
 have Q_7 := hid (Q_6.out.below hB); have I_7 := hid (I_6.out.below hB); have HB_7 := hid (Below.steps HB_6.out hB); clear hB  HB_6 P_6 Q_6 I_6
 by_cases hcv : c ≥ v
 ·have hd : decide (c ≥ v) = true := decide_eq_true hcv
  go_wp2_with fail
  refine (rreduced_any (ps := []) true (Pr.nil _) (fun t ht => by cases ht) (by omega) P_7.out HL.out.1 (by rw [HV.out.2.1]; exact red_low (a := []) trivial HV.out.2.2 (by rw [HVC.out]; omega) (by rw [HVC.out]; show (0 : Int) < v; omega))).mono ?_
  rintro e w8 ⟨rfl, hB⟩; have P_8 := hid (P_7.out.below hB); have Q_8 := hid (Q_7.out.below hB); have I_8 := hid (I_7.out.below hB); have HB_8 := hid (Below.steps HB_7.out hB); clear hB  HB_7 P_7 Q_7 I_7; go_wp2_with fail
  refine (rreduced_any true I_8.out.raw (fun t ht => Nat.le_trans (I_8.out.lens t ht) (by omega)) (HIN.out (I_8.out.len)) P_8.out HL.out.1 (by rw [pln_raw (init_fall HV.out.2.2), HV.out.2.1]; exact red_low (init_fall HV.out.2.2) HV.out.2.2 (by rw [HVC.out]; omega) (init_lower HV.out.2.2 (by rw [HVC.out]; omega)))).mono ?_
  rintro e w9 ⟨rfl, hB⟩; have P_9 := hid (P_8.out.below hB); have Q_9 := hid (Q_8.out.below hB); have I_9 := hid (I_8.out.below hB); have HB_9 := hid (Below.steps HB_8.out hB); clear hB  HB_8 P_8 Q_8 I_8; go_wp2_with fail
  refine (pmay_any true I_9.out.raw (fun t ht => Nat.le_trans (I_9.out.lens t ht) (by omega)) (mayR_rawC (init_fall HV.out.2.2))).mono ?_
  rintro e w10 ⟨rfl, hB⟩; have P_10 := hid (P_9.out.below hB); have Q_10 := hid (Q_9.out.below hB); have I_10 := hid (I_9.out.below hB); have HB_10 := hid (Below.steps HB_9.out hB); clear hB  HB_9 P_9 Q_9 I_9; go_wp2_with fail; refine (known15_any _).mono ?_; rintro e w11 ⟨rfl, hB⟩; have P_11 := hid (P_10.out.below hB); have Q_11 := hid (Q_10.out.below hB); have I_11 := hid (I_10.out.below hB); have HB_11 := hid (Below.steps HB_10.out hB); clear hB  HB_10 P_10 Q_10 I_10; go_wp2_with fail
  go_ret
  exact ⟨rfl, HB_11.out⟩
 ·have hd : decide (c ≥ v) = false := decide_eq_false hcv
  have HLT : Hid (clsP (plnR qs) < clsP p) := by rw [Hid, HCC.out, HVC.out]; omega
  clear hcv; go_wp2_with fail
  refine (rreduced_any true Q_7.out HL.out.2.1 (by omega) P_7.out HL.out.1 (by rw [HV.out.2.1]; exact red_low HQF.out HV.out.2.2 (by rw [HVC.out]; omega) HLT.out)).mono ?_
  rintro e w8 ⟨rfl, hB⟩; have P_8 := hid (P_7.out.below hB); have Q_8 := hid (Q_7.out.below hB); have I_8 := hid (I_7.out.below hB); have HB_8 := hid (Below.steps HB_7.out hB); clear hB  HB_7 P_7 Q_7 I_7; go_wp2_with fail
  refine (rreduced_any (ps := []) true (Pr.nil _) (fun t ht => by cases ht) (by omega) P_8.out HL.out.1 (by rw [HV.out.2.1]; exact red_low (a := []) trivial HV.out.2.2 (by rw [HVC.out]; omega) (by rw [HVC.out]; show (0 : Int) < v; omega))).mono ?_
  rintro e w9 ⟨rfl, hB⟩; have P_9 := hid (P_8.out.below hB); have Q_9 := hid (Q_8.out.below hB); have I_9 := hid (I_8.out.below hB); have HB_9 := hid (Below.steps HB_8.out hB); clear hB  HB_8 P_8 Q_8 I_8; go_wp2_with fail
  refine (rreduced_any true I_9.out.raw (fun t ht => Nat.le_trans (I_9.out.lens t ht) (by omega)) (HIN.out (I_9.out.len)) P_9.out HL.out.1 (by rw [pln_raw (init_fall HV.out.2.2), HV.out.2.1]; exact red_low (init_fall HV.out.2.2) HV.out.2.2 (by rw [HVC.out]; omega) (init_lower HV.out.2.2 (by rw [HVC.out]; omega)))).mono ?_
  rintro e w10 ⟨rfl, hB⟩; have P_10 := hid (P_9.out.below hB); have Q_10 := hid (Q_9.out.below hB); have I_10 := hid (I_9.out.below hB); have HB_10 := hid (Below.steps HB_9.out hB); clear hB  HB_9 P_9 Q_9 I_9; go_wp2_with fail
  refine (pmay_any true I_10.out.raw (fun t ht => Nat.le_trans (I_10.out.lens t ht) (by omega)) (mayR_rawC (init_fall HV.out.2.2))).mono ?_
  rintro e w11 ⟨rfl, hB⟩; have P_11 := hid (P_10.out.below hB); have Q_11 := hid (Q_10.out.below hB); have I_11 := hid (I_10.out.below hB); have HB_11 := hid (Below.steps HB_10.out hB); clear hB  HB_10 P_10 Q_10 I_10; go_wp2_with fail; refine (known15_any _).mono ?_; rintro e w12 ⟨rfl, hB⟩; have P_12 := hid (P_11.out.below hB); have Q_12 := hid (Q_11.out.below hB); have I_12 := hid (I_11.out.below hB); have HB_12 := hid (Below.steps HB_11.out hB); clear hB  HB_11 P_11 Q_11 I_11; go_wp2_with fail
  go_ret
  exact ⟨rfl, HB_12.out⟩
theorem rankLowers_any [Ol] {ao bo : Option Addr} {n cap m cb : Nat} {ps qs : List Raw} {w : World} (hp : Pr w ao n cap ps) (hq : Pr w bo m cb qs) : Calls Tryz.prog 4 #[.slice ao n cap, .slice bo m cb] w (RetB (.bool true) w) := by
 by_cases h1 : Grt 2 (fun k => [ps, qs].getD k [])
 ·exact rankLowers_great hp hq h1
 ·by_cases hv : clsP (plnR ps) = 0
  ·exact rankLowers_num hp hq h1 hv
  ·exact rankLowers_main hp hq h1 _ rfl hv
end Go.Proofs.YtmmgipcacceakaaGreat
