/-
  The law PolyOf.
-/
import Derived.Test.YtmbgljjfmbhelaaGreatPolyOfA
set_option maxHeartbeats 40000000
set_option maxRecDepth 100000
namespace Go.Proofs.YtmbgljjfmbhelaaGreat
open Lib (hid)
open Go.RowKit
theorem polyOf_great {lo ao : Option Addr} {n lc na ca : Nat} {m0 : Bool} {z : Int} {ps : List Raw} {w : World} (v k : Int) (hv : in64 v) (hk : in64 k) (hp : Pr w lo n lc ps) (hx : In w m0 ao na ca z)
  (g0 : greatR ps 40 = true) :
  Calls Tryz.prog 4 #[.slice lo n lc, .agg #[.bool m0, .slice ao na ca], .int .i64 v, .int .i64 k] w (RetB (.bool true) w) := by
 have P_0 := hid hp; have X_0 := hid hx; have HV := hid (And.intro hv hk); clear hp hx hv hk
 go_enter Tryz.func4, Tryz.ntmps4
 go_upto_region 1 with (fail)
 refine wp_world (fun w1 hW => ?_)
 obtain ⟨a1, hB⟩ := box1 w [.bool m0, .slice ao na ca] 43; rw [← hW] at a1 hB; clear hW; have BX_1 := hid a1; have HB_1 := hid hB; have P_1 := hid (P_0.out.below hB); have X_1 := hid (X_0.out.below hB); clear a1 hB P_0 X_0; clear HV; go_wp2_with fail; refine (great_any8 true 40 P_1.out g0).mono ?_; rintro e w2 ⟨rfl, hB⟩; have P_2 := hid (P_1.out.below hB); have X_2 := hid (X_1.out.below hB); have BX_2 := hid (BX_1.out.below hB); have HB_2 := hid (Below.steps HB_1.out hB); clear hB  HB_1 P_1 X_1 BX_1
 go_wp2_with fail; refine (known8_any _).mono ?_
 rintro e w3 ⟨rfl, hB⟩; have P_3 := hid (P_2.out.below hB); have X_3 := hid (X_2.out.below hB); have BX_3 := hid (BX_2.out.below hB); have HB_3 := hid (Below.steps HB_2.out hB); clear hB  HB_2 P_2 X_2 BX_2; go_wp2_with fail
 go_ret
 exact ⟨rfl, HB_3.out⟩
theorem polyOf_num {lo ao : Option Addr} {n lc na ca : Nat} {m0 : Bool} {z : Int} {ps : List Raw} {w : World} (v k : Int) (hv : in64 v) (hk : in64 k) (hp : Pr w lo n lc ps) (hx : In w m0 ao na ca z)
  (g0 : greatR ps 40 = false) (h20 : 20 < na) :
  Calls Tryz.prog 4 #[.slice lo n lc, .agg #[.bool m0, .slice ao na ca], .int .i64 v, .int .i64 k] w (RetB (.bool true) w) := by
 have P_0 := hid hp; have X_0 := hid hx; have HV := hid (And.intro hv hk); clear hp hx hv hk
 go_enter Tryz.func4, Tryz.ntmps4
 go_upto_region 1 with (fail)
 refine wp_world (fun w1 hW => ?_)
 obtain ⟨a1, hB⟩ := box1 w [.bool m0, .slice ao na ca] 43; rw [← hW] at a1 hB; clear hW; have BX_1 := hid a1; have HB_1 := hid hB; have P_1 := hid (P_0.out.below hB); have X_1 := hid (X_0.out.below hB); clear a1 hB P_0 X_0; clear HV; go_wp2_with fail; refine (great_any8 false 40 P_1.out g0).mono ?_; rintro e w2 ⟨rfl, hB⟩; have P_2 := hid (P_1.out.below hB); have X_2 := hid (X_1.out.below hB); have BX_2 := hid (BX_1.out.below hB); have HB_2 := hid (Below.steps HB_1.out hB); clear hB  HB_1 P_1 X_1 BX_1
 have d4 : decide ((20 : Int) < (na : Int)) = true := decide_eq_true (by omega)
 obtain ⟨c0, c1⟩ := BX_2.out.c2; go_wp2_with fail; refine (known8_any _).mono ?_; rintro e w3 ⟨rfl, hB⟩; have P_3 := hid (P_2.out.below hB); have X_3 := hid (X_2.out.below hB); have BX_3 := hid (BX_2.out.below hB); have HB_3 := hid (Below.steps HB_2.out hB); clear hB  HB_2 P_2 X_2 BX_2; go_wp2_with fail
 go_ret
 exact ⟨rfl, HB_3.out⟩
theorem polyOf_main {lo ao : Option Addr} {n lc na ca : Nat} {m0 : Bool} {z : Int} {ps : List Raw} {w : World} (v k : Int) (hv : in64 v) (hk : in64 k) (hp : Pr w lo n lc ps) (hx : In w m0 ao na ca z)
  (g0 : greatR ps 40 = false) (h20 : na ≤ 20) (hl20 : ∀ t ∈ ps, t.1.2.length ≤ 20) (hn40 : n ≤ 40) :
  Calls Tryz.prog 4 #[.slice lo n lc, .agg #[.bool m0, .slice ao na ca], .int .i64 v, .int .i64 k] w (RetB (.bool true) w) := by
 have P_0 := hid hp; have X_0 := hid hx; have HV := hid (And.intro hv hk); clear hp hx hv hk
 go_enter Tryz.func4, Tryz.ntmps4
 go_upto_region 1 with (fail)
 refine wp_world (fun w1 hW => ?_)
 obtain ⟨a1, hB⟩ := box1 w [.bool m0, .slice ao na ca] 43; rw [← hW] at a1 hB; clear hW; have BX_1 := hid a1; have HB_1 := hid hB; have P_1 := hid (P_0.out.below hB); have X_1 := hid (X_0.out.below hB); clear a1 hB P_0 X_0; have hpl := P_1.out.len; obtain ⟨pl, hple⟩ : ∃ p, p = ps.map rawV := ⟨_, rfl⟩
 have hpll : pl.length = n := by rw [hple, List.length_map]; exact hpl
 have PI_1 : Hid (Pi 20 w1 lo n lc pl) := by rw [Hid, hple]; exact P_1.out.pi hl20
 have HGM : Hid (∀ j, j < n → (ps.getD j rawZ).2 = (pl.getD j (0, [])).2) := fun j hj => by rw [hple, getD_map rawV rawZ (0, []) ps j (by omega)]; rfl
 clear hple hpl; have HPLL := hid hpll; go_wp2_with fail; refine (great_any8 false 40 P_1.out g0).mono ?_; rintro e w2 ⟨rfl, hB⟩; have P_2 := hid (P_1.out.below hB); have X_2 := hid (X_1.out.below hB); have BX_2 := hid (BX_1.out.below hB); have PI_2 := hid (PI_1.out.below hB); have HB_2 := hid (Below.steps HB_1.out hB); clear hB  HB_1 P_1 X_1 BX_1 PI_1
 have d4 : decide ((20 : Int) < (na : Int)) = false := decide_eq_false (by omega)
 obtain ⟨c0, c1⟩ := BX_2.out.c2
 go_wp2
 have LS0 : Hid (Pr w2 lo n lc ps ∧ In w2 m0 ao na ca z ∧ AtN w2 w.heap.size [.bool m0, .slice ao na ca] 43 ∧ Pi 20 w2 lo n lc pl ∧ Below w.heap.size w w2) := ⟨P_2.out, X_2.out, BX_2.out, PI_2.out, HB_2.out⟩
 clear c0 c1 P_2 X_2 BX_2 PI_2 HB_2
 go_loopw [9, 32] (fun s9 s32 wr => ∃ (j : Nat) (b : Bool), s9 = .bool b ∧ s32 = .int .i64 j ∧ j ≤ n ∧ Hid (b = allM (pl.take j)) ∧ Hid (Pr wr lo n lc ps ∧ In wr m0 ao na ca z ∧ AtN wr w.heap.size [.bool m0, .slice ao na ca] 43 ∧ Pi 20 wr lo n lc pl ∧ Below w.heap.size w wr)) (fun _ s32 _ => n - (intOf s32).toNat)
 case atStart => exact ⟨0, true, rfl, rfl, Nat.zero_le _, by rw [Hid, List.take_zero]; rfl, LS0.out⟩
 case round =>
  clear LS0; obtain ⟨j, b, rfl, rfl, hj, HA, HS⟩ := hrel
  by_cases hjn : j < n
  ·have hnx := allM_next (p := pl) (k := j) (by omega)
   rw [← HA.out] at hnx
   cases b with
   | false =>
    rw [Bool.false_and] at hnx; have HN := hid hnx
    clear hnx
    go_upto_region 7 with (fail)
    refine wp_region_held_drew (S := fun w' => True) (by kernel_rfl) trivial (fun hH => ?_)
    refine anyH_world (fun V hW => ?_)
    have HS2 : Hid (Pr V lo n lc ps ∧ In V m0 ao na ca z ∧ AtN V w.heap.size [.bool m0, .slice ao na ca] 43 ∧ Pi 20 V lo n lc pl ∧ Below w.heap.size w V) := by rw [hW]; exact ⟨HS.out.1.below (Below.refl _ _).drew, HS.out.2.1.below (Below.refl _ _).drew, HS.out.2.2.1.below (Below.refl _ _).drew, HS.out.2.2.2.1.below (Below.refl _ _).drew, Below.steps HS.out.2.2.2.2 (Below.refl _ _).drew⟩
    clear hW HS
    refine son 0 hH ?_; try simp only [nrm]
    refine son 1 hH ?_; try simp only [nrm]
    refine sof 2 hH ?_; try simp only [nrm]
    refine sof 3 hH ?_; try simp only [nrm]
    refine sof 4 hH ?_; try simp only [nrm]
    refine sof 5 hH ?_; try simp only [nrm]
    refine sof 6 hH ?_; try simp only [nrm]
    refine sof 7 hH ?_; try simp only [nrm]
    refine sof 8 hH ?_; try simp only [nrm]
    refine sof 9 hH ?_; try simp only [nrm]
    refine sof 10 hH ?_; try simp only [nrm]
    refine sof 11 hH ?_; try simp only [nrm]
    refine son 12 hH ?_; try simp only [nrm]
    refine son 13 hH ?_; try simp only [nrm]
    refine wpAnyH_done (by kernel_rfl) ?_ _
    go_wp2_with fail
    go_roundw
    case rel => exact ⟨j + 1, false, rfl, by go_num, by omega, HN.out.symm, HS2.out⟩
    case measure => simp [intOf]; omega
   | true =>
    rw [Bool.true_and, ← HGM.out j hjn] at hnx; obtain ⟨rr, hrr⟩ : ∃ b, mayM 0 (ps.getD j rawZ).2 = b := ⟨_, rfl⟩
    rw [hrr] at hnx; have HN := hid hnx
    obtain ⟨pb, po, xa, xn, xc, xp, xq, xr, hpo, hpb, hc, hSl, hMl⟩ := HS.out.1.at (k := j) hjn; subst hpo; have HC := hid hc; have HT := hid (And.intro hMl hrr)
    have hji : (j : Int) < (n : Int) := by omega
    clear hc hSl hMl hrr hnx
    go_upto_region 7 with (fail)
    refine wp_region_held_drew (S := fun w' => w'.cell? ⟨pb, po + j * 3 + 2, none⟩ = some (.slice xp xq xr)) (by kernel_rfl) (HC.out _ (Below.refl _ _).drew).2.2 (fun hH => ?_)
    refine anyH_world (fun V0 hW => ?_)
    have dr : Below wr.heap.size wr V0 := by rw [hW]; exact (Below.refl _ _).drew
    rw [← hW] at hH; clear hW
    have B0 := hid dr; clear dr
    refine son 0 hH ?_; try simp only [nrm]
    refine son 1 hH ?_; try simp only [nrm]
    refine son 4 hH ?_; try simp only [nrm]
    refine son 5 hH ?_; try simp only [nrm]
    refine son 6 hH ?_; try simp only [nrm]
    refine son 7 hH ?_; try simp only [nrm]
    refine son 8 hH ?_; try simp only [nrm]
    refine step_one 2 rfl (by kernel_rfl) (fun KK hK => ?_)
    go_simp
    refine (zsmall_any 1 _ ⟨by omega, by omega⟩).mono ?_
    rintro e V1 ⟨sm, sa, sn, sc, rfl, hX, hB⟩; have B1 := hid (Below.steps B0.out hB); have Z1 := hid hX; clear hX hB B0; go_wp2_with fail
    clear hH; refine hK.out _ _ (HC.out _ B1.out).2.2 fun hH => ?_; clear hK KK
    try simp only [nrm]
    refine step_one 3 rfl (by kernel_rfl) (fun KK hK => ?_)
    go_simp
    refine (zint_any (Z1.out.zx (show Bd 1 1 by unfold Bd; decide) (by omega))).mono ?_
    rintro e V2 ⟨im, ia, in2, ic, rfl, hX, hB⟩; have B2 := hid (Below.steps B1.out hB); have I2 := hid hX; clear hX hB B1 Z1; go_wp2_with fail
    clear hH; refine hK.out _ _ (HC.out _ B2.out).2.2 fun hH => ?_; clear hK KK
    try simp only [nrm]
    refine son 9 hH ?_; try simp only [nrm]
    refine step_one 10 rfl (by kernel_rfl) (fun KK hK => ?_)
    go_simp
    clear hH; refine hK.out _ _ (HC.out _ (Below.steps B2.out (below_alloc V2 _))).2.2 fun hH => ?_; clear hK KK
    try simp only [nrm]
    refine anyH_world (fun V3 hW => ?_)
    have hal := below_alloc V2 (.cells #[.bool im, .slice ia in2 ic, .slice xp xq xr] 53); have hlit := pr_lit I2.out (HT.out.1.below B2.out) 53; rw [← hW] at hal hlit hH; clear hW; have B3 := hid (Below.steps B2.out hal); have LT := hid hlit; clear hal hlit I2 B2
    refine step_one 11 rfl (by kernel_rfl) (fun KK hK => ?_)
    go_simp
    refine (may_any8 rr LT.out (fun t ht => by rw [List.mem_singleton] at ht; subst ht; exact (by decide : 1 ≤ 1000)) (may_lit HT.out.2)).mono ?_
    rintro e V4 ⟨rfl, hB⟩
    have HS4 : Hid (Pr V4 (some ⟨pb, po, none⟩) n lc ps ∧ In V4 m0 ao na ca z ∧ AtN V4 w.heap.size [.bool m0, .slice ao na ca] 43 ∧ Pi 20 V4 (some ⟨pb, po, none⟩) n lc pl ∧ Below w.heap.size w V4) := ⟨HS.out.1.below (Below.steps B3.out hB), HS.out.2.1.below (Below.steps B3.out hB), HS.out.2.2.1.below (Below.steps B3.out hB), HS.out.2.2.2.1.below (Below.steps B3.out hB), Below.steps HS.out.2.2.2.2 (Below.steps B3.out hB)⟩
    have B4 := hid (Below.steps B3.out hB); clear hB B3 LT; go_wp2_with fail
    clear hH; refine hK.out _ _ (HC.out _ B4.out).2.2 fun hH => ?_; clear hK KK
    try simp only [nrm]
    refine son 12 hH ?_; try simp only [nrm]
    refine son 13 hH ?_; try simp only [nrm]
    refine wpAnyH_done (by kernel_rfl) ?_ _
    go_wp2_with fail
    go_roundw
    case rel => exact ⟨j + 1, rr, rfl, by go_num, by omega, HN.out.symm, HS4.out⟩
    case measure => simp [intOf]; omega
  ·obtain rfl : j = n := by omega
   obtain ⟨w10, hw10⟩ : ∃ W, W = wr := ⟨_, rfl⟩; have HS10 := hid HS.out; rw [← hw10] at HS10 ⊢; clear HS hw10; have P_10 := hid HS10.out.1; have X_10 := hid HS10.out.2.1; have BX_10 := hid HS10.out.2.2.1; have PI_10 := hid HS10.out.2.2.2.1; have HB_10 := hid HS10.out.2.2.2.2; clear HS10
   have hb : allM pl = b := by have h := HA.out; rw [List.take_of_length_le (by omega)] at h; exact h.symm
   obtain ⟨pp, hpp⟩ : ∃ p, (if b = true then ofT pl else []) = p := ⟨_, rfl⟩; obtain ⟨er, her⟩ : ∃ e, (if b = true then (0 : Int) else 2) = e := ⟨_, rfl⟩
   have HPP : Hid (allM pl = b ∧ (if b = true then ofT pl else []) = pp ∧ (if b = true then (0 : Int) else 2) = er ∧ fall pp ∧ pp.length ≤ 40) := ⟨hb, hpp, her, by rw [← hpp]; cases b with | true => exact ⟨(ofT_spec (allM_iff.1 hb)).1, Nat.le_trans (ofT_len pl) (by omega)⟩ | false => exact ⟨trivial, by simp⟩⟩
   clear hb hpp her HA; go_wp2_with fail
   refine (pof_two b pp er PI_10.out HPP.out.1 HPP.out.2.1 HPP.out.2.2.1 (by omega) (by omega)).mono ?_
   rintro e w11 ⟨qo, qn, qc, rfl, hX, hB⟩; have P_11 := hid (P_10.out.below hB); have X_11 := hid (X_10.out.below hB); have BX_11 := hid (BX_10.out.below hB); have PI_11 := hid (PI_10.out.below hB); have HB_11 := hid (Below.steps HB_10.out hB); have Q_11 := hid (hX); clear hB hX HB_10 P_10 X_10 BX_10 PI_10
   go_upto_region 10 with (fail)
   go_cut [75] from 54 to 75 (fun s75 wx => s75 = .bool false ∧ Hid (Pr wx lo j lc ps ∧ In wx m0 ao na ca z ∧ AtN wx w.heap.size [.bool m0, .slice ao na ca] 43 ∧ Pc (20 + j) wx qo qn qc pp ∧ Below w.heap.size w wx))
   case first =>
    cases b with
    | true =>
     have hmy := HPP.out; rw [if_pos rfl, if_pos rfl] at hmy; obtain ⟨h1, h2, h3, h4⟩ := hmy; subst h2 h3; have HY := hid (And.intro h1 h4); clear h1 h4; go_wp2_with fail
     refine (of_any8 PI_11.out (allM_iff.1 HY.out.1) (by omega) (by omega)).mono ?_
     rintro e w12 ⟨uo, un, uc, rfl, hX, hB⟩
     have hun : un ≤ 40 := by have h1 := hX.len; have h2 := PI_11.out.len; have h3 := ofT_len pl; omega
     have P_12 := hid (P_11.out.below hB); have X_12 := hid (X_11.out.below hB); have BX_12 := hid (BX_11.out.below hB); have PI_12 := hid (PI_11.out.below hB); have Q_12 := hid (Q_11.out.below hB); have HB_12 := hid (Below.steps HB_11.out hB); have U_12 := hid (hX); clear hB hX HB_11 P_11 X_11 BX_11 PI_11 Q_11; go_wp2_with fail
     refine (told_ok 0 Q_12.out.raw U_12.out (by omega) (by omega) rfl).mono ?_
     rintro e w13 ⟨rfl, hB⟩; have P_13 := hid (P_12.out.below hB); have X_13 := hid (X_12.out.below hB); have BX_13 := hid (BX_12.out.below hB); have PI_13 := hid (PI_12.out.below hB); have Q_13 := hid (Q_12.out.below hB); have U_13 := hid (U_12.out.below hB); have HB_13 := hid (Below.steps HB_12.out hB); clear hB  HB_12 P_12 X_12 BX_12 PI_12 Q_12 U_12; go_wp2_with fail
     go_meet
     exact ⟨rfl, ⟨P_13.out, X_13.out, BX_13.out, Q_13.out, HB_13.out⟩⟩
    | false =>
     have hmy := HPP.out
     simp only [Bool.false_eq_true, if_false] at hmy
     obtain ⟨h1, h2, h3, h4⟩ := hmy; subst h2 h3; obtain rfl : qn = 0 := Q_11.out.len.symm; clear h1 h4; go_wp2_with fail
     go_meet
     exact ⟨rfl, ⟨P_11.out, X_11.out, BX_11.out, Q_11.out, HB_11.out⟩⟩
   case rest =>
    obtain ⟨rfl, HS⟩ := hcut; obtain ⟨w20, hw20⟩ : ∃ W, W = wc := ⟨_, rfl⟩; rw [← hw20] at HS ⊢; clear hw20; clear P_11 X_11 BX_11 PI_11 Q_11 HB_11; have P_20 := hid HS.out.1; have X_20 := hid HS.out.2.1; have BX_20 := hid HS.out.2.2.1; have Q_20 := hid HS.out.2.2.2.1; have HB_20 := hid HS.out.2.2.2.2; clear HS; obtain ⟨iv, hiv⟩ : ∃ b, isVar v k = b := ⟨_, rfl⟩; obtain ⟨pv, hpv⟩ : ∃ p : List Term, (if iv = true then [(1, [(v, k)])] else []) = p := ⟨_, rfl⟩; obtain ⟨ev, hev⟩ : ∃ e, (if iv = true then (0 : Int) else 2) = e := ⟨_, rfl⟩
    have HIV := hid (And.intro hiv (And.intro hpv hev)); clear hiv hpv hev; go_wp2_with fail; refine (pvar_two iv pv ev v k HV.out.1 HV.out.2 ((may_var v k).trans HIV.out.1) HIV.out.2.1 HIV.out.2.2).mono ?_; rintro e w21 ⟨yo, yn, yc, rfl, hX, hB⟩; have P_21 := hid (P_20.out.below hB); have X_21 := hid (X_20.out.below hB); have BX_21 := hid (BX_20.out.below hB); have Q_21 := hid (Q_20.out.below hB); have HB_21 := hid (Below.steps HB_20.out hB); have Y_21 := hid (hX); clear hB hX HB_20 P_20 X_20 BX_20 Q_20
    go_upto_region 13 with (fail)
    go_cut [15] from 82 to 95 (fun s15 wx => s15 = .bool iv ∧ wx = w21)
    case first =>
     by_cases g0 : 1 ≤ v
     ·have e0 : decide (1 ≤ v) = true := decide_eq_true g0
      by_cases g1 : v ≤ 200
      ·have e1 : decide (v ≤ 200) = true := decide_eq_true g1
       by_cases g2 : 1 ≤ k
       ·have e2 : decide (1 ≤ k) = true := decide_eq_true g2
        by_cases g3 : k ≤ 10000
        ·have e3 : decide (k ≤ 10000) = true := decide_eq_true g3
         have hh : iv = true := by rw [← HIV.out.1]; unfold isVar; rw [e0, e1, e2, e3]; rfl
         go_wp2
         go_meet
         exact ⟨congrArg Value.bool hh.symm, rfl⟩
        ·have e3 : decide (k ≤ 10000) = false := decide_eq_false g3
         have hh : iv = false := by rw [← HIV.out.1]; unfold isVar; simp [e0, e1, e2, e3]
         go_wp2
         go_meet
         exact ⟨congrArg Value.bool hh.symm, rfl⟩
       ·have e2 : decide (1 ≤ k) = false := decide_eq_false g2
        have hh : iv = false := by rw [← HIV.out.1]; unfold isVar; simp [e0, e1, e2]
        go_wp2
        go_meet
        exact ⟨congrArg Value.bool hh.symm, rfl⟩
      ·have e1 : decide (v ≤ 200) = false := decide_eq_false g1
       have hh : iv = false := by rw [← HIV.out.1]; unfold isVar; simp [e0, e1]
       go_wp2
       go_meet
       exact ⟨congrArg Value.bool hh.symm, rfl⟩
     ·have e0 : decide (1 ≤ v) = false := decide_eq_false g0
      have hh : iv = false := by rw [← HIV.out.1]; unfold isVar; simp [e0]
      go_wp2
      go_meet
      exact ⟨congrArg Value.bool hh.symm, rfl⟩
    case rest =>
     obtain ⟨rfl, rfl⟩ := hcut; go_wp2_with fail
     refine (zsmall_any 1 _ ⟨by omega, by omega⟩).mono ?_
     rintro e w22 ⟨sm, sa, sn, sc, rfl, hX, hB⟩; have P_22 := hid (P_21.out.below hB); have X_22 := hid (X_21.out.below hB); have BX_22 := hid (BX_21.out.below hB); have Q_22 := hid (Q_21.out.below hB); have Y_22 := hid (Y_21.out.below hB); have HB_22 := hid (Below.steps HB_21.out hB); have Z_22 := hid (hX); clear hB hX HB_21 P_21 X_21 BX_21 Q_21 Y_21
     have hal := (below_alloc w22 (.cells #[.int .i64 v, .int .i64 k] 57)).trans (below_alloc _ (.cells #[.bool sm, .slice sa sn sc, .slice (some ⟨w22.heap.size, 0, none⟩) 1 1] 59) |>.mono (by simp))
     have hlit := pz_lit Z_22.out HV.out.1 HV.out.2 59
     go_upto_region 15 with (fail)
     refine wp_world (fun w23 hW => ?_)
     rw [← hW] at hal hlit; clear hW
     clear Z_22; have P_23 := hid (P_22.out.below hal); have X_23 := hid (X_22.out.below hal); have BX_23 := hid (BX_22.out.below hal); have Q_23 := hid (Q_22.out.below hal); have Y_23 := hid (Y_22.out.below hal); have HB_23 := hid (Below.steps HB_22.out hal); clear hal HB_22 P_22 X_22 BX_22 Q_22 Y_22; have LV_23 := hid hlit; clear hlit
     go_upto_region 15 with (fail)
     go_cut [119] from 103 to 119 (fun s119 wx => s119 = .bool false ∧ Hid (Pc (20 + j) wx qo qn qc pp ∧ Below w.heap.size w wx))
     case first =>
      go_upto_region 15 with (fail)
      refine wp_region_held_drew (S := (fun w' => w'.cell? ⟨w.heap.size, 0, none⟩ = some (.bool m0) ∧ w'.cell? ⟨w.heap.size, 1, none⟩ = some (.slice ao na ca))) (by kernel_rfl) (BX_23.out.below (Below.refl _ _).drew).c2 (fun hH => ?_)
      refine anyH_world (fun w24 hW => ?_)
      have dr := (Below.refl w23.heap.size w23).drew; rw [← hW] at hH dr; clear hW; have P_24 := hid (P_23.out.below dr); have X_24 := hid (X_23.out.below dr); have BX_24 := hid (BX_23.out.below dr); have Q_24 := hid (Q_23.out.below dr); have Y_24 := hid (Y_23.out.below dr); have LV_24 := hid (LV_23.out.below dr); have HB_24 := hid (Below.steps HB_23.out dr); clear dr HB_23 P_23 X_23 BX_23 Q_23 Y_23 LV_23
      refine son 0 hH ?_; try simp only [nrm]
      refine son 1 hH ?_; try simp only [nrm]
      refine son 2 hH ?_; try simp only [nrm]
      refine son 3 hH ?_; try simp only [nrm]
      refine step_one 4 rfl (by kernel_rfl) (fun KK hK => ?_)
      go_simp
      refine (told_gen 2 iv ev Y_24.out LV_24.out (by omega) (by omega) HIV.out.2.2 HIV.out.2.1).mono ?_
      rintro e w25 ⟨rfl, hB⟩; have P_25 := hid (P_24.out.below hB); have X_25 := hid (X_24.out.below hB); have BX_25 := hid (BX_24.out.below hB); have Q_25 := hid (Q_24.out.below hB); have Y_25 := hid (Y_24.out.below hB); have LV_25 := hid (LV_24.out.below hB); have HB_25 := hid (Below.steps HB_24.out hB); clear hB  HB_24 P_24 X_24 BX_24 Q_24 Y_24 LV_24; go_wp2_with fail
      clear hH; refine hK.out _ _ BX_25.out.c2 fun hH => ?_; clear hK KK
      try simp only [nrm]
      clear Y_25; clear LV_25
      refine son 5 hH ?_; try simp only [nrm]
      refine son 6 hH ?_; try simp only [nrm]
      refine son 7 hH ?_; try simp only [nrm]
      refine son 9 hH ?_; try simp only [nrm]
      refine son 10 hH ?_; try simp only [nrm]
      refine wpAnyH_ready (rs := [8, 11]) (by kernel_rfl) (by simp) (ready_cons rfl (fun KK hK => ?_) (ready_cons rfl (fun KK hK => ?_) (AllReadyH.nil)))
      ·go_simp
       refine (pnumber_any (K := 20) X_25.out h20 (by omega)).mono ?_
       rintro e w26 ⟨no, nn, nc, rfl, hX, hB⟩; have P_26 := hid (P_25.out.below hB); have X_26 := hid (X_25.out.below hB); have BX_26 := hid (BX_25.out.below hB); have Q_26 := hid (Q_25.out.below hB); have HB_26 := hid (Below.steps HB_25.out hB); have N_26 := hid (hX); clear hB hX HB_25 P_25 X_25 BX_25 Q_25; go_wp2_with fail
       clear hH; refine hK.out _ _ BX_26.out.c2 fun hH => ?_; clear hK KK
       try simp only [nrm]
       refine step_one 11 rfl (by kernel_rfl) (fun KK hK => ?_)
       go_simp
       clear hH; refine hK.out _ _ (BX_26.out.below (below_alloc w26 _)).c2 fun hH => ?_; clear hK KK
       try simp only [nrm]
       refine anyH_world (fun w27 hW => ?_)
       have hal := below_alloc w26 (.cells #[.bool m0, .slice ao na ca, .slice none 0 0] 53); have hone := Pi.one (K := 20) X_26.out h20 (Ml.zero w26) 53; rw [← hW] at hal hone hH; clear hW; have P_27 := hid (P_26.out.below hal); have X_27 := hid (X_26.out.below hal); have BX_27 := hid (BX_26.out.below hal); have Q_27 := hid (Q_26.out.below hal); have N_27 := hid (N_26.out.below hal); have HB_27 := hid (Below.steps HB_26.out hal); clear hal HB_26 P_26 X_26 BX_26 Q_26 N_26; have O_27 := hid hone
       clear hone
       refine step_one 12 rfl (by kernel_rfl) (fun KK hK => ?_)
       go_simp
       refine (of_any8 O_27.out (fun t ht => by rw [List.mem_singleton] at ht; subst ht; exact may_nil) (by omega) (by omega)).mono ?_
       rintro e w28 ⟨uo, un, uc, rfl, hX, hB⟩
       have hun : un ≤ 1 := by have h1 := hX.len; have h2 := ofT_len [(z, ([] : List (Int × Int)))]; simp at h2; omega
       have P_28 := hid (P_27.out.below hB); have X_28 := hid (X_27.out.below hB); have BX_28 := hid (BX_27.out.below hB); have Q_28 := hid (Q_27.out.below hB); have N_28 := hid (N_27.out.below hB); have O_28 := hid (O_27.out.below hB); have HB_28 := hid (Below.steps HB_27.out hB); have U_28 := hid (hX); clear hB hX HB_27 P_27 X_27 BX_27 Q_27 N_27 O_27; go_wp2_with fail
       clear hH; refine hK.out _ _ BX_28.out.c2 fun hH => ?_; clear hK KK
       try simp only [nrm]
       clear O_28
       refine step_one 13 rfl (by kernel_rfl) (fun KK hK => ?_)
       go_simp
       refine (poly_any8 U_28.out (by omega) (by omega)).mono ?_
       rintro e w29 ⟨ho, hn2, hc2, rfl, hX, hB⟩; have P_29 := hid (P_28.out.below hB); have X_29 := hid (X_28.out.below hB); have BX_29 := hid (BX_28.out.below hB); have Q_29 := hid (Q_28.out.below hB); have N_29 := hid (N_28.out.below hB); have U_29 := hid (U_28.out.below hB); have HB_29 := hid (Below.steps HB_28.out hB); have H_29 := hid (hX); clear hB hX HB_28 P_28 X_28 BX_28 Q_28 N_28 U_28; go_wp2_with fail
       clear hH; refine hK.out _ _ BX_29.out.c2 fun hH => ?_; clear hK KK
       try simp only [nrm]
       clear U_29
       refine step_one 14 rfl (by kernel_rfl) (fun KK hK => ?_)
       go_simp; refine (same_any8 true N_29.out.raw H_29.out.raw (decide_eq_true rfl)).mono ?_
       rintro e w30 ⟨rfl, hB⟩; have P_30 := hid (P_29.out.below hB); have X_30 := hid (X_29.out.below hB); have BX_30 := hid (BX_29.out.below hB); have Q_30 := hid (Q_29.out.below hB); have N_30 := hid (N_29.out.below hB); have H_30 := hid (H_29.out.below hB); have HB_30 := hid (Below.steps HB_29.out hB); clear hB  HB_29 P_29 X_29 BX_29 Q_29 N_29 H_29; go_wp2_with fail
       clear hH; refine hK.out _ _ BX_30.out.c2 fun hH => ?_; clear hK KK
       try simp only [nrm]
       clear N_30; clear H_30
       refine son 15 hH ?_; try simp only [nrm]
       refine son 16 hH ?_; try simp only [nrm]
       refine wpAnyH_done (by kernel_rfl) ?_ _
       go_wp2_with fail
       go_meet
       exact ⟨rfl, ⟨Q_30.out, HB_30.out⟩⟩
      ·go_simp
       clear hH; refine hK.out _ _ (BX_25.out.below (below_alloc w25 _)).c2 fun hH => ?_; clear hK KK
       try simp only [nrm]
       refine anyH_world (fun w26 hW => ?_)
       have hal := below_alloc w25 (.cells #[.bool m0, .slice ao na ca, .slice none 0 0] 53); have hone := Pi.one (K := 20) X_25.out h20 (Ml.zero w25) 53; rw [← hW] at hal hone hH; clear hW; have P_26 := hid (P_25.out.below hal); have X_26 := hid (X_25.out.below hal); have BX_26 := hid (BX_25.out.below hal); have Q_26 := hid (Q_25.out.below hal); have HB_26 := hid (Below.steps HB_25.out hal); clear hal HB_25 P_25 X_25 BX_25 Q_25; have O_26 := hid hone; clear hone
       refine step_one 8 rfl (by kernel_rfl) (fun KK hK => ?_)
       go_simp
       refine (pnumber_any (K := 20) X_26.out h20 (by omega)).mono ?_
       rintro e w27 ⟨no, nn, nc, rfl, hX, hB⟩; have P_27 := hid (P_26.out.below hB); have X_27 := hid (X_26.out.below hB); have BX_27 := hid (BX_26.out.below hB); have Q_27 := hid (Q_26.out.below hB); have O_27 := hid (O_26.out.below hB); have HB_27 := hid (Below.steps HB_26.out hB); have N_27 := hid (hX); clear hB hX HB_26 P_26 X_26 BX_26 Q_26 O_26; go_wp2_with fail
       clear hH; refine hK.out _ _ BX_27.out.c2 fun hH => ?_; clear hK KK
       try simp only [nrm]
       refine step_one 12 rfl (by kernel_rfl) (fun KK hK => ?_)
       go_simp
       refine (of_any8 O_27.out (fun t ht => by rw [List.mem_singleton] at ht; subst ht; exact may_nil) (by omega) (by omega)).mono ?_
       rintro e w28 ⟨uo, un, uc, rfl, hX, hB⟩
       have hun : un ≤ 1 := by have h1 := hX.len; have h2 := ofT_len [(z, ([] : List (Int × Int)))]; simp at h2; omega
       have P_28 := hid (P_27.out.below hB); have X_28 := hid (X_27.out.below hB); have BX_28 := hid (BX_27.out.below hB); have Q_28 := hid (Q_27.out.below hB); have O_28 := hid (O_27.out.below hB); have N_28 := hid (N_27.out.below hB); have HB_28 := hid (Below.steps HB_27.out hB); have U_28 := hid (hX); clear hB hX HB_27 P_27 X_27 BX_27 Q_27 O_27 N_27; go_wp2_with fail
       clear hH; refine hK.out _ _ BX_28.out.c2 fun hH => ?_; clear hK KK
       try simp only [nrm]
       clear O_28
       refine step_one 13 rfl (by kernel_rfl) (fun KK hK => ?_)
       go_simp
       refine (poly_any8 U_28.out (by omega) (by omega)).mono ?_
       rintro e w29 ⟨ho, hn2, hc2, rfl, hX, hB⟩; have P_29 := hid (P_28.out.below hB); have X_29 := hid (X_28.out.below hB); have BX_29 := hid (BX_28.out.below hB); have Q_29 := hid (Q_28.out.below hB); have N_29 := hid (N_28.out.below hB); have U_29 := hid (U_28.out.below hB); have HB_29 := hid (Below.steps HB_28.out hB); have H_29 := hid (hX); clear hB hX HB_28 P_28 X_28 BX_28 Q_28 N_28 U_28; go_wp2_with fail
       clear hH; refine hK.out _ _ BX_29.out.c2 fun hH => ?_; clear hK KK
       try simp only [nrm]
       clear U_29
       refine step_one 14 rfl (by kernel_rfl) (fun KK hK => ?_)
       go_simp; refine (same_any8 true N_29.out.raw H_29.out.raw (decide_eq_true rfl)).mono ?_
       rintro e w30 ⟨rfl, hB⟩; have P_30 := hid (P_29.out.below hB); have X_30 := hid (X_29.out.below hB); have BX_30 := hid (BX_29.out.below hB); have Q_30 := hid (Q_29.out.below hB); have N_30 := hid (N_29.out.below hB); have H_30 := hid (H_29.out.below hB); have HB_30 := hid (Below.steps HB_29.out hB); clear hB  HB_29 P_29 X_29 BX_29 Q_29 N_29 H_29; go_wp2_with fail
       clear hH; refine hK.out _ _ BX_30.out.c2 fun hH => ?_; clear hK KK
       try simp only [nrm]
       clear N_30; clear H_30
       refine son 15 hH ?_; try simp only [nrm]
       refine son 16 hH ?_; try simp only [nrm]
       refine wpAnyH_done (by kernel_rfl) ?_ _
       go_wp2_with fail
       go_meet
       exact ⟨rfl, ⟨Q_30.out, HB_30.out⟩⟩
     case rest =>
      obtain ⟨rfl, HS⟩ := hcut; obtain ⟨w50, hw50⟩ : ∃ W, W = wc := ⟨_, rfl⟩; rw [← hw50] at HS ⊢; clear hw50; have Q_50 := hid HS.out.1; have HB_50 := hid HS.out.2; clear HS P_23 X_23 BX_23 Q_23 Y_23 LV_23 HB_23
      have hqn : qn ≤ 40 := by have h1 := Q_50.out.len; have h3 := HPP.out.2.2.2.2; omega
      have hqc : qn ≤ qc ∧ qn ≤ 4398046511104 := by obtain ⟨_, hG, _⟩ := Q_50.out.ex; exact ⟨hG.le, hG.big⟩
      go_wp2_with fail
      refine (plead_any Q_50.out HPP.out.2.2.2.1 (by omega) (by omega)).mono ?_
      rintro e w51 ⟨lm, la, ln, lc2, lb, ll, lcb, lf, rfl, hB, hX⟩; have Q_51 := hid (Q_50.out.below hB); have HB_51 := hid (Below.steps HB_50.out hB); clear hB  HB_50 Q_50
      have hX : LeadC (20 + j) pp lm la ln lc2 lb ll lcb lf w51 := by rcases hX with ⟨h1, h2, _⟩ | h; exact .inl ⟨h1, h2⟩; exact .inr h
      have HX := hid hX; clear hX
      go_upto_region 18 with (fail)
      refine wp_world (fun w52 hW => ?_)
      have a2 := box1 w51 [.bool lm, .slice la ln lc2, .slice lb ll lcb] 53; rw [← hW] at a2; have hal := a2.2; have h2 := HX.out.below hal; have ha := a2.1; clear hW HX a2; have Q_52 := hid (Q_51.out.below hal); have HB_52 := hid (Below.steps HB_51.out hal); clear hal HB_51 Q_51; obtain ⟨gt, hgt⟩ : ∃ g, g = w51.heap.size := ⟨_, rfl⟩; rw [← hgt] at ha ⊢; clear hgt
      have L0 : Hid (limT (pp.take 0) = 0 ∧ Pc (20 + j) w52 qo qn qc pp ∧ Below w.heap.size w w52 ∧ AtN w52 gt [.bool lm, .slice la ln lc2, .slice lb ll lcb] 53 ∧ LeadC (20 + j) pp lm la ln lc2 lb ll lcb lf w52) := ⟨rfl, Q_52.out, HB_52.out, ha, h2⟩
      clear ha h2 Q_52 HB_52
      go_wp2
      go_loopw [19, 127] (fun s19 s127 wr => ∃ (i : Nat) (y : Int), s19 = .int .i64 y ∧ s127 = .int .i64 i ∧ i ≤ qn ∧ Hid (limT (pp.take i) = y ∧ Pc (20 + j) wr qo qn qc pp ∧ Below w.heap.size w wr ∧ AtN wr gt [.bool lm, .slice la ln lc2, .slice lb ll lcb] 53 ∧ LeadC (20 + j) pp lm la ln lc2 lb ll lcb lf wr)) (fun _ s127 _ => qn - (intOf s127).toNat)
      case atStart => exact ⟨0, 0, rfl, rfl, Nat.zero_le _, L0.out⟩
      case round =>
       clear L0; obtain ⟨i, y, rfl, rfl, hi, HI⟩ := hrel
       by_cases hin : i < qn
       ·have hip : i < pp.length := by rw [HI.out.2.1.len]; exact hin
        obtain ⟨pb, po, xm, xa, xn, xc, xp, xq, xr, hbo, hbl, hc, hCn, hBd, hMl⟩ := HI.out.2.1.at (k := i) hin; subst hbo; obtain ⟨c0, c1, c2⟩ := hc wr (Below.refl _ _); have hlen := hCn.sl.len; have hxb := hCn.sl.big; rw [getD_of _ hip] at hlen; have hN := limT_next i hip; rw [hlen, HI.out.1] at hN; have HN := hid hN
        have hii : (i : Int) < (qn : Int) := by omega
        clear hc hCn hBd hMl hbl hlen hN
        go_wp2
        go_roundw
        case rel => exact ⟨i + 1, max y (xn : Int), rfl, by go_num, by omega, ⟨HN.out, HI.out.2⟩⟩
        case measure => simp [intOf]; omega
       ·obtain rfl : i = qn := by omega
        have h := HI.out
        rw [List.take_of_length_le (by rw [h.2.1.len]; exact Nat.le_refl _)] at h
        obtain ⟨w60, hw60⟩ : ∃ W, W = wr := ⟨_, rfl⟩; rw [← hw60] at h ⊢; clear hw60
        have hz : limR (pp.map rawC) = y := by unfold limR; rw [pln_raw HPP.out.2.2.2.1]; exact h.1
        have Q_60 := hid h.2.1; have HB_60 := hid h.2.2.1; have LD_60 := hid h.2.2.2.1; have LC := hid h.2.2.2.2; have HZ := hid hz
        have hyy : (y == y) = true := beq_self_eq_true y
        clear h HI hz
        rcases LC.out with hlc | hlc
        ·obtain ⟨hf0, hp0⟩ := hlc
         subst hf0
         have hq0 : i = 0 := by rw [← Q_60.out.len, hp0]; rfl
         subst hq0
         have hd : decide ((0 : Int) < 0) = false := rfl
         have HP0 := hid hp0; clear hp0
         go_upto_region 24 with (fail)
         refine wp_region_held_drew (S := (fun w' => w'.cell? ⟨gt, 0, none⟩ = some (.bool lm) ∧ w'.cell? ⟨gt, 1, none⟩ = some (.slice la ln lc2) ∧ w'.cell? ⟨gt, 2, none⟩ = some (.slice lb ll lcb))) (by kernel_rfl) (LD_60.out.below (Below.refl _ _).drew).c3 (fun hH => ?_)
         refine anyH_world (fun w61 hW => ?_)
         have dr := (Below.refl w60.heap.size w60).drew; rw [← hW] at hH dr; clear hW; have Q_61 := hid (Q_60.out.below dr); have LD_61 := hid (LD_60.out.below dr); have HB_61 := hid (Below.steps HB_60.out dr); clear dr HB_60 Q_60 LD_60
         refine son 0 hH ?_; try simp only [nrm]
         refine son 1 hH ?_; try simp only [nrm]
         refine son 2 hH ?_; try simp only [nrm]
         refine son 3 hH ?_; try simp only [nrm]
         refine son 4 hH ?_; try simp only [nrm]
         refine son 5 hH ?_; try simp only [nrm]
         refine son 6 hH ?_; try simp only [nrm]
         refine son 7 hH ?_; try simp only [nrm]
         refine son 8 hH ?_; try simp only [nrm]
         refine sof 9 hH ?_; try simp only [nrm]
         refine sof 10 hH ?_; try simp only [nrm]
         refine sof 11 hH ?_; try simp only [nrm]
         refine sof 12 hH ?_; try simp only [nrm]
         refine sof 13 hH ?_; try simp only [nrm]
         refine son 14 hH ?_; try simp only [nrm]
         refine son 15 hH ?_; try simp only [nrm]
         refine son 16 hH ?_; try simp only [nrm]
         refine son 17 hH ?_; try simp only [nrm]
         refine son 19 hH ?_; try simp only [nrm]
         refine step_one 18 rfl (by kernel_rfl) (fun KK hK => ?_)
         go_simp
         refine (plimbs_any y Q_61.out.raw (fun t ht => Nat.le_trans (Q_61.out.lens t ht) (by omega)) HZ.out).mono ?_
         rintro e w62 ⟨rfl, hB⟩; have Q_62 := hid (Q_61.out.below hB); have LD_62 := hid (LD_61.out.below hB); have HB_62 := hid (Below.steps HB_61.out hB); clear hB  HB_61 Q_61 LD_61; go_wp2_with fail
         clear hH; refine hK.out _ _ LD_62.out.c3 fun hH => ?_; clear hK KK
         try simp only [nrm]
         refine son 20 hH ?_; try simp only [nrm]
         refine son 21 hH ?_; try simp only [nrm]
         refine son 22 hH ?_; try simp only [nrm]
         refine step_one 23 rfl (by kernel_rfl) (fun KK hK => ?_)
         go_simp; refine (known8_any _).mono ?_
         rintro e w63 ⟨rfl, hB⟩; have Q_63 := hid (Q_62.out.below hB); have LD_63 := hid (LD_62.out.below hB); have HB_63 := hid (Below.steps HB_62.out hB); clear hB  HB_62 Q_62 LD_62; go_wp2_with fail
         clear hH; refine hK.out _ _ LD_63.out.c3 fun hH => ?_; clear hK KK
         try simp only [nrm]
         refine son 24 hH ?_; try simp only [nrm]
         refine son 25 hH ?_; try simp only [nrm]
         refine wpAnyH_done (by kernel_rfl) ?_ _
         go_wp2_with fail
         go_ret
         exact ⟨rfl, HB_63.out⟩
        ·obtain ⟨t, r, hf0, hp0, h1, h2, h3⟩ := hlc
         subst hf0; subst hp0
         have hq1 : 1 ≤ i := by have := Q_60.out.len; simp at this; omega
         have hd0 : 0 < i := by omega
         have hd1 : decide (0 < i) = true := decide_eq_true hd0
         have hd : decide ((0 : Int) < (i : Int)) = true := decide_eq_true (by omega)
         have LT_60 := hid (And.intro h1 h3); have HBT := hid h2
         have h1c : 1 ≤ qc := by omega
         have h1i : (1 : Int) ≤ (qc : Int) := by omega
         clear h1 h2 h3
         go_upto_region 24 with (fail)
         refine wp_region_held_drew (S := (fun w' => w'.cell? ⟨gt, 0, none⟩ = some (.bool lm) ∧ w'.cell? ⟨gt, 1, none⟩ = some (.slice la ln lc2) ∧ w'.cell? ⟨gt, 2, none⟩ = some (.slice lb ll lcb))) (by kernel_rfl) (LD_60.out.below (Below.refl _ _).drew).c3 (fun hH => ?_)
         refine anyH_world (fun w61 hW => ?_)
         have dr := (Below.refl w60.heap.size w60).drew; rw [← hW] at hH dr; clear hW; have Q_61 := hid (Q_60.out.below dr); have LD_61 := hid (LD_60.out.below dr); have LT_61 := hid (And.intro (LT_60.out.1.below dr) (LT_60.out.2.below dr)); have HB_61 := hid (Below.steps HB_60.out dr); clear dr HB_60 Q_60 LD_60 LT_60
         refine son 0 hH ?_; try simp only [nrm]
         refine son 1 hH ?_; try simp only [nrm]
         refine son 2 hH ?_; try simp only [nrm]
         refine son 3 hH ?_; try simp only [nrm]
         refine son 4 hH ?_; try simp only [nrm]
         refine son 5 hH ?_; try simp only [nrm]
         refine son 6 hH ?_; try simp only [nrm]
         refine son 7 hH ?_; try simp only [nrm]
         refine son 8 hH ?_; try simp only [nrm]
         refine son 9 hH ?_; try simp only [nrm]
         refine son 11 hH ?_; try simp only [nrm]
         refine son 12 hH ?_; try simp only [nrm]
         refine step_one 10 rfl (by kernel_rfl) (fun KK hK => ?_)
         go_simp
         clear hH; refine hK.out _ _ (LD_61.out.below (below_alloc w61 _)).c3 fun hH => ?_; clear hK KK
         try simp only [nrm]
         refine anyH_world (fun w62 hW => ?_)
         have hal := below_alloc w61 (.cells #[.bool lm, .slice la ln lc2, .slice lb ll lcb] 53); have hone := Pc.one (LT_61.out.1) HBT.out (LT_61.out.2) 53; rw [← hW] at hal hone hH; clear hW; clear LT_61; have Q_62 := hid (Q_61.out.below hal); have LD_62 := hid (LD_61.out.below hal); have HB_62 := hid (Below.steps HB_61.out hal); clear hal HB_61 Q_61 LD_61; have O_62 := hid hone; clear hone
         refine step_one 13 rfl (by kernel_rfl) (fun KK hK => ?_)
         go_simp
         refine (same_any8 true O_62.out.raw (Q_62.out.take1 1 (by omega)).raw (decide_eq_true rfl)).mono ?_
         rintro e w63 ⟨rfl, hB⟩; have Q_63 := hid (Q_62.out.below hB); have LD_63 := hid (LD_62.out.below hB); have O_63 := hid (O_62.out.below hB); have HB_63 := hid (Below.steps HB_62.out hB); clear hB  HB_62 Q_62 LD_62 O_62; go_wp2_with fail
         clear hH; refine hK.out _ _ LD_63.out.c3 fun hH => ?_; clear hK KK
         try simp only [nrm]
         clear O_63
         refine son 14 hH ?_; try simp only [nrm]
         refine son 15 hH ?_; try simp only [nrm]
         refine son 16 hH ?_; try simp only [nrm]
         refine son 17 hH ?_; try simp only [nrm]
         refine son 19 hH ?_; try simp only [nrm]
         refine step_one 18 rfl (by kernel_rfl) (fun KK hK => ?_)
         go_simp
         refine (plimbs_any y Q_63.out.raw (fun t ht => Nat.le_trans (Q_63.out.lens t ht) (by omega)) HZ.out).mono ?_
         rintro e w64 ⟨rfl, hB⟩; have Q_64 := hid (Q_63.out.below hB); have LD_64 := hid (LD_63.out.below hB); have HB_64 := hid (Below.steps HB_63.out hB); clear hB  HB_63 Q_63 LD_63; go_wp2_with fail
         clear hH; refine hK.out _ _ LD_64.out.c3 fun hH => ?_; clear hK KK
         try simp only [nrm]
         refine son 20 hH ?_; try simp only [nrm]
         refine son 21 hH ?_; try simp only [nrm]
         refine son 22 hH ?_; try simp only [nrm]
         refine step_one 23 rfl (by kernel_rfl) (fun KK hK => ?_)
         go_simp; refine (known8_any _).mono ?_
         rintro e w65 ⟨rfl, hB⟩; have Q_65 := hid (Q_64.out.below hB); have LD_65 := hid (LD_64.out.below hB); have HB_65 := hid (Below.steps HB_64.out hB); clear hB  HB_64 Q_64 LD_64; go_wp2_with fail
         clear hH; refine hK.out _ _ LD_65.out.c3 fun hH => ?_; clear hK KK
         try simp only [nrm]
         refine son 24 hH ?_; try simp only [nrm]
         refine son 25 hH ?_; try simp only [nrm]
         refine wpAnyH_done (by kernel_rfl) ?_ _
         go_wp2_with fail
         go_ret
         exact ⟨rfl, HB_65.out⟩
theorem polyOf_any {lo ao : Option Addr} {n lc na ca : Nat} {m0 : Bool} {z : Int} {ps : List Raw} {w : World} (v k : Int) (hv : in64 v) (hk : in64 k) (hp : Pr w lo n lc ps) (hx : In w m0 ao na ca z) :
  Calls Tryz.prog 4 #[.slice lo n lc, .agg #[.bool m0, .slice ao na ca], .int .i64 v, .int .i64 k] w (RetB (.bool true) w) := by
 by_cases g0 : greatR ps 40 = true
 ·exact polyOf_great v k hv hk hp hx g0
 have g0 : greatR ps 40 = false := by simpa using g0
 obtain ⟨a1, a2⟩ := great_facts g0; have hpn := hp.len
 by_cases h20 : 20 < na
 ·exact polyOf_num v k hv hk hp hx g0 h20
 ·exact polyOf_main v k hv hk hp hx g0 (by omega) (fun t ht => (a2 t ht).1) (by omega)
end Go.Proofs.YtmbgljjfmbhelaaGreat
