/-
  The law ViewBuilds, on any lists of terms.
-/
import Derived.Test.YtdgpnfjohijpeaaGreatVKn
import Derived.Test.YtdgpnfjohijpeaaGreatVRefL
set_option maxHeartbeats 40000000
set_option maxRecDepth 100000
namespace Go.Proofs.YtdgpnfjohijpeaaGreat
open Lib (hid)
open Go.RowKit
theorem Plr.wfs {w : World} {ao : Option Addr} {n cap : Nat} {ls : List (List Raw)} (h : Plr w ao n cap ls) : ∀ q ∈ ls, ∀ t ∈ q, Wf t.1.2 := fun q hq => by
 have hl := h.len; obtain ⟨k, hk, rfl⟩ := List.getElem_of_mem hq
 obtain ⟨_, _, po, pn, pc, _, _, _, hp⟩ := h.at (k := k) (by omega)
 rw [getD_of [] hk] at hp
 exact hp.wfs
theorem vCoefG_any {K : Nat} {ao : Option Addr} {n cap : Nat} {ps : List Raw} {w : World} (v : Int) (hv : 1 ≤ v ∧ v ≤ 200) (hp : Pr w ao n cap ps) (hl : ∀ t ∈ ps, t.1.2.length ≤ K) (hn : n ≤ 100000) (hK : K ≤ 1000) (d : Nat) (hd : degP (plnR ps) v = d) :
  Calls Tryz.prog 14 #[.slice ao n cap, .int .i64 v] w (NewPl w (coefU (plnR ps) v d)) := by
 by_cases h0 : plnR ps = []
 ·refine (vCoefs_zero v (by simp [hv.1, hv.2]) hp hl hK h0).mono ?_
  rintro e w1 ⟨rfl, hB⟩; rw [h0]
  exact ⟨none, 0, 0, rfl, rfl, ⟨[], Gl.zero 1 _, trivial⟩, hB⟩
 ·refine (vCoefs_any v hv hp hl hn hK h0 d hd).mono ?_
  rintro e w1 ⟨ro, rc, X, rfl, hP, hB⟩; rw [coefU_cons h0]
  exact ⟨ro, d + 1, rc, rfl, (coefL_len (plnR ps) v d).symm, hP.plr, hB⟩
theorem vbuild_no {ao : Option Addr} {n cap : Nat} {ls : List (List Raw)} {w : World} (v : Int) (hv : ((decide (1 ≤ v) && decide (v ≤ 200)) && allR ls) = false) (h : Plr w ao n cap ls) (hl : ∀ ps ∈ ls, ∀ t ∈ ps, t.1.2.length ≤ 1000) (hn : n ≤ 10001) : Calls Tryz.prog 10 #[.slice ao n cap, .int .i64 v] w (PE 0 w [] 2) := by
 have HM : Hid (Calls Tryz.prog 35 #[.slice ao n cap, .int .i64 v] w (RetB (.bool false) w)) := by
  cases h1 : (decide (1 ≤ v) && decide (v ≤ 200)) with
  | false => exact mayBuild_no v h1
  | true => rw [h1, Bool.true_and] at hv; exact mayBuild_any false v h1 h hl hn hv
 clear hv h hl
 go_enter Tryz.func10, Tryz.ntmps10
 go_wp2_with fail
 refine HM.out.mono ?_
 rintro e w1 ⟨rfl, hB⟩; have HB := hid hB; clear hB; go_wp2_with fail
 go_ret2
 exact ⟨none, 0, 0, rfl, Pc.zero _ _, HB.out⟩
theorem viewBld_great {ao bo : Option Addr} {n cap m cb : Nat} {ps : List Raw} {w : World} (v : Int) (hp : Pr w ao n cap ps)
  (g0 : greatR ps 20 = true) :
  Calls Tryz.prog 3 #[.slice ao n cap, .slice bo m cb, .int .i64 v] w (RetB (.bool true) w) := by
 have _ := v; have P_0 := hid hp; have HB_0 := hid (Below.refl w.heap.size w); clear hp
 go_enter Tryz.func3, Tryz.ntmps3
 go_wp2_with fail; refine (great_any8 true 20 P_0.out g0).mono ?_
 rintro e w1 ⟨rfl, hB⟩; have P_1 := hid (P_0.out.below hB); have HB_1 := hid (Below.steps HB_0.out hB); clear hB  HB_0 P_0; go_wp2_with fail; refine (known9_any _).mono ?_; rintro e w2 ⟨rfl, hB⟩; have P_2 := hid (P_1.out.below hB); have HB_2 := hid (Below.steps HB_1.out hB); clear hB  HB_1 P_1; go_wp2_with fail
 go_ret
 exact ⟨rfl, HB_2.out⟩
theorem viewBld_many {ao bo : Option Addr} {n cap m cb : Nat} {ps : List Raw} {w : World} (v : Int) (hp : Pr w ao n cap ps)
  (g0 : greatR ps 20 = false) (hm : 8 < m) :
  Calls Tryz.prog 3 #[.slice ao n cap, .slice bo m cb, .int .i64 v] w (RetB (.bool true) w) := by
 have _ := v; have _ := hm
 have hd : decide ((8 : Int) < (m : Int)) = true := decide_eq_true (by omega)
 have P_0 := hid hp; have HB_0 := hid (Below.refl w.heap.size w); clear hp
 go_enter Tryz.func3, Tryz.ntmps3
 go_wp2_with fail; refine (great_any8 false 20 P_0.out g0).mono ?_
 rintro e w1 ⟨rfl, hB⟩; have P_1 := hid (P_0.out.below hB); have HB_1 := hid (Below.steps HB_0.out hB); clear hB  HB_0 P_0; go_wp2_with fail; refine (known9_any _).mono ?_; rintro e w2 ⟨rfl, hB⟩; have P_2 := hid (P_1.out.below hB); have HB_2 := hid (Below.steps HB_1.out hB); clear hB  HB_1 P_1; go_wp2_with fail
 go_ret
 exact ⟨rfl, HB_2.out⟩
theorem viewBld_long {ao bo : Option Addr} {n cap m cb : Nat} {ps : List Raw} {ls : List (List Raw)} {w : World} (v : Int) (hv64 : in64 v) (hp : Pr w ao n cap ps) (hq : Plr w bo m cb ls)
  (g0 : greatR ps 20 = false) (hl : ∀ t ∈ ps, t.1.2.length ≤ 20) (hn : n ≤ 20) (hm : m ≤ 8) (d : Nat) (hdg : degP (plnR ps) v = d) (h50 : 50 < d) :
  Calls Tryz.prog 3 #[.slice ao n cap, .slice bo m cb, .int .i64 v] w (RetB (.bool true) w) := by
 have _ := hv64; have _ := hn; have _ := hm; have _ := h50
 have hd : decide ((8 : Int) < (m : Int)) = false := decide_eq_false (by omega)
 have hl1 : ∀ t ∈ ps, t.1.2.length ≤ 1000 := fun t ht => Nat.le_trans (hl t ht) (by omega)
 have hd5 : decide ((50 : Int) < (d : Int)) = true := decide_eq_true (by omega)
 have P_0 := hid hp; have Q_0 := hid hq; have HB_0 := hid (Below.refl w.heap.size w); clear hp hq
 go_enter Tryz.func3, Tryz.ntmps3
 go_wp2_with fail; refine (great_any8 false 20 P_0.out g0).mono ?_
 rintro e w1 ⟨rfl, hB⟩; have P_1 := hid (P_0.out.below hB); have Q_1 := hid (Q_0.out.below hB); have HB_1 := hid (Below.steps HB_0.out hB); clear hB  HB_0 P_0 Q_0; go_wp2_with fail; refine (vDegree_any v d P_1.out hl1 hdg).mono ?_; rintro e w2 ⟨rfl, hB⟩; have P_2 := hid (P_1.out.below hB); have Q_2 := hid (Q_1.out.below hB); have HB_2 := hid (Below.steps HB_1.out hB); clear hB  HB_1 P_1 Q_1; go_wp2_with fail; refine (known9_any _).mono ?_; rintro e w3 ⟨rfl, hB⟩; have P_3 := hid (P_2.out.below hB)
 have Q_3 := hid (Q_2.out.below hB); have HB_3 := hid (Below.steps HB_2.out hB); clear hB  HB_2 P_2 Q_2; go_wp2_with fail
 go_ret
 exact ⟨rfl, HB_3.out⟩
theorem viewBld_in {ao bo : Option Addr} {n cap m cb : Nat} {ps : List Raw} {ls : List (List Raw)} {w : World} (v : Int) (hv64 : in64 v) (hp : Pr w ao n cap ps) (hq : Plr w bo m cb ls)
  (g0 : greatR ps 20 = false) (hl : ∀ t ∈ ps, t.1.2.length ≤ 20) (hn : n ≤ 20) (hm : m ≤ 8) (d : Nat) (hdg : degP (plnR ps) v = d) (h50 : ¬ 50 < d) (hvr : 1 ≤ v ∧ v ≤ 200) :
  Calls Tryz.prog 3 #[.slice ao n cap, .slice bo m cb, .int .i64 v] w (RetB (.bool true) w) := by
 have _ := hv64; have _ := hm; have _ := h50
 have hd : decide ((8 : Int) < (m : Int)) = false := decide_eq_false (by omega)
 have hl1 : ∀ t ∈ ps, t.1.2.length ≤ 1000 := fun t ht => Nat.le_trans (hl t ht) (by omega)
 have hd5 : decide ((50 : Int) < (d : Int)) = false := decide_eq_false (by omega)
 have hpl := hp.len
 have HPS : Hid (ps.length ≤ 20) := by rw [Hid, hpl]; exact hn
 have HFP : Hid (fall (plnR ps)) := pln_fall hp.wfs
 have HQL := hid hq.len; have HQQ := hid hq; have hqb := hq.big; clear hpl
 have hv1 : decide (1 ≤ v) = true := decide_eq_true hvr.1
 have hv2 : decide (v ≤ 200) = true := decide_eq_true hvr.2
 have P_0 := hid hp; have Q_0 := hid hq; have HB_0 := hid (Below.refl w.heap.size w); have HP00 := hid hp; clear hp hq
 go_enter Tryz.func3, Tryz.ntmps3
 go_wp2_with fail; refine (great_any8 false 20 P_0.out g0).mono ?_
 rintro e w1 ⟨rfl, hB⟩; have P_1 := hid (P_0.out.below hB); have Q_1 := hid (Q_0.out.below hB); have HB_1 := hid (Below.steps HB_0.out hB); clear hB  HB_0 P_0 Q_0; go_wp2_with fail; refine (vDegree_any v d P_1.out hl1 hdg).mono ?_; rintro e w2 ⟨rfl, hB⟩; have P_2 := hid (P_1.out.below hB); have Q_2 := hid (Q_1.out.below hB); have HB_2 := hid (Below.steps HB_1.out hB); clear hB  HB_1 P_1 Q_1
 have HPP : Hid (∀ V, Below w.heap.size w V → Pr V ao n cap ps) := fun V hV => HP00.out.below hV
 clear P_2
 go_wp2
 go_loopw [7, 8, 39] (fun s t i wr => ∃ (k : Nat) (ro : Option Addr) (rc : Nat), s = .bool (true && allR (ls.take k)) ∧ t = .slice ro k rc ∧ i = .int .i64 k ∧ k ≤ m ∧ Hid (Plz w.heap.size 28 wr ro k rc ((ls.take k).map plnR) ∧ Below w.heap.size w wr ∧ ∀ q ∈ ls.take k, greatR q 8 = false)) (fun _ _ i _ => m - (intOf i).toNat)
 case atStart => exact ⟨0, none, 0, by simp [allR], rfl, rfl, Nat.zero_le _, by simpa using Plz.nil _ _ _, HB_2.out, by simp⟩
 case round =>
  clear Q_2 HB_2; obtain ⟨k, ro, rc, rfl, rfl, rfl, hk, HS⟩ := hrel
  by_cases hkn : k < m
  ·have hki : (k : Int) < (m : Int) := by omega
   have hk0 : (0 : Int) ≤ (k : Int) := by omega
   obtain ⟨b, off, qo, qn, qc, hbo, hbl, hcl, hqp⟩ := HQQ.out.at hkn; subst hbo
   have hkl : k < ls.length := by rw [HQL.out]; exact hkn
   obtain ⟨q, hqq⟩ : ∃ q, q = ls.getD k [] := ⟨_, rfl⟩; rw [← hqq] at hqp; have hnx := allR_next hkl; rw [← hqq] at hnx
   have htk : ls.take (k + 1) = ls.take k ++ [q] := by rw [List.take_succ_eq_append_getElem hkl, hqq, getD_of _ hkl]
   have HC := hid hcl; have HQ := hid hqp; have HNX := hid (And.intro hnx htk); have c0 := hcl wr HS.out.2.1; obtain ⟨r, hr⟩ : ∃ r, greatR q 8 = r := ⟨_, rfl⟩; have HR := hid hr; clear hcl hqp hnx htk hqq hbl hr hkl; go_wp2_with fail; refine (great_any8 r 8 (HQ.out.below HS.out.2.1) HR.out).mono ?_; rintro x V1 ⟨rfl, hB⟩
   have HS1 : Hid (Plz w.heap.size 28 V1 ro k rc ((ls.take k).map plnR) ∧ Below w.heap.size w V1 ∧ ∀ q ∈ ls.take k, greatR q 8 = false) := ⟨HS.out.1.below hB, Below.steps HS.out.2.1 hB, HS.out.2.2⟩
   clear hB HS c0
   cases r with
   | true =>
    go_wp2_with fail; refine (known9_any _).mono ?_
    rintro e wz ⟨rfl, hB⟩; have HZ := hid (Below.steps HS1.out.2.1 hB); clear hB HS1; go_wp2_with fail
    go_ret
    exact ⟨rfl, HZ.out⟩
   | false =>
    obtain ⟨g1, g2⟩ := great_facts HR.out
    have hql : ∀ t ∈ q, t.1.2.length ≤ 20 := fun t ht => (g2 t ht).1
    have hqn : qn ≤ 8 := by have := HQ.out.len; omega
    have HQK := hid hql; obtain ⟨mk, hmk⟩ : ∃ mk, (true && allR (ls.take k)) = mk := ⟨_, rfl⟩; rw [hmk]; have HMK := hid hmk; have c0 := HC.out _ HS1.out.2.1; clear g1 g2 hql hmk
    cases mk with
    | true =>
     obtain ⟨mq, hmq⟩ : ∃ mq, mayR q = mq := ⟨_, rfl⟩; have HMQ := hid hmq; clear hmq; go_wp2_with fail
     refine (may_any8 mq (HQ.out.below HS1.out.2.1) (fun t ht => Nat.le_trans (HQK.out t ht) (by omega)) HMQ.out).mono ?_
     rintro x V2 ⟨rfl, hB⟩
     have HS_V2 : Hid (Plz w.heap.size 28 V2 ro k rc ((ls.take k).map plnR) ∧ Below w.heap.size w V2 ∧ ∀ q ∈ ls.take k, greatR q 8 = false) := ⟨HS1.out.1.below hB, Below.steps HS1.out.2.1 hB, HS1.out.2.2⟩
     clear hB HS1 c0; have c0 := HC.out _ HS_V2.out.2.1; go_wp2_with fail
     refine (plain9_any (HQ.out.below HS_V2.out.2.1) HQK.out (by omega) (by omega)).mono ?_
     rintro x V5 ⟨xo, xn, xc, rfl, hX, hB⟩
     have HS5 : Hid (Plz w.heap.size 28 V5 ro k rc ((ls.take k).map plnR) ∧ Below w.heap.size w V5 ∧ ∀ q ∈ ls.take k, greatR q 8 = false) := ⟨HS_V2.out.1.below hB, Below.steps HS_V2.out.2.1 hB, HS_V2.out.2.2⟩
     obtain ⟨v8, W8, hr8, hps⟩ := plz_push HS5.out.1 (hX.mono (by omega)) HS5.out.2.1.size (by omega) 31 28
     have HPU := hid hps; clear hps hX hB HS_V2 c0
     go_wp2_with (at_builtin; refine wpList_append_of rfl (.tmp 56) (.tmp 62) 28 28 rfl _ _ rfl rfl hr8 ?_)
     clear hr8; obtain ⟨ro8, rc8, rfl, hp1, hp2⟩ := HPU.out
     have HN : Hid (Plz w.heap.size 28 W8 ro8 (k + 1) rc8 ((ls.take (k + 1)).map plnR) ∧ Below w.heap.size w W8 ∧ ∀ q ∈ ls.take (k + 1), greatR q 8 = false) := by
      rw [HNX.out.2, List.map_append]
      refine ⟨hp1, HS5.out.2.1.grown hp2 HS5.out.2.1.size fun r e => (HS5.out.1.own r e).1, fun z hz => ?_⟩
      rcases List.mem_append.1 hz with hz | hz
      ·exact HS5.out.2.2 z hz
      ·rw [List.mem_singleton.1 hz]; exact HR.out
     clear hp1 hp2 HPU HS5
     try go_wp2
     go_roundw
     case rel => exact ⟨k + 1, ro8, rc8, by rw [HNX.out.1, ← Bool.and_assoc, HMK.out, HMQ.out, Bool.true_and], rfl, by go_num, by omega, HN.out⟩
     case measure => simp [intOf]; omega
    | false =>
     have HS_V1 := hid HS1.out; clear HS1; go_wp2_with fail
     refine (plain9_any (HQ.out.below HS_V1.out.2.1) HQK.out (by omega) (by omega)).mono ?_
     rintro x V5 ⟨xo, xn, xc, rfl, hX, hB⟩
     have HS5 : Hid (Plz w.heap.size 28 V5 ro k rc ((ls.take k).map plnR) ∧ Below w.heap.size w V5 ∧ ∀ q ∈ ls.take k, greatR q 8 = false) := ⟨HS_V1.out.1.below hB, Below.steps HS_V1.out.2.1 hB, HS_V1.out.2.2⟩
     obtain ⟨v8, W8, hr8, hps⟩ := plz_push HS5.out.1 (hX.mono (by omega)) HS5.out.2.1.size (by omega) 31 28
     have HPU := hid hps; clear hps hX hB HS_V1 c0
     go_wp2_with (at_builtin; refine wpList_append_of rfl (.tmp 56) (.tmp 62) 28 28 rfl _ _ rfl rfl hr8 ?_)
     clear hr8; obtain ⟨ro8, rc8, rfl, hp1, hp2⟩ := HPU.out
     have HN : Hid (Plz w.heap.size 28 W8 ro8 (k + 1) rc8 ((ls.take (k + 1)).map plnR) ∧ Below w.heap.size w W8 ∧ ∀ q ∈ ls.take (k + 1), greatR q 8 = false) := by
      rw [HNX.out.2, List.map_append]
      refine ⟨hp1, HS5.out.2.1.grown hp2 HS5.out.2.1.size fun r e => (HS5.out.1.own r e).1, fun z hz => ?_⟩
      rcases List.mem_append.1 hz with hz | hz
      ·exact HS5.out.2.2 z hz
      ·rw [List.mem_singleton.1 hz]; exact HR.out
     clear hp1 hp2 HPU HS5
     try go_wp2
     go_roundw
     case rel => exact ⟨k + 1, ro8, rc8, by rw [HNX.out.1, ← Bool.and_assoc, HMK.out, Bool.false_and], rfl, by go_num, by omega, HN.out⟩
     case measure => simp [intOf]; omega
  ·obtain rfl : k = m := by omega
   have hki : ¬ (k : Int) < (k : Int) := by omega
   have hfull : ls.take k = ls := List.take_of_length_le (by rw [HQL.out]; exact Nat.le_refl _)
   rw [hfull] at HS ⊢; obtain ⟨mm, hmm⟩ : ∃ mm, (true && allR ls) = mm := ⟨_, rfl⟩
   rw [hmm]; have HMM := hid hmm
   have hgr := HS.out.2.2
   have hlk : ∀ q ∈ ls, ∀ t ∈ q, t.1.2.length ≤ 20 := fun q hq t ht => ((great_facts (hgr q hq)).2 t ht).1
   have hlm : ∀ q ∈ ls, q.length ≤ 8 := fun q hq => by have := (great_facts (hgr q hq)).1; omega
   have HLK := hid (And.intro hlk hlm); have HAL := hid (And.intro HS.out.1 HS.out.2.1); clear hfull hmm hgr hlk hlm HS
   cases mm with
   | false =>
    have P_50 : Hid (Pr wr ao n cap ps) := HPP.out wr HAL.out.2
    have HB_50 := hid HAL.out.2; go_wp2_with fail
    refine (vbuild_no v (by have h := HMM.out; rw [hv1, hv2]; exact h) (HQQ.out.below HB_50.out) (fun q hq t ht => Nat.le_trans (HLK.out.1 q hq t ht) (by omega)) (by omega)).mono ?_
    rintro e w51 ⟨qo9, qn9, qc9, rfl, hX, hB⟩; obtain rfl : qn9 = 0 := hX.len.symm; clear hX; have P_51 := hid (P_50.out.below hB); have HB_51 := hid (Below.steps HB_50.out hB); clear hB  HB_50 P_50
    have hz : (((0 : Nat) : Int) != 0) = false := rfl
    go_wp2_with fail
    refine (vCoefG_any v hvr P_51.out hl (by omega) (by omega) d hdg).mono ?_
    rintro e w52 ⟨go, gn, gc, rfl, hgn, hX, hB⟩; have P_52 := hid (P_51.out.below hB); have HB_52 := hid (Below.steps HB_51.out hB); have GO_52 := hid (hX); clear hB hX HB_51 P_51; have HGN := hid hgn; clear hgn; go_wp2_with fail
    refine (plain9_any P_52.out hl (by omega) (by omega)).mono ?_
    rintro e w53 ⟨po, pn, pc, rfl, hX, hB⟩
    have hpn : pn ≤ 20 := by have h1 := hX.len; have h2 := pln_len ps; have h3 := HPS.out; omega
    have P_53 := hid (P_52.out.below hB); have GO_53 := hid (GO_52.out.below hB); have HB_53 := hid (Below.steps HB_52.out hB); have PZ_53 := hid (hX); clear hB hX HB_52 P_52 GO_52; go_wp2_with fail
    refine (rCoefs_any v PZ_53.out HFP.out (by omega) (by omega) d hdg).mono ?_
    rintro e w54 ⟨wo, wn, wc, rfl, hwn, hX, hB⟩; have P_54 := hid (P_53.out.below hB); have GO_54 := hid (GO_53.out.below hB); have PZ_54 := hid (PZ_53.out.below hB); have HB_54 := hid (Below.steps HB_53.out hB); have WA_54 := hid (hX); clear hB hX HB_53 P_53 GO_53 PZ_53; clear PZ_54
    obtain rfl : gn = wn := by rw [HGN.out, hwn]
    have HWN := hid hwn; clear hwn
    have hg51 : gn ≤ 51 := by rw [HWN.out]; have := coefU_len (plnR ps) v d; omega
    have HGO : Hid (∀ V, Below w54.heap.size w54 V → Plr V go gn gc ((coefU (plnR ps) v d).map fun p => p.map rawC)) := fun V hV => GO_54.out.below hV
    have HWA := hid WA_54.out
    have hne : ((gn : Int) != (gn : Int)) = false := by simp
    go_wp2
    go_loopw [131] (fun i wr => ∃ j : Nat, i = .int .i64 j ∧ j ≤ gn ∧ Hid (Below w54.heap.size w54 wr)) (fun i _ => gn - (intOf i).toNat)
    case atStart => exact ⟨0, rfl, Nat.zero_le _, Below.refl _ _⟩
    case round =>
     obtain ⟨j, rfl, hj, HS⟩ := hrel
     by_cases hjn : j < gn
     ·have hji : (j : Int) < (gn : Int) := by omega
      have hj0 : (0 : Int) ≤ (j : Int) := by omega
      obtain ⟨gb, goff, qo, qn, qc, hgo, hgb, hgc, hgp⟩ := (HGO.out wr HS.out).at hjn; subst hgo; obtain ⟨wb, xo, xn, xc, hwo, hwb, hwp, hwc⟩ := (HWA.out.below HS.out).at hjn; subst hwo
      rw [getD_map (fun p : List Term => p.map rawC) [] [] (coefU (plnR ps) v d) j (by rw [← HWN.out]; exact hjn)] at hgp
      obtain ⟨q, hq⟩ : ∃ q, q = (coefU (plnR ps) v d).getD j [] := ⟨_, rfl⟩; rw [← hq] at hgp hwp
      have hqm : q ∈ coefU (plnR ps) v d := by rw [hq]; exact getD_in [] (by rw [← HWN.out]; exact hjn)
      have hxl : xn ≤ 100000 := by obtain ⟨i, _, rfl⟩ := coefU_mem hqm; have h1 := hwp.len; have h2 := coef_len v (i : Int) (plnR ps); have h3 := pln_len ps; have h4 := HPS.out; omega
      have HC := hid (And.intro hgc hwc); have HQ := hid (And.intro hgp hwp); clear hgc hwc hgp hwp hq hqm
      go_upto_region 29 with (fail)
      refine wp_region_held_drew (S := fun w' => w'.cell? ⟨gb, goff + j, none⟩ = some (.slice qo qn qc) ∧ w'.cell? ⟨wb, j, none⟩ = some (.slice xo xn xc)) (by kernel_rfl) ⟨HC.out.1 _ (Below.refl _ _).drew, HC.out.2 _ (Below.refl _ _).drew⟩ (fun hH => ?_)
      refine anyH_world (fun V0 hW => ?_)
      have dr : Below wr.heap.size wr V0 := by rw [hW]; exact (Below.refl _ _).drew
      rw [← hW] at hH; have B0 := hid dr
      clear dr; clear hW
      refine son 0 hH ?_; try simp only [nrm]
      refine son 1 hH ?_; try simp only [nrm]
      refine son 2 hH ?_; try simp only [nrm]
      refine son 3 hH ?_; try simp only [nrm]
      refine son 4 hH ?_; try simp only [nrm]
      refine son 5 hH ?_; try simp only [nrm]
      refine son 6 hH ?_; try simp only [nrm]
      refine son 7 hH ?_; try simp only [nrm]
      refine step_one 8 rfl (by kernel_rfl) (fun KK hK => ?_)
      go_simp
      refine (poly_any8 (HQ.out.2.below B0.out) hxl (by omega)).mono ?_
      rintro e V1 ⟨yo, yn, yc, rfl, hX, hB⟩; have B1 := hid (Below.steps B0.out hB); have Y1 := hid hX; clear hX hB B0; go_wp2_with fail
      clear hH; refine hK.out _ _ ⟨HC.out.1 _ B1.out, HC.out.2 _ B1.out⟩ fun hH => ?_; clear hK KK
      try simp only [nrm]
      refine step_one 9 rfl (by kernel_rfl) (fun KK hK => ?_)
      go_simp; refine (same_any8 true (HQ.out.1.below B1.out) Y1.out.raw (decide_eq_true rfl)).mono ?_
      rintro e V2 ⟨rfl, hB⟩; have B2 := hid (Below.steps B1.out hB); clear hB B1 Y1; go_wp2_with fail
      clear hH; refine hK.out _ _ ⟨HC.out.1 _ B2.out, HC.out.2 _ B2.out⟩ fun hH => ?_; clear hK KK
      try simp only [nrm]
      refine son 10 hH ?_; try simp only [nrm]
      refine wpAnyH_done (by kernel_rfl) ?_ _
      have HN := hid (Below.steps HS.out B2.out); clear HC HQ B2 HS; go_wp2_with fail
      go_roundw
      case rel => exact ⟨j + 1, by go_num, by omega, HN.out⟩
      case measure => simp [intOf]; omega
     ·obtain rfl : j = gn := by omega
      have hji : ¬ (j : Int) < (j : Int) := by omega
      have HZ0 := hid (Below.steps HB_54.out HS.out); clear HS; go_wp2_with fail; refine (known9_any _).mono ?_; rintro e wz ⟨rfl, hB⟩; have HZ := hid (Below.steps HZ0.out hB); clear hB HZ0; go_wp2_with fail
      go_ret
      exact ⟨rfl, HZ.out⟩
   | true =>
    have P_50 : Hid (Pr wr ao n cap ps) := HPP.out wr HAL.out.2
    have HB_50 := hid HAL.out.2
    have hal : allR ls = true := by have h := HMM.out; rwa [Bool.true_and] at h
    have hmy : ∀ q ∈ ls, mayR q = true := fun q hq => by unfold allR at hal; exact List.all_eq_true.1 hal q hq
    have hwfs := HQQ.out.wfs; obtain ⟨LL, hLL⟩ : ∃ LL, LL = ls.map plnR := ⟨_, rfl⟩
    have hraw : ls = LL.map fun p => p.map rawC := by
     rw [hLL, List.map_map]
     have e : ls.map ((fun p => p.map rawC) ∘ plnR) = ls.map id := List.map_congr_left fun q hq => by
      show (plnR q).map rawC = q
      rw [pln_yes (hmy q hq)]
      exact ((mayR_yes (hwfs q hq) (hmy q hq)).2).symm
     rw [e, List.map_id]
    have hfl : ∀ p ∈ LL, fall p := fun p hp => by rw [hLL] at hp; obtain ⟨q, hq, rfl⟩ := List.mem_map.1 hp; exact pln_fall (hwfs q hq)
    have hlm : ∀ p ∈ LL, p.length ≤ 8 := fun p hp => by rw [hLL] at hp; obtain ⟨q, hq, rfl⟩ := List.mem_map.1 hp; have h1 := pln_len q; have h2 := HLK.out.2 q hq; omega
    have hlr : ∀ p ∈ LL, ∀ t ∈ p.map rawC, t.1.2.length ≤ 20 := fun p hp t ht => HLK.out.1 (p.map rawC) (by rw [hraw]; exact List.mem_map.2 ⟨p, hp, rfl⟩) t ht
    have hQ : Plr wr bo k cb (LL.map fun p => p.map rawC) := by rw [← hraw]; exact HQQ.out.below HAL.out.2
    have hA : Plz w.heap.size 28 wr ro k rc LL := by rw [hLL]; exact HAL.out.1
    have Q_50 := hid hQ; have A_50 := hid hA; have HLL := hid (And.intro hfl (And.intro hlm hlr)); clear hal hmy hwfs hLL hraw hfl hlm hlr hQ hA
    by_cases hok : bldOk v LL k
    ·go_wp2_with fail
     refine (vbuild_any (K := 20) (KM := 53) (m := 8) (n9 := 64) hvr Q_50.out HLL.out.2.2 HLL.out.1 HLL.out.2.1 (by omega) (by omega) (by omega) (by omega) (by omega) (by omega) (by omega) hok).mono ?_
     rintro e w51 ⟨qo9, qn9, qc9, rfl, hX, hB⟩; have P_51 := hid (P_50.out.below hB); have Q_51 := hid (Q_50.out.below hB); have A_51 := hid (A_50.out.below hB); have HB_51 := hid (Below.steps HB_50.out hB); have R_51 := hid (hX); clear hB hX HB_50 P_50 Q_50 A_50; clear Q_51; go_wp2_with fail
     refine (rBuild_any (K := 28) (m := 8) hvr A_51.out HLL.out.1 HLL.out.2.1 (by omega) (by omega) (by omega) (by omega) hok).mono ?_
     rintro e w52 ⟨xo9, xn9, xc9, rfl, hX, hB⟩
     have hx9 : xn9 ≤ 100000 := by have h1 := hX.len; have h2 := ofT_length (bldK v LL k); have h3 := bld_len HLL.out.2.1 k (v := v) (by have := A_51.out.len; omega); omega
     have P_52 := hid (P_51.out.below hB); have A_52 := hid (A_51.out.below hB); have R_52 := hid (R_51.out.below hB); have HB_52 := hid (Below.steps HB_51.out hB); have X_52 := hid (hX); clear hB hX HB_51 P_51 A_51 R_51; clear A_52; go_wp2_with fail
     refine (poly_any8 X_52.out hx9 (by omega)).mono ?_
     rintro e w53 ⟨yo9, yn9, yc9, rfl, hX, hB⟩; have P_53 := hid (P_52.out.below hB); have R_53 := hid (R_52.out.below hB); have X_53 := hid (X_52.out.below hB); have HB_53 := hid (Below.steps HB_52.out hB); have Y_53 := hid (hX); clear hB hX HB_52 P_52 R_52 X_52; clear X_53; go_wp2_with fail; refine (same_any8 true R_53.out.raw Y_53.out.raw (decide_eq_true rfl)).mono ?_; rintro e w54 ⟨rfl, hB⟩; have P_54 := hid (P_53.out.below hB); have R_54 := hid (R_53.out.below hB); have Y_54 := hid (Y_53.out.below hB)
     have HB_54 := hid (Below.steps HB_53.out hB); clear hB  HB_53 P_53 R_53 Y_53; clear R_54; clear Y_54; go_wp2_with fail
     refine (vCoefG_any v hvr P_54.out hl (by omega) (by omega) d hdg).mono ?_
     rintro e w55 ⟨go, gn, gc, rfl, hgn, hX, hB⟩; have P_55 := hid (P_54.out.below hB); have HB_55 := hid (Below.steps HB_54.out hB); have GO_55 := hid (hX); clear hB hX HB_54 P_54; have HGN := hid hgn; clear hgn; go_wp2_with fail
     refine (plain9_any P_55.out hl (by omega) (by omega)).mono ?_
     rintro e w56 ⟨po, pn, pc, rfl, hX, hB⟩
     have hpn : pn ≤ 20 := by have h1 := hX.len; have h2 := pln_len ps; have h3 := HPS.out; omega
     have P_56 := hid (P_55.out.below hB); have GO_56 := hid (GO_55.out.below hB); have HB_56 := hid (Below.steps HB_55.out hB); have PZ_56 := hid (hX); clear hB hX HB_55 P_55 GO_55; go_wp2_with fail
     refine (rCoefs_any v PZ_56.out HFP.out (by omega) (by omega) d hdg).mono ?_
     rintro e w57 ⟨wo, wn, wc, rfl, hwn, hX, hB⟩; have P_57 := hid (P_56.out.below hB); have GO_57 := hid (GO_56.out.below hB); have PZ_57 := hid (PZ_56.out.below hB); have HB_57 := hid (Below.steps HB_56.out hB); have WA_57 := hid (hX); clear hB hX HB_56 P_56 GO_56 PZ_56; clear PZ_57
     obtain rfl : gn = wn := by rw [HGN.out, hwn]
     have HWN := hid hwn; clear hwn
     have hg51 : gn ≤ 51 := by rw [HWN.out]; have := coefU_len (plnR ps) v d; omega
     have HGO : Hid (∀ V, Below w57.heap.size w57 V → Plr V go gn gc ((coefU (plnR ps) v d).map fun p => p.map rawC)) := fun V hV => GO_57.out.below hV
     have HWA := hid WA_57.out
     have hne : ((gn : Int) != (gn : Int)) = false := by simp
     go_wp2
     go_loopw [131] (fun i wr => ∃ j : Nat, i = .int .i64 j ∧ j ≤ gn ∧ Hid (Below w57.heap.size w57 wr)) (fun i _ => gn - (intOf i).toNat)
     case atStart => exact ⟨0, rfl, Nat.zero_le _, Below.refl _ _⟩
     case round =>
      obtain ⟨j, rfl, hj, HS⟩ := hrel
      by_cases hjn : j < gn
      ·have hji : (j : Int) < (gn : Int) := by omega
       have hj0 : (0 : Int) ≤ (j : Int) := by omega
       obtain ⟨gb, goff, qo, qn, qc, hgo, hgb, hgc, hgp⟩ := (HGO.out wr HS.out).at hjn; subst hgo; obtain ⟨wb, xo, xn, xc, hwo, hwb, hwp, hwc⟩ := (HWA.out.below HS.out).at hjn; subst hwo
       rw [getD_map (fun p : List Term => p.map rawC) [] [] (coefU (plnR ps) v d) j (by rw [← HWN.out]; exact hjn)] at hgp
       obtain ⟨q, hq⟩ : ∃ q, q = (coefU (plnR ps) v d).getD j [] := ⟨_, rfl⟩; rw [← hq] at hgp hwp
       have hqm : q ∈ coefU (plnR ps) v d := by rw [hq]; exact getD_in [] (by rw [← HWN.out]; exact hjn)
       have hxl : xn ≤ 100000 := by obtain ⟨i, _, rfl⟩ := coefU_mem hqm; have h1 := hwp.len; have h2 := coef_len v (i : Int) (plnR ps); have h3 := pln_len ps; have h4 := HPS.out; omega
       have HC := hid (And.intro hgc hwc); have HQ := hid (And.intro hgp hwp); clear hgc hwc hgp hwp hq hqm
       go_upto_region 29 with (fail)
       refine wp_region_held_drew (S := fun w' => w'.cell? ⟨gb, goff + j, none⟩ = some (.slice qo qn qc) ∧ w'.cell? ⟨wb, j, none⟩ = some (.slice xo xn xc)) (by kernel_rfl) ⟨HC.out.1 _ (Below.refl _ _).drew, HC.out.2 _ (Below.refl _ _).drew⟩ (fun hH => ?_)
       refine anyH_world (fun V0 hW => ?_)
       have dr : Below wr.heap.size wr V0 := by rw [hW]; exact (Below.refl _ _).drew
       rw [← hW] at hH; have B0 := hid dr
       clear dr; clear hW
       refine son 0 hH ?_; try simp only [nrm]
       refine son 1 hH ?_; try simp only [nrm]
       refine son 2 hH ?_; try simp only [nrm]
       refine son 3 hH ?_; try simp only [nrm]
       refine son 4 hH ?_; try simp only [nrm]
       refine son 5 hH ?_; try simp only [nrm]
       refine son 6 hH ?_; try simp only [nrm]
       refine son 7 hH ?_; try simp only [nrm]
       refine step_one 8 rfl (by kernel_rfl) (fun KK hK => ?_)
       go_simp
       refine (poly_any8 (HQ.out.2.below B0.out) hxl (by omega)).mono ?_
       rintro e V1 ⟨yo, yn, yc, rfl, hX, hB⟩; have B1 := hid (Below.steps B0.out hB); have Y1 := hid hX; clear hX hB B0; go_wp2_with fail
       clear hH; refine hK.out _ _ ⟨HC.out.1 _ B1.out, HC.out.2 _ B1.out⟩ fun hH => ?_; clear hK KK
       try simp only [nrm]
       refine step_one 9 rfl (by kernel_rfl) (fun KK hK => ?_)
       go_simp; refine (same_any8 true (HQ.out.1.below B1.out) Y1.out.raw (decide_eq_true rfl)).mono ?_
       rintro e V2 ⟨rfl, hB⟩; have B2 := hid (Below.steps B1.out hB); clear hB B1 Y1; go_wp2_with fail
       clear hH; refine hK.out _ _ ⟨HC.out.1 _ B2.out, HC.out.2 _ B2.out⟩ fun hH => ?_; clear hK KK
       try simp only [nrm]
       refine son 10 hH ?_; try simp only [nrm]
       refine wpAnyH_done (by kernel_rfl) ?_ _
       have HN := hid (Below.steps HS.out B2.out); clear HC HQ B2 HS; go_wp2_with fail
       go_roundw
       case rel => exact ⟨j + 1, by go_num, by omega, HN.out⟩
       case measure => simp [intOf]; omega
      ·obtain rfl : j = gn := by omega
       have hji : ¬ (j : Int) < (j : Int) := by omega
       have HZ0 := hid (Below.steps HB_57.out HS.out); clear HS; go_wp2_with fail; refine (known9_any _).mono ?_; rintro e wz ⟨rfl, hB⟩; have HZ := hid (Below.steps HZ0.out hB); clear hB HZ0; go_wp2_with fail
       go_ret
       exact ⟨rfl, HZ.out⟩
    ·go_wp2_with fail
     refine (vbuild_exp (K := 20) (KM := 53) (m := 8) (n9 := 64) hvr Q_50.out HLL.out.2.2 HLL.out.1 HLL.out.2.1 (by omega) (by omega) (by omega) (by omega) (by omega) (by omega) (by omega) hok).mono ?_
     rintro e w51 ⟨qo9, qn9, qc9, rfl, hX, hB⟩; obtain rfl : qn9 = 0 := hX.len.symm; clear hX; have P_51 := hid (P_50.out.below hB); have Q_51 := hid (Q_50.out.below hB); have A_51 := hid (A_50.out.below hB); have HB_51 := hid (Below.steps HB_50.out hB); clear hB  HB_50 P_50 Q_50 A_50; clear Q_51; go_wp2_with fail
     refine (rBuild_bad (K := 28) (m := 8) hvr A_51.out HLL.out.1 HLL.out.2.1 (by omega) (by omega) (by omega) (by omega) hok).mono ?_
     rintro e w52 ⟨xo9, xn9, xc9, rfl, hX, hB⟩; clear hX; have P_52 := hid (P_51.out.below hB); have A_52 := hid (A_51.out.below hB); have HB_52 := hid (Below.steps HB_51.out hB); clear hB  HB_51 P_51 A_51; clear A_52
     have hz : (((0 : Nat) : Int) != 0) = false := rfl
     go_wp2_with fail
     refine (vCoefG_any v hvr P_52.out hl (by omega) (by omega) d hdg).mono ?_
     rintro e w53 ⟨go, gn, gc, rfl, hgn, hX, hB⟩; have P_53 := hid (P_52.out.below hB); have HB_53 := hid (Below.steps HB_52.out hB); have GO_53 := hid (hX); clear hB hX HB_52 P_52; have HGN := hid hgn; clear hgn; go_wp2_with fail
     refine (plain9_any P_53.out hl (by omega) (by omega)).mono ?_
     rintro e w54 ⟨po, pn, pc, rfl, hX, hB⟩
     have hpn : pn ≤ 20 := by have h1 := hX.len; have h2 := pln_len ps; have h3 := HPS.out; omega
     have P_54 := hid (P_53.out.below hB); have GO_54 := hid (GO_53.out.below hB); have HB_54 := hid (Below.steps HB_53.out hB); have PZ_54 := hid (hX); clear hB hX HB_53 P_53 GO_53; go_wp2_with fail
     refine (rCoefs_any v PZ_54.out HFP.out (by omega) (by omega) d hdg).mono ?_
     rintro e w55 ⟨wo, wn, wc, rfl, hwn, hX, hB⟩; have P_55 := hid (P_54.out.below hB); have GO_55 := hid (GO_54.out.below hB); have PZ_55 := hid (PZ_54.out.below hB); have HB_55 := hid (Below.steps HB_54.out hB); have WA_55 := hid (hX); clear hB hX HB_54 P_54 GO_54 PZ_54; clear PZ_55
     obtain rfl : gn = wn := by rw [HGN.out, hwn]
     have HWN := hid hwn; clear hwn
     have hg51 : gn ≤ 51 := by rw [HWN.out]; have := coefU_len (plnR ps) v d; omega
     have HGO : Hid (∀ V, Below w55.heap.size w55 V → Plr V go gn gc ((coefU (plnR ps) v d).map fun p => p.map rawC)) := fun V hV => GO_55.out.below hV
     have HWA := hid WA_55.out
     have hne : ((gn : Int) != (gn : Int)) = false := by simp
     go_wp2
     go_loopw [131] (fun i wr => ∃ j : Nat, i = .int .i64 j ∧ j ≤ gn ∧ Hid (Below w55.heap.size w55 wr)) (fun i _ => gn - (intOf i).toNat)
     case atStart => exact ⟨0, rfl, Nat.zero_le _, Below.refl _ _⟩
     case round =>
      obtain ⟨j, rfl, hj, HS⟩ := hrel
      by_cases hjn : j < gn
      ·have hji : (j : Int) < (gn : Int) := by omega
       have hj0 : (0 : Int) ≤ (j : Int) := by omega
       obtain ⟨gb, goff, qo, qn, qc, hgo, hgb, hgc, hgp⟩ := (HGO.out wr HS.out).at hjn; subst hgo; obtain ⟨wb, xo, xn, xc, hwo, hwb, hwp, hwc⟩ := (HWA.out.below HS.out).at hjn; subst hwo
       rw [getD_map (fun p : List Term => p.map rawC) [] [] (coefU (plnR ps) v d) j (by rw [← HWN.out]; exact hjn)] at hgp
       obtain ⟨q, hq⟩ : ∃ q, q = (coefU (plnR ps) v d).getD j [] := ⟨_, rfl⟩; rw [← hq] at hgp hwp
       have hqm : q ∈ coefU (plnR ps) v d := by rw [hq]; exact getD_in [] (by rw [← HWN.out]; exact hjn)
       have hxl : xn ≤ 100000 := by obtain ⟨i, _, rfl⟩ := coefU_mem hqm; have h1 := hwp.len; have h2 := coef_len v (i : Int) (plnR ps); have h3 := pln_len ps; have h4 := HPS.out; omega
       have HC := hid (And.intro hgc hwc); have HQ := hid (And.intro hgp hwp); clear hgc hwc hgp hwp hq hqm
       go_upto_region 29 with (fail)
       refine wp_region_held_drew (S := fun w' => w'.cell? ⟨gb, goff + j, none⟩ = some (.slice qo qn qc) ∧ w'.cell? ⟨wb, j, none⟩ = some (.slice xo xn xc)) (by kernel_rfl) ⟨HC.out.1 _ (Below.refl _ _).drew, HC.out.2 _ (Below.refl _ _).drew⟩ (fun hH => ?_)
       refine anyH_world (fun V0 hW => ?_)
       have dr : Below wr.heap.size wr V0 := by rw [hW]; exact (Below.refl _ _).drew
       rw [← hW] at hH; have B0 := hid dr
       clear dr; clear hW
       refine son 0 hH ?_; try simp only [nrm]
       refine son 1 hH ?_; try simp only [nrm]
       refine son 2 hH ?_; try simp only [nrm]
       refine son 3 hH ?_; try simp only [nrm]
       refine son 4 hH ?_; try simp only [nrm]
       refine son 5 hH ?_; try simp only [nrm]
       refine son 6 hH ?_; try simp only [nrm]
       refine son 7 hH ?_; try simp only [nrm]
       refine step_one 8 rfl (by kernel_rfl) (fun KK hK => ?_)
       go_simp
       refine (poly_any8 (HQ.out.2.below B0.out) hxl (by omega)).mono ?_
       rintro e V1 ⟨yo, yn, yc, rfl, hX, hB⟩; have B1 := hid (Below.steps B0.out hB); have Y1 := hid hX; clear hX hB B0; go_wp2_with fail
       clear hH; refine hK.out _ _ ⟨HC.out.1 _ B1.out, HC.out.2 _ B1.out⟩ fun hH => ?_; clear hK KK
       try simp only [nrm]
       refine step_one 9 rfl (by kernel_rfl) (fun KK hK => ?_)
       go_simp; refine (same_any8 true (HQ.out.1.below B1.out) Y1.out.raw (decide_eq_true rfl)).mono ?_
       rintro e V2 ⟨rfl, hB⟩; have B2 := hid (Below.steps B1.out hB); clear hB B1 Y1; go_wp2_with fail
       clear hH; refine hK.out _ _ ⟨HC.out.1 _ B2.out, HC.out.2 _ B2.out⟩ fun hH => ?_; clear hK KK
       try simp only [nrm]
       refine son 10 hH ?_; try simp only [nrm]
       refine wpAnyH_done (by kernel_rfl) ?_ _
       have HN := hid (Below.steps HS.out B2.out); clear HC HQ B2 HS; go_wp2_with fail
       go_roundw
       case rel => exact ⟨j + 1, by go_num, by omega, HN.out⟩
       case measure => simp [intOf]; omega
      ·obtain rfl : j = gn := by omega
       have hji : ¬ (j : Int) < (j : Int) := by omega
       have HZ0 := hid (Below.steps HB_55.out HS.out); clear HS; go_wp2_with fail; refine (known9_any _).mono ?_; rintro e wz ⟨rfl, hB⟩; have HZ := hid (Below.steps HZ0.out hB); clear hB HZ0; go_wp2_with fail
       go_ret
       exact ⟨rfl, HZ.out⟩
theorem viewBld_out {ao bo : Option Addr} {n cap m cb : Nat} {ps : List Raw} {ls : List (List Raw)} {w : World} (v : Int) (hv64 : in64 v) (hp : Pr w ao n cap ps) (hq : Plr w bo m cb ls)
  (g0 : greatR ps 20 = false) (hl : ∀ t ∈ ps, t.1.2.length ≤ 20) (hn : n ≤ 20) (hm : m ≤ 8) (d : Nat) (hdg : degP (plnR ps) v = d) (h50 : ¬ 50 < d) (hvr : (decide (1 ≤ v) && decide (v ≤ 200)) = false) :
  Calls Tryz.prog 3 #[.slice ao n cap, .slice bo m cb, .int .i64 v] w (RetB (.bool true) w) := by
 have _ := hv64; have _ := hm; have _ := h50
 by_cases h1 : 1 ≤ v
 ·have hv1 : decide (1 ≤ v) = true := decide_eq_true h1
  have hv2 : decide (v ≤ 200) = false := by rw [hv1, Bool.true_and] at hvr; exact hvr
  have hd : decide ((8 : Int) < (m : Int)) = false := decide_eq_false (by omega)
  have hl1 : ∀ t ∈ ps, t.1.2.length ≤ 1000 := fun t ht => Nat.le_trans (hl t ht) (by omega)
  have hd5 : decide ((50 : Int) < (d : Int)) = false := decide_eq_false (by omega)
  have hpl := hp.len
  have HPS : Hid (ps.length ≤ 20) := by rw [Hid, hpl]; exact hn
  have HFP : Hid (fall (plnR ps)) := pln_fall hp.wfs
  have HQL := hid hq.len; have HQQ := hid hq; have hqb := hq.big; clear hpl; have P_0 := hid hp; have Q_0 := hid hq; have HB_0 := hid (Below.refl w.heap.size w); have HP00 := hid hp; clear hp hq
  go_enter Tryz.func3, Tryz.ntmps3
  go_wp2_with fail; refine (great_any8 false 20 P_0.out g0).mono ?_
  rintro e w1 ⟨rfl, hB⟩; have P_1 := hid (P_0.out.below hB); have Q_1 := hid (Q_0.out.below hB); have HB_1 := hid (Below.steps HB_0.out hB); clear hB  HB_0 P_0 Q_0; go_wp2_with fail; refine (vDegree_any v d P_1.out hl1 hdg).mono ?_; rintro e w2 ⟨rfl, hB⟩; have P_2 := hid (P_1.out.below hB); have Q_2 := hid (Q_1.out.below hB); have HB_2 := hid (Below.steps HB_1.out hB); clear hB  HB_1 P_1 Q_1
  have HPP : Hid (∀ V, Below w.heap.size w V → Pr V ao n cap ps) := fun V hV => HP00.out.below hV
  clear P_2
  go_wp2
  go_loopw [7, 8, 39] (fun s t i wr => ∃ (k : Nat) (ro : Option Addr) (rc : Nat), s = .bool (false && allR (ls.take k)) ∧ t = .slice ro k rc ∧ i = .int .i64 k ∧ k ≤ m ∧ Hid (Plz w.heap.size 28 wr ro k rc ((ls.take k).map plnR) ∧ Below w.heap.size w wr ∧ ∀ q ∈ ls.take k, greatR q 8 = false)) (fun _ _ i _ => m - (intOf i).toNat)
  case atStart => exact ⟨0, none, 0, by simp [allR], rfl, rfl, Nat.zero_le _, by simpa using Plz.nil _ _ _, HB_2.out, by simp⟩
  case round =>
   clear Q_2 HB_2; obtain ⟨k, ro, rc, rfl, rfl, rfl, hk, HS⟩ := hrel
   by_cases hkn : k < m
   ·have hki : (k : Int) < (m : Int) := by omega
    have hk0 : (0 : Int) ≤ (k : Int) := by omega
    obtain ⟨b, off, qo, qn, qc, hbo, hbl, hcl, hqp⟩ := HQQ.out.at hkn; subst hbo
    have hkl : k < ls.length := by rw [HQL.out]; exact hkn
    obtain ⟨q, hqq⟩ : ∃ q, q = ls.getD k [] := ⟨_, rfl⟩; rw [← hqq] at hqp; have hnx := allR_next hkl; rw [← hqq] at hnx
    have htk : ls.take (k + 1) = ls.take k ++ [q] := by rw [List.take_succ_eq_append_getElem hkl, hqq, getD_of _ hkl]
    have HC := hid hcl; have HQ := hid hqp; have HNX := hid (And.intro hnx htk); have c0 := hcl wr HS.out.2.1; obtain ⟨r, hr⟩ : ∃ r, greatR q 8 = r := ⟨_, rfl⟩; have HR := hid hr; clear hcl hqp hnx htk hqq hbl hr hkl; go_wp2_with fail; refine (great_any8 r 8 (HQ.out.below HS.out.2.1) HR.out).mono ?_; rintro x V1 ⟨rfl, hB⟩
    have HS1 : Hid (Plz w.heap.size 28 V1 ro k rc ((ls.take k).map plnR) ∧ Below w.heap.size w V1 ∧ ∀ q ∈ ls.take k, greatR q 8 = false) := ⟨HS.out.1.below hB, Below.steps HS.out.2.1 hB, HS.out.2.2⟩
    clear hB HS c0
    cases r with
    | true =>
     go_wp2_with fail; refine (known9_any _).mono ?_
     rintro e wz ⟨rfl, hB⟩; have HZ := hid (Below.steps HS1.out.2.1 hB); clear hB HS1; go_wp2_with fail
     go_ret
     exact ⟨rfl, HZ.out⟩
    | false =>
     obtain ⟨g1, g2⟩ := great_facts HR.out
     have hql : ∀ t ∈ q, t.1.2.length ≤ 20 := fun t ht => (g2 t ht).1
     have hqn : qn ≤ 8 := by have := HQ.out.len; omega
     have HQK := hid hql; obtain ⟨mk, hmk⟩ : ∃ mk, (false && allR (ls.take k)) = mk := ⟨_, rfl⟩; rw [hmk]; have HMK := hid hmk; have c0 := HC.out _ HS1.out.2.1; clear g1 g2 hql hmk
     cases mk with
     | true =>
      obtain ⟨mq, hmq⟩ : ∃ mq, mayR q = mq := ⟨_, rfl⟩; have HMQ := hid hmq; clear hmq; go_wp2_with fail
      refine (may_any8 mq (HQ.out.below HS1.out.2.1) (fun t ht => Nat.le_trans (HQK.out t ht) (by omega)) HMQ.out).mono ?_
      rintro x V2 ⟨rfl, hB⟩
      have HS_V2 : Hid (Plz w.heap.size 28 V2 ro k rc ((ls.take k).map plnR) ∧ Below w.heap.size w V2 ∧ ∀ q ∈ ls.take k, greatR q 8 = false) := ⟨HS1.out.1.below hB, Below.steps HS1.out.2.1 hB, HS1.out.2.2⟩
      clear hB HS1 c0; have c0 := HC.out _ HS_V2.out.2.1; go_wp2_with fail
      refine (plain9_any (HQ.out.below HS_V2.out.2.1) HQK.out (by omega) (by omega)).mono ?_
      rintro x V5 ⟨xo, xn, xc, rfl, hX, hB⟩
      have HS5 : Hid (Plz w.heap.size 28 V5 ro k rc ((ls.take k).map plnR) ∧ Below w.heap.size w V5 ∧ ∀ q ∈ ls.take k, greatR q 8 = false) := ⟨HS_V2.out.1.below hB, Below.steps HS_V2.out.2.1 hB, HS_V2.out.2.2⟩
      obtain ⟨v8, W8, hr8, hps⟩ := plz_push HS5.out.1 (hX.mono (by omega)) HS5.out.2.1.size (by omega) 31 28
      have HPU := hid hps; clear hps hX hB HS_V2 c0
      go_wp2_with (at_builtin; refine wpList_append_of rfl (.tmp 56) (.tmp 62) 28 28 rfl _ _ rfl rfl hr8 ?_)
      clear hr8; obtain ⟨ro8, rc8, rfl, hp1, hp2⟩ := HPU.out
      have HN : Hid (Plz w.heap.size 28 W8 ro8 (k + 1) rc8 ((ls.take (k + 1)).map plnR) ∧ Below w.heap.size w W8 ∧ ∀ q ∈ ls.take (k + 1), greatR q 8 = false) := by
       rw [HNX.out.2, List.map_append]
       refine ⟨hp1, HS5.out.2.1.grown hp2 HS5.out.2.1.size fun r e => (HS5.out.1.own r e).1, fun z hz => ?_⟩
       rcases List.mem_append.1 hz with hz | hz
       ·exact HS5.out.2.2 z hz
       ·rw [List.mem_singleton.1 hz]; exact HR.out
      clear hp1 hp2 HPU HS5
      try go_wp2
      go_roundw
      case rel => exact ⟨k + 1, ro8, rc8, by rw [HNX.out.1, ← Bool.and_assoc, HMK.out, HMQ.out, Bool.true_and], rfl, by go_num, by omega, HN.out⟩
      case measure => simp [intOf]; omega
     | false =>
      have HS_V1 := hid HS1.out; clear HS1; go_wp2_with fail
      refine (plain9_any (HQ.out.below HS_V1.out.2.1) HQK.out (by omega) (by omega)).mono ?_
      rintro x V5 ⟨xo, xn, xc, rfl, hX, hB⟩
      have HS5 : Hid (Plz w.heap.size 28 V5 ro k rc ((ls.take k).map plnR) ∧ Below w.heap.size w V5 ∧ ∀ q ∈ ls.take k, greatR q 8 = false) := ⟨HS_V1.out.1.below hB, Below.steps HS_V1.out.2.1 hB, HS_V1.out.2.2⟩
      obtain ⟨v8, W8, hr8, hps⟩ := plz_push HS5.out.1 (hX.mono (by omega)) HS5.out.2.1.size (by omega) 31 28
      have HPU := hid hps; clear hps hX hB HS_V1 c0
      go_wp2_with (at_builtin; refine wpList_append_of rfl (.tmp 56) (.tmp 62) 28 28 rfl _ _ rfl rfl hr8 ?_)
      clear hr8; obtain ⟨ro8, rc8, rfl, hp1, hp2⟩ := HPU.out
      have HN : Hid (Plz w.heap.size 28 W8 ro8 (k + 1) rc8 ((ls.take (k + 1)).map plnR) ∧ Below w.heap.size w W8 ∧ ∀ q ∈ ls.take (k + 1), greatR q 8 = false) := by
       rw [HNX.out.2, List.map_append]
       refine ⟨hp1, HS5.out.2.1.grown hp2 HS5.out.2.1.size fun r e => (HS5.out.1.own r e).1, fun z hz => ?_⟩
       rcases List.mem_append.1 hz with hz | hz
       ·exact HS5.out.2.2 z hz
       ·rw [List.mem_singleton.1 hz]; exact HR.out
      clear hp1 hp2 HPU HS5
      try go_wp2
      go_roundw
      case rel => exact ⟨k + 1, ro8, rc8, by rw [HNX.out.1, ← Bool.and_assoc, HMK.out, Bool.false_and], rfl, by go_num, by omega, HN.out⟩
      case measure => simp [intOf]; omega
   ·obtain rfl : k = m := by omega
    have hki : ¬ (k : Int) < (k : Int) := by omega
    have hfull : ls.take k = ls := List.take_of_length_le (by rw [HQL.out]; exact Nat.le_refl _)
    rw [hfull] at HS ⊢; obtain ⟨mm, hmm⟩ : ∃ mm, (false && allR ls) = mm := ⟨_, rfl⟩
    rw [hmm]; have HMM := hid hmm
    have hgr := HS.out.2.2
    have hlk : ∀ q ∈ ls, ∀ t ∈ q, t.1.2.length ≤ 20 := fun q hq t ht => ((great_facts (hgr q hq)).2 t ht).1
    have hlm : ∀ q ∈ ls, q.length ≤ 8 := fun q hq => by have := (great_facts (hgr q hq)).1; omega
    have HLK := hid (And.intro hlk hlm); have HAL := hid (And.intro HS.out.1 HS.out.2.1); clear hfull hmm hgr hlk hlm HS
    cases mm with
    | false =>
     have P_50 : Hid (Pr wr ao n cap ps) := HPP.out wr HAL.out.2
     have HB_50 := hid HAL.out.2; go_wp2_with fail
     refine (vbuild_no v (by have h := HMM.out; rw [hvr]; rfl) (HQQ.out.below HB_50.out) (fun q hq t ht => Nat.le_trans (HLK.out.1 q hq t ht) (by omega)) (by omega)).mono ?_
     rintro e w51 ⟨qo9, qn9, qc9, rfl, hX, hB⟩; obtain rfl : qn9 = 0 := hX.len.symm; clear hX; have P_51 := hid (P_50.out.below hB); have HB_51 := hid (Below.steps HB_50.out hB); clear hB  HB_50 P_50
     have hz : (((0 : Nat) : Int) != 0) = false := rfl
     go_wp2_with fail
     refine (vCoefs_bad v hvr P_51.out hl (by omega)).mono ?_
     rintro e w52 ⟨rfl, hB⟩; have P_52 := hid (P_51.out.below hB); have HB_52 := hid (Below.steps HB_51.out hB); clear hB  HB_51 P_51
     go_wp2
     go_loopw [131] (fun i wr => i = .int .i64 0 ∧ Hid (Below w.heap.size w wr)) (fun _ _ => 0)
     case atStart => exact ⟨rfl, HB_52.out⟩
     case round =>
      obtain ⟨rfl, HB⟩ := hrel; go_wp2_with fail; refine (known9_any _).mono ?_; rintro e wz ⟨rfl, hB⟩; have HZ := hid (Below.steps HB.out hB); clear hB HB; go_wp2_with fail
      go_ret
      exact ⟨rfl, HZ.out⟩
    | true =>
     exact Bool.noConfusion HMM.out
 ·have hv1 : decide (1 ≤ v) = false := decide_eq_false h1
  have hd : decide ((8 : Int) < (m : Int)) = false := decide_eq_false (by omega)
  have hl1 : ∀ t ∈ ps, t.1.2.length ≤ 1000 := fun t ht => Nat.le_trans (hl t ht) (by omega)
  have hd5 : decide ((50 : Int) < (d : Int)) = false := decide_eq_false (by omega)
  have hpl := hp.len
  have HPS : Hid (ps.length ≤ 20) := by rw [Hid, hpl]; exact hn
  have HFP : Hid (fall (plnR ps)) := pln_fall hp.wfs
  have HQL := hid hq.len; have HQQ := hid hq; have hqb := hq.big; clear hpl; have P_0 := hid hp; have Q_0 := hid hq; have HB_0 := hid (Below.refl w.heap.size w); have HP00 := hid hp; clear hp hq
  go_enter Tryz.func3, Tryz.ntmps3
  go_wp2_with fail; refine (great_any8 false 20 P_0.out g0).mono ?_
  rintro e w1 ⟨rfl, hB⟩; have P_1 := hid (P_0.out.below hB); have Q_1 := hid (Q_0.out.below hB); have HB_1 := hid (Below.steps HB_0.out hB); clear hB  HB_0 P_0 Q_0; go_wp2_with fail; refine (vDegree_any v d P_1.out hl1 hdg).mono ?_; rintro e w2 ⟨rfl, hB⟩; have P_2 := hid (P_1.out.below hB); have Q_2 := hid (Q_1.out.below hB); have HB_2 := hid (Below.steps HB_1.out hB); clear hB  HB_1 P_1 Q_1
  have HPP : Hid (∀ V, Below w.heap.size w V → Pr V ao n cap ps) := fun V hV => HP00.out.below hV
  clear P_2
  go_wp2
  go_loopw [7, 8, 39] (fun s t i wr => ∃ (k : Nat) (ro : Option Addr) (rc : Nat), s = .bool (false && allR (ls.take k)) ∧ t = .slice ro k rc ∧ i = .int .i64 k ∧ k ≤ m ∧ Hid (Plz w.heap.size 28 wr ro k rc ((ls.take k).map plnR) ∧ Below w.heap.size w wr ∧ ∀ q ∈ ls.take k, greatR q 8 = false)) (fun _ _ i _ => m - (intOf i).toNat)
  case atStart => exact ⟨0, none, 0, by simp [allR], rfl, rfl, Nat.zero_le _, by simpa using Plz.nil _ _ _, HB_2.out, by simp⟩
  case round =>
   clear Q_2 HB_2; obtain ⟨k, ro, rc, rfl, rfl, rfl, hk, HS⟩ := hrel
   by_cases hkn : k < m
   ·have hki : (k : Int) < (m : Int) := by omega
    have hk0 : (0 : Int) ≤ (k : Int) := by omega
    obtain ⟨b, off, qo, qn, qc, hbo, hbl, hcl, hqp⟩ := HQQ.out.at hkn; subst hbo
    have hkl : k < ls.length := by rw [HQL.out]; exact hkn
    obtain ⟨q, hqq⟩ : ∃ q, q = ls.getD k [] := ⟨_, rfl⟩; rw [← hqq] at hqp; have hnx := allR_next hkl; rw [← hqq] at hnx
    have htk : ls.take (k + 1) = ls.take k ++ [q] := by rw [List.take_succ_eq_append_getElem hkl, hqq, getD_of _ hkl]
    have HC := hid hcl; have HQ := hid hqp; have HNX := hid (And.intro hnx htk); have c0 := hcl wr HS.out.2.1; obtain ⟨r, hr⟩ : ∃ r, greatR q 8 = r := ⟨_, rfl⟩; have HR := hid hr; clear hcl hqp hnx htk hqq hbl hr hkl; go_wp2_with fail; refine (great_any8 r 8 (HQ.out.below HS.out.2.1) HR.out).mono ?_; rintro x V1 ⟨rfl, hB⟩
    have HS1 : Hid (Plz w.heap.size 28 V1 ro k rc ((ls.take k).map plnR) ∧ Below w.heap.size w V1 ∧ ∀ q ∈ ls.take k, greatR q 8 = false) := ⟨HS.out.1.below hB, Below.steps HS.out.2.1 hB, HS.out.2.2⟩
    clear hB HS c0
    cases r with
    | true =>
     go_wp2_with fail; refine (known9_any _).mono ?_
     rintro e wz ⟨rfl, hB⟩; have HZ := hid (Below.steps HS1.out.2.1 hB); clear hB HS1; go_wp2_with fail
     go_ret
     exact ⟨rfl, HZ.out⟩
    | false =>
     obtain ⟨g1, g2⟩ := great_facts HR.out
     have hql : ∀ t ∈ q, t.1.2.length ≤ 20 := fun t ht => (g2 t ht).1
     have hqn : qn ≤ 8 := by have := HQ.out.len; omega
     have HQK := hid hql; obtain ⟨mk, hmk⟩ : ∃ mk, (false && allR (ls.take k)) = mk := ⟨_, rfl⟩; rw [hmk]; have HMK := hid hmk; have c0 := HC.out _ HS1.out.2.1; clear g1 g2 hql hmk
     cases mk with
     | true =>
      obtain ⟨mq, hmq⟩ : ∃ mq, mayR q = mq := ⟨_, rfl⟩; have HMQ := hid hmq; clear hmq; go_wp2_with fail
      refine (may_any8 mq (HQ.out.below HS1.out.2.1) (fun t ht => Nat.le_trans (HQK.out t ht) (by omega)) HMQ.out).mono ?_
      rintro x V2 ⟨rfl, hB⟩
      have HS_V2 : Hid (Plz w.heap.size 28 V2 ro k rc ((ls.take k).map plnR) ∧ Below w.heap.size w V2 ∧ ∀ q ∈ ls.take k, greatR q 8 = false) := ⟨HS1.out.1.below hB, Below.steps HS1.out.2.1 hB, HS1.out.2.2⟩
      clear hB HS1 c0; have c0 := HC.out _ HS_V2.out.2.1; go_wp2_with fail
      refine (plain9_any (HQ.out.below HS_V2.out.2.1) HQK.out (by omega) (by omega)).mono ?_
      rintro x V5 ⟨xo, xn, xc, rfl, hX, hB⟩
      have HS5 : Hid (Plz w.heap.size 28 V5 ro k rc ((ls.take k).map plnR) ∧ Below w.heap.size w V5 ∧ ∀ q ∈ ls.take k, greatR q 8 = false) := ⟨HS_V2.out.1.below hB, Below.steps HS_V2.out.2.1 hB, HS_V2.out.2.2⟩
      obtain ⟨v8, W8, hr8, hps⟩ := plz_push HS5.out.1 (hX.mono (by omega)) HS5.out.2.1.size (by omega) 31 28
      have HPU := hid hps; clear hps hX hB HS_V2 c0
      go_wp2_with (at_builtin; refine wpList_append_of rfl (.tmp 56) (.tmp 62) 28 28 rfl _ _ rfl rfl hr8 ?_)
      clear hr8; obtain ⟨ro8, rc8, rfl, hp1, hp2⟩ := HPU.out
      have HN : Hid (Plz w.heap.size 28 W8 ro8 (k + 1) rc8 ((ls.take (k + 1)).map plnR) ∧ Below w.heap.size w W8 ∧ ∀ q ∈ ls.take (k + 1), greatR q 8 = false) := by
       rw [HNX.out.2, List.map_append]
       refine ⟨hp1, HS5.out.2.1.grown hp2 HS5.out.2.1.size fun r e => (HS5.out.1.own r e).1, fun z hz => ?_⟩
       rcases List.mem_append.1 hz with hz | hz
       ·exact HS5.out.2.2 z hz
       ·rw [List.mem_singleton.1 hz]; exact HR.out
      clear hp1 hp2 HPU HS5
      try go_wp2
      go_roundw
      case rel => exact ⟨k + 1, ro8, rc8, by rw [HNX.out.1, ← Bool.and_assoc, HMK.out, HMQ.out, Bool.true_and], rfl, by go_num, by omega, HN.out⟩
      case measure => simp [intOf]; omega
     | false =>
      have HS_V1 := hid HS1.out; clear HS1; go_wp2_with fail
      refine (plain9_any (HQ.out.below HS_V1.out.2.1) HQK.out (by omega) (by omega)).mono ?_
      rintro x V5 ⟨xo, xn, xc, rfl, hX, hB⟩
      have HS5 : Hid (Plz w.heap.size 28 V5 ro k rc ((ls.take k).map plnR) ∧ Below w.heap.size w V5 ∧ ∀ q ∈ ls.take k, greatR q 8 = false) := ⟨HS_V1.out.1.below hB, Below.steps HS_V1.out.2.1 hB, HS_V1.out.2.2⟩
      obtain ⟨v8, W8, hr8, hps⟩ := plz_push HS5.out.1 (hX.mono (by omega)) HS5.out.2.1.size (by omega) 31 28
      have HPU := hid hps; clear hps hX hB HS_V1 c0
      go_wp2_with (at_builtin; refine wpList_append_of rfl (.tmp 56) (.tmp 62) 28 28 rfl _ _ rfl rfl hr8 ?_)
      clear hr8; obtain ⟨ro8, rc8, rfl, hp1, hp2⟩ := HPU.out
      have HN : Hid (Plz w.heap.size 28 W8 ro8 (k + 1) rc8 ((ls.take (k + 1)).map plnR) ∧ Below w.heap.size w W8 ∧ ∀ q ∈ ls.take (k + 1), greatR q 8 = false) := by
       rw [HNX.out.2, List.map_append]
       refine ⟨hp1, HS5.out.2.1.grown hp2 HS5.out.2.1.size fun r e => (HS5.out.1.own r e).1, fun z hz => ?_⟩
       rcases List.mem_append.1 hz with hz | hz
       ·exact HS5.out.2.2 z hz
       ·rw [List.mem_singleton.1 hz]; exact HR.out
      clear hp1 hp2 HPU HS5
      try go_wp2
      go_roundw
      case rel => exact ⟨k + 1, ro8, rc8, by rw [HNX.out.1, ← Bool.and_assoc, HMK.out, Bool.false_and], rfl, by go_num, by omega, HN.out⟩
      case measure => simp [intOf]; omega
   ·obtain rfl : k = m := by omega
    have hki : ¬ (k : Int) < (k : Int) := by omega
    have hfull : ls.take k = ls := List.take_of_length_le (by rw [HQL.out]; exact Nat.le_refl _)
    rw [hfull] at HS ⊢; obtain ⟨mm, hmm⟩ : ∃ mm, (false && allR ls) = mm := ⟨_, rfl⟩
    rw [hmm]; have HMM := hid hmm
    have hgr := HS.out.2.2
    have hlk : ∀ q ∈ ls, ∀ t ∈ q, t.1.2.length ≤ 20 := fun q hq t ht => ((great_facts (hgr q hq)).2 t ht).1
    have hlm : ∀ q ∈ ls, q.length ≤ 8 := fun q hq => by have := (great_facts (hgr q hq)).1; omega
    have HLK := hid (And.intro hlk hlm); have HAL := hid (And.intro HS.out.1 HS.out.2.1); clear hfull hmm hgr hlk hlm HS
    cases mm with
    | false =>
     have P_50 : Hid (Pr wr ao n cap ps) := HPP.out wr HAL.out.2
     have HB_50 := hid HAL.out.2; go_wp2_with fail
     refine (vbuild_no v (by have h := HMM.out; rw [hvr]; rfl) (HQQ.out.below HB_50.out) (fun q hq t ht => Nat.le_trans (HLK.out.1 q hq t ht) (by omega)) (by omega)).mono ?_
     rintro e w51 ⟨qo9, qn9, qc9, rfl, hX, hB⟩; obtain rfl : qn9 = 0 := hX.len.symm; clear hX; have P_51 := hid (P_50.out.below hB); have HB_51 := hid (Below.steps HB_50.out hB); clear hB  HB_50 P_50
     have hz : (((0 : Nat) : Int) != 0) = false := rfl
     go_wp2_with fail
     refine (vCoefs_bad v hvr P_51.out hl (by omega)).mono ?_
     rintro e w52 ⟨rfl, hB⟩; have P_52 := hid (P_51.out.below hB); have HB_52 := hid (Below.steps HB_51.out hB); clear hB  HB_51 P_51
     go_wp2
     go_loopw [131] (fun i wr => i = .int .i64 0 ∧ Hid (Below w.heap.size w wr)) (fun _ _ => 0)
     case atStart => exact ⟨rfl, HB_52.out⟩
     case round =>
      obtain ⟨rfl, HB⟩ := hrel; go_wp2_with fail; refine (known9_any _).mono ?_; rintro e wz ⟨rfl, hB⟩; have HZ := hid (Below.steps HB.out hB); clear hB HB; go_wp2_with fail
      go_ret
      exact ⟨rfl, HZ.out⟩
    | true =>
     exact Bool.noConfusion HMM.out
theorem viewBuilds_any {ao bo : Option Addr} {n cap m cb : Nat} {ps : List Raw} {w : World} (v : Int) (hv64 : in64 v) (hp : Pr w ao n cap ps) (hq : m ≤ 4398046511104 → ∃ ls : List (List Raw), Plr w bo m cb ls) :
  Calls Tryz.prog 3 #[.slice ao n cap, .slice bo m cb, .int .i64 v] w (RetB (.bool true) w) := by
 by_cases hg : greatR ps 20 = true
 ·exact viewBld_great v hp hg
 have hg : greatR ps 20 = false := by simpa using hg
 obtain ⟨g1, g2⟩ := great_facts hg; have hpn := hp.len
 have hn : n ≤ 20 := by omega
 have hl : ∀ t ∈ ps, t.1.2.length ≤ 20 := fun t ht => (g2 t ht).1
 by_cases hm : 8 < m
 ·exact viewBld_many v hp hg hm
 obtain ⟨ls, hq⟩ := hq (by omega)
 obtain ⟨d, hd⟩ : ∃ d : Nat, degP (plnR ps) v = d := ⟨(degP (plnR ps) v).toNat, by have := degP_zero (plnR ps) v; omega⟩
 by_cases h50 : 50 < d
 ·exact viewBld_long v hv64 hp hq hg hl hn (by omega) d hd h50
 by_cases hv : 1 ≤ v ∧ v ≤ 200
 ·exact viewBld_in v hv64 hp hq hg hl hn (by omega) d hd h50 hv
 ·exact viewBld_out v hv64 hp hq hg hl hn (by omega) d hd h50 (by rw [Bool.and_eq_false_iff, decide_eq_false_iff_not, decide_eq_false_iff_not]; omega)
end Go.Proofs.YtdgpnfjohijpeaaGreat
