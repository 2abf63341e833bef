/-
  The contract of rank.Sort.
-/
import Derived.Test.YtmmgipcacceakaaRkSt
import Derived.Test.YtmmgipcacceakaaRkPc
import Derived.Test.YtmmgipcacceakaaRkB
set_option maxHeartbeats 40000000
set_option maxRecDepth 100000
namespace Go.Proofs.Ytmmgipcacceakaa
open Lib (hid)
open Go.RowKit
def keepR (ls : List (List Raw)) : List (List Term) := (ls.map plnR).filter fun p => !p.isEmpty
theorem keepR_next {ls : List (List Raw)} {k : Nat} (h : k < ls.length) : keepR (ls.take (k + 1)) = keepR (ls.take k) ++ if (plnR (ls.getD k [])).length = 0 then [] else [plnR (ls.getD k [])] := by
 unfold keepR
 rw [List.take_succ_eq_append_getElem h, List.map_append, List.filter_append, getD_of [] h]
 congr 1
 cases hp : plnR ls[k] with
 | nil => simp [hp]
 | cons t r => simp [hp]
theorem srt_cells {l : List RCell} (h : ∀ x ∈ l, x.rk = rkP x.p) : (isort ltC l).map RCell.p = srtP (l.map RCell.p) := by
 have e : l = l.map fun x => { x with c := (rkP x.p).1, d := (rkP x.p).2 } := by
  conv => lhs; rw [← List.map_id l]
  refine List.map_congr_left fun x hx => ?_
  have h1 := h x hx; obtain ⟨c, d, ao, n, cap, p⟩ := x
  unfold RCell.rk at h1
  simp only at h1
  show RCell.mk c d ao n cap p = RCell.mk (rkP p).1 (rkP p).2 ao n cap p
  rw [← h1]
 have e2 := isort_map (lt := fun x y : RCell => ltP x.p y.p) (lt2 := ltC) (f := fun x => { x with c := (rkP x.p).1, d := (rkP x.p).2 }) (fun _ _ => rfl) l
 rw [← e] at e2; rw [← e2, List.map_map]
 exact isort_map (lt := fun x y : RCell => ltP x.p y.p) (lt2 := ltP) (f := RCell.p) (fun _ _ => rfl) l
def NewPcl [Ol] (K : Nat) (w : World) (ls : List (List Term)) (e : Ending) (w' : World) : Prop := ∃ ao n cap B, e = .returned (.slice ao n cap) ∧ ls.length = n ∧ Pcl B K w' ao n cap ls ∧ Below w.heap.size w w'
theorem rsort_any [Ol] {ao : Option Addr} {n cap : Nat} {ls : List (List Raw)} {w : World} (hlo : Ol.lo ≤ w.heap.size) (h : Plr w ao n cap ls) (hl : ∀ ps ∈ ls, ∀ t ∈ ps, t.1.2.length ≤ 30) (ht : ∀ ps ∈ ls, ps.length ≤ 1000) (hn : n ≤ 8) :
  Calls Try.prog 18 #[.slice ao n cap] w (NewPcl 31 w (srtP (keepR ls))) := by
 have HP := hid h; have HPL := hid h.len; have HL := hid hl; have HT := hid ht
 have HS0 : Hid (Rr w.heap.size 31 w none 0 0 [] ∧ ([] : List RCell).map RCell.p = keepR (ls.take 0) ∧ (∀ x ∈ ([] : List RCell), x.rk = rkP x.p) ∧ Below w.heap.size w w) := ⟨Rr.none _ _ _, by rw [List.take_zero]; rfl, (fun _ h => by cases h), Below.refl _ _⟩
 clear h hl ht
 go_enter Try.func18, Try.ntmps18
 go_wp2
 go_loopw [3, 13] (fun rv i wr => ∃ (k m : Nat) (ro : Option Addr) (rc : Nat) (l : List RCell), rv = .slice ro m rc ∧ i = .int .i64 k ∧ k ≤ n ∧ m ≤ k ∧ Hid (Rr w.heap.size 31 wr ro m rc l ∧ l.map RCell.p = keepR (ls.take k) ∧ (∀ x ∈ l, x.rk = rkP x.p) ∧ Below w.heap.size w wr)) (fun _ i _ => n - (intOf i).toNat)
 case atStart => exact ⟨0, 0, none, 0, [], rfl, rfl, Nat.zero_le _, Nat.le_refl _, HS0.out⟩
 case round =>
  clear HS0; obtain ⟨k, m, ro, rc, l, rfl, rfl, hk, hmk, HS⟩ := hrel
  by_cases hkn : k < n
  ·obtain ⟨b, off, po, pn, pc, hao, hb, hc, hp⟩ := (HP.out.below HS.out.2.2.2).at hkn
   subst hao; have c0 := hc wr (Below.refl _ _)
   have hki : (k : Int) < (n : Int) := by omega
   have hkl : k < ls.length := by rw [HPL.out]; exact hkn
   have hnx := keepR_next hkl; obtain ⟨ps, hps⟩ : ∃ ps, ls.getD k [] = ps := ⟨_, rfl⟩
   have hpl : ∀ t ∈ ps, t.1.2.length ≤ 30 := HL.out ps (by rw [← hps]; exact getD_in [] hkl)
   have hpt : ps.length ≤ 1000 := HT.out ps (by rw [← hps]; exact getD_in [] hkl)
   rw [hps] at hp hnx; obtain ⟨p, hpp⟩ : ∃ p, plnR ps = p := ⟨_, rfl⟩
   have HNX := hid hnx
   have hpn : pn ≤ 1000 := by have := hp.len; omega
   have hfl := pln_fall hp.wfs; rw [hpp] at hfl; have HFL := hid hfl; have HPP := hid hpp; have HPS := hid (And.intro hp hpl); clear hc hp hps hnx hpl hpt hpp hfl hb
   cases hm : mayR ps with
   | false =>
    have HM := hid hm; have hp0 := pln_no hm; clear hm; go_wp2_with fail
    refine (padd_bad1 HPS.out.1 (fun t ht => Nat.le_trans (HPS.out.2 t ht) (by omega)) HM.out).mono ?_
    rintro e w2 ⟨oo, on, oc, rfl, hX, hB⟩
    have HN : Hid (Rr w.heap.size 31 w2 ro m rc l ∧ l.map RCell.p = keepR (ls.take (k + 1)) ∧ (∀ x ∈ l, x.rk = rkP x.p) ∧ Below w.heap.size w w2) := by
     refine ⟨HS.out.1.below hB, ?_, HS.out.2.2.1, Below.steps HS.out.2.2.2 hB⟩
     rw [HNX.out, hp0, HS.out.2.1]
     simp
    clear hX hB hp0 HS c0; go_wp2_with fail
    go_roundw
    case rel => exact ⟨k + 1, m, ro, rc, l, rfl, by go_num, by omega, by omega, HN.out⟩
    case measure => simp [intOf]; omega
   | true =>
    have hq := (HPS.out.1.pln HPS.out.2 hm).1; rw [HPP.out] at hq; have HQ := hid hq; clear hm hq; go_wp2_with fail
    refine (padd_any HQ.out (Pc.zero _ _) HFL.out trivial (by omega) (by omega)).mono ?_
    rintro e w2 ⟨oo, on, oc, rfl, hX, hB⟩
    rw [show addT p [] = p from rfl] at hX
    have HS2 : Hid (Rr w.heap.size 31 w2 ro m rc l ∧ l.map RCell.p = keepR (ls.take k) ∧ (∀ x ∈ l, x.rk = rkP x.p) ∧ Below w.heap.size w w2) := ⟨HS.out.1.below hB, HS.out.2.1, HS.out.2.2.1, Below.steps HS.out.2.2.2 hB⟩
    have hxl := hX.len; have HX := hid hX; clear hX hB HS c0 HQ
    by_cases h0 : on = 0
    ·subst h0
     have HN : Hid (Rr w.heap.size 31 w2 ro m rc l ∧ l.map RCell.p = keepR (ls.take (k + 1)) ∧ (∀ x ∈ l, x.rk = rkP x.p) ∧ Below w.heap.size w w2) := by
      refine ⟨HS2.out.1, ?_, HS2.out.2.2⟩
      rw [HNX.out, HPP.out, if_pos hxl, HS2.out.2.1]
      simp
     have h00 : decide ((0 : Int) < ((0 : Nat) : Int)) = false := rfl
     clear HS2 hxl; go_wp2_with fail
     go_roundw
     case rel => exact ⟨k + 1, m, ro, rc, l, rfl, by go_num, by omega, by omega, HN.out⟩
     case measure => simp [intOf]; omega
    ·have hon : (0 : Int) < (on : Int) := by omega
     obtain ⟨c, hc⟩ : ∃ c, clsP p = c := ⟨_, rfl⟩; obtain ⟨d, hd⟩ : ∃ d, degP p c = d := ⟨_, rfl⟩; have HCD := hid (And.intro hc hd)
     have HXR : Hid (Pr w2 oo on oc (p.map rawC) ∧ (∀ t ∈ p.map rawC, t.1.2.length ≤ 1000) ∧ clsP (plnR (p.map rawC)) = c ∧ degP (plnR (p.map rawC)) c = d) := by
      rw [Hid, pln_raw HFL.out]
      exact ⟨HX.out.raw, fun t ht => Nat.le_trans (HX.out.lens t ht) (by omega), hc, hd⟩
     have HKN : Hid (keepR (ls.take (k + 1)) = keepR (ls.take k) ++ [p]) := by
      rw [Hid, HNX.out, HPP.out, if_neg (by omega)]
     clear hc hd hxl HNX; go_wp2_with fail; refine (rof_any c d HXR.out.1 HXR.out.2.1 HXR.out.2.2.1 HXR.out.2.2.2).mono ?_; rintro e w3 ⟨rfl, hB⟩
     have HS3 : Hid (Rr w.heap.size 31 w3 ro m rc l ∧ l.map RCell.p = keepR (ls.take k) ∧ (∀ x ∈ l, x.rk = rkP x.p) ∧ Below w.heap.size w w3) := ⟨HS2.out.1.below hB, HS2.out.2.1, HS2.out.2.2.1, Below.steps HS2.out.2.2.2 hB⟩
     obtain ⟨v8, W8, hr8, hps⟩ := rr_push hlo HS3.out.1 ⟨c, d, oo, on, oc, p⟩ (HX.out.below hB) HS3.out.2.2.2.size (by omega) 75 70
     have HPU := hid hps; clear hps hB HS2 HXR HX
     go_wp2_with (at_builtin; refine wpList_append_of rfl (.tmp 29) (.tmp 34) 70 70 rfl _ _ rfl rfl hr8 ?_)
     clear hr8; obtain ⟨ro8, rc8, rfl, hp1, hp2⟩ := HPU.out
     have HN : Hid (Rr w.heap.size 31 W8 ro8 (m + 1) rc8 (l ++ [⟨c, d, oo, on, oc, p⟩]) ∧ (l ++ [(⟨c, d, oo, on, oc, p⟩ : RCell)]).map RCell.p = keepR (ls.take (k + 1)) ∧ (∀ x ∈ l ++ [(⟨c, d, oo, on, oc, p⟩ : RCell)], x.rk = rkP x.p) ∧ Below w.heap.size w W8) := by
      refine ⟨hp1, by rw [List.map_append, HS3.out.2.1, HKN.out]; rfl, fun x hx => ?_, HS3.out.2.2.2.grown hp2 HS3.out.2.2.2.size fun r e => (HS3.out.1.own r e).1⟩
      rcases List.mem_append.1 hx with hx | hx
      ·exact HS3.out.2.2.1 x hx
      ·rw [List.mem_singleton] at hx
       subst hx
       show (c, d) = rkP p
       rw [← HCD.out.2, ← HCD.out.1]
       rfl
     clear hp1 hp2 HPU HS3 HKN
     try go_wp2
     go_roundw
     case rel => exact ⟨k + 1, m + 1, ro8, rc8, _, rfl, by go_num, by omega, by omega, HN.out⟩
     case measure => simp [intOf]; omega
  ·obtain rfl : k = n := by omega
   have HK : Hid (l.map RCell.p = keepR ls) := by
    have h := HS.out.2.1
    rw [List.take_of_length_le (by rw [HPL.out]; exact Nat.le_refl _)] at h
    exact h
   go_wp2_with fail
   refine (rstable_any hlo HS.out.1 (by omega)).mono ?_
   rintro e w4 ⟨rfl, hS1, hS2⟩
   have HQ : Hid (Rr w.heap.size 31 w4 ro m rc (isort ltC l) ∧ (isort ltC l).map RCell.p = srtP (keepR ls) ∧ Below w.heap.size w w4) := by
    refine ⟨hS1, by rw [srt_cells HS.out.2.2.1, HK.out], HS.out.2.2.2.grown hS2 HS.out.2.2.2.size fun r e => (HS.out.1.own r e).1⟩
   obtain ⟨q, hq⟩ : ∃ q, isort ltC l = q := ⟨_, rfl⟩; rw [hq] at HQ
   have hql : q.length = m := by rw [← hq, isort_len]; exact HS.out.1.len
   have HQL := hid hql
   have HS4 : Hid (Pcl w4.heap.size 31 w4 none 0 0 ((q.map RCell.p).take 0) ∧ Below w4.heap.size w4 w4) := ⟨by rw [List.take_zero]; exact Pcl.nil _ _ _, Below.refl _ _⟩
   clear hS1 hS2 HS HK hq hql; go_wp2_with fail
   go_loopw [8, 41] (fun sv i wr => ∃ (k : Nat) (so : Option Addr) (sc : Nat), sv = .slice so k sc ∧ i = .int .i64 k ∧ k ≤ m ∧ Hid (Pcl w4.heap.size 31 wr so k sc ((q.map RCell.p).take k) ∧ Below w4.heap.size w4 wr)) (fun _ i _ => m - (intOf i).toNat)
   case atStart => exact ⟨0, none, 0, rfl, rfl, Nat.zero_le _, HS4.out⟩
   case round =>
    clear HS4; obtain ⟨j, so, sc, rfl, rfl, hj, HS⟩ := hrel
    by_cases hjm : j < m
    ·obtain ⟨g, hro, hg, hc⟩ := HQ.out.1.at hjm
     subst hro
     have hjl : j < q.length := by rw [HQL.out]; exact hjm
     obtain ⟨x, hx⟩ : ∃ x, q.getD j default = x := ⟨_, rfl⟩
     have hxq : x ∈ q := by rw [← hx]; exact getD_in default hjl
     have hxp := HQ.out.1.mem x hxq
     have htk : (q.map RCell.p).take (j + 1) = (q.map RCell.p).take j ++ [x.p] := by
      rw [List.take_succ_eq_append_getElem (by rw [List.length_map]; exact hjl), List.getElem_map, ← hx, getD_of default hjl]
     rw [hx] at hc; obtain ⟨c, d, xo, xn, xc, p⟩ := x
     obtain ⟨c0, c1, c2⟩ := hc _ HS.out.2
     simp only at c0 c1 c2 hxp htk
     have HXP := hid hxp; have HTK := hid htk
     have hji : (j : Int) < (m : Int) := by omega
     clear hc hx hxq hxp htk hg
     go_upto_region 14 with (fail)
     refine wp_world (fun W hW => ?_)
     obtain ⟨a1, hB⟩ := box1 wr [.int .i64 c, .int .i64 d, .slice xo xn xc] 75; rw [← hW] at a1 hB; clear hW c0 c1 c2
     have HS5 : Hid (Pcl w4.heap.size 31 W so j sc ((q.map RCell.p).take j) ∧ Below w4.heap.size w4 W) := ⟨HS.out.1.below hB, Below.steps HS.out.2 hB⟩
     obtain ⟨_, _, e2⟩ := a1.c3
     obtain ⟨v8, W8, hr8, hps⟩ := pcl_push HS5.out.1 (HXP.out.below HS5.out.2) HS5.out.2.size (by omega) 23 24
     have HPU := hid hps; clear hps hB HS a1
     go_wp2_with (at_builtin; refine wpList_append_of rfl (.tmp 45) (.tmp 48) 24 24 rfl _ _ rfl rfl hr8 ?_)
     clear hr8 e2; obtain ⟨ro8, rc8, rfl, hp1, hp2⟩ := HPU.out
     have HN : Hid (Pcl w4.heap.size 31 W8 ro8 (j + 1) rc8 ((q.map RCell.p).take (j + 1)) ∧ Below w4.heap.size w4 W8) := by rw [HTK.out]; exact ⟨hp1, HS5.out.2.grown hp2 HS5.out.2.size fun r e => (HS5.out.1.own r e).1⟩
     clear hp1 hp2 HPU HS5 HTK HXP
     try go_wp2
     go_roundw
     case rel => exact ⟨j + 1, ro8, rc8, rfl, by go_num, by omega, HN.out⟩
     case measure => simp [intOf]; omega
    ·obtain rfl : j = m := by omega
     have HR : Hid (NewPcl 31 w (srtP (keepR ls)) (.returned (.slice so j sc)) wr) := by
      have h := HS.out.1
      rw [List.take_of_length_le (by rw [List.length_map, HQL.out]; exact Nat.le_refl _), HQ.out.2.1] at h
      exact ⟨_, _, _, _, rfl, by rw [← HQ.out.2.1, List.length_map]; exact HQL.out, h, Below.steps HQ.out.2.2 HS.out.2⟩
     clear HS
     go_wp2
     go_ret
     exact HR.out
end Go.Proofs.Ytmmgipcacceakaa
