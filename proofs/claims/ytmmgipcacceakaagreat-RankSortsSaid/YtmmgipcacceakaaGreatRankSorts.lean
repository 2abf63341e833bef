/-
  The law RankSorts.
-/
import Derived.Test.YtmmgipcacceakaaGreatGRk4
set_option maxHeartbeats 40000000
set_option maxRecDepth 100000
namespace Go.Proofs.YtmmgipcacceakaaGreat
open Lib (hid)
open Go.RowKit
theorem rankSorts_great0 [Ol] {ao bo : Option Addr} {n ca m cb : Nat} {w : World} {f : Nat → List Raw} (hx : Plx w ao n f) (hg : Grt n f) :
  Calls Tryz.prog 3 #[.slice ao n ca, .slice bo m cb] w (RetB (.bool true) w) := by
 have HG := hid (And.intro hx hg); clear hx hg; have HB_0 := hid (Below.refl w.heap.size w)
 go_enter Tryz.func3, Tryz.ntmps3
 go_wp2_with fail; refine (great15_any true (HG.out.1.below HB_0.out) (iff_of_true rfl HG.out.2)).mono ?_
 rintro e w1 ⟨rfl, hB⟩; have HB_1 := hid (Below.steps HB_0.out hB); clear hB HB_0; clear HG; go_wp2_with fail; refine (known15_any _).mono ?_; rintro e w9 ⟨rfl, hB⟩; have HB_9 := hid (Below.steps HB_1.out hB); clear hB; go_wp2_with fail
 go_ret
 exact ⟨rfl, HB_9.out⟩
theorem rankSorts_great1 [Ol] {ao bo : Option Addr} {n ca m cb : Nat} {w : World} {ls : List (List Raw)} (p0 : Plr w ao n ca ls) (s0 : Small15 ls) {f : Nat → List Raw} (hx : Plx w bo m f) (hg : Grt m f) :
  Calls Tryz.prog 3 #[.slice ao n ca, .slice bo m cb] w (RetB (.bool true) w) := by
 have HG := hid (And.intro hx hg); clear hx hg; have P0 := hid (And.intro p0 s0); clear p0 s0; have HB_0 := hid (Below.refl w.heap.size w)
 go_enter Tryz.func3, Tryz.ntmps3
 go_wp2_with fail; refine (small_great (P0.out.1.below HB_0.out) P0.out.2).mono ?_
 rintro e w1 ⟨rfl, hB⟩; have HB_1 := hid (Below.steps HB_0.out hB); clear hB HB_0; go_wp2_with fail; refine (great15_any true (HG.out.1.below HB_1.out) (iff_of_true rfl HG.out.2)).mono ?_; rintro e w2 ⟨rfl, hB⟩; have HB_2 := hid (Below.steps HB_1.out hB); clear hB HB_1; clear HG; go_wp2_with fail; refine (known15_any _).mono ?_; rintro e w9 ⟨rfl, hB⟩; have HB_9 := hid (Below.steps HB_2.out hB); clear hB; go_wp2_with fail
 go_ret
 exact ⟨rfl, HB_9.out⟩
theorem rankSorts_main [Ol] {ao bo : Option Addr} {n ca m cb : Nat} {w : World} (hlo : Ol.lo ≤ w.heap.size) {ls : List (List Raw)} (p0 : Plr w ao n ca ls) (s0 : Small15 ls) {ms : List (List Raw)} (p1 : Plr w bo m cb ms) (s1 : Small15 ms) :
  Calls Tryz.prog 3 #[.slice ao n ca, .slice bo m cb] w (RetB (.bool true) w) := by
 have hn8 : n ≤ 8 := by rw [← p0.len]; exact s0.len
 have hm8 : m ≤ 8 := by rw [← p1.len]; exact s1.len
 have HSF : Hid (∀ p ∈ srtP (keepR ls), fall p) := srt_falls p0
 have HF0 : Hid (∀ p ∈ ls.map plnR, fall p) := fun p hp => by obtain ⟨xs, hxs, rfl⟩ := List.mem_map.1 hp; exact p0.falls xs hxs
 have HF1 : Hid (∀ p ∈ ms.map plnR, fall p) := fun p hp => by obtain ⟨xs, hxs, rfl⟩ := List.mem_map.1 hp; exact p1.falls xs hxs
 obtain ⟨q, hq⟩ : ∃ q, srtP (keepR ls) = q := ⟨_, rfl⟩
 have HQT : Hid (∀ p ∈ q, p.length ≤ 1000) := fun p hp => by
  rw [← hq] at hp; have h1 := (isort_perm ltP (keepR ls)).mem_iff.1 hp
  unfold keepR at h1
  obtain ⟨rs, hr, rfl⟩ := List.mem_map.1 (List.mem_filter.1 h1).1
  exact Nat.le_trans (pln_len rs) (s0.lens rs hr)
 have hqn : q.length ≤ 8 := by rw [← hq]; exact Nat.le_trans (srt_len ls) s0.len
 rw [hq] at HSF; have HQ := hid hq
 obtain ⟨x, hx⟩ : ∃ x, lowL (rks ls) (rks ms) = x := ⟨_, rfl⟩; have HX := hid hx
 have HXR : Hid (lowL ((ls.map plnR).map rkP) ((ms.map plnR).map rkP) = x) := by
  rw [Hid, ← hx, List.map_map, List.map_map]
  rfl
 have P0 := hid (And.intro p0 (And.intro s0 s0.lim2)); have P1 := hid (And.intro p1 (And.intro s1 s1.lim2)); have HPL := hid (And.intro p0.len p1.len); have HB_0 := hid (Below.refl w.heap.size w); clear p0 s0 p1 s1 hq hx
 go_enter Tryz.func3, Tryz.ntmps3
 go_wp2_with fail; refine (small_great (P0.out.1.below HB_0.out) P0.out.2.1).mono ?_
 rintro e w1 ⟨rfl, hB⟩; have HB_1 := hid (Below.steps HB_0.out hB); clear hB HB_0; go_wp2_with fail; refine (small_great (P1.out.1.below HB_1.out) P1.out.2.1).mono ?_; rintro e w2 ⟨rfl, hB⟩; have HB_2 := hid (Below.steps HB_1.out hB); clear hB HB_1
 have HI0 : Hid (Prl w2.heap.size w2 none 0 0 (ls.take 0) ∧ Below w2.heap.size w2 w2) := ⟨by rw [List.take_zero]; exact Prl.nil _ _, Below.refl _ _⟩
 go_wp2_with fail
 go_loopw [5, 20] (fun o i wr => ∃ (k : Nat) (ro : Option Addr) (rc : Nat), o = .slice ro k rc ∧ i = .int .i64 k ∧ k ≤ n ∧ Hid (Prl w2.heap.size wr ro k rc (ls.take k) ∧ Below w2.heap.size w2 wr)) (fun _ i _ => n - (intOf i).toNat)
 case atStart => exact ⟨0, none, 0, rfl, rfl, Nat.zero_le _, by rw [List.take_zero]; exact Prl.nil _ _, Below.refl _ _⟩
 case round =>
  rename World => vr
  clear HI0; obtain ⟨k, ro, rc, rfl, rfl, hk, HS⟩ := hrel
  by_cases hkn : k < n
  ·obtain ⟨b, off, po, pn, pc, hao, hb, hc, hp⟩ := (P0.out.1.below (Below.steps HB_2.out HS.out.2)).at hkn
   subst hao; have c0 := hc vr (Below.refl _ _)
   have hki : (k : Int) < (n : Int) := by omega
   have hkl : k < ls.length := by rw [HPL.out.1]; exact hkn
   obtain ⟨ps, hps⟩ : ∃ ps, ls.getD k [] = ps := ⟨_, rfl⟩
   have htk : ls.take (k + 1) = ls.take k ++ [ps] := by rw [List.take_succ_eq_append_getElem hkl, ← hps, getD_of [] hkl]
   have hpn : pn ≤ 1000 := by
    have h := P0.out.2.1.lens ps (by rw [← hps]; exact getD_in [] hkl)
    rw [← hps, hp.len] at h
    exact h
   rw [hps] at hp; have HTK := hid htk
   have HPP := hid hp; clear hc hp hps htk hb; go_wp2_with fail
   refine (copy_any8 HPP.out (by omega)).mono ?_
   rintro e w5 ⟨xo, xn, xc, rfl, hX, hB⟩
   have HS2 : Hid (Prl w2.heap.size w5 ro k rc (ls.take k) ∧ Below w2.heap.size w2 w5) := ⟨HS.out.1.below hB, Below.steps HS.out.2 hB⟩
   obtain ⟨v8, W8, hr8, hps⟩ := prl_push HS2.out.1 hX HS2.out.2.size (by omega) 26 22
   have HPU := hid hps; clear hps hB HS hX c0
   go_wp2_with (at_builtin; refine wpList_append_of rfl (.tmp 23) (.tmp 29) 22 22 rfl _ _ rfl rfl hr8 ?_)
   clear hr8; obtain ⟨ro8, rc8, rfl, hp1, hp2⟩ := HPU.out
   have HN : Hid (Prl w2.heap.size W8 ro8 (k + 1) rc8 (ls.take (k + 1)) ∧ Below w2.heap.size w2 W8) := by rw [HTK.out]; exact ⟨hp1, HS2.out.2.grown hp2 HS2.out.2.size fun r e => (HS2.out.1.own r e).1⟩
   clear hp1 hp2 HPU HS2 HTK HPP
   try go_wp2
   go_roundw
   case rel => exact ⟨k + 1, ro8, rc8, rfl, by go_num, by omega, HN.out⟩
   case measure => simp [intOf]; omega
  ·obtain rfl : k = n := by omega
   have HIN : Hid (Prl w2.heap.size vr ro k rc ls) := by
    have h := HS.out.1
    rw [List.take_of_length_le (by rw [HPL.out.1]; exact Nat.le_refl _)] at h
    exact h
   have HB_3 := hid (Below.steps HB_2.out HS.out.2); clear HS; go_wp2_with fail
   refine (rsort_any (K := 20) (by omega) (Nat.le_trans hlo HB_3.out.size) HIN.out.plr P0.out.2.1.lim (fun ps hp => P0.out.2.1.lens ps hp) hn8).mono ?_
   rintro e w4 ⟨so, sn, sc, B, rfl, hsl, hS, hB⟩; rw [HQ.out] at hS hsl; obtain rfl : q.length = sn := hsl; have HB_4 := hid (Below.steps HB_3.out hB); have HI4 := hid (HIN.out.below hB); have HS := hid hS; clear hB HIN HB_3 hS; go_wp2_with fail; refine (plain15_any (P0.out.1.below HB_4.out) P0.out.2.1).mono ?_; rintro e w5 ⟨to1, tn1, tc1, rfl, htl, hT, hB⟩; have HB_5 := hid (Below.steps HB_4.out hB); have HI5 := hid (HI4.out.below hB); have HS5 := hid (HS.out.below hB)
   have htn : tn1 ≤ 8 := by rw [← htl, List.length_map, HPL.out.1]; exact hn8
   have HT := hid hT; clear hB HI4 HS HB_4 hT htl; go_wp2_with fail; refine (rrsort_any HT.out HF0.out htn).mono ?_; rintro e w6 ⟨yo, yn, yc, rfl, hyl, hY, hB⟩; rw [show srtP (fltP (ls.map plnR)) = q from HQ.out] at hY hyl; obtain rfl : q.length = yn := hyl
   have HA : Hid (Prl w2.heap.size w6 ro k rc ls ∧ Pcl B 21 w6 so q.length sc q ∧ Plz w5.heap.size 32 w6 yo q.length yc q ∧ Below w.heap.size w w6) := ⟨HI5.out.below hB, HS5.out.below hB, hY, Below.steps HB_5.out hB⟩
   clear hB HI5 HS5 HB_5 hY HT; obtain ⟨z, hz⟩ : ∃ z, z = q.length := ⟨_, rfl⟩; rw [← hz] at HA hqn ⊢; have HZ := hid hz; clear hz; go_wp2_with fail; refine (rlower_any x (P0.out.1.below HA.out.2.2.2) (P1.out.1.below HA.out.2.2.2) P0.out.2.2 P1.out.2.2 HX.out).mono ?_; rintro e w7 ⟨rfl, hB⟩; have HB_7 := hid (Below.steps (Below.refl w6.heap.size w6) hB); clear hB; go_wp2_with fail; refine (plain15_any (P0.out.1.below (Below.steps HA.out.2.2.2 HB_7.out)) P0.out.2.1).mono ?_; rintro e w8 ⟨eo, en, ec, rfl, hel, hE, hB⟩
   have HB_8 := hid (Below.steps HB_7.out hB)
   have hen : en ≤ 8 := by rw [← hel, List.length_map, HPL.out.1]; exact hn8
   have HE := hid hE; clear hB HB_7 hE hel; go_wp2_with fail; refine (plain15_any (P1.out.1.below (Below.steps HA.out.2.2.2 HB_8.out)) P1.out.2.1).mono ?_; rintro e w9 ⟨fo, fn, fc, rfl, hfl, hF, hB⟩; have HB_9 := hid (Below.steps HB_8.out hB); have HE9 := hid (HE.out.below hB); have HG := hid hF; clear hB HB_8 hF hfl HE; go_wp2_with fail; refine (rrlower_any x HE9.out HG.out HF0.out HF1.out hen HXR.out).mono ?_; rintro e w10 ⟨rfl, hB⟩; have HB_10 := hid (Below.steps HB_9.out hB); clear hB HB_9 HE9 HG
   go_wp2_with fail
   go_loopw [55] (fun i wv => ∃ j : Nat, i = .int .i64 j ∧ j ≤ z ∧ Hid (Below w6.heap.size w6 wv)) (fun i _ => z - (intOf i).toNat)
   case atStart => exact ⟨0, rfl, Nat.zero_le _, HB_10.out⟩
   case round =>
    obtain ⟨j, rfl, hj, HW⟩ := hrel
    by_cases hjz : j < z
    ·obtain ⟨g, xo, xn, xc, hso, _, hx, hcx⟩ := HA.out.2.1.at (k := j) hjz
     obtain ⟨g2, uo, un, uc, hyo, _, hy, hcy⟩ := HA.out.2.2.1.at (k := j) hjz; subst hso; subst hyo
     have hjq : j < q.length := by rw [← HZ.out]; exact hjz
     have hul := HQT.out _ (getD_in [] hjq); rw [hy.len] at hul; have hjf := HSF.out _ (getD_in [] hjq); have HXY := hid (And.intro hx (And.intro hy hjf)); have HC := hid (And.intro hcx hcy)
     have hji : (j : Int) < (z : Int) := by omega
     clear hx hy hcx hcy hjf hjq
     go_upto_region 15 with (fail)
     refine wp_region_held_drew (S := fun w' => w'.cell? ⟨g, j, none⟩ = some (.slice xo xn xc) ∧ w'.cell? ⟨g2, j, none⟩ = some (.slice uo un uc)) (by kernel_rfl) ⟨HC.out.1 _ HW.out.drew, HC.out.2 _ HW.out.drew⟩ (fun hH => ?_)
     refine anyH_world (fun w11 hW => ?_)
     have W_11 : Hid (Below w6.heap.size w6 w11) := by rw [hW]; exact HW.out.drew
     rw [← hW] at hH; clear HW
     clear hW
     refine son 0 hH ?_; try simp only [nrm]
     refine son 1 hH ?_; try simp only [nrm]
     refine son 2 hH ?_; try simp only [nrm]
     refine son 3 hH ?_; try simp only [nrm]
     refine son 4 hH ?_; try simp only [nrm]
     refine son 5 hH ?_; try simp only [nrm]
     refine son 6 hH ?_; try simp only [nrm]
     refine son 7 hH ?_; try simp only [nrm]
     refine step_one 8 rfl (by kernel_rfl) (fun KK hK => ?_)
     go_simp
     refine (poly_any8 (HXY.out.2.1.below W_11.out) (by omega) (by omega)).mono ?_
     rintro e w12 ⟨qo, qn, qc, rfl, hQ, hB⟩; have W_12 := hid (Below.steps W_11.out hB); have HQP := hid hQ; clear hB W_11 hQ; go_wp2_with fail
     clear hH; refine hK.out _ _ ⟨HC.out.1 _ W_12.out, HC.out.2 _ W_12.out⟩ fun hH => ?_; clear hK KK
     try simp only [nrm]
     refine step_one 9 rfl (by kernel_rfl) (fun KK hK => ?_)
     go_simp; refine (same_any8 true (HXY.out.1.below W_12.out).raw HQP.out.raw (decide_eq_true rfl)).mono ?_
     rintro e w13 ⟨rfl, hB⟩; have W_13 := hid (Below.steps W_12.out hB); clear hB W_12; go_wp2_with fail
     clear hH; refine hK.out _ _ ⟨HC.out.1 _ W_13.out, HC.out.2 _ W_13.out⟩ fun hH => ?_; clear hK KK
     try simp only [nrm]
     refine son 10 hH ?_; try simp only [nrm]
     refine wpAnyH_done (by kernel_rfl) ?_ _
     go_wp2_with fail
     go_roundw
     case rel => exact ⟨j + 1, by go_num, by omega, W_13.out⟩
     case measure => simp [intOf]; omega
    ·obtain rfl : j = z := by omega
     have HB_11 := HW; clear HW; go_wp2_with fail
     go_loopw [72] (fun i wv => ∃ d : Nat, i = .int .i64 d ∧ d ≤ k ∧ Hid (Below w6.heap.size w6 wv)) (fun i _ => k - (intOf i).toNat)
     case atStart => exact ⟨0, rfl, Nat.zero_le _, HB_11.out⟩
     case round =>
      rename World => vx
      obtain ⟨d, rfl, hd, HW⟩ := hrel
      by_cases hdn : d < k
      ·obtain ⟨g, goff, xo, xn, xc, hro, _, hcx, hx⟩ := HA.out.1.plr.at hdn
       obtain ⟨b, off, uo, un, uc, hao, _, hcy, hy⟩ := (P0.out.1.below HA.out.2.2.2).at hdn; subst hro; subst hao; have HXY := hid (And.intro hx hy); have HC := hid (And.intro hcx hcy)
       have hdi : (d : Int) < (k : Int) := by omega
       clear hx hy hcx hcy
       go_upto_region 21 with (fail)
       refine wp_region_held_drew (S := fun w' => w'.cell? ⟨g, goff + d, none⟩ = some (.slice xo xn xc) ∧ w'.cell? ⟨b, off + d, none⟩ = some (.slice uo un uc)) (by kernel_rfl) ⟨HC.out.1 _ HW.out.drew, HC.out.2 _ HW.out.drew⟩ (fun hH => ?_)
       refine anyH_world (fun w21 hW => ?_)
       have W_21 : Hid (Below w6.heap.size w6 w21) := by rw [hW]; exact HW.out.drew
       rw [← hW] at hH; clear HW
       clear hW
       refine son 0 hH ?_; try simp only [nrm]
       refine son 1 hH ?_; try simp only [nrm]
       refine son 2 hH ?_; try simp only [nrm]
       refine son 3 hH ?_; try simp only [nrm]
       refine son 4 hH ?_; try simp only [nrm]
       refine son 5 hH ?_; try simp only [nrm]
       refine son 6 hH ?_; try simp only [nrm]
       refine son 7 hH ?_; try simp only [nrm]
       refine step_one 8 rfl (by kernel_rfl) (fun KK hK => ?_)
       go_simp; refine (same_any8 true (HXY.out.1.below W_21.out) (HXY.out.2.below W_21.out) (decide_eq_true rfl)).mono ?_
       rintro e w22 ⟨rfl, hB⟩; have W_22 := hid (Below.steps W_21.out hB); clear hB W_21; go_wp2_with fail
       clear hH; refine hK.out _ _ ⟨HC.out.1 _ W_22.out, HC.out.2 _ W_22.out⟩ fun hH => ?_; clear hK KK
       try simp only [nrm]
       refine son 9 hH ?_; try simp only [nrm]
       refine wpAnyH_done (by kernel_rfl) ?_ _
       go_wp2_with fail
       go_roundw
       case rel => exact ⟨d + 1, by go_num, by omega, W_22.out⟩
       case measure => simp [intOf]; omega
      ·have hdi : ¬ (d : Int) < (k : Int) := by omega
       go_wp2_with fail; refine (known15_any _).mono ?_
       rintro e w30 ⟨rfl, hB⟩; have HB_30 := hid (Below.steps HA.out.2.2.2 (Below.steps HW.out hB)); clear hB; go_wp2_with fail
       go_ret
       exact ⟨rfl, HB_30.out⟩
theorem rankSorts_any [Ol] {ao bo : Option Addr} {n ca m cb : Nat} {w : World} (hlo : Ol.lo ≤ w.heap.size) (h0 : (∃ f, Plx w ao n f) ∧ (n ≤ 4398046511104 → ∃ ls, Plr w ao n ca ls)) (h1 : (∃ f, Plx w bo m f) ∧ (m ≤ 4398046511104 → ∃ ls, Plr w bo m cb ls)) :
  Calls Tryz.prog 3 #[.slice ao n ca, .slice bo m cb] w (RetB (.bool true) w) := by
 rcases hnd_of h0 with ⟨f, hf, hg⟩ | ⟨ls, p0, s0⟩
 ·exact rankSorts_great0 hf hg
 ·rcases hnd_of h1 with ⟨f, hf, hg⟩ | ⟨ms, p1, s1⟩
  ·exact rankSorts_great1 p0 s0 hf hg
  ·exact rankSorts_main hlo p0 s0 p1 s1
end Go.Proofs.YtmmgipcacceakaaGreat
