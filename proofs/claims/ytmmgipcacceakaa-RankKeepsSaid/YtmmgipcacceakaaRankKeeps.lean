/-
  The law RankKeeps.
-/
import Derived.Test.YtmmgipcacceakaaGRk3
set_option maxHeartbeats 40000000
set_option maxRecDepth 100000
namespace Go.Proofs.Ytmmgipcacceakaa
open Lib (hid)
open Go.RowKit
theorem rankKeeps_great1 [Ol] {ao bo : Option Addr} {n cap m cb : Nat} {ps : List Raw} {w : World} (hp : Pr w ao n cap ps) (hg : Grt 1 (fun k => [ps].getD k [])) :
  Calls Try.prog 5 #[.slice ao n cap, .slice bo m cb] w (RetB (.bool true) w) := by
 have HP := hid (And.intro hp hg); clear hp hg
 go_enter Try.func5, Try.ntmps5
 go_wp2_with fail; refine (great15_any true (Plx.one HP.out.1 _) (iff_of_true rfl HP.out.2)).mono ?_
 rintro e w1 ⟨rfl, hB⟩; have HB1 := hid (Below.steps (below_alloc _ _) hB); clear hB HP; go_wp2_with fail; refine (known15_any _).mono ?_; rintro e w2 ⟨rfl, hB⟩; have HB2 := hid (Below.steps HB1.out hB); clear hB HB1; go_wp2_with fail
 go_ret
 exact ⟨rfl, HB2.out⟩
theorem rankKeeps_great2 [Ol] {ao bo : Option Addr} {n cap m cb : Nat} {ps : List Raw} {w : World} (hp : Pr w ao n cap ps) (hng : ¬ Grt 1 (fun k => [ps].getD k [])) {f : Nat → List Raw} (hx : Plx w bo m f) (hg : Grt m f) :
  Calls Try.prog 5 #[.slice ao n cap, .slice bo m cb] w (RetB (.bool true) w) := by
 have HP := hid (And.intro hp (And.intro hng (And.intro hx hg))); clear hp hg hng hx
 go_enter Try.func5, Try.ntmps5
 go_wp2_with fail
 refine (great15_any false (Plx.one HP.out.1 _) ⟨(fun h => by cases h), fun h => absurd h HP.out.2.1⟩).mono ?_
 rintro e w1 ⟨rfl, hB⟩; have HB1 := hid (Below.steps (below_alloc _ _) hB); clear hB; go_wp2_with fail; refine (great15_any true (HP.out.2.2.1.below HB1.out) (iff_of_true rfl HP.out.2.2.2)).mono ?_; rintro e w2 ⟨rfl, hB⟩; have HB2 := hid (Below.steps HB1.out hB); clear hB HB1 HP; go_wp2_with fail; refine (known15_any _).mono ?_; rintro e w3 ⟨rfl, hB⟩; have HB3 := hid (Below.steps HB2.out hB); clear hB HB2; go_wp2_with fail
 go_ret
 exact ⟨rfl, HB3.out⟩
theorem rankKeeps_main [Ol] {ao bo : Option Addr} {n cap m cb : Nat} {ps : List Raw} {w : World} (hlo : Ol.lo ≤ w.heap.size) (hp : Pr w ao n cap ps) (hng : ¬ Grt 1 (fun k => [ps].getD k [])) {ls : List (List Raw)} (hx : Plr w bo m cb ls) (hs : Small15 ls) :
  Calls Try.prog 5 #[.slice ao n cap, .slice bo m cb] w (RetB (.bool true) w) := by
 have hs1 : Small15 [ps] := Small15.of (fun _ _ => rfl) hng
 have hn : n ≤ 1000000 := by
  have h := (great_facts (hs1.ok ps (by simp))).1
  rw [hp.len] at h
  omega
 have hm8 : m ≤ 8 := by rw [← hx.len]; exact hs.len
 have HP := hid (And.intro hp (And.intro hng (And.intro (hs1.lim2 ps (by simp)) hn)))
 have HX := hid (And.intro hx (And.intro hs hs.lim2)); have HK := hid (And.intro (hx.back hs.lim2) (And.intro hx.len (srt_falls hx))); obtain ⟨q, hq⟩ : ∃ q, srtP (keepR ls) = q := ⟨_, rfl⟩
 have hqa : srtP (keepR (q.map fun p => p.map rawC)) = q := by rw [← hq]; exact srt_again (srt_falls hx)
 have hql : q.length = (keepR ls).length := by rw [← hq]; exact isort_len _ _
 have hqn : q.length ≤ 8 := by rw [← hq]; exact Nat.le_trans (srt_len ls) hs.len
 have HQ := hid (And.intro hq (And.intro hqa (And.intro hql hqn)))
 have HQF : Hid (∀ p ∈ q, fall p) := by rw [← hq]; exact srt_falls hx
 have HQT : Hid (∀ p ∈ q, p.length ≤ 1000) := fun p hp => by
  rw [← hq] at hp; have h1 := (isort_perm ltP (keepR ls)).mem_iff.1 hp
  unfold keepR at h1
  obtain ⟨rs, hr, rfl⟩ := List.mem_map.1 (List.mem_filter.1 h1).1
  exact Nat.le_trans (pln_len rs) (hs.lens rs hr)
 clear hp hng hx hs hs1 hn hq hqa hql hqn
 go_enter Try.func5, Try.ntmps5
 go_wp2_with fail
 refine (great15_any false (Plx.one HP.out.1 _) ⟨(fun h => by cases h), fun h => absurd h HP.out.2.1⟩).mono ?_
 rintro e w1 ⟨rfl, hB⟩; have HB_1 := hid (Below.steps (below_alloc _ _) hB); clear hB; go_wp2_with fail; refine (small_great (HX.out.1.below HB_1.out) HX.out.2.1).mono ?_; rintro e w2 ⟨rfl, hB⟩; have HB_2 := hid (Below.steps HB_1.out hB); clear hB HB_1; go_wp2_with fail
 refine (rsort_any (K := 20) (by omega) (Nat.le_trans hlo HB_2.out.size) (HX.out.1.below HB_2.out) HX.out.2.1.lim (fun ps hp => HX.out.2.1.lens ps hp) hm8).mono ?_
 rintro e w3 ⟨so, sn, sc, B, rfl, hsl, hS, hB⟩; have HB_3 := hid (Below.steps HB_2.out hB); rw [HQ.out.1] at hS hsl
 have hsn : sn ≤ 8 := by rw [← hsl]; exact HQ.out.2.2.2
 have HSL := hid hsl; have HS := hid hS; clear hB HB_2 hS hsl; go_wp2_with fail
 refine (rsort_any (K := 21) (by omega) (Nat.le_trans hlo HB_3.out.size) HS.out.plr (fun ps hp t ht => by obtain ⟨p, hpq, rfl⟩ := List.mem_map.1 hp; exact HS.out.lens p hpq t ht) (fun ps hp => by obtain ⟨p, hpq, rfl⟩ := List.mem_map.1 hp; rw [List.length_map]; exact HQT.out p hpq) hsn).mono ?_
 rintro e w4 ⟨tao, tn, tc, B2, rfl, htl, hT, hB⟩; have HB_4 := hid (Below.steps HB_3.out hB); rw [HQ.out.2.1] at hT htl
 obtain rfl : sn = tn := by rw [← htl, HSL.out]
 have HA : Hid (Pr w4 ao n cap ps ∧ Plr w4 bo m cb ls ∧ Pcl B 21 w4 so sn sc q ∧ Pcl B2 22 w4 tao sn tc q) := ⟨HP.out.1.below HB_4.out, HX.out.1.below HB_4.out, HS.out.below hB, hT⟩
 have HP2 := hid HP.out.2.2; clear hB HB_3 hT htl HS HP; go_wp2_with fail
 go_loopw [7, 8, 28] (fun nv bv i wr => ∃ (k c : Nat) (y : Bool), nv = .int .i64 c ∧ bv = .bool y ∧ i = .int .i64 k ∧ k ≤ m ∧ c ≤ k ∧ Hid (Below w4.heap.size w4 wr ∧ ((ls.take k).all fun x => redP (plnR ps) (plnR x)) = y ∧ (keepR (ls.take k)).length = c)) (fun _ _ i _ => m - (intOf i).toNat)
 case atStart => exact ⟨0, 0, true, rfl, rfl, rfl, Nat.zero_le _, Nat.le_refl _, Below.refl _ _, by rw [List.take_zero]; rfl, by rw [List.take_zero]; rfl⟩
 case round =>
  rename World => vr
  obtain ⟨k, c, y, rfl, rfl, rfl, hk, hck, HS⟩ := hrel
  by_cases hkn : k < m
  ·obtain ⟨b, off, po, pn, pc, hbo, hb, hcl, hpt⟩ := (HA.out.2.1.below HS.out.1).at hkn
   subst hbo
   have hki : (k : Int) < (m : Int) := by omega
   have hkl : k < ls.length := by rw [HK.out.2.1]; exact hkn
   obtain ⟨t, ht⟩ : ∃ t, ls.getD k [] = t := ⟨_, rfl⟩
   have htl : t ∈ ls := by rw [← ht]; exact getD_in [] hkl
   obtain ⟨r, hr⟩ : ∃ r, redP (plnR ps) (plnR t) = r := ⟨_, rfl⟩; obtain ⟨y2, hy2⟩ : ∃ y2, (y && r) = y2 := ⟨_, rfl⟩; obtain ⟨ng, hng⟩ : ∃ ng, (!goodR t) = ng := ⟨_, rfl⟩; rw [ht] at hpt; have hpn := hpt.len
   have HNA : Hid (((ls.take (k + 1)).all fun x => redP (plnR ps) (plnR x)) = y2) := by rw [Hid, redAll_next hkl, HS.out.2.1, ht, hr]; exact hy2
   have HNK : Hid ((keepR (ls.take (k + 1))).length = c + if ng = true then 0 else 1) := by
    rw [Hid, keepR_next hkl, List.length_append, HS.out.2.2, ht]
    congr 1
    cases hgt : goodR t with
    | false => rw [if_pos (good_not.1 hgt), if_pos (by rw [← hng, hgt]; rfl)]; rfl
    | true => rw [if_neg (good_len.1 hgt), if_neg (by rw [← hng, hgt]; simp)]; rfl
   have HT := hid (And.intro htl (And.intro hng hpt)); have HR := hid hr; have HCL := hid hcl; have HSB := hid HS.out.1; have HPN := hid hpn; clear hcl hpt hr hng htl hb hpn HS; have c0 := HCL.out vr (Below.refl _ _)
   go_upto_region 9 with (fail)
   go_cut [8] from 31 to 39 (fun s wx => s = .bool y2 ∧ Hid (Below vr.heap.size vr wx))
   case first =>
    cases y with
    | false =>
     obtain rfl : y2 = false := hy2.symm; go_wp2_with fail
     go_meet
     case rel => exact ⟨rfl, Below.refl _ _⟩
    | true =>
     obtain rfl : y2 = r := hy2.symm; go_wp2_with fail; refine (rreduced_any y2 (HA.out.1.below HSB.out) HP2.out.1 HP2.out.2 HT.out.2.2 (HX.out.2.2 t HT.out.1) HR.out).mono ?_; rintro e w5 ⟨rfl, hB⟩; have HB5 := hid hB; clear hB; go_wp2_with fail
     go_meet
     case rel => exact ⟨rfl, HB5.out⟩
   case rest =>
   obtain ⟨rfl, HC⟩ := hcut; obtain ⟨w6, hW⟩ : ∃ w6, w6 = wc := ⟨_, rfl⟩; rw [← hW] at HC ⊢; clear hW; clear hy2 c0; have c0 := HCL.out w6 HC.out
   go_upto_region 10 with (fail)
   go_cut [53] from 40 to 53 (fun s wx => s = .bool ng ∧ Hid (Below vr.heap.size vr wx))
   case first =>
    by_cases h0 : pn = 0
    ·subst h0
     obtain rfl : ng = true := by rw [← HT.out.2.1]; unfold goodR; rw [HPN.out]; simp
     go_wp2_with fail
     go_meet
     case rel => exact ⟨rfl, HC.out⟩
    ·have hd : ((pn : Int) == 0) = false := by simpa using h0
     obtain ⟨z, hz⟩ : ∃ z, mayR t = z := ⟨_, rfl⟩
     have HZ : Hid (ng = !z) := by rw [Hid, ← HT.out.2.1, ← hz]; unfold goodR; rw [HPN.out, decide_eq_true (by omega), Bool.and_true]
     have HZ2 := hid hz; clear hz h0; go_wp2_with fail; refine (pmay_any z (HT.out.2.2.below HC.out) (HX.out.2.2 t HT.out.1) HZ2.out).mono ?_; rintro e w7 ⟨rfl, hB⟩; have HB7 := hid (Below.steps HC.out hB); clear hB c0; go_wp2_with fail
     go_meet
     case rel => exact ⟨by rw [HZ.out], HB7.out⟩
   case rest =>
   obtain ⟨rfl, HD⟩ := hcut; obtain ⟨w8, hW⟩ : ∃ w8, w8 = wc := ⟨_, rfl⟩; rw [← hW] at HD ⊢; clear hW c0 HC
   cases ng with
   | true =>
    have HN := HNK.out; rw [if_pos rfl] at HN; have HN2 := hid HN; clear HN HNK; go_wp2_with fail
    go_roundw
    case rel => exact ⟨k + 1, c, y2, rfl, rfl, by go_num, by omega, by omega, Below.steps HSB.out HD.out, HNA.out, HN2.out⟩
    case measure => simp [intOf]; omega
   | false =>
    have HN := HNK.out
    rw [if_neg (by simp)] at HN
    have HN2 := hid HN
    have hgt : goodR t = true := by have := HT.out.2.1; simpa using this
    have HGT := hid hgt; clear HN HNK hgt
    have hc8 : c ≤ 8 := by omega
    go_wp2_with fail
    go_loopw [10, 58] (fun mv i wv => ∃ (j e : Nat), mv = .int .i64 e ∧ i = .int .i64 j ∧ j ≤ m ∧ e ≤ j ∧ Hid (Below vr.heap.size vr wv ∧ cntL (ls.take j) t = e)) (fun _ i _ => m - (intOf i).toNat)
    case atStart => exact ⟨0, 0, rfl, rfl, Nat.zero_le _, Nat.le_refl _, HD.out, by rw [List.take_zero]; rfl⟩
    case round =>
     rename World => vv
     obtain ⟨j, e, rfl, rfl, hj, hej, HW⟩ := hrel
     by_cases hjm : j < m
     ·obtain ⟨b9, off9, qo, qn, qc, hbo, _, hcj, hpj⟩ := ((HA.out.2.1.below HSB.out)).at hjm
      cases hbo
      have hji : (j : Int) < (m : Int) := by omega
      have hjl : j < ls.length := by rw [HK.out.2.1]; exact hjm
      obtain ⟨z, hz⟩ : ∃ z, decide (ls.getD j [] = t) = z := ⟨_, rfl⟩; have HTJ := hid (And.intro hjl (And.intro hz hpj)); have HCJ := hid hcj
      have he8 : e ≤ 8 := by omega
      clear hcj hpj hz
      cases z with
      | true =>
       have HN3 : Hid (cntL (ls.take (j + 1)) t = e + 1) := by rw [Hid, cntL_next HTJ.out.1, HW.out.2, if_pos (of_decide_eq_true HTJ.out.2.1)]
       go_upto_region 16 with (fail)
       refine wp_region_held_drew (S := fun w' => w'.cell? ⟨b, off + j, none⟩ = some (.slice qo qn qc) ∧ w'.cell? ⟨b, off + k, none⟩ = some (.slice po pn pc)) (by kernel_rfl) ⟨HCJ.out _ HW.out.1.drew, HCL.out _ HW.out.1.drew⟩ (fun hH => ?_)
       refine anyH_world (fun w21 hW => ?_)
       have W_21 : Hid (Below vr.heap.size vr w21) := by rw [hW]; exact HW.out.1.drew
       rw [← hW] at hH; clear hW
       refine son 0 hH ?_; try simp only [nrm]
       refine son 1 hH ?_; try simp only [nrm]
       refine son 2 hH ?_; try simp only [nrm]
       refine son 3 hH ?_; try simp only [nrm]
       refine son 4 hH ?_; try simp only [nrm]
       refine son 5 hH ?_; try simp only [nrm]
       refine son 6 hH ?_; try simp only [nrm]
       refine son 7 hH ?_; try simp only [nrm]
       refine step_one 8 rfl (by kernel_rfl) (fun KK hK => ?_)
       go_simp; refine (psame_any true ((HTJ.out.2.2.below W_21.out)) (HT.out.2.2.below W_21.out) HTJ.out.2.1).mono ?_
       rintro e w22 ⟨rfl, hB⟩; have W_22 := hid (Below.steps W_21.out hB); clear hB W_21; go_wp2_with fail
       clear hH; refine hK.out _ _ ⟨HCJ.out _ W_22.out, HCL.out _ W_22.out⟩ fun hH => ?_; clear hK KK
       try simp only [nrm]
       refine wpAnyH_done (by kernel_rfl) ?_ _
       go_wp2_with fail
       go_roundw
       case rel => exact ⟨j + 1, e + 1, by go_num, by go_num, by omega, by omega, W_22.out, HN3.out⟩
       case measure => simp [intOf]; omega
      | false =>
       have HN3 : Hid (cntL (ls.take (j + 1)) t = e) := by rw [Hid, cntL_next HTJ.out.1, HW.out.2, if_neg (of_decide_eq_false HTJ.out.2.1)]; rfl
       go_upto_region 16 with (fail)
       refine wp_region_held_drew (S := fun w' => w'.cell? ⟨b, off + j, none⟩ = some (.slice qo qn qc) ∧ w'.cell? ⟨b, off + k, none⟩ = some (.slice po pn pc)) (by kernel_rfl) ⟨HCJ.out _ HW.out.1.drew, HCL.out _ HW.out.1.drew⟩ (fun hH => ?_)
       refine anyH_world (fun w21 hW => ?_)
       have W_21 : Hid (Below vr.heap.size vr w21) := by rw [hW]; exact HW.out.1.drew
       rw [← hW] at hH; clear hW
       refine son 0 hH ?_; try simp only [nrm]
       refine son 1 hH ?_; try simp only [nrm]
       refine son 2 hH ?_; try simp only [nrm]
       refine son 3 hH ?_; try simp only [nrm]
       refine son 4 hH ?_; try simp only [nrm]
       refine son 5 hH ?_; try simp only [nrm]
       refine son 6 hH ?_; try simp only [nrm]
       refine son 7 hH ?_; try simp only [nrm]
       refine step_one 8 rfl (by kernel_rfl) (fun KK hK => ?_)
       go_simp; refine (psame_any false ((HTJ.out.2.2.below W_21.out)) (HT.out.2.2.below W_21.out) HTJ.out.2.1).mono ?_
       rintro e w22 ⟨rfl, hB⟩; have W_22 := hid (Below.steps W_21.out hB); clear hB W_21; go_wp2_with fail
       clear hH; refine hK.out _ _ ⟨HCJ.out _ W_22.out, HCL.out _ W_22.out⟩ fun hH => ?_; clear hK KK
       try simp only [nrm]
       refine wpAnyH_done (by kernel_rfl) ?_ _
       go_wp2_with fail
       go_roundw
       case rel => exact ⟨j + 1, e, rfl, by go_num, by omega, by omega, W_22.out, HN3.out⟩
       case measure => simp [intOf]; omega
     ·obtain rfl : j = m := by omega
      have HE : Hid (cntL ls t = e) := by
       have h := HW.out.2
       rw [List.take_of_length_le (by rw [HK.out.2.1]; exact Nat.le_refl _)] at h
       exact h
      have HWB := hid HW.out.1
      have he8 : e ≤ 8 := by omega
      clear HW HD; go_wp2_with fail
      go_loopw [10, 75] (fun mv i wv => ∃ (j : Nat) (d : Int), mv = .int .i64 d ∧ i = .int .i64 j ∧ j ≤ sn ∧ -8 ≤ d ∧ d ≤ 8 ∧ Hid (Below vr.heap.size vr wv ∧ (e : Int) - (cntL ((q.map fun p => p.map rawC).take j) t : Int) = d)) (fun _ i _ => sn - (intOf i).toNat)
      case atStart => exact ⟨0, e, rfl, rfl, Nat.zero_le _, by omega, by omega, HWB.out, by rw [List.take_zero]; exact Int.sub_zero _⟩
      case round =>
       rename World => vx
       obtain ⟨x, d, rfl, rfl, hx, hd1, hd2, HV⟩ := hrel
       by_cases hxn : x < sn
       ·obtain ⟨g, qo, qn, qc, hgo, _, hpj, hcj⟩ := ((HA.out.2.2.1.below HSB.out)).at hxn
        subst hgo
        have hxi : (x : Int) < (sn : Int) := by omega
        have hxl : x < (q.map fun p => p.map rawC).length := by rw [List.length_map, HSL.out]; exact hxn
        have hgd : (q.map fun p => p.map rawC).getD x [] = (q.getD x []).map rawC := by rw [getD_of [] hxl, getD_of [] (by rw [HSL.out]; exact hxn)]; simp
        obtain ⟨z, hz⟩ : ∃ z, decide ((q.getD x []).map rawC = t) = z := ⟨_, rfl⟩; have hnx := cntL_next (t := t) hxl; rw [hgd] at hnx
        have hle := cntL_le (q.map fun p => p.map rawC) t (x + 1)
        have HTJ := hid (And.intro hnx (And.intro hz hpj.raw)); have HCJ := hid hcj
        have hcn : cntL (q.map fun p => p.map rawC) t = e := by rw [← HE.out, ← HQ.out.1]; exact cnt_keep HK.out.1 HT.out.1 HGT.out
        have hlt : (cntL ((q.map fun p => p.map rawC).take (x + 1)) t : Int) ≤ 8 := by omega
        have HLE := hid hlt
        have hwd : IntKind.i64.wrap (d - 1) = d - 1 := IntWalk.i64_in _ ⟨by omega, by omega⟩
        clear hcj hpj hz hnx hgd hle hlt hcn
        cases z with
        | true =>
         have HN3 : Hid ((e : Int) - (cntL ((q.map fun p => p.map rawC).take (x + 1)) t : Int) = d - 1) := by
          have h := HTJ.out.1; rw [if_pos (of_decide_eq_true HTJ.out.2.1)] at h; have h2 := HV.out.2; rw [Hid, h]
          omega
         have hd3 : -8 ≤ d - 1 := by have h := HN3.out; have h3 := HLE.out; omega
         have hd4 : d - 1 ≤ 8 := by omega
         go_upto_region 22 with (fail)
         refine wp_region_held_drew (S := fun w' => w'.cell? ⟨g, x, none⟩ = some (.slice qo qn qc) ∧ w'.cell? ⟨b, off + k, none⟩ = some (.slice po pn pc)) (by kernel_rfl) ⟨HCJ.out _ HV.out.1.drew, HCL.out _ HV.out.1.drew⟩ (fun hH => ?_)
         refine anyH_world (fun w31 hW => ?_)
         have W_31 : Hid (Below vr.heap.size vr w31) := by rw [hW]; exact HV.out.1.drew
         rw [← hW] at hH; clear hW
         refine son 0 hH ?_; try simp only [nrm]
         refine son 1 hH ?_; try simp only [nrm]
         refine son 2 hH ?_; try simp only [nrm]
         refine son 3 hH ?_; try simp only [nrm]
         refine son 4 hH ?_; try simp only [nrm]
         refine son 5 hH ?_; try simp only [nrm]
         refine son 6 hH ?_; try simp only [nrm]
         refine son 7 hH ?_; try simp only [nrm]
         refine step_one 8 rfl (by kernel_rfl) (fun KK hK => ?_)
         go_simp; refine (psame_any true ((HTJ.out.2.2.below W_31.out)) (HT.out.2.2.below W_31.out) HTJ.out.2.1).mono ?_
         rintro e w32 ⟨rfl, hB⟩; have W_32 := hid (Below.steps W_31.out hB); clear hB W_31; go_wp2_with fail
         clear hH; refine hK.out _ _ ⟨HCJ.out _ W_32.out, HCL.out _ W_32.out⟩ fun hH => ?_; clear hK KK
         try simp only [nrm]
         refine wpAnyH_done (by kernel_rfl) ?_ _
         go_wp2_with fail
         go_roundw
         case rel => exact ⟨x + 1, d - 1, rfl, by go_num, by omega, hd3, hd4, W_32.out, HN3.out⟩
         case measure => simp [intOf]; omega
        | false =>
         have HN3 : Hid ((e : Int) - (cntL ((q.map fun p => p.map rawC).take (x + 1)) t : Int) = d) := by
          have h := HTJ.out.1; rw [if_neg (of_decide_eq_false HTJ.out.2.1)] at h; have h2 := HV.out.2; rw [Hid, h]
          omega
         go_upto_region 22 with (fail)
         refine wp_region_held_drew (S := fun w' => w'.cell? ⟨g, x, none⟩ = some (.slice qo qn qc) ∧ w'.cell? ⟨b, off + k, none⟩ = some (.slice po pn pc)) (by kernel_rfl) ⟨HCJ.out _ HV.out.1.drew, HCL.out _ HV.out.1.drew⟩ (fun hH => ?_)
         refine anyH_world (fun w31 hW => ?_)
         have W_31 : Hid (Below vr.heap.size vr w31) := by rw [hW]; exact HV.out.1.drew
         rw [← hW] at hH; clear hW
         refine son 0 hH ?_; try simp only [nrm]
         refine son 1 hH ?_; try simp only [nrm]
         refine son 2 hH ?_; try simp only [nrm]
         refine son 3 hH ?_; try simp only [nrm]
         refine son 4 hH ?_; try simp only [nrm]
         refine son 5 hH ?_; try simp only [nrm]
         refine son 6 hH ?_; try simp only [nrm]
         refine son 7 hH ?_; try simp only [nrm]
         refine step_one 8 rfl (by kernel_rfl) (fun KK hK => ?_)
         go_simp; refine (psame_any false ((HTJ.out.2.2.below W_31.out)) (HT.out.2.2.below W_31.out) HTJ.out.2.1).mono ?_
         rintro e w32 ⟨rfl, hB⟩; have W_32 := hid (Below.steps W_31.out hB); clear hB W_31; go_wp2_with fail
         clear hH; refine hK.out _ _ ⟨HCJ.out _ W_32.out, HCL.out _ W_32.out⟩ fun hH => ?_; clear hK KK
         try simp only [nrm]
         refine wpAnyH_done (by kernel_rfl) ?_ _
         go_wp2_with fail
         go_roundw
         case rel => exact ⟨x + 1, d, rfl, by go_num, by omega, hd1, hd2, W_32.out, HN3.out⟩
         case measure => simp [intOf]; omega
       ·obtain rfl : x = sn := by omega
        have HD0 : Hid (d = 0) := by
         have h := HV.out.2
         have hcn : cntL (q.map fun p => p.map rawC) t = e := by rw [← HE.out, ← HQ.out.1]; exact cnt_keep HK.out.1 HT.out.1 HGT.out
         rw [List.take_of_length_le (by rw [List.length_map, HSL.out]; exact Nat.le_refl _), hcn] at h
         rw [Hid, ← h]
         omega
        have h := HD0.out; subst h; have HVB := hid HV.out.1; clear HV HD0; go_wp2_with fail
        go_roundw
        case rel => exact ⟨k + 1, c + 1, y2, by go_num, rfl, by go_num, by omega, by omega, Below.steps HSB.out HVB.out, HNA.out, HN2.out⟩
        case measure => simp [intOf]; omega
  ·obtain rfl : k = m := by omega
   have HC0 : Hid (c = sn) := by
    have h := HS.out.2.2
    rw [List.take_of_length_le (by rw [HK.out.2.1]; exact Nat.le_refl _), ← HQ.out.2.2.1, HSL.out] at h
    exact h.symm
   have HY : Hid ((ls.all fun x => redP (plnR ps) (plnR x)) = y) := by
    have h := HS.out.2.1
    rw [List.take_of_length_le (by rw [HK.out.2.1]; exact Nat.le_refl _)] at h
    exact h
   have HSB := hid HS.out.1; have hc0 := HC0.out; subst hc0; clear HS HC0; go_wp2_with fail; refine (rby_any y (HA.out.1.below HSB.out) HP2.out.1 HP2.out.2 (HA.out.2.1.below HSB.out) HX.out.2.2 HY.out).mono ?_; rintro e w10 ⟨rfl, hB⟩; have HB10 := hid (Below.steps HSB.out hB); clear hB HSB HY; go_wp2_with fail
   go_loopw [112] (fun i wv => ∃ j : Nat, i = .int .i64 j ∧ j ≤ c ∧ Hid (Below w4.heap.size w4 wv)) (fun i _ => c - (intOf i).toNat)
   case atStart => exact ⟨0, rfl, Nat.zero_le _, HB10.out⟩
   case round =>
    obtain ⟨j, rfl, hj, HW⟩ := hrel
    by_cases hjn : j < c
    ·obtain ⟨g, xo, xn, xc, hso, _, hx, hcx⟩ := HA.out.2.2.1.at (k := j) hjn
     obtain ⟨g2, yo, yn, yc, hso2, _, hy, hcy⟩ := HA.out.2.2.2.at (k := j) hjn; subst hso; subst hso2
     have hq1 : j < q.length := by rw [HSL.out]; exact hjn
     have hf1 := HQF.out _ (getD_in [] hq1); obtain ⟨d1, hd1⟩ : ∃ d, clsP (q.getD j []) = d := ⟨_, rfl⟩; obtain ⟨d2, hd2⟩ : ∃ d, degP (q.getD j []) d1 = d := ⟨_, rfl⟩; have HG := hid (And.intro hcx hcy)
     have HXY : Hid (Pr w4 xo xn xc ((q.getD j []).map rawC) ∧ Pr w4 yo yn yc ((q.getD j []).map rawC) ∧ (∀ t ∈ (q.getD j []).map rawC, t.1.2.length ≤ 1000) ∧ clsP (plnR ((q.getD j []).map rawC)) = d1 ∧ degP (plnR ((q.getD j []).map rawC)) d1 = d2) := by
      rw [Hid, pln_raw hf1]
      exact ⟨hx.raw, hy.raw, fun t ht => Nat.le_trans (hx.lens t ht) (by omega), hd1, hd2⟩
     have hji : (j : Int) < (c : Int) := by omega
     clear hcx hcy hx hy hf1 hd1 hd2 hq1
     go_upto_region 33 with (fail)
     refine wp_region_held_drew (S := fun w' => w'.cell? ⟨g, j, none⟩ = some (.slice xo xn xc) ∧ w'.cell? ⟨g2, j, none⟩ = some (.slice yo yn yc)) (by kernel_rfl) ⟨HG.out.1 _ HW.out.drew, HG.out.2 _ HW.out.drew⟩ (fun hH => ?_)
     refine anyH_world (fun w41 hW => ?_)
     have W_41 : Hid (Below w4.heap.size w4 w41) := by rw [hW]; exact HW.out.drew
     rw [← hW] at hH; clear HW
     clear hW
     refine son 0 hH ?_; try simp only [nrm]
     refine son 1 hH ?_; try simp only [nrm]
     refine son 2 hH ?_; try simp only [nrm]
     refine son 3 hH ?_; try simp only [nrm]
     refine son 4 hH ?_; try simp only [nrm]
     refine son 5 hH ?_; try simp only [nrm]
     refine son 6 hH ?_; try simp only [nrm]
     refine son 7 hH ?_; try simp only [nrm]
     refine step_one 8 rfl (by kernel_rfl) (fun KK hK => ?_)
     go_simp; refine (psame_any true (HXY.out.1.below W_41.out) (HXY.out.2.1.below W_41.out) (decide_eq_true rfl)).mono ?_
     rintro e w42 ⟨rfl, hB⟩; have W_42 := hid (Below.steps W_41.out hB); clear hB W_41; go_wp2_with fail
     clear hH; refine hK.out _ _ ⟨HG.out.1 _ W_42.out, HG.out.2 _ W_42.out⟩ fun hH => ?_; clear hK KK
     try simp only [nrm]
     refine son 9 hH ?_; try simp only [nrm]
     refine son 10 hH ?_; try simp only [nrm]
     refine son 11 hH ?_; try simp only [nrm]
     refine son 12 hH ?_; try simp only [nrm]
     refine son 13 hH ?_; try simp only [nrm]
     refine son 14 hH ?_; try simp only [nrm]
     refine son 16 hH ?_; try simp only [nrm]
     refine son 17 hH ?_; try simp only [nrm]
     refine son 18 hH ?_; try simp only [nrm]
     refine son 19 hH ?_; try simp only [nrm]
     refine step_one 15 rfl (by kernel_rfl) (fun KK hK => ?_)
     go_simp; refine (rof_any d1 d2 (HXY.out.1.below W_42.out) HXY.out.2.2.1 HXY.out.2.2.2.1 HXY.out.2.2.2.2).mono ?_
     rintro e w43 ⟨rfl, hB⟩; have W_43 := hid (Below.steps W_42.out hB); clear hB W_42; go_wp2_with fail
     clear hH; refine hK.out _ _ ⟨HG.out.1 _ W_43.out, HG.out.2 _ W_43.out⟩ fun hH => ?_; clear hK KK
     try simp only [nrm]
     refine step_one 20 rfl (by kernel_rfl) (fun KK hK => ?_)
     go_simp; refine (rof_any d1 d2 (HXY.out.2.1.below W_43.out) HXY.out.2.2.1 HXY.out.2.2.2.1 HXY.out.2.2.2.2).mono ?_
     rintro e w44 ⟨rfl, hB⟩; have W_44 := hid (Below.steps W_43.out hB); clear hB W_43; go_wp2_with fail
     clear hH; refine hK.out _ _ ⟨HG.out.1 _ W_44.out, HG.out.2 _ W_44.out⟩ fun hH => ?_; clear hK KK
     try simp only [nrm]
     refine son 21 hH ?_; try simp only [nrm]
     refine son 22 hH ?_; try simp only [nrm]
     refine wpAnyH_done (by kernel_rfl) ?_ _
     go_wp2_with fail
     go_roundw
     case rel => exact ⟨j + 1, by go_num, by omega, W_44.out⟩
     case measure => simp [intOf]; omega
    ·have hji : ¬ (j : Int) < (c : Int) := by omega
     go_wp2_with fail; refine (known15_any _).mono ?_
     rintro e w50 ⟨rfl, hB⟩; have HB50 := hid (Below.steps HB_4.out (Below.steps HW.out hB)); clear hB; go_wp2_with fail
     go_ret
     exact ⟨rfl, HB50.out⟩
theorem rankKeeps_any [Ol] {ao bo : Option Addr} {n cap m cb : Nat} {ps : List Raw} {w : World} (hlo : Ol.lo ≤ w.heap.size) (hp : Pr w ao n cap ps) (hx : (∃ f, Plx w bo m f) ∧ (m ≤ 4398046511104 → ∃ ls, Plr w bo m cb ls)) :
  Calls Try.prog 5 #[.slice ao n cap, .slice bo m cb] w (RetB (.bool true) w) := by
 by_cases h1 : Grt 1 (fun k => [ps].getD k [])
 ·exact rankKeeps_great1 hp h1
 ·rcases hnd_of hx with ⟨f, hf, hg⟩ | ⟨ls, p0, s0⟩
  ·exact rankKeeps_great2 hp h1 hf hg
  ·exact rankKeeps_main hlo hp h1 p0 s0
end Go.Proofs.Ytmmgipcacceakaa
