/-
  The contracts of the reference's Coefficients and Build.
-/
import Derived.Test.YtdgpnfjohijpeaaGreatVPz
import Derived.Test.YtdgpnfjohijpeaaGreatVCoefU
set_option maxHeartbeats 40000000
set_option maxRecDepth 100000
namespace Go.Proofs.YtdgpnfjohijpeaaGreat
open Lib (hid)
open Go.RowKit
theorem ofT_length (l : List Term) : (ofT l).length ≤ l.length := by
 have := addT_length [] l
 simpa [ofT] using this
def NewPlz (K : Nat) (w : World) (ls : List (List Term)) (e : Ending) (w' : World) : Prop := ∃ ro rn rc, e = .returned (.slice ro rn rc) ∧ rn = ls.length ∧ Plz w.heap.size K w' ro rn rc ls ∧ Below w.heap.size w w'
theorem rCoefs_any {K : Nat} {ao : Option Addr} {n cap : Nat} {p : List Term} {w : World} (v : Int) (hp : Pz K w ao n cap p) (hf : fall p) (hn : n ≤ 1000) (hK : K ≤ 1000) (d : Nat) (hd : degP p v = d) : Calls Tryz.prog 15 #[.slice ao n cap, .int .i64 v] w (NewPlz (K + n) w (coefU p v d)) := by
 have hd4 : d ≤ 10000 := by have := degP_le (fall_mays hf) v; omega
 have hle := hp.le; have hpl := hp.len; have HP := hid hp; have HF := hid hf; have HD := hid hd
 by_cases h0 : p = []
 ·subst h0
  obtain rfl : n = 0 := by simpa using hpl.symm
  have hd0 : d = 0 := by have h := hd; simp [degP] at h; omega
  subst hd0; clear hp hf hd hpl
  go_enter Tryz.func15, Tryz.ntmps15
  go_wp2
  go_loopw [5, 6] (fun t i wr => t = .slice none 0 0 ∧ i = .int .i64 0 ∧ Hid (Below w.heap.size w wr)) (fun _ _ _ => 0)
  case atStart => exact ⟨rfl, rfl, Below.refl _ _⟩
  case round =>
   obtain ⟨rfl, rfl, HB⟩ := hrel; go_wp2_with fail; refine (rdeg_any v 0 (HP.out.below HB.out) HF.out HD.out).mono ?_; rintro x V1 ⟨rfl, hB⟩; have HB1 := hid (Below.steps HB.out hB); clear hB HB; go_wp2_with fail
   go_ret
   exact ⟨none, 0, 0, rfl, rfl, Plz.nil _ _ _, HB1.out⟩
 ·have hn0 : 0 < n := by rw [← hpl]; exact List.length_pos_iff.2 h0
  have HU : Hid (coefU p v d = coefL p v d) := coefU_cons h0 v d
  have HS0 : Hid (Plz w.heap.size (K + n) w none 0 0 ((coefL p v d).take 0) ∧ Below w.heap.size w w) := ⟨by rw [List.take_zero]; exact Plz.nil _ _ _, Below.refl _ _⟩
  clear hp hf hd hpl h0
  go_enter Tryz.func15, Tryz.ntmps15
  go_wp2
  go_loopw [5, 6] (fun t i wr => ∃ (k : Nat) (ro : Option Addr) (rc : Nat), t = .slice ro k rc ∧ i = .int .i64 k ∧ k ≤ d + 1 ∧ Hid (Plz w.heap.size (K + n) wr ro k rc ((coefL p v d).take k) ∧ Below w.heap.size w wr)) (fun _ i _ => d + 1 - (intOf i).toNat)
  case atStart => exact ⟨0, none, 0, rfl, rfl, Nat.zero_le _, HS0.out⟩
  case round =>
   clear HS0; obtain ⟨k, ro, rc, rfl, rfl, hk, HS⟩ := hrel
   by_cases hkn : k ≤ d
   ·have hki : (k : Int) ≤ (d : Int) := by omega
    go_wp2_with fail; refine (rdeg_any v d (HP.out.below HS.out.2) HF.out HD.out).mono ?_
    rintro x V1 ⟨rfl, hB⟩
    have HS1 : Hid (Plz w.heap.size (K + n) V1 ro k rc ((coefL p v d).take k) ∧ Below w.heap.size w V1) := ⟨HS.out.1.below hB, Below.steps HS.out.2 hB⟩
    clear hB HS; go_wp2_with fail; refine (rcoef_any v k (HP.out.below HS1.out.2) HF.out hn hK).mono ?_; rintro x V2 ⟨xo, xn, xc, rfl, hX, hB⟩
    have HS2 : Hid (Plz w.heap.size (K + n) V2 ro k rc ((coefL p v d).take k) ∧ Below w.heap.size w V2) := ⟨HS1.out.1.below hB, Below.steps HS1.out.2 hB⟩
    have htk : (coefL p v d).take (k + 1) = (coefL p v d).take k ++ [coefP p v (k : Nat)] := by rw [List.take_succ_eq_append_getElem (by rw [coefL_len]; omega), ← getD_of [] (by rw [coefL_len]; omega), coefL_get (by omega)]
    have HTK := hid htk
    obtain ⟨v8, W8, hr8, hps⟩ := plz_push HS2.out.1 hX HS2.out.2.size (by omega) 31 28
    have HPU := hid hps; clear hps hX hB HS1 htk
    go_wp2_with (at_builtin; refine wpList_append_of rfl (.tmp 19) (.tmp 24) 28 28 rfl _ _ rfl rfl hr8 ?_)
    clear hr8; obtain ⟨ro8, rc8, rfl, hp1, hp2⟩ := HPU.out
    have HN : Hid (Plz w.heap.size (K + n) W8 ro8 (k + 1) rc8 ((coefL p v d).take (k + 1)) ∧ Below w.heap.size w W8) := by rw [HTK.out]; exact ⟨hp1, HS2.out.2.grown hp2 HS2.out.2.size fun r e => (HS2.out.1.own r e).1⟩
    clear hp1 hp2 HPU HS2 HTK
    try go_wp2
    go_roundw
    case rel => exact ⟨k + 1, ro8, rc8, rfl, by go_num, by omega, HN.out⟩
    case measure => simp [intOf]; omega
   ·obtain rfl : k = d + 1 := by omega
    have hki : ¬ ((d : Int) + 1) ≤ (d : Int) := by omega
    go_wp2_with fail; refine (rdeg_any v d (HP.out.below HS.out.2) HF.out HD.out).mono ?_
    rintro x V1 ⟨rfl, hB⟩
    have HR : Hid (NewPlz (K + n) w (coefL p v d) (.returned (.slice ro (d + 1) rc)) V1) := by
     have h := HS.out.1.below hB
     rw [List.take_of_length_le (by rw [coefL_len]; exact Nat.le_refl _)] at h
     exact ⟨_, _, _, rfl, (coefL_len p v d).symm, h, Below.steps HS.out.2 hB⟩
    clear hB HS; go_wp2_with fail
    go_ret
    rw [HU.out]
    exact HR.out
theorem rBuild_any {B K m : Nat} {ao : Option Addr} {n cap : Nat} {ls : List (List Term)} {w : World} {v : Int} (hv : 1 ≤ v ∧ v ≤ 200) (h : Plz B K w ao n cap ls) (hf : ∀ p ∈ ls, fall p) (hm : ∀ p ∈ ls, p.length ≤ m) (hn : n ≤ 100) (hnm : n * m ≤ 1000) (hmm : m ≤ 1000) (hK : K ≤ 1000) (hok : bldOk v ls n) :
  Calls Tryz.prog 11 #[.slice ao n cap, .int .i64 v] w (NewPB (K + 3 + m + n * m) w (ofT (bldK v ls n)) true) := by
 have HP := hid h; have HPL := hid h.len; have HF := hid hf; have HM := hid hm; have HV := hid hv
 have HV64 : Hid (in64 v) := by unfold Hid in64; omega
 have HOK := hid hok
 have HS0 : Hid (Pz (K + 3 + m + 0 * m) w none 0 0 (ofT (bldK v ls 0)) ∧ bldOk v ls 0 ∧ Below w.heap.size w w) := ⟨Pz.zero _ _, (fun i hi => by omega), Below.refl _ _⟩
 clear h hf hm hok
 go_enter Tryz.func11, Tryz.ntmps11
 go_wp2
 go_loopw [6, 7] (fun t i wr => ∃ (k : Nat) (ro : Option Addr) (rn rc : Nat), t = .slice ro rn rc ∧ i = .int .i64 k ∧ k ≤ n ∧ Hid (Pz (K + 3 + m + k * m) wr ro rn rc (ofT (bldK v ls k)) ∧ bldOk v ls k ∧ Below w.heap.size w wr)) (fun _ i _ => n - (intOf i).toNat)
 case atStart => exact ⟨0, none, 0, 0, rfl, rfl, Nat.zero_le _, HS0.out⟩
 case round =>
  clear HS0; obtain ⟨k, ro, rn, rc, rfl, rfl, hk, HS⟩ := hrel
  by_cases hkn : k < n
  ·obtain ⟨g, po, pn, pc, hao, hg, hq, hcl⟩ := (HP.out.below HS.out.2.2).at hkn
   subst hao
   have hkl : k < ls.length := by rw [HPL.out]; exact hkn
   obtain ⟨q, hqq⟩ : ∃ q, q = ls.getD k [] := ⟨_, rfl⟩; rw [← hqq] at hq
   have hqm : q ∈ ls := by rw [hqq]; exact getD_in [] hkl
   have hqf := HF.out q hqm; have hql := HM.out q hqm
   have hpn : pn ≤ m := by have := hq.len; omega
   have HC := hid hcl; have HQ := hid (And.intro hqq hqf); have HQZ := hid hq
   have hki : (k : Int) < (n : Int) := by omega
   have h64 : in64 (k : Int) := by unfold in64; omega
   have hpm : mays (powP v k) := fall_mays (powP_fall HV.out ⟨by omega, by omega⟩)
   have HPM := hid hpm; clear hcl hqq hqm hqf hql hq hg hpm hkl
   go_upto_region 5 with (fail)
   refine wp_region_held_drew (S := fun w' => w'.cell? ⟨g, k, none⟩ = some (.slice po pn pc)) (by kernel_rfl) (HC.out _ (Below.refl _ _).drew) (fun hH => ?_)
   refine anyH_world (fun V0 hW => ?_)
   have dr : Below wr.heap.size wr V0 := by rw [hW]; exact (Below.refl _ _).drew
   rw [← hW] at hH; have B0 := hid dr
   clear dr; clear hW
   refine son 0 hH ?_; try simp only [nrm]
   refine son 1 hH ?_; try simp only [nrm]
   refine son 2 hH ?_; try simp only [nrm]
   refine son 3 hH ?_; try simp only [nrm]
   refine son 4 hH ?_; try simp only [nrm]
   refine son 5 hH ?_; try simp only [nrm]
   refine step_one 6 rfl (by kernel_rfl) (fun KK hK => ?_)
   go_simp; refine (rpow_any HV64.out h64 _).mono ?_
   rintro e V1 ⟨xo, xn, xc, rfl, hX, hB⟩; have B1 := hid (Below.steps B0.out hB); have X1 := hid hX
   have hxn : xn = 1 := hX.len.symm
   subst hxn; clear hX hB B0; go_wp2_with fail
   clear hH; refine hK.out _ _ (HC.out _ B1.out) fun hH => ?_; clear hK KK
   try simp only [nrm]
   refine step_one 7 rfl (by kernel_rfl) (fun KK hK => ?_)
   go_simp
   refine (times_any8 (HQZ.out.below B1.out) X1.out (fall_mays HQ.out.2) HPM.out (by omega)).mono ?_
   rintro e V2 ⟨yo, yn, yc, rfl, hY, hB⟩; have B2 := hid (Below.steps B1.out hB); obtain ⟨ok, hok⟩ : ∃ ok, (tryT q (powP v k)).2 = ok := ⟨_, rfl⟩; rw [hok]; have HOKE := hid hok; have Y2 := hid hY; clear hY hB B1 hok X1; go_wp2_with fail
   clear hH; refine hK.out _ _ (HC.out _ B2.out) fun hH => ?_; clear hK KK
   try simp only [nrm]
   refine son 8 hH ?_; try simp only [nrm]
   refine son 9 hH ?_; try simp only [nrm]
   refine son 10 hH ?_; try simp only [nrm]
   refine son 11 hH ?_; try simp only [nrm]
   refine son 12 hH ?_; try simp only [nrm]
   refine wpAnyH_done (by kernel_rfl) ?_ _
   cases ok with
   | true =>
    have hfit : fitT q (powP v k) := Classical.byContradiction fun g => by have h := HOKE.out; rw [tryT_no g] at h; exact Bool.noConfusion h
    have e8 : ofT (bldK v ls (k + 1)) = addT (ofT (bldK v ls k)) (tryT q (powP v k)).1 := by rw [bld_next, ← HQ.out.1]; rfl
    have o8 : bldOk v ls (k + 1) := bldOk_next.2 ⟨HS.out.2.1, by rw [← HQ.out.1]; exact hfit⟩
    have hyl := Y2.out.len
    have hyl2 : (tryT q (powP v k)).1.length ≤ q.length * 1 := tryT_length q _
    have hql := HQZ.out.len
    have hym : yn ≤ m := by omega
    have hmy : mays (tryT q (powP v k)).1 := fall_mays (tryT_fall (fall_mays HQ.out.2) HPM.out)
    have hfo : fall (ofT (bldK v ls k)) := (ofT_spec (bld_mays HV.out HF.out k (by rw [HPL.out]; omega) (by omega))).1
    have hrl := HS.out.1.len
    have hrl2 : (ofT (bldK v ls k)).length ≤ k * m := Nat.le_trans (ofT_length _) (bld_len HM.out k (by rw [HPL.out]; omega))
    have hkm : k * m ≤ n * m := Nat.mul_le_mul_right _ (by omega)
    have hkm2 : (k + 1) * m = k * m + m := by rw [Nat.add_mul, Nat.one_mul]
    have HMF := hid (And.intro hmy hfo); have HE8 := hid (And.intro e8 o8)
    have hrn : rn ≤ k * m := by omega
    clear e8 o8 hmy hfo hrl hrl2 hyl hyl2 hql; go_wp2_with fail
    refine (add_any8 (K := K + 3 + m + k * m) (HS.out.1.below B2.out) (Y2.out.mono (by omega)) HMF.out.2 HMF.out.1 (by omega) (by omega)).mono ?_
    rintro x V3 ⟨zo, zn, zc, rfl, hZ, hB⟩; rw [← HE8.out.1] at hZ
    have HN : Hid (Pz (K + 3 + m + (k + 1) * m) V3 zo zn zc (ofT (bldK v ls (k + 1))) ∧ bldOk v ls (k + 1) ∧ Below w.heap.size w V3) := ⟨hZ.mono (by omega), HE8.out.2, Below.steps (Below.steps HS.out.2.2 B2.out) hB⟩
    clear hZ hB HE8 HMF; go_wp2_with fail
    go_roundw
    case rel => exact ⟨k + 1, zo, zn, zc, rfl, by go_num, by omega, HN.out⟩
    case measure => simp [intOf]; omega
   | false =>
    have hnf : ¬ fitT q (powP v k) := fun g => by have h := HOKE.out; rw [tryT_yes g] at h; exact Bool.noConfusion h
    exact absurd (by have h := HOK.out k (by omega); rw [← HQ.out.1] at h; exact h) hnf
  ·obtain rfl : k = n := by omega
   have HR : Hid (NewPB (K + 3 + m + k * m) w (ofT (bldK v ls k)) true (.returned (.tuple #[.slice ro rn rc, .bool true])) wr) := ⟨_, _, _, rfl, HS.out.1, HS.out.2.2⟩
   go_wp2_with fail
   go_ret2
   exact HR.out
theorem rBuild_bad {B K m : Nat} {ao : Option Addr} {n cap : Nat} {ls : List (List Term)} {w : World} {v : Int} (hv : 1 ≤ v ∧ v ≤ 200) (h : Plz B K w ao n cap ls) (hf : ∀ p ∈ ls, fall p) (hm : ∀ p ∈ ls, p.length ≤ m) (hn : n ≤ 100) (hnm : n * m ≤ 1000) (hmm : m ≤ 1000) (hK : K ≤ 1000) (hok : ¬ bldOk v ls n) :
  Calls Tryz.prog 11 #[.slice ao n cap, .int .i64 v] w (NewPB 0 w [] false) := by
 have HP := hid h; have HPL := hid h.len; have HF := hid hf; have HM := hid hm; have HV := hid hv
 have HV64 : Hid (in64 v) := by unfold Hid in64; omega
 have HOK := hid hok
 have HS0 : Hid (Pz (K + 3 + m + 0 * m) w none 0 0 (ofT (bldK v ls 0)) ∧ bldOk v ls 0 ∧ Below w.heap.size w w) := ⟨Pz.zero _ _, (fun i hi => by omega), Below.refl _ _⟩
 clear h hf hm hok
 go_enter Tryz.func11, Tryz.ntmps11
 go_wp2
 go_loopw [6, 7] (fun t i wr => ∃ (k : Nat) (ro : Option Addr) (rn rc : Nat), t = .slice ro rn rc ∧ i = .int .i64 k ∧ k ≤ n ∧ Hid (Pz (K + 3 + m + k * m) wr ro rn rc (ofT (bldK v ls k)) ∧ bldOk v ls k ∧ Below w.heap.size w wr)) (fun _ i _ => n - (intOf i).toNat)
 case atStart => exact ⟨0, none, 0, 0, rfl, rfl, Nat.zero_le _, HS0.out⟩
 case round =>
  clear HS0; obtain ⟨k, ro, rn, rc, rfl, rfl, hk, HS⟩ := hrel
  by_cases hkn : k < n
  ·obtain ⟨g, po, pn, pc, hao, hg, hq, hcl⟩ := (HP.out.below HS.out.2.2).at hkn
   subst hao
   have hkl : k < ls.length := by rw [HPL.out]; exact hkn
   obtain ⟨q, hqq⟩ : ∃ q, q = ls.getD k [] := ⟨_, rfl⟩; rw [← hqq] at hq
   have hqm : q ∈ ls := by rw [hqq]; exact getD_in [] hkl
   have hqf := HF.out q hqm; have hql := HM.out q hqm
   have hpn : pn ≤ m := by have := hq.len; omega
   have HC := hid hcl; have HQ := hid (And.intro hqq hqf); have HQZ := hid hq
   have hki : (k : Int) < (n : Int) := by omega
   have h64 : in64 (k : Int) := by unfold in64; omega
   have hpm : mays (powP v k) := fall_mays (powP_fall HV.out ⟨by omega, by omega⟩)
   have HPM := hid hpm; clear hcl hqq hqm hqf hql hq hg hpm hkl
   go_upto_region 5 with (fail)
   refine wp_region_held_drew (S := fun w' => w'.cell? ⟨g, k, none⟩ = some (.slice po pn pc)) (by kernel_rfl) (HC.out _ (Below.refl _ _).drew) (fun hH => ?_)
   refine anyH_world (fun V0 hW => ?_)
   have dr : Below wr.heap.size wr V0 := by rw [hW]; exact (Below.refl _ _).drew
   rw [← hW] at hH; have B0 := hid dr
   clear dr; clear hW
   refine son 0 hH ?_; try simp only [nrm]
   refine son 1 hH ?_; try simp only [nrm]
   refine son 2 hH ?_; try simp only [nrm]
   refine son 3 hH ?_; try simp only [nrm]
   refine son 4 hH ?_; try simp only [nrm]
   refine son 5 hH ?_; try simp only [nrm]
   refine step_one 6 rfl (by kernel_rfl) (fun KK hK => ?_)
   go_simp; refine (rpow_any HV64.out h64 _).mono ?_
   rintro e V1 ⟨xo, xn, xc, rfl, hX, hB⟩; have B1 := hid (Below.steps B0.out hB); have X1 := hid hX
   have hxn : xn = 1 := hX.len.symm
   subst hxn; clear hX hB B0; go_wp2_with fail
   clear hH; refine hK.out _ _ (HC.out _ B1.out) fun hH => ?_; clear hK KK
   try simp only [nrm]
   refine step_one 7 rfl (by kernel_rfl) (fun KK hK => ?_)
   go_simp
   refine (times_any8 (HQZ.out.below B1.out) X1.out (fall_mays HQ.out.2) HPM.out (by omega)).mono ?_
   rintro e V2 ⟨yo, yn, yc, rfl, hY, hB⟩; have B2 := hid (Below.steps B1.out hB); obtain ⟨ok, hok⟩ : ∃ ok, (tryT q (powP v k)).2 = ok := ⟨_, rfl⟩; rw [hok]; have HOKE := hid hok; have Y2 := hid hY; clear hY hB B1 hok X1; go_wp2_with fail
   clear hH; refine hK.out _ _ (HC.out _ B2.out) fun hH => ?_; clear hK KK
   try simp only [nrm]
   refine son 8 hH ?_; try simp only [nrm]
   refine son 9 hH ?_; try simp only [nrm]
   refine son 10 hH ?_; try simp only [nrm]
   refine son 11 hH ?_; try simp only [nrm]
   refine son 12 hH ?_; try simp only [nrm]
   refine wpAnyH_done (by kernel_rfl) ?_ _
   cases ok with
   | true =>
    have hfit : fitT q (powP v k) := Classical.byContradiction fun g => by have h := HOKE.out; rw [tryT_no g] at h; exact Bool.noConfusion h
    have e8 : ofT (bldK v ls (k + 1)) = addT (ofT (bldK v ls k)) (tryT q (powP v k)).1 := by rw [bld_next, ← HQ.out.1]; rfl
    have o8 : bldOk v ls (k + 1) := bldOk_next.2 ⟨HS.out.2.1, by rw [← HQ.out.1]; exact hfit⟩
    have hyl := Y2.out.len
    have hyl2 : (tryT q (powP v k)).1.length ≤ q.length * 1 := tryT_length q _
    have hql := HQZ.out.len
    have hym : yn ≤ m := by omega
    have hmy : mays (tryT q (powP v k)).1 := fall_mays (tryT_fall (fall_mays HQ.out.2) HPM.out)
    have hfo : fall (ofT (bldK v ls k)) := (ofT_spec (bld_mays HV.out HF.out k (by rw [HPL.out]; omega) (by omega))).1
    have hrl := HS.out.1.len
    have hrl2 : (ofT (bldK v ls k)).length ≤ k * m := Nat.le_trans (ofT_length _) (bld_len HM.out k (by rw [HPL.out]; omega))
    have hkm : k * m ≤ n * m := Nat.mul_le_mul_right _ (by omega)
    have hkm2 : (k + 1) * m = k * m + m := by rw [Nat.add_mul, Nat.one_mul]
    have HMF := hid (And.intro hmy hfo); have HE8 := hid (And.intro e8 o8)
    have hrn : rn ≤ k * m := by omega
    clear e8 o8 hmy hfo hrl hrl2 hyl hyl2 hql; go_wp2_with fail
    refine (add_any8 (K := K + 3 + m + k * m) (HS.out.1.below B2.out) (Y2.out.mono (by omega)) HMF.out.2 HMF.out.1 (by omega) (by omega)).mono ?_
    rintro x V3 ⟨zo, zn, zc, rfl, hZ, hB⟩; rw [← HE8.out.1] at hZ
    have HN : Hid (Pz (K + 3 + m + (k + 1) * m) V3 zo zn zc (ofT (bldK v ls (k + 1))) ∧ bldOk v ls (k + 1) ∧ Below w.heap.size w V3) := ⟨hZ.mono (by omega), HE8.out.2, Below.steps (Below.steps HS.out.2.2 B2.out) hB⟩
    clear hZ hB HE8 HMF; go_wp2_with fail
    go_roundw
    case rel => exact ⟨k + 1, zo, zn, zc, rfl, by go_num, by omega, HN.out⟩
    case measure => simp [intOf]; omega
   | false =>
    have hnf : ¬ fitT q (powP v k) := fun g => by have h := HOKE.out; rw [tryT_yes g] at h; exact Bool.noConfusion h
    have HB := hid (Below.steps HS.out.2.2 B2.out); go_wp2_with fail
    go_ret2
    exact ⟨none, 0, 0, rfl, Pz.zero _ _, HB.out⟩
  ·obtain rfl : k = n := by omega
   exact absurd HS.out.2.1 HOK.out
end Go.Proofs.YtdgpnfjohijpeaaGreat
