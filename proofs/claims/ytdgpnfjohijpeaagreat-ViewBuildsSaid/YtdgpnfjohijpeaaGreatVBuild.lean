/-
  The contract of view.Build.
-/
import Derived.Test.YtdgpnfjohijpeaaGreatVBuildP
import Derived.Test.YtdgpnfjohijpeaaGreatVLp
import Derived.Test.YtdgpnfjohijpeaaGreatVJoin
import Derived.Test.YtdgpnfjohijpeaaGreatGPc
set_option maxHeartbeats 40000000
set_option maxRecDepth 100000
namespace Go.Proofs.YtdgpnfjohijpeaaGreat
open Lib (hid)
open Go.RowKit
theorem Ow.own {B K : Nat} {w : World} {ao : Option Addr} {n cap : Nat} {p : List Term} (h : Ow B K w ao n cap p) : ∀ r, (Value.slice ao n cap).ownBlock = some r → B ≤ r := fun r e => by
 obtain ⟨Z, h1, _⟩ := h; rw [blk_own] at e
 exact (h1.rw.lt r e).1
theorem vbuild_any {K KM m n9 : Nat} {ao : Option Addr} {n cap : Nat} {ls : List (List Term)} {w : World} {v : Int} (hv : 1 ≤ v ∧ v ≤ 200) (h : Plr w ao n cap (ls.map fun p => p.map rawC)) (hl : ∀ p ∈ ls, ∀ t ∈ p.map rawC, t.1.2.length ≤ K) (hf : ∀ p ∈ ls, fall p) (hm : ∀ p ∈ ls, p.length ≤ m) (hn : n ≤ 10001) (hnm : n * m ≤ n9) (hn9 : n9 ≤ 100000) (hmm : m ≤ 100000) (hK : K ≤ 800) (hKM : K + 1 + 1 + (K + 1 + 1) + m + 1 ≤ KM) (hKM2 : KM ≤ 400000)
  (hok : bldOk v ls n) :
  Calls Tryz.prog 10 #[.slice ao n cap, .int .i64 v] w (PE (KM + n9) w (ofT (bldK v ls n)) 0) := by
 have HP := hid h
 have HPL : Hid (ls.length = n) := by have := h.len; rw [List.length_map] at this; exact this
 have HL := hid hl; have HF := hid hf; have HM := hid hm; have HOK := hid hok; have HV := hid hv
 have HV64 : Hid (in64 v) := by unfold Hid in64; omega
 have hva : (decide (1 ≤ v) && decide (v ≤ 200)) = true := by simp [hv.1, hv.2]
 have hpl := HPL.out
 have HAR : Hid (allR (ls.map fun p => p.map rawC) = true) := by
  unfold Hid allR
  rw [List.all_eq_true]
  intro x hx
  obtain ⟨p, hp, rfl⟩ := List.mem_map.1 hx
  exact mayR_rawC (hf p hp)
 have HL2 : Hid (∀ ps ∈ ls.map (fun p => p.map rawC), ∀ t ∈ ps, t.1.2.length ≤ 1000) := fun ps hps t ht => by
  obtain ⟨p, hp, rfl⟩ := List.mem_map.1 hps
  exact Nat.le_trans (hl p hp t ht) (by omega)
 clear h hl hf hm hok
 go_enter Tryz.func10, Tryz.ntmps10
 go_wp2_with fail; refine (mayBuild_any true v hva HP.out HL2.out hn HAR.out).mono ?_
 rintro e w1 ⟨rfl, hB⟩
 have HS0 : Hid (Ow w.heap.size KM w1 none 0 0 (bldK v ls 0) ∧ bldOk v ls 0 ∧ Below w.heap.size w w1) := ⟨Ow.nil _ _ _, fun i hi => by omega, hB⟩
 clear hB HAR HL2
 go_wp2
 go_loopw [6, 16] (fun t i wr => ∃ (k : Nat) (ro : Option Addr) (rn rc : Nat), t = .slice ro rn rc ∧ i = .int .i64 k ∧ k ≤ n ∧ Hid (Ow w.heap.size KM wr ro rn rc (bldK v ls k) ∧ bldOk v ls k ∧ Below w.heap.size w wr)) (fun _ i _ => n - (intOf i).toNat)
 case atStart => exact ⟨0, none, 0, 0, rfl, rfl, Nat.zero_le _, HS0.out⟩
 case round =>
  clear HS0; obtain ⟨k, ro, rn, rc, rfl, rfl, hk, HS⟩ := hrel
  by_cases hkn : k < n
  ·obtain ⟨b, off, po, pn, pc, hao, hb, hc, hp⟩ := (HP.out.below HS.out.2.2).at hkn
   subst hao
   have hkl : k < ls.length := by rw [HPL.out]; exact hkn
   rw [getD_map (fun p : List Term => p.map rawC) [] [] ls k hkl] at hp
   obtain ⟨q, hq⟩ : ∃ q, q = ls.getD k [] := ⟨_, rfl⟩
   have hqm : q ∈ ls := by rw [hq]; exact getD_in [] hkl
   rw [← hq] at hp; have hqf := HF.out q hqm
   have hql := HL.out q hqm
   have hpn : pn = q.length := by have := hp.len; rw [List.length_map] at this; exact this.symm
   have hpm : pn ≤ m := by rw [hpn]; exact HM.out q hqm
   have hlen := bld_len (v := v) HM.out k (by omega)
   have hrl := HS.out.1.pc.len
   have hkm : (k + 1) * m ≤ n * m := Nat.mul_le_mul_right _ hkn
   rw [Nat.add_mul, Nat.one_mul] at hkm; have HPC := hid (Pr.pc (p := q) hp hql)
   have HQ := hid (And.intro hq hqf); have HC := hid hc
   have hki : (k : Int) < (n : Int) := by omega
   have hrn : rn ≤ k * m := by omega
   have h64 : in64 (k : Int) := by unfold in64; omega
   obtain ⟨y, hy⟩ : ∃ y, y = powM v k := ⟨_, rfl⟩
   have hym : mayM 0 y = true := by rw [hy]; exact pow_may HV.out ⟨by omega, by omega⟩
   have HY := hid (And.intro hy hym); obtain ⟨eb, heb⟩ : ∃ e, errT q [(1, y)] = e := ⟨_, rfl⟩; have HEB := hid heb; clear hc hp hq hqm hqf hql hpn hlen hrl hy hym heb
   go_upto_region 7 with (fail)
   refine wp_region_held_drew (S := fun w' => w'.cell? ⟨b, off + k, none⟩ = some (.slice po pn pc)) (by kernel_rfl) (HC.out _ (Below.refl _ _).drew) (fun hH => ?_)
   refine anyH_world (fun V0 hW => ?_)
   have dr : Below wr.heap.size wr V0 := by rw [hW]; exact (Below.refl _ _).drew
   rw [← hW] at hH; clear hW
   have B0 := hid dr; clear dr
   refine son 0 hH ?_; try simp only [nrm]
   refine son 1 hH ?_; try simp only [nrm]
   refine son 2 hH ?_; try simp only [nrm]
   refine son 3 hH ?_; try simp only [nrm]
   refine son 5 hH ?_; try simp only [nrm]
   refine son 6 hH ?_; try simp only [nrm]
   refine step_one 4 rfl (by kernel_rfl) (fun KK hK => ?_)
   go_simp
   refine (wof_any 1 _ ⟨by omega, by omega⟩).mono ?_
   rintro e V1 ⟨sm, sa, sn, sc, rfl, hX, hB⟩; have B1 := hid (Below.steps B0.out hB); have N1 := hid hX; clear hX hB B0; go_wp2_with fail
   clear hH; refine hK.out _ _ (HC.out _ B1.out) fun hH => ?_; clear hK KK
   try simp only [nrm]
   have hsn : sn ≤ 1 := N1.out.le (by unfold Bd; decide)
   refine step_one 7 rfl (by kernel_rfl) (fun KK hK => ?_)
   go_simp; refine (powerOf_any HV64.out h64 _).mono ?_
   rintro e V2 ⟨ma, mn, mc, rfl, hX, hB⟩; rw [← HY.out.1] at hX; have B2 := hid (Below.steps B1.out hB); have N2 := hid (N1.out.below hB); have M2 := hid hX; clear hX hB B1 N1; go_wp2_with fail
   clear hH; refine hK.out _ _ (HC.out _ B2.out) fun hH => ?_; clear hK KK
   try simp only [nrm]
   refine step_one 8 rfl (by kernel_rfl) (fun KK hK => ?_)
   go_simp
   refine (pshift_any (K := K + 1) ((HPC.out.below B2.out).mono (Nat.le_succ K)) HQ.out.2 (by omega) N2.out.inn (show sn ≤ K + 1 by omega) (by omega) M2.out HY.out.2).mono ?_
   rintro e V3 ⟨xo, xn, xc, rfl, hX, hB⟩
   rw [of_one HY.out.2, if_neg (by decide)] at hX ⊢
   rw [HEB.out]; have B3 := hid (Below.steps B2.out hB)
   have X3 := hid (hX.mono (show _ ≤ KM by omega))
   clear hX hB B2 N2 M2; go_wp2_with fail
   clear hH; refine hK.out _ _ (HC.out _ B3.out) fun hH => ?_; clear hK KK
   try simp only [nrm]
   refine son 9 hH ?_; try simp only [nrm]
   refine son 10 hH ?_; try simp only [nrm]
   refine son 11 hH ?_; try simp only [nrm]
   refine son 12 hH ?_; try simp only [nrm]
   refine son 13 hH ?_; try simp only [nrm]
   refine wpAnyH_done (by kernel_rfl) ?_ _
   by_cases he0 : eb = 0
   ·have hfit := err_fit (HEB.out.trans he0)
    rw [tryT_yes hfit] at X3
    have hxn : xn ≤ m := by have h1 : (timesT q [((1 : Int), y)]).length = xn := X3.out.len; have h2 : (timesT q [((1 : Int), y)]).length ≤ q.length * 1 := timesT_length q _; have h3 := HPC.out.len; omega
    have HS3 : Hid (Ow w.heap.size KM V3 ro rn rc (bldK v ls k) ∧ bldOk v ls k ∧ Below w.heap.size w V3) := ⟨HS.out.1.below B3.out, HS.out.2.1, Below.steps HS.out.2.2 B3.out⟩
    obtain ⟨v8, W8, hr8, ro8, rc8, hv8, hO8, hG8⟩ := join_run HS3.out.1 X3.out HS3.out.2.2.size (by omega) 22
    subst hv8
    have e8 : bldK v ls (k + 1) = bldK v ls k ++ timesT q [(1, y)] := by show bldK v ls k ++ _ = _; rw [← HQ.out.1, ← HY.out.1, tryT_yes hfit]
    have o8 : bldOk v ls (k + 1) := bldOk_next.2 ⟨HS3.out.2.1, by rw [← HQ.out.1, ← HY.out.1]; exact hfit⟩
    have HN : Hid (Ow w.heap.size KM W8 ro8 (rn + xn) rc8 (bldK v ls (k + 1)) ∧ bldOk v ls (k + 1) ∧ Below w.heap.size w W8) := ⟨(by rw [e8]; exact hO8), o8, HS3.out.2.2.grown hG8 HS3.out.2.2.size (fun r e => HS3.out.1.own r e)⟩
    clear e8 o8; clear hO8 hG8 HS3
    have hz : (eb != 0) = false := by rw [he0]; rfl
    go_wp2_with (at_builtin; refine wpList_append_of rfl (.tmp 34) (.tmp 35) 22 23 rfl _ _ rfl rfl hr8 ?_)
    clear hr8
    try go_wp2
    go_roundw
    case rel => exact ⟨k + 1, ro8, rn + xn, rc8, rfl, by go_num, by omega, HN.out⟩
    case measure => simp [intOf]; omega
   ·have hnf : ¬ fitT q [(1, y)] := fun g => he0 (HEB.out.symm.trans (err_yes g))
    exact absurd (by have h := HOK.out k (by omega); rwa [← HQ.out.1, ← HY.out.1] at h) hnf
  ·obtain rfl : k = n := by omega
   have hlen := bld_len (v := v) HM.out k (by omega)
   have hrl := HS.out.1.pc.len
   have hmy : mays (bldK v ls k) := bld_mays HV.out HF.out k (by omega) (by omega)
   have HMY := hid hmy; clear hmy; go_wp2_with fail
   refine (pof_any HS.out.1.pc.inn HMY.out (by omega) (by omega)).mono ?_
   rintro e w9 ⟨ra, rn9, rc9, rfl, h1, h2⟩
   have HR : Hid (PE (KM + n9) w (ofT (bldK v ls k)) 0 (.returned (.tuple #[.slice ra rn9 rc9, .int .i64 0])) w9) := ⟨_, _, _, rfl, h1.mono (by omega), Below.steps HS.out.2.2 h2⟩
   clear h1 h2; go_wp2_with fail
   go_ret2
   exact HR.out
theorem vbuild_exp {K KM m n9 : Nat} {ao : Option Addr} {n cap : Nat} {ls : List (List Term)} {w : World} {v : Int} (hv : 1 ≤ v ∧ v ≤ 200) (h : Plr w ao n cap (ls.map fun p => p.map rawC)) (hl : ∀ p ∈ ls, ∀ t ∈ p.map rawC, t.1.2.length ≤ K) (hf : ∀ p ∈ ls, fall p) (hm : ∀ p ∈ ls, p.length ≤ m) (hn : n ≤ 10001) (hnm : n * m ≤ n9) (hn9 : n9 ≤ 100000) (_hmm : m ≤ 100000) (hK : K ≤ 800) (hKM : K + 1 + 1 + (K + 1 + 1) + m + 1 ≤ KM) (_hKM2 : KM ≤ 400000)
  (hok : ¬ bldOk v ls n) :
  Calls Tryz.prog 10 #[.slice ao n cap, .int .i64 v] w (PE 0 w [] 8) := by
 have HP := hid h
 have HPL : Hid (ls.length = n) := by have := h.len; rw [List.length_map] at this; exact this
 have HL := hid hl; have HF := hid hf; have HM := hid hm; have HOK := hid hok; have HV := hid hv
 have HV64 : Hid (in64 v) := by unfold Hid in64; omega
 have hva : (decide (1 ≤ v) && decide (v ≤ 200)) = true := by simp [hv.1, hv.2]
 have hpl := HPL.out
 have HAR : Hid (allR (ls.map fun p => p.map rawC) = true) := by
  unfold Hid allR
  rw [List.all_eq_true]
  intro x hx
  obtain ⟨p, hp, rfl⟩ := List.mem_map.1 hx
  exact mayR_rawC (hf p hp)
 have HL2 : Hid (∀ ps ∈ ls.map (fun p => p.map rawC), ∀ t ∈ ps, t.1.2.length ≤ 1000) := fun ps hps t ht => by
  obtain ⟨p, hp, rfl⟩ := List.mem_map.1 hps
  exact Nat.le_trans (hl p hp t ht) (by omega)
 clear h hl hf hm hok
 go_enter Tryz.func10, Tryz.ntmps10
 go_wp2_with fail; refine (mayBuild_any true v hva HP.out HL2.out hn HAR.out).mono ?_
 rintro e w1 ⟨rfl, hB⟩
 have HS0 : Hid (Ow w.heap.size KM w1 none 0 0 (bldK v ls 0) ∧ bldOk v ls 0 ∧ Below w.heap.size w w1) := ⟨Ow.nil _ _ _, fun i hi => by omega, hB⟩
 clear hB HAR HL2
 go_wp2
 go_loopw [6, 16] (fun t i wr => ∃ (k : Nat) (ro : Option Addr) (rn rc : Nat), t = .slice ro rn rc ∧ i = .int .i64 k ∧ k ≤ n ∧ Hid (Ow w.heap.size KM wr ro rn rc (bldK v ls k) ∧ bldOk v ls k ∧ Below w.heap.size w wr)) (fun _ i _ => n - (intOf i).toNat)
 case atStart => exact ⟨0, none, 0, 0, rfl, rfl, Nat.zero_le _, HS0.out⟩
 case round =>
  clear HS0; obtain ⟨k, ro, rn, rc, rfl, rfl, hk, HS⟩ := hrel
  by_cases hkn : k < n
  ·obtain ⟨b, off, po, pn, pc, hao, hb, hc, hp⟩ := (HP.out.below HS.out.2.2).at hkn
   subst hao
   have hkl : k < ls.length := by rw [HPL.out]; exact hkn
   rw [getD_map (fun p : List Term => p.map rawC) [] [] ls k hkl] at hp
   obtain ⟨q, hq⟩ : ∃ q, q = ls.getD k [] := ⟨_, rfl⟩
   have hqm : q ∈ ls := by rw [hq]; exact getD_in [] hkl
   rw [← hq] at hp; have hqf := HF.out q hqm
   have hql := HL.out q hqm
   have hpn : pn = q.length := by have := hp.len; rw [List.length_map] at this; exact this.symm
   have hpm : pn ≤ m := by rw [hpn]; exact HM.out q hqm
   have hlen := bld_len (v := v) HM.out k (by omega)
   have hrl := HS.out.1.pc.len
   have hkm : (k + 1) * m ≤ n * m := Nat.mul_le_mul_right _ hkn
   rw [Nat.add_mul, Nat.one_mul] at hkm; have HPC := hid (Pr.pc (p := q) hp hql)
   have HQ := hid (And.intro hq hqf); have HC := hid hc
   have hki : (k : Int) < (n : Int) := by omega
   have hrn : rn ≤ k * m := by omega
   have h64 : in64 (k : Int) := by unfold in64; omega
   obtain ⟨y, hy⟩ : ∃ y, y = powM v k := ⟨_, rfl⟩
   have hym : mayM 0 y = true := by rw [hy]; exact pow_may HV.out ⟨by omega, by omega⟩
   have HY := hid (And.intro hy hym); obtain ⟨eb, heb⟩ : ∃ e, errT q [(1, y)] = e := ⟨_, rfl⟩; have HEB := hid heb; clear hc hp hq hqm hqf hql hpn hlen hrl hy hym heb
   go_upto_region 7 with (fail)
   refine wp_region_held_drew (S := fun w' => w'.cell? ⟨b, off + k, none⟩ = some (.slice po pn pc)) (by kernel_rfl) (HC.out _ (Below.refl _ _).drew) (fun hH => ?_)
   refine anyH_world (fun V0 hW => ?_)
   have dr : Below wr.heap.size wr V0 := by rw [hW]; exact (Below.refl _ _).drew
   rw [← hW] at hH; clear hW
   have B0 := hid dr; clear dr
   refine son 0 hH ?_; try simp only [nrm]
   refine son 1 hH ?_; try simp only [nrm]
   refine son 2 hH ?_; try simp only [nrm]
   refine son 3 hH ?_; try simp only [nrm]
   refine son 5 hH ?_; try simp only [nrm]
   refine son 6 hH ?_; try simp only [nrm]
   refine step_one 4 rfl (by kernel_rfl) (fun KK hK => ?_)
   go_simp
   refine (wof_any 1 _ ⟨by omega, by omega⟩).mono ?_
   rintro e V1 ⟨sm, sa, sn, sc, rfl, hX, hB⟩; have B1 := hid (Below.steps B0.out hB); have N1 := hid hX; clear hX hB B0; go_wp2_with fail
   clear hH; refine hK.out _ _ (HC.out _ B1.out) fun hH => ?_; clear hK KK
   try simp only [nrm]
   have hsn : sn ≤ 1 := N1.out.le (by unfold Bd; decide)
   refine step_one 7 rfl (by kernel_rfl) (fun KK hK => ?_)
   go_simp; refine (powerOf_any HV64.out h64 _).mono ?_
   rintro e V2 ⟨ma, mn, mc, rfl, hX, hB⟩; rw [← HY.out.1] at hX; have B2 := hid (Below.steps B1.out hB); have N2 := hid (N1.out.below hB); have M2 := hid hX; clear hX hB B1 N1; go_wp2_with fail
   clear hH; refine hK.out _ _ (HC.out _ B2.out) fun hH => ?_; clear hK KK
   try simp only [nrm]
   refine step_one 8 rfl (by kernel_rfl) (fun KK hK => ?_)
   go_simp
   refine (pshift_any (K := K + 1) ((HPC.out.below B2.out).mono (Nat.le_succ K)) HQ.out.2 (by omega) N2.out.inn (show sn ≤ K + 1 by omega) (by omega) M2.out HY.out.2).mono ?_
   rintro e V3 ⟨xo, xn, xc, rfl, hX, hB⟩
   rw [of_one HY.out.2, if_neg (by decide)] at hX ⊢
   rw [HEB.out]; have B3 := hid (Below.steps B2.out hB)
   have X3 := hid (hX.mono (show _ ≤ KM by omega))
   clear hX hB B2 N2 M2; go_wp2_with fail
   clear hH; refine hK.out _ _ (HC.out _ B3.out) fun hH => ?_; clear hK KK
   try simp only [nrm]
   refine son 9 hH ?_; try simp only [nrm]
   refine son 10 hH ?_; try simp only [nrm]
   refine son 11 hH ?_; try simp only [nrm]
   refine son 12 hH ?_; try simp only [nrm]
   refine son 13 hH ?_; try simp only [nrm]
   refine wpAnyH_done (by kernel_rfl) ?_ _
   by_cases he0 : eb = 0
   ·have hfit := err_fit (HEB.out.trans he0)
    rw [tryT_yes hfit] at X3
    have hxn : xn ≤ m := by have h1 : (timesT q [((1 : Int), y)]).length = xn := X3.out.len; have h2 : (timesT q [((1 : Int), y)]).length ≤ q.length * 1 := timesT_length q _; have h3 := HPC.out.len; omega
    have HS3 : Hid (Ow w.heap.size KM V3 ro rn rc (bldK v ls k) ∧ bldOk v ls k ∧ Below w.heap.size w V3) := ⟨HS.out.1.below B3.out, HS.out.2.1, Below.steps HS.out.2.2 B3.out⟩
    obtain ⟨v8, W8, hr8, ro8, rc8, hv8, hO8, hG8⟩ := join_run HS3.out.1 X3.out HS3.out.2.2.size (by omega) 22
    subst hv8
    have e8 : bldK v ls (k + 1) = bldK v ls k ++ timesT q [(1, y)] := by show bldK v ls k ++ _ = _; rw [← HQ.out.1, ← HY.out.1, tryT_yes hfit]
    have o8 : bldOk v ls (k + 1) := bldOk_next.2 ⟨HS3.out.2.1, by rw [← HQ.out.1, ← HY.out.1]; exact hfit⟩
    have HN : Hid (Ow w.heap.size KM W8 ro8 (rn + xn) rc8 (bldK v ls (k + 1)) ∧ bldOk v ls (k + 1) ∧ Below w.heap.size w W8) := ⟨(by rw [e8]; exact hO8), o8, HS3.out.2.2.grown hG8 HS3.out.2.2.size (fun r e => HS3.out.1.own r e)⟩
    clear e8 o8; clear hO8 hG8 HS3
    have hz : (eb != 0) = false := by rw [he0]; rfl
    go_wp2_with (at_builtin; refine wpList_append_of rfl (.tmp 34) (.tmp 35) 22 23 rfl _ _ rfl rfl hr8 ?_)
    clear hr8
    try go_wp2
    go_roundw
    case rel => exact ⟨k + 1, ro8, rn + xn, rc8, rfl, by go_num, by omega, HN.out⟩
    case measure => simp [intOf]; omega
   ·have hnf : ¬ fitT q [(1, y)] := fun g => he0 (HEB.out.symm.trans (err_yes g))
    have he8 : eb = 8 := HEB.out.symm.trans (err_no hnf)
    subst he8; have HB := hid (Below.steps HS.out.2.2 B3.out); go_wp2_with fail
    go_ret2
    exact ⟨none, 0, 0, rfl, Pc.zero _ _, HB.out⟩
  ·obtain rfl : k = n := by omega
   exact absurd HS.out.2.1 HOK.out
end Go.Proofs.YtdgpnfjohijpeaaGreat
