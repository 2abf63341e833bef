/- PMay, PMayP, PlOrd, PlAt, PlRw, PlNum, PlEach, PlOwn, PlRow, PlGrow, PlDel -/
import Derived.Test.YtmmgipcacceakaaGreatGP1
set_option maxHeartbeats 40000000
set_option maxRecDepth 100000
namespace Go.Proofs.YtmmgipcacceakaaGreat
open Lib (hid)
open Go.RowKit
def mayT (t : Raw) : Bool := mayB t.1.1 t.1.2.length t.1.2 && !(t.1.2.length == 0) && mayM 0 t.2
def okAt (ps : List Raw) (t : Nat) : Bool := mayT (ps.getD t rawZ) && (t == 0 || cmpM (ps.getD (t - 1) rawZ).2 (ps.getD t rawZ).2 == 1)
def mayR (ps : List Raw) : Bool := decide (∀ t, t < ps.length → okAt ps t = true)
theorem mayR_no {ps : List Raw} (t : Nat) (ht : t < ps.length) (h : okAt ps t = false) : mayR ps = false := decide_eq_false fun g => by rw [g t ht] at h; cases h
theorem rawD {ps : List Raw} {t : Nat} (h : t < ps.length) : ps.getD t rawZ = ps[t] := by simp [List.getD, List.getElem?_eq_getElem h]
theorem may_any8 [Ol] (r : Bool) {ao : Option Addr} {n cap : Nat} {ps : List Raw} {w : World} (hp : Pr w ao n cap ps) (hl : ∀ t ∈ ps, t.1.2.length ≤ 1000) (h : mayR ps = r) :
  Calls Tryz.prog 34 #[.slice ao n cap] w (RetB (.bool r) w) := by
 obtain ⟨vss, hG, hT⟩ := hp.ex; have hbig := hG.big; have HLP := hid hp.len; have HGP := hid hG; have HTP := hid hT; have HR := hid h; have HLL := hid hl; clear hp hG hT h hl
 go_enter Tryz.func34, Tryz.ntmps34
 go_wp2
 go_loopw [3] (fun i wr => ∃ k : Nat, i = .int .i64 k ∧ k ≤ n ∧ Hid (∀ t, t < k → okAt ps t = true) ∧ Hid (Below w.heap.size w wr)) (fun i _ => n - (intOf i).toNat)
 case atStart => exact ⟨0, rfl, Nat.zero_le _, fun t h => by omega, Below.refl _ _⟩
 case round =>
  obtain ⟨k, rfl, hk, HE, HB⟩ := hrel
  by_cases hkn : k < n
  ·obtain ⟨b, off, rfl, _, hca⟩ := HGP.out.at (by omega)
   have HCA := hid hca; clear hca; have hcl := HCA.out
   obtain ⟨xa, xn, xc, xp, xq, xr, hv, tz, tmm⟩ := Tms.get rawZ HTP.out k (by rw [HLP.out]; omega)
   have hlP : k < ps.length := by rw [HLP.out]; omega
   have eqP : ps.getD k rawZ = ps[k] := by simp [List.getD, List.getElem?_eq_getElem hlP]
   have hcells : ∀ V : World, Below w.heap.size w V → (V.cell? ⟨b, off + k * 3, none⟩ = some (.bool (ps.getD k rawZ).1.1) ∧ V.cell? ⟨b, off + k * 3 + 1, none⟩ = some (.slice xa xn xc) ∧ V.cell? ⟨b, off + k * 3 + 2, none⟩ = some (.slice xp xq xr)) := by
    intro V hV
    have h0 := hcl V hV k (by omega) 0 (by omega)
    have h1 := hcl V hV k (by omega) 1 (by omega)
    have h2 := hcl V hV k (by omega) 2 (by omega)
    rw [hv] at h0 h1 h2
    exact ⟨h0, h1, h2⟩
   rw [eqP] at tz tmm; obtain ⟨xm, hxm⟩ : ∃ xm, xm = (ps.getD k rawZ).1.1 := ⟨_, rfl⟩
   rw [← hxm] at hcells; rw [eqP] at hxm
   have HCP := hid hcells; have HSP := hid tz; have HMP := hid tmm; have HNP := hid hxm; clear hcl hv hcells tz tmm eqP hxm
   have HLK : Hid (xn ≤ 1000) := by rw [Hid, ← HSP.out.len]; exact HLL.out _ (List.getElem_mem _)
   have HNX : Hid ((ps[k]).1.2.length = xn) := HSP.out.len
   obtain ⟨A, hA⟩ : ∃ A, A = mayB xm xn (ps[k]).1.2 := ⟨_, rfl⟩; obtain ⟨C, hC⟩ : ∃ C, ((xn : Int) == 0) = C := ⟨_, rfl⟩; obtain ⟨D, hD⟩ : ∃ D, D = mayM 0 (ps[k]).2 := ⟨_, rfl⟩
   have HT : Hid (mayT (ps[k]) = (A && !C && D)) := by
    rw [Hid, hA, ← hC, hD]
    unfold mayT
    rw [HNX.out, HNP.out]
    congr 2
    by_cases h0 : xn = 0
    ·subst h0; rfl
    ·rw [show (xn == 0) = false from by simpa using h0, show ((xn : Int) == 0) = false from by simpa using h0]
   have HA := hid hA; have HD := hid hD; obtain ⟨c0, c1, c2⟩ := HCP.out _ HB.out; clear hA hD
   cases A with
   | false =>
    have HR2 : Hid (r = false) := by
     rw [Hid, ← HR.out]
     exact mayR_no k hlP (by unfold okAt; rw [rawD hlP, HT.out]; rfl)
    go_wp2_with fail; refine (zmay_is false (HSP.out.below HB.out) HLK.out HA.out.symm).mono ?_
    rintro e w5 ⟨rfl, hB⟩; have HB5 := hid (Below.steps HB.out hB); clear hB HB c0 c1 c2; go_wp2_with fail
    go_ret
    have hr := HR2.out; subst hr
    exact ⟨rfl, HB5.out⟩
   | true =>
    go_wp2_with fail; refine (zmay_is true (HSP.out.below HB.out) HLK.out HA.out.symm).mono ?_
    rintro e w5 ⟨rfl, hB⟩; have HB5 := hid (Below.steps HB.out hB); clear hB HB c0 c1 c2; obtain ⟨c0, c1, c2⟩ := HCP.out _ HB5.out
    cases C with
    | true =>
     have HR2 : Hid (r = false) := by
      rw [Hid, ← HR.out]
      exact mayR_no k hlP (by unfold okAt; rw [rawD hlP, HT.out]; rfl)
     go_wp2_with fail
     go_ret
     have hr := HR2.out; subst hr
     exact ⟨rfl, HB5.out⟩
    | false =>
     go_wp2_with fail; refine (may7_any D (HMP.out.below HB5.out) HD.out.symm).mono ?_
     rintro e w6 ⟨rfl, hB⟩; have HB6 := hid (Below.steps HB5.out hB); clear hB HB5 c0 c1 c2
     cases D with
     | false =>
      have HR2 : Hid (r = false) := by
       rw [Hid, ← HR.out]
       exact mayR_no k hlP (by unfold okAt; rw [rawD hlP, HT.out]; rfl)
      go_wp2_with fail
      go_ret
      have hr := HR2.out; subst hr
      exact ⟨rfl, HB6.out⟩
     | true =>
      by_cases hk0 : k = 0
      ·subst hk0
       have HE2 : Hid (∀ t, t < 0 + 1 → okAt ps t = true) := fun t ht => by
        obtain rfl : t = 0 := by omega
        unfold okAt
        rw [rawD hlP, HT.out]
        rfl
       have hd : decide ((0 : Int) < ((0 : Nat) : Int)) = false := rfl
       go_upto_region 6 with (fail)
       refine wp_region_held_drew (S := fun w' => True) (by kernel_rfl) trivial (fun hH => ?_)
       refine anyH_world (fun w4 hW => ?_)
       have HB7 : Hid (Below w.heap.size w w4) := by rw [hW]; exact HB6.out.drew
       clear hW HB6
       refine son 0 hH ?_; try simp only [nrm]
       refine son 1 hH ?_; try simp only [nrm]
       refine son 2 hH ?_; try simp only [nrm]
       refine sof 3 hH ?_; try simp only [nrm]
       refine sof 4 hH ?_; try simp only [nrm]
       refine sof 5 hH ?_; try simp only [nrm]
       refine sof 6 hH ?_; try simp only [nrm]
       refine sof 7 hH ?_; try simp only [nrm]
       refine sof 8 hH ?_; try simp only [nrm]
       refine sof 9 hH ?_; try simp only [nrm]
       refine sof 10 hH ?_; try simp only [nrm]
       refine sof 11 hH ?_; try simp only [nrm]
       refine sof 12 hH ?_; try simp only [nrm]
       refine sof 13 hH ?_; try simp only [nrm]
       refine sof 14 hH ?_; try simp only [nrm]
       refine sof 15 hH ?_; try simp only [nrm]
       refine son 16 hH ?_; try simp only [nrm]
       refine wpAnyH_done (by kernel_rfl) ?_ _
       go_wp2_with fail
       go_roundw
       case rel => exact ⟨0 + 1, by go_num, by omega, HE2, HB7⟩
       case measure => simp [intOf]; omega
      ·obtain ⟨j, rfl⟩ : ∃ j, k = j + 1 := ⟨k - 1, by omega⟩
       have hcl := HCA.out
       obtain ⟨ya, yn, yc, yp, yq, yr, hv, tz, tmm⟩ := Tms.get rawZ HTP.out j (by rw [HLP.out]; omega)
       have hlQ : j < ps.length := by rw [HLP.out]; omega
       have eqQ : ps.getD j rawZ = ps[j] := by simp [List.getD, List.getElem?_eq_getElem hlQ]
       have hcells : ∀ V : World, Below w.heap.size w V → (V.cell? ⟨b, off + j * 3, none⟩ = some (.bool (ps.getD j rawZ).1.1) ∧ V.cell? ⟨b, off + j * 3 + 1, none⟩ = some (.slice ya yn yc) ∧ V.cell? ⟨b, off + j * 3 + 2, none⟩ = some (.slice yp yq yr)) := by
        intro V hV
        have h0 := hcl V hV j (by omega) 0 (by omega)
        have h1 := hcl V hV j (by omega) 1 (by omega)
        have h2 := hcl V hV j (by omega) 2 (by omega)
        rw [hv] at h0 h1 h2
        exact ⟨h0, h1, h2⟩
       rw [eqQ] at tz tmm; obtain ⟨ym, hym⟩ : ∃ ym, ym = (ps.getD j rawZ).1.1 := ⟨_, rfl⟩
       rw [← hym] at hcells; rw [eqQ] at hym
       have HCQ := hid hcells; have HSQ := hid tz; have HMQ := hid tmm; have HNQ := hid hym; clear hcl hv hcells tz tmm eqQ hym
       have hd : decide ((0 : Int) < ((j + 1 : Nat) : Int)) = true := decide_eq_true (by omega)
       have hw : IntKind.i64.wrap (j : Int) = (j : Int) := IntWalk.i64_in _ ⟨by omega, by omega⟩
       have hjn : j < n := by omega
       have hj1 : 0 ≤ (j : Int) + 1 := by omega
       have hj2 : (j : Int) + 1 < (n : Int) := by omega
       obtain ⟨z, hz⟩ : ∃ z, z = cmpM (ps[j]).2 (ps[j + 1]).2 := ⟨_, rfl⟩
       have HY : Hid (mayM 0 (ps[j]).2 = true) := by
        have h := HE.out j (by omega)
        unfold okAt mayT at h
        rw [rawD hlQ] at h
        simp only [Bool.and_eq_true] at h
        exact h.1.2
       have HZC : Hid (IsCmp z (exE (ps[j]).2) (exE (ps[j + 1]).2)) := by rw [hz, exE_yes HY.out, exE_yes HD.out.symm]; exact cmpM_is HY.out HD.out.symm
       have HZE := hid hz; clear hz
       have HO : Hid (okAt ps (j + 1) = (z == 1)) := by
        unfold okAt
        rw [Hid, rawD hlP, HT.out, show j + 1 - 1 = j from rfl, rawD hlQ, ← HZE.out]
        simp
       go_upto_region 6 with (fail)
       refine wp_region_held_drew (S := fun w' => (w'.cell? ⟨b, off + (j + 1) * 3, none⟩ = some (.bool xm) ∧ w'.cell? ⟨b, off + (j + 1) * 3 + 1, none⟩ = some (.slice xa xn xc) ∧ w'.cell? ⟨b, off + (j + 1) * 3 + 2, none⟩ = some (.slice xp xq xr)) ∧ (w'.cell? ⟨b, off + j * 3, none⟩ = some (.bool ym) ∧ w'.cell? ⟨b, off + j * 3 + 1, none⟩ = some (.slice ya yn yc) ∧ w'.cell? ⟨b, off + j * 3 + 2, none⟩ = some (.slice yp yq yr))) (by kernel_rfl) ⟨HCP.out _ HB6.out.drew, HCQ.out _ HB6.out.drew⟩ (fun hH => ?_)
       refine anyH_world (fun w4 hW => ?_)
       have HB7 : Hid (Below w.heap.size w w4) := by rw [hW]; exact HB6.out.drew
       rw [← hW] at hH; clear hW HB6
       refine son 0 hH ?_; try simp only [nrm]
       refine son 1 hH ?_; try simp only [nrm]
       refine son 2 hH ?_; try simp only [nrm]
       refine son 3 hH ?_; try simp only [nrm]
       refine son 4 hH ?_; try simp only [nrm]
       refine son 5 hH ?_; try simp only [nrm]
       refine son 6 hH ?_; try simp only [nrm]
       refine son 7 hH ?_; try simp only [nrm]
       refine son 8 hH ?_; try simp only [nrm]
       refine son 9 hH ?_; try simp only [nrm]
       refine son 10 hH ?_; try simp only [nrm]
       refine son 11 hH ?_; try simp only [nrm]
       refine son 12 hH ?_; try simp only [nrm]
       refine son 13 hH ?_; try simp only [nrm]
       refine step_one 14 rfl (by kernel_rfl) (fun KK hK => ?_)
       go_simp; refine (compare7_any (HMQ.out.below HB7.out) (HMP.out.below HB7.out) z HZC.out).mono ?_
       rintro e w8 ⟨rfl, hB⟩; have HB8 := hid (Below.steps HB7.out hB); clear hB HB7; go_wp2_with fail
       clear hH; refine hK.out _ _ ⟨HCP.out _ HB8.out, HCQ.out _ HB8.out⟩ fun hH => ?_; clear hK KK
       try simp only [nrm]
       obtain ⟨q, hq⟩ : ∃ q, (z == 1) = q := ⟨_, rfl⟩
       have hq2 : (z != 1) = !q := by rw [← hq]; rfl
       have HQ := hid hq
       cases q with
       | true =>
        have HE2 : Hid (∀ t, t < j + 1 + 1 → okAt ps t = true) := fun t ht => by
         by_cases h : t < j + 1
         ·exact HE.out t h
         ·obtain rfl : t = j + 1 := by omega
          rw [HO.out, HQ.out]
        refine son 15 hH ?_; try simp only [nrm]
        refine son 16 hH ?_; try simp only [nrm]
        refine wpAnyH_done (by kernel_rfl) ?_ _
        go_wp2_with fail
        go_roundw
        case rel => exact ⟨j + 1 + 1, by go_num, by omega, HE2, HB8⟩
        case measure => simp [intOf]; omega
       | false =>
        have HR2 : Hid (r = false) := by
         rw [Hid, ← HR.out]
         exact mayR_no (j + 1) hlP (by rw [HO.out, HQ.out])
        refine son 15 hH ?_; try simp only [nrm]
        refine son 16 hH ?_; try simp only [nrm]
        refine wpAnyH_done (by kernel_rfl) ?_ _
        go_wp2_with fail
        go_ret
        have hr := HR2.out; subst hr
        exact ⟨rfl, HB8.out⟩
  ·obtain rfl : k = n := by omega
   have HR2 : Hid (r = true) := by
    rw [Hid, ← HR.out]
    exact decide_eq_true fun t ht => HE.out t (by rw [← HLP.out]; exact ht)
   go_wp2_with fail
   go_ret
   have hr := HR2.out; subst hr
   exact ⟨rfl, HB.out⟩
theorem fall_of_adj : ∀ p : List Term, (∀ t ∈ p, t.1 ≠ 0 ∧ mayM 0 t.2 = true) → (∀ i, i + 1 < p.length → gtM (p.getD i (0, [])).2 (p.getD (i + 1) (0, [])).2) → fall p
 | [], _, _ => trivial
 | [t], h, _ => by
  refine ⟨(h t (by simp)).1, (h t (by simp)).2, ?_, trivial⟩
  intro s hs
  cases hs
 | t :: s :: r, h, ha => by
  have ih := fall_of_adj (s :: r) (fun u hu => h u (by simp [hu])) (fun i hi => by
   have := ha (i + 1) (by simpa using hi)
   simpa using this)
  have h0 : gtM t.2 s.2 := by
   have := ha 0 (by simp)
   simpa using this
  refine ⟨(h t (by simp)).1, (h t (by simp)).2, fun u hu => ?_, ih⟩
  rcases List.mem_cons.1 hu with rfl | hu
  ·exact h0
  ·exact gtM_trans h0 (ih.2.2.1 u hu)
theorem fall_adj : ∀ {p : List Term}, fall p → ∀ i, i + 1 < p.length → gtM (p.getD i (0, [])).2 (p.getD (i + 1) (0, [])).2
 | t :: s :: r, h, 0, _ => by
  have := h.2.2.1 s (by simp)
  simpa using this
 | t :: r, h, i + 1, hi => by
  have := fall_adj h.2.2.2 i (by simpa using hi)
  simpa using this
 | [t], _, 0, hi => by simp at hi
theorem mayT_yes {t : Raw} (hw : Wf t.1.2) (h : mayT t = true) : t = rawC (rawV t) ∧ (rawV t).1 ≠ 0 ∧ mayM 0 t.2 = true := by
 unfold mayT at h
 rw [Bool.and_eq_true, Bool.and_eq_true, mayB_iff hw] at h; obtain ⟨⟨h1, h2⟩, h3⟩ := h
 have h1 := of_decide_eq_true h1
 refine ⟨?_, fun h0 => ?_, h3⟩
 ·obtain ⟨⟨m, xs⟩, ps⟩ := t
  exact Prod.ext (Prod.ext h1.1 h1.2) rfl
 ·have h4 : zOf t.1.1 (val t.1.2) = 0 := h0
  rw [h4] at h1; rw [h1.2] at h2
  simp [limbs_zero] at h2
theorem mayT_rawC {t : Term} (h0 : t.1 ≠ 0) (hm : mayM 0 t.2 = true) : mayT (rawC t) = true := by
 unfold mayT
 rw [Bool.and_eq_true, Bool.and_eq_true]
 refine ⟨⟨?_, ?_⟩, hm⟩
 ·show mayB (decide (t.1 < 0)) (limbs t.1.natAbs).length (limbs t.1.natAbs) = true
  rw [mayB_iff (wf_limbs _)]
  simp only [val_limbs, zOf_can]
  simp
 ·have hl : (limbs t.1.natAbs).length ≠ 0 := fun e => by
   have h := val_limbs t.1.natAbs; rw [List.eq_nil_of_length_eq_zero e, val_nil] at h
   omega
  unfold rawC
  simpa using hl
theorem getD_map {α β : Type} (f : α → β) (d : α) (e : β) (l : List α) (i : Nat) (hi : i < l.length) : (l.map f).getD i e = f (l.getD i d) := by
 simp [List.getD, List.getElem?_eq_getElem hi]
theorem mayR_yes {ps : List Raw} (hw : ∀ t ∈ ps, Wf t.1.2) (h : mayR ps = true) : fall (ps.map rawV) ∧ ps = (ps.map rawV).map rawC := by
 have h := of_decide_eq_true h
 have hT : ∀ i, i < ps.length → mayT (ps.getD i rawZ) = true := fun i hi => by
  have := h i hi
  unfold okAt at this
  rw [Bool.and_eq_true] at this
  exact this.1
 have hM : ∀ t ∈ ps, mayT t = true := fun t ht => by
  obtain ⟨i, hi, rfl⟩ := List.getElem_of_mem ht; rw [← rawD hi]
  exact hT i hi
 refine ⟨fall_of_adj _ (fun t ht => ?_) (fun i hi => ?_), ?_⟩
 ·obtain ⟨s, hs, rfl⟩ := List.mem_map.1 ht
  exact (mayT_yes (hw s hs) (hM s hs)).2
 ·rw [List.length_map] at hi
  rw [getD_map rawV rawZ (0, []) ps i (by omega), getD_map rawV rawZ (0, []) ps (i + 1) hi]
  have h1 := h (i + 1) hi
  unfold okAt at h1
  rw [Bool.and_eq_true, show i + 1 - 1 = i from rfl] at h1
  have h2 : cmpM (ps.getD i rawZ).2 (ps.getD (i + 1) rawZ).2 = 1 := by simpa using h1.2
  have hm : ∀ j, j < ps.length → mayM 0 (ps.getD j rawZ).2 = true := fun j hj => by
   rw [rawD hj]
   exact (mayT_yes (hw _ (List.getElem_mem _)) (hM _ (List.getElem_mem hj))).2.2
  exact cmp_gt (hm i (by omega)) (hm (i + 1) hi) h2
 ·rw [List.map_map]
  conv => lhs; rw [← List.map_id ps]
  exact List.map_congr_left fun t ht => (mayT_yes (hw t ht) (hM t ht)).1
theorem mayR_rawC {p : List Term} (h : fall p) : mayR (p.map rawC) = true := by
 refine decide_eq_true fun i hi => ?_
 rw [List.length_map] at hi
 have hm : ∀ j, j < p.length → (p.getD j (0, [])).1 ≠ 0 ∧ mayM 0 (p.getD j (0, [])).2 = true := fun j hj => by
  have e : p.getD j (0, []) = p[j] := by simp [List.getD, List.getElem?_eq_getElem hj]
  rw [e]
  exact ⟨fall_nz h _ (List.getElem_mem _), fall_may h _ (List.getElem_mem _)⟩
 unfold okAt
 rw [getD_map rawC (0, []) rawZ p i hi, mayT_rawC (hm i hi).1 (hm i hi).2]
 cases i with
 | zero => rfl
 | succ j =>
  rw [show j + 1 - 1 = j from rfl, getD_map rawC (0, []) rawZ p j (by omega)]
  have := gt_cmp (hm j (by omega)).2 (hm (j + 1) hi).2 (fall_adj h j hi)
  simp [rawC] at this ⊢
  exact this
theorem box1 (w : World) (u : List Value) (S : TypeId) : AtN (w.alloc (.cells u.toArray S)) w.heap.size u S ∧ Below w.heap.size w (w.alloc (.cells u.toArray S)) :=
 ⟨AtN.new w u S, below_alloc w _⟩
theorem box2 (w : World) (u v : List Value) (S T : TypeId) :
  AtN ((w.alloc (.cells u.toArray S)).alloc (.cells v.toArray T)) w.heap.size u S ∧ AtN ((w.alloc (.cells u.toArray S)).alloc (.cells v.toArray T)) (w.heap.size + 1) v T ∧ Below w.heap.size w ((w.alloc (.cells u.toArray S)).alloc (.cells v.toArray T)) := by
 have h1 := AtN.new (w.alloc (.cells u.toArray S)) v T; rw [World.size_alloc] at h1
 exact ⟨(AtN.new w u S).below (below_alloc _ _), h1, ((Below.refl _ w).alloc (Nat.le_refl _) _).alloc (by simp) _⟩
theorem order_any [Ol] (z : Int) {xm ym : Bool} {xa ya xp yp : Option Addr} {xn xc xq xr yn yc yq yr : Nat} {ps qs : List (Int × Int)} {w : World} (hx : Ml w xp xq xr ps) (hy : Ml w yp yq yr qs) (h1 : mayM 0 ps = true) (h2 : mayM 0 qs = true) (hz : cmpM ps qs = z) :
  Calls Tryz.prog 58 #[.agg #[.bool xm, .slice xa xn xc, .slice xp xq xr], .agg #[.bool ym, .slice ya yn yc, .slice yp yq yr]] w (RetB (.int .i64 z) w) := by
 have HX := Lib.hid hx; have HY := Lib.hid hy
 have HZ : Hid (cmpR ps qs = (z, 0)) := by unfold cmpR; rw [Hid, if_pos ⟨h1, h2⟩, hz]
 clear hx hy h1 h2 hz
 go_enter Tryz.func58, Tryz.ntmps58
 go_upto_region 1 with (fail)
 refine wp_world (fun W hW => ?_)
 obtain ⟨a1, a2, hB⟩ := box2 w [.bool xm, .slice xa xn xc, .slice xp xq xr] [.bool ym, .slice ya yn yc, .slice yp yq yr] 56 56; rw [← hW] at a1 a2 hB; clear hW; have c1 := a1.cell 2; have c2 := a2.cell 2
 simp only [List.getElem?_cons_succ, List.getElem?_cons_zero] at c1 c2
 have HB := Lib.hid hB; clear a1 a2 hB; go_wp2_with fail; refine (compare_is z 0 (HX.out.below HB.out) (HY.out.below HB.out) HZ.out).mono ?_; rintro e w' ⟨rfl, hB⟩; have HB2 := Lib.hid (Below.steps HB.out hB); clear hB HB c1 c2; go_wp2_with fail
 go_ret
 exact ⟨rfl, HB2.out⟩
def Cell3 (w : World) (b o : Nat) (u0 u1 u2 : Value) : Prop := ∀ V : World, Below w.heap.size w V → V.cell? ⟨b, o, none⟩ = some u0 ∧ V.cell? ⟨b, o + 1, none⟩ = some u1 ∧ V.cell? ⟨b, o + 2, none⟩ = some u2
theorem Gl.cell3 [Ol] {w : World} {b off n cap : Nat} {vss : List (List Value)} (h : Gl 3 w (some ⟨b, off, none⟩) n cap vss) {k : Nat} (hk : k < n) {u0 u1 u2 : Value} (e : vss.getD k [] = [u0, u1, u2]) : Cell3 w b (off + k * 3) u0 u1 u2 := by
 intro V hV
 have hc := fun j hj => (h.below hV).cells _ rfl k hk j hj
 have h0 := hc 0 (by omega)
 have h1 := hc 1 (by omega)
 have h2 := hc 2 (by omega)
 rw [e] at h0 h1 h2; rw [Addr.add_lit] at h0 h1 h2
 rw [← Nat.add_assoc] at h0 h1 h2
 exact ⟨h0, h1, h2⟩
theorem Gl.some_of [Ol] {sz : Nat} {w : World} {ao : Option Addr} {n cap : Nat} {vss : List (List Value)} (h : Gl sz w ao n cap vss) (hn : 0 < n) : ∃ b off, ao = some ⟨b, off, none⟩ ∧ b < w.heap.size := by
 obtain ⟨b, off, h1, h2, _⟩ := h.at hn
 exact ⟨b, off, h1, h2⟩
theorem Pr.at [Ol] {w : World} {ao : Option Addr} {n cap : Nat} {ps : List Raw} (h : Pr w ao n cap ps) {k : Nat} (hk : k < n) :
  ∃ b off xa xn xc xp xq xr, ao = some ⟨b, off, none⟩ ∧ b < w.heap.size ∧ Cell3 w b (off + k * 3) (.bool (ps.getD k rawZ).1.1) (.slice xa xn xc) (.slice xp xq xr) ∧ Sl w xa xn xc (ps.getD k rawZ).1.2 ∧ Ml w xp xq xr (ps.getD k rawZ).2 := by
 have hl := h.len; obtain ⟨vss, hG, hT⟩ := h.ex
 obtain ⟨b, off, rfl, hb⟩ := hG.some_of (by omega)
 obtain ⟨xa, xn, xc, xp, xq, xr, hv, h1, h2⟩ := Tms.get rawZ hT k (by omega)
 exact ⟨b, off, xa, xn, xc, xp, xq, xr, rfl, hb, hG.cell3 hk hv, h1, h2⟩
theorem Pc.at [Ol] {K : Nat} {w : World} {ao : Option Addr} {n cap : Nat} {p : List Term} (h : Pc K w ao n cap p) {k : Nat} (hk : k < n) :
  ∃ b off xm xa xn xc xp xq xr, ao = some ⟨b, off, none⟩ ∧ b < w.heap.size ∧ Cell3 w b (off + k * 3) (.bool xm) (.slice xa xn xc) (.slice xp xq xr) ∧ Cn w xm xa xn xc (p.getD k (0, [])).1 ∧ Bd (p.getD k (0, [])).1 K ∧ Ml w xp xq xr (p.getD k (0, [])).2 := by
 have hl := h.len; obtain ⟨vss, hG, hT⟩ := h.ex
 obtain ⟨b, off, rfl, hb⟩ := hG.some_of (by omega)
 obtain ⟨xm, xa, xn, xc, xp, xq, xr, hv, h1, h2, h3⟩ := Tms.get (0, []) hT k (by omega)
 exact ⟨b, off, xm, xa, xn, xc, xp, xq, xr, rfl, hb, hG.cell3 hk hv, h1, h2, h3⟩
theorem Pi.at [Ol] {K : Nat} {w : World} {ao : Option Addr} {n cap : Nat} {p : List Term} (h : Pi K w ao n cap p) {k : Nat} (hk : k < n) :
  ∃ b off xm xa xn xc xp xq xr, ao = some ⟨b, off, none⟩ ∧ b < w.heap.size ∧ Cell3 w b (off + k * 3) (.bool xm) (.slice xa xn xc) (.slice xp xq xr) ∧ In w xm xa xn xc (p.getD k (0, [])).1 ∧ xn ≤ K ∧ Ml w xp xq xr (p.getD k (0, [])).2 := by
 have hl := h.len; obtain ⟨vss, hG, hT⟩ := h.ex
 obtain ⟨b, off, rfl, hb⟩ := hG.some_of (by omega)
 obtain ⟨xm, xa, xn, xc, xp, xq, xr, hv, h1, h2, h3⟩ := Tms.get (0, []) hT k (by omega)
 exact ⟨b, off, xm, xa, xn, xc, xp, xq, xr, rfl, hb, hG.cell3 hk hv, h1, h2, h3⟩
theorem getD_of {α : Type} {l : List α} {k : Nat} (d : α) (h : k < l.length) : l.getD k d = l[k] := by simp [List.getD, List.getElem?_eq_getElem h]
theorem getD_in {α : Type} {l : List α} {k : Nat} (d : α) (h : k < l.length) : l.getD k d ∈ l := by rw [getD_of d h]; exact List.getElem_mem _
theorem AtN.c3 {w : World} {b : Nat} {u0 u1 u2 : Value} {T : TypeId} (h : AtN w b [u0, u1, u2] T) : w.cell? ⟨b, 0, none⟩ = some u0 ∧ w.cell? ⟨b, 1, none⟩ = some u1 ∧ w.cell? ⟨b, 2, none⟩ = some u2 := ⟨h.cell 0, h.cell 1, h.cell 2⟩
theorem AtN.f3 {w : World} {b : Nat} {u0 u1 u2 : Value} {T : TypeId} (h : AtN w b [u0, u1, u2] T) : w.frozen? ⟨b, 0, none⟩ = false ∧ w.frozen? ⟨b, 1, none⟩ = false ∧ w.frozen? ⟨b, 2, none⟩ = false := ⟨h.fz 0, h.fz 1, h.fz 2⟩
theorem AtN.c1 {w : World} {b : Nat} {u0 : Value} {T : TypeId} (h : AtN w b [u0] T) : w.cell? ⟨b, 0, none⟩ = some u0 := h.cell 0
theorem AtN.f1 {w : World} {b : Nat} {u0 : Value} {T : TypeId} (h : AtN w b [u0] T) : w.frozen? ⟨b, 0, none⟩ = false := h.fz 0
theorem AtN.c2 {w : World} {b : Nat} {u0 u1 : Value} {T : TypeId} (h : AtN w b [u0, u1] T) : w.cell? ⟨b, 0, none⟩ = some u0 ∧ w.cell? ⟨b, 1, none⟩ = some u1 := ⟨h.cell 0, h.cell 1⟩
theorem mayT_sign {xm : Bool} {xs : List Nat} {xps : List (Int × Int)} (hw : Wf xs) : mayT ((xm, xs), xps) = (mayB xm xs.length xs && !((zOf xm (val xs)).sign == 0) && mayM 0 xps) := by
 unfold mayT
 show (mayB xm xs.length xs && !(xs.length == 0) && mayM 0 xps) = _
 cases hA : mayB xm xs.length xs with
 | false => rfl
 | true =>
  rw [mayB_iff hw] at hA; have h2 := (of_decide_eq_true hA).2
  congr 2
  congr 1
  by_cases h0 : zOf xm (val xs) = 0
  ·rw [h0] at h2 ⊢
   rw [h2]
   rfl
  ·have h3 : (zOf xm (val xs)).sign ≠ 0 := fun e => h0 (Int.sign_eq_zero_iff_zero.1 e)
   have h4 : xs.length ≠ 0 := fun e => by
    have e2 : xs = [] := List.eq_nil_of_length_eq_zero e
    rw [e2] at h0
    exact h0 (by cases xm <;> rfl)
   rw [show (xs.length == 0) = false from by simpa using h4, show ((zOf xm (val xs)).sign == 0) = false from by simpa using h3]
def Clean (L : List Value) : Prop := ∀ u ∈ L, notInt u = true
def putL : List Value → Nat → List Value → List Value
 | L, _, [] => L
 | L, o, v :: r => putL (L.set o v) (o + 1) r
theorem putL_length : ∀ (vs L : List Value) (o : Nat), (putL L o vs).length = L.length
 | [], _, _ => rfl
 | v :: r, L, o => by rw [putL, putL_length r, List.length_set]
theorem putL_out : ∀ (vs L : List Value) (o i : Nat), i < o ∨ o + vs.length ≤ i → (putL L o vs)[i]? = L[i]?
 | [], _, _, _, _ => rfl
 | v :: r, L, o, i, h => by
  rw [putL, putL_out r _ _ i (by simp at h; omega), List.getElem?_set_ne (by simp at h; omega)]
theorem putL_in : ∀ (vs L : List Value) (o i : Nat), o ≤ i → i < o + vs.length → i < L.length → (putL L o vs)[i]? = vs[i - o]?
 | [], _, _, _, h, h2, _ => by simp at h2; omega
 | v :: r, L, o, i, h, h2, h3 => by
  rw [putL]
  by_cases e : i = o
  ·subst e
   rw [putL_out r _ _ _ (by omega), Nat.sub_self, List.getElem?_set_self (by omega)]
   rfl
  ·rw [putL_in r _ _ i (by omega) (by simp at h2; omega) (by rw [List.length_set]; exact h3), show i - o = (i - (o + 1)) + 1 by omega]
   rfl
theorem clean_set {L : List Value} (h : Clean L) (o : Nat) {v : Value} (hv : notInt v = true) : Clean (L.set o v) := fun u hu => by
 rcases List.mem_or_eq_of_mem_set hu with h1 | h1
 ·exact h u h1
 ·rw [h1]; exact hv
theorem clean_put : ∀ (vs L : List Value) (o : Nat), Clean L → Clean vs → Clean (putL L o vs)
 | [], _, _, h, _ => h
 | v :: r, L, o, h, hv => clean_put r _ _ (clean_set h o (hv v (by simp))) fun u hu => hv u (by simp [hu])
def Seg (sz : Nat) (L : List Value) (off : Nat) (X : List (List Value)) : Prop := ∀ t, t < X.length → ∀ j, j < sz → L[off + t * sz + j]? = (X.getD t [])[j]?
theorem Seg.nil (sz : Nat) (L : List Value) (off : Nat) : Seg sz L off [] := fun t ht => by simp at ht
theorem Seg.far {sz : Nat} {L : List Value} {off : Nat} {X : List (List Value)} (h : Seg sz L off X) {o : Nat} {vs : List Value} (hf : o + vs.length ≤ off ∨ off + X.length * sz ≤ o) : Seg sz (putL L o vs) off X := fun t ht j hj => by
 rw [putL_out _ _ _ _ ?_]
 ·exact h t ht j hj
 ·have : (t + 1) * sz ≤ X.length * sz := Nat.mul_le_mul_right _ ht
  rw [Nat.add_mul] at this
  omega
theorem Seg.here {sz : Nat} {L : List Value} {o : Nat} {X : List (List Value)} (hE : Each sz X) (hl : o + X.length * sz ≤ L.length) : Seg sz (putL L o X.flatten) o X := fun t ht j hj => by
 have : (t + 1) * sz ≤ X.length * sz := Nat.mul_le_mul_right _ ht
 rw [Nat.add_mul] at this
 rw [putL_in _ _ _ _ (by omega) (by rw [each_len hE]; omega) (by omega), show o + t * sz + j - o = t * sz + j by omega]
 exact each_get hE t j ht hj
theorem Seg.append {sz : Nat} {L : List Value} {off : Nat} {X Y : List (List Value)} (h : Seg sz L off X) (h2 : Seg sz L (off + X.length * sz) Y) : Seg sz L off (X ++ Y) := fun t ht j hj => by
 by_cases ht2 : t < X.length
 ·rw [h t ht2 j hj]
  simp [List.getD, List.getElem?_append_left ht2]
 ·rw [List.length_append] at ht
  obtain ⟨s, rfl⟩ : ∃ s, t = X.length + s := ⟨t - X.length, by omega⟩
  have := h2 s (by omega) j hj
  rw [show off + (X.length + s) * sz + j = off + X.length * sz + s * sz + j by rw [Nat.add_mul]; omega, this]
  simp [List.getD, List.getElem?_append_right]
theorem Seg.take {sz : Nat} {L : List Value} {off : Nat} {X : List (List Value)} (h : Seg sz L off X) (k : Nat) : Seg sz L off (X.take k) := fun t ht j hj => by
 rw [List.length_take] at ht
 rw [h t (by omega) j hj]
 simp [List.getD, show t < k by omega]
theorem Seg.drop {sz : Nat} {L : List Value} {off : Nat} {X : List (List Value)} (h : Seg sz L off X) (k : Nat) : Seg sz L (off + k * sz) (X.drop k) := fun t ht j hj => by
 rw [List.length_drop] at ht
 have := h (k + t) (by omega) j hj
 rw [show off + k * sz + t * sz + j = off + (k + t) * sz + j by rw [Nat.add_mul]; omega, this]
 simp [List.getD]
theorem Seg.one {L : List Value} {o : Nat} {a b c : Value} (h : o + 2 < L.length) : Seg 3 (putL L o [a, b, c]) o [[a, b, c]] := fun t ht j hj => by
 simp at ht
 subst ht
 rw [putL_in _ _ _ _ (by omega) (by simp; omega) (by omega), show o + 0 * 3 + j - o = j by omega]
 rfl
theorem Seg.cons {sz : Nat} {L : List Value} {off : Nat} {x : List Value} {X : List (List Value)} (h : Seg sz L off [x]) (h2 : Seg sz L (off + sz) X) : Seg sz L off (x :: X) := by
 have := Seg.append h (Y := X) (by simpa using h2)
 simpa using this
theorem Seg.cast {sz : Nat} {L : List Value} {off off' : Nat} {X : List (List Value)} (h : Seg sz L off X) (e : off = off') : Seg sz L off' X := e ▸ h
theorem AtN.cleanB {w : World} {g : Nat} {L : List Value} {T : TypeId} (h : AtN w g L T) (hc : Clean L) : CleanB w g := fun cur T' fr hh u hu => by
 unfold AtN at h
 rw [h] at hh
 cases hh
 simp at hu
 exact hc u hu
theorem AtN.put {w : World} {g : Nat} {L : List Value} {T : TypeId} (h : AtN w g L T) : ∀ (vs : List Value) (o : Nat), AtN (w.setCells g o vs) g (putL L o vs) T := by
 intro vs
 induction vs generalizing w L with
 | nil => intro o; exact h
 | cons v r ih => intro o; exact ih (h.set o v) (o + 1)
theorem AtN.put3 {w : World} {g : Nat} {L : List Value} {T : TypeId} (h : AtN w g L T) (o : Nat) (a b c : Value) : AtN (((w.setCell ⟨g, o, none⟩ a).setCell ⟨g, o + 1, none⟩ b).setCell ⟨g, o + 2, none⟩ c) g (putL L o [a, b, c]) T := ((h.set o a).set (o + 1) b).set (o + 2) c
theorem grown_put3 (w : World) (g o : Nat) (a b c : Value) : w.grownBy (((w.setCell ⟨g, o, none⟩ a).setCell ⟨g, o + 1, none⟩ b).setCell ⟨g, o + 2, none⟩ c) (some g) :=
 ⟨rfl, rfl, rfl, by simp, fun k _ hk => by
  have hk2 : k ≠ g := fun e => hk (by rw [e])
  rw [Below.heap_setCell _ _ _ _ hk2, Below.heap_setCell _ _ _ _ hk2, Below.heap_setCell _ _ _ _ hk2]⟩
theorem grown_put1 (w : World) (g o : Nat) (a : Value) : w.grownBy (w.setCell ⟨g, o, none⟩ a) (some g) :=
 ⟨rfl, rfl, rfl, by simp, fun k _ hk => Below.heap_setCell _ _ _ _ (fun e => hk (by rw [e]))⟩
theorem grown_puts (g : Nat) : ∀ (vs : List Value) (w : World) (o : Nat), w.grownBy (w.setCells g o vs) (some g)
 | [], w, _ => ⟨rfl, rfl, rfl, Nat.le_refl _, fun _ _ _ => rfl⟩
 | v :: r, w, o => by
  have h1 := grown_put1 w g o v; have h2 := grown_puts g r (w.setCell ⟨g, o, none⟩ v) (o + 1)
  exact ⟨h2.os.trans h1.os, h2.tape.trans h1.tape, h2.output.trans h1.output, Nat.le_trans h1.size h2.size, fun k hk hne => (h2.block k (Nat.lt_of_lt_of_le hk h1.size) hne).trans (h1.block k hk hne)⟩
theorem grown_trans {w w1 w2 : World} {r : Option Nat} (h1 : w.grownBy w1 r) (h2 : w1.grownBy w2 r) : w.grownBy w2 r :=
 ⟨h2.os.trans h1.os, h2.tape.trans h1.tape, h2.output.trans h1.output, Nat.le_trans h1.size h2.size, fun k hk hne => (h2.block k (Nat.lt_of_lt_of_le hk h1.size) hne).trans (h1.block k hk hne)⟩
theorem grown_below {w w1 : World} (r : Option Nat) (h : Below w.heap.size w w1) : w.grownBy w1 r := ⟨h.os, h.tape, h.output, h.size, fun k hk _ => h.block k hk⟩
theorem AtN.apart {w w1 : World} {b : Nat} {L : List Value} {T : TypeId} (h : AtN w b L T) {r : Option Nat} (hg : w.grownBy w1 r) (hne : some b ≠ r) : AtN w1 b L T := h.keep (hg.block b h.lt hne)
theorem below_of_grown {B : Nat} {w w1 : World} {g : Nat} (h : w.grownBy w1 (some g)) (hB : B ≤ g) (hs : B ≤ w.heap.size) : Below B w w1 :=
 ⟨h.os, h.tape, h.output, h.size, fun k hk => h.block k (by omega) (fun e => by cases e; omega)⟩
structure Rw (B : Nat) (T : TypeId) (sz : Nat) (w : World) (ao : Option Addr) (n cap : Nat) (X : List (List Value)) : Prop where
 ex : (ao = none ∧ n = 0 ∧ cap = 0 ∧ X = []) ∨ ∃ g off L, ao = some ⟨g, off, none⟩ ∧ B ≤ g ∧ AtN w g L T ∧ Clean L ∧ off + cap * sz ≤ L.length ∧ n ≤ cap ∧ cap ≤ maxLen ∧ n ≤ 4398046511104 ∧ X.length = n ∧ Each sz X ∧ Seg sz L off X
theorem Rw.zero (B : Nat) (T : TypeId) (sz : Nat) (w : World) : Rw B T sz w none 0 0 [] := ⟨.inl ⟨rfl, rfl, rfl, rfl⟩⟩
theorem Rw.gl [Ol] {B : Nat} {T : TypeId} {sz : Nat} {w : World} {ao : Option Addr} {n cap : Nat} {X : List (List Value)} (h : Rw B T sz w ao n cap X) : Gl sz w ao n cap X := by
 rcases h.ex with ⟨rfl, rfl, rfl, rfl⟩ | ⟨g, off, L, rfl, _, hA, hcl, hl, hn, _, hb, hX, hE, hS⟩
 ·exact Gl.zero sz w
 ·refine Gl.of_cells hX hn hb hE (fun _ => hA.lt) (fun _ => Kp.cln (hA.cleanB hcl)) fun t ht j hj => ?_
  rw [hA.cell]
  exact hS t (by omega) j hj
theorem Rw.len [Ol] {B : Nat} {T : TypeId} {sz : Nat} {w : World} {ao : Option Addr} {n cap : Nat} {X : List (List Value)} (h : Rw B T sz w ao n cap X) : X.length = n := h.gl.len
theorem Rw.keep {B : Nat} {T : TypeId} {sz : Nat} {w w' : World} {ao : Option Addr} {n cap : Nat} {X : List (List Value)} (h : Rw B T sz w ao n cap X) (hk : ∀ a, ao = some a → w'.heap[a.block]? = w.heap[a.block]?) : Rw B T sz w' ao n cap X := by
 rcases h.ex with h1 | ⟨g, off, L, rfl, hB, hA, r⟩
 ·exact ⟨.inl h1⟩
 ·exact ⟨.inr ⟨g, off, L, rfl, hB, hA.keep (hk _ rfl), r⟩⟩
theorem Rw.below {B : Nat} {T : TypeId} {sz : Nat} {w w' : World} {ao : Option Addr} {n cap : Nat} {X : List (List Value)} (h : Rw B T sz w ao n cap X) (hb : Below w.heap.size w w') : Rw B T sz w' ao n cap X := by
 rcases h.ex with h1 | ⟨g, off, L, rfl, hB, hA, r⟩
 ·exact ⟨.inl h1⟩
 ·exact ⟨.inr ⟨g, off, L, rfl, hB, hA.below hb, r⟩⟩
theorem Rw.mono {B B' : Nat} {T : TypeId} {sz : Nat} {w : World} {ao : Option Addr} {n cap : Nat} {X : List (List Value)} (h : Rw B T sz w ao n cap X) (hB : B' ≤ B) : Rw B' T sz w ao n cap X := by
 rcases h.ex with h1 | ⟨g, off, L, rfl, hb, r⟩
 ·exact ⟨.inl h1⟩
 ·exact ⟨.inr ⟨g, off, L, rfl, by omega, r⟩⟩
def blk (ao : Option Addr) : Option Nat := ao.map (·.block)
theorem Rw.apart {B : Nat} {T : TypeId} {sz : Nat} {w w' : World} {ao : Option Addr} {n cap : Nat} {X : List (List Value)} (h : Rw B T sz w ao n cap X) {r : Option Nat} (hg : w.grownBy w' r) (hne : blk ao = none ∨ blk ao ≠ r) : Rw B T sz w' ao n cap X := by
 rcases h.ex with h1 | ⟨g, off, L, rfl, hB, hA, q⟩
 ·exact ⟨.inl h1⟩
 ·refine ⟨.inr ⟨g, off, L, rfl, hB, hA.apart hg ?_, q⟩⟩
  rcases hne with h2 | h2
  ·cases h2
  ·exact h2
theorem Rw.lt {B : Nat} {T : TypeId} {sz : Nat} {w : World} {ao : Option Addr} {n cap : Nat} {X : List (List Value)} (h : Rw B T sz w ao n cap X) : ∀ g, blk ao = some g → B ≤ g ∧ g < w.heap.size := by
 intro g hg
 rcases h.ex with ⟨rfl, _⟩ | ⟨g', off, L, rfl, hB, hA, q⟩
 ·cases hg
 ·cases hg; exact ⟨hB, hA.lt⟩
theorem Rw.cleanB {B : Nat} {T : TypeId} {sz : Nat} {w : World} {ao : Option Addr} {n cap : Nat} {X : List (List Value)} (h : Rw B T sz w ao n cap X) : ∀ g, blk ao = some g → CleanB w g := by
 intro g hg
 rcases h.ex with ⟨rfl, _⟩ | ⟨g', off, L, rfl, hB, hA, hc, q⟩
 ·cases hg
 ·cases hg; exact hA.cleanB hc
theorem Go1.rw [Ol] {B : Nat} {T : TypeId} {sz : Nat} {w : World} {ao : Option Addr} {n cap : Nat} {X : List (List Value)} (h : Go1 B T sz w ao n cap X) : Rw B T sz w ao n cap X := by
 rcases h.row.2 with ⟨hv, h0⟩ | ⟨g, cap', cur, hv, hg, hh, hn, hm, hs, ht⟩
 ·simp only [Value.slice.injEq] at hv
  obtain ⟨rfl, rfl, rfl⟩ := hv
  exact ⟨.inl ⟨rfl, rfl, rfl, List.eq_nil_of_length_eq_zero (by rw [h.len])⟩⟩
 ·simp only [Value.slice.injEq, true_and] at hv
  obtain ⟨rfl, rfl⟩ := hv
  refine ⟨.inr ⟨g, 0, cur.toList, rfl, hg, hh, h.cln g rfl cur T (0, 0) hh, by simp [hs], hn, hm, h.big, h.len, h.each, fun t ht2 j hj => ?_⟩⟩
  rw [← each_get h.each t j ht2 hj, ← ht, List.getElem?_take, Nat.zero_add, if_pos]
  have : (t + 1) * sz ≤ n * sz := Nat.mul_le_mul_right _ (by rw [← h.len]; exact ht2)
  rw [Nat.add_mul] at this
  omega
theorem tmC_notInt [Ol] {K : Nat} {w : World} {vs : List Value} {t : Term} (h : TmC K w vs t) : ∀ u ∈ vs, notInt u = true := by
 obtain ⟨m, ao, n, cap, bo, k, cb, rfl, _⟩ := h
 intro u hu
 simp at hu
 rcases hu with rfl | rfl | rfl <;> rfl
theorem tmsC_below [Ol] {K : Nat} {w w' : World} {X : List (List Value)} {p : List Term} (h : Tms (TmC K w) X p) (hb : Below w.heap.size w w') : Tms (TmC K w') X p := h.imp fun _ _ h => h.below hb
theorem tmsC_stays [Ol] {K : Nat} {w w' : World} {g : Nat} {X : List (List Value)} {p : List Term} (h : Tms (TmC K w) X p) (hc : CleanB w g) (hg : w.grownBy w' (some g)) : Tms (TmC K w') X p := h.imp fun _ _ h => h.staysC hc hg
theorem tmsC_mono [Ol] {K L : Nat} {w : World} {X : List (List Value)} {p : List Term} (h : Tms (TmC K w) X p) (hk : K ≤ L) : Tms (TmC L w) X p := h.imp fun _ _ h => h.mono hk
def Pw [Ol] (B K : Nat) (w : World) (ao : Option Addr) (n cap : Nat) (p : List Term) : Prop := ∃ X, Rw B 56 3 w ao n cap X ∧ Tms (TmC K w) X p
theorem Pw.pc [Ol] {B K : Nat} {w : World} {ao : Option Addr} {n cap : Nat} {p : List Term} (h : Pw B K w ao n cap p) : Pc K w ao n cap p := by
 obtain ⟨X, h1, h2⟩ := h
 exact ⟨X, h1.gl, h2⟩
theorem Pw.len [Ol] {B K : Nat} {w : World} {ao : Option Addr} {n cap : Nat} {p : List Term} (h : Pw B K w ao n cap p) : p.length = n := h.pc.len
theorem Pw.below [Ol] {B K : Nat} {w w' : World} {ao : Option Addr} {n cap : Nat} {p : List Term} (h : Pw B K w ao n cap p) (hb : Below w.heap.size w w') : Pw B K w' ao n cap p := by
 obtain ⟨X, h1, h2⟩ := h
 exact ⟨X, h1.below hb, tmsC_below h2 hb⟩
theorem Pw.mono [Ol] {B B' K K' : Nat} {w : World} {ao : Option Addr} {n cap : Nat} {p : List Term} (h : Pw B K w ao n cap p) (hB : B' ≤ B) (hK : K ≤ K') : Pw B' K' w ao n cap p := by
 obtain ⟨X, h1, h2⟩ := h
 exact ⟨X, h1.mono hB, tmsC_mono h2 hK⟩
theorem Pw.zero [Ol] (B K : Nat) (w : World) : Pw B K w none 0 0 [] := ⟨[], Rw.zero _ _ _ _, trivial⟩
def NewPw [Ol] (K : Nat) (w : World) (p : List Term) (e : Ending) (w' : World) : Prop := ∃ ao n cap, e = .returned (.slice ao n cap) ∧ Pw w.heap.size K w' ao n cap p ∧ Below w.heap.size w w'
def NewT [Ol] (K : Nat) (w : World) (t : Term) (e : Ending) (w' : World) : Prop := ∃ m ao n cap bo k cb, e = .returned (.agg #[.bool m, .slice ao n cap, .slice bo k cb]) ∧ (Cn w' m ao n cap t.1 ∧ Bd t.1 K ∧ Ml w' bo k cb t.2) ∧ Below w.heap.size w w'
open Lib (hid)
theorem box3 (w : World) (u v z : List Value) (S T R : TypeId) :
  AtN (((w.alloc (.cells u.toArray S)).alloc (.cells v.toArray T)).alloc (.cells z.toArray R)) w.heap.size u S ∧ AtN (((w.alloc (.cells u.toArray S)).alloc (.cells v.toArray T)).alloc (.cells z.toArray R)) (w.heap.size + 1) v T ∧ AtN (((w.alloc (.cells u.toArray S)).alloc (.cells v.toArray T)).alloc (.cells z.toArray R)) (w.heap.size + 1 + 1) z R ∧ Below w.heap.size w (((w.alloc (.cells u.toArray S)).alloc (.cells v.toArray T)).alloc (.cells z.toArray R)) := by
 obtain ⟨a, b, h⟩ := box2 w u v S T; have h1 := AtN.new ((w.alloc (.cells u.toArray S)).alloc (.cells v.toArray T)) z R
 have e : ((w.alloc (.cells u.toArray S)).alloc (.cells v.toArray T)).heap.size = w.heap.size + 1 + 1 := by simp [Nat.add_assoc]
 rw [e] at h1
 exact ⟨a.below (below_alloc _ _), b.below (below_alloc _ _), h1, h.alloc (by rw [e]; omega) _⟩
theorem Cn.far {w : World} {m : Bool} {ao : Option Addr} {n cap : Nat} {z : Int} (h : Cn w m ao n cap z) {b : Nat} {L : List Value} {T : TypeId} (hA : AtN w b L T) (hc : Clean L) {w' : World} (hg : w.grownBy w' (some b)) : Cn w' m ao n cap z :=
 ⟨h.neg, h.sl.len, h.sl.le, h.sl.big, h.sl.wf, h.sl.nil, fun ad had t ht => hg.cell (h.sl.cells ad had t ht) fun eq => (AtN.cleanB hA hc).far (h.sl.cells ad had t ht) (Option.some.inj eq)⟩
theorem grown_put2 (w : World) (g o : Nat) (a b : Value) : w.grownBy ((w.setCell ⟨g, o, none⟩ a).setCell ⟨g, o + 1, none⟩ b) (some g) := grown_trans (grown_put1 w g o a) (grown_put1 _ g (o + 1) b)
theorem post_world {Q : World → Prop} {w : World} (h : ∀ W, W = w → Q W) : Q w := h w rfl
theorem clean2 (m : Bool) (ao : Option Addr) (n cap : Nat) : Clean [.bool m, .slice ao n cap] := fun u hu => by simp at hu; rcases hu with rfl | rfl <;> rfl
theorem plus_any [Ol] {m k : Bool} {ao bo : Option Addr} {n cap l cb : Nat} {x y : Int} {w : World} (hx : Cx w m ao n cap x) (hy : Cx w k bo l cb y) :
  Calls Tryz.prog 64 #[.agg #[.bool m, .slice ao n cap], .agg #[.bool k, .slice bo l cb]] w (NewI w (x + y)) := by
 have HX := hid hx; have HY := hid hy; obtain ⟨s, hs⟩ : ∃ s, x.sign = s := ⟨_, rfl⟩; obtain ⟨C, hC⟩ : ∃ C, (s == 0) = C := ⟨_, rfl⟩; have HS := hid hs; clear hx hy hs
 go_enter Tryz.func64, Tryz.ntmps64
 go_upto_region 1 with (fail)
 refine wp_world (fun W hW => ?_)
 obtain ⟨a1, a2, a3, hB⟩ := box3 w [.bool m, .slice ao n cap] [.bool k, .slice bo l cb] [.bool false, .slice none 0 0] 52 52 52; rw [← hW] at a1 a2 a3 hB; clear hW; obtain ⟨c0, c1⟩ := a1.c2; have A1 := hid a1; have A2 := hid a2; have A3 := hid a3; have HB := hid hB; clear a1 a2 a3 hB; go_wp2_with fail; refine (wsign_is s (HX.out.below HB.out).nx HS.out).mono ?_; rintro e w1 ⟨rfl, hB⟩; have HB1 := hid (Below.steps HB.out hB); have A11 := hid (A1.out.below hB); have A21 := hid (A2.out.below hB)
 have A31 := hid (A3.out.below hB); clear hB HB A1 A2 A3 c0 c1
 cases C with
 | true =>
  have HZ : Hid (x = 0) := by
   have h : s = 0 := by simpa using hC
   rw [← HS.out] at h
   exact Int.sign_eq_zero_iff_zero.1 h
  obtain ⟨c0, c1⟩ := A21.out.c2; obtain ⟨d0, d1⟩ := A31.out.c2; have f0 := A31.out.fz 0; have f1 := A31.out.fz 1; go_wp2_with fail
  refine post_world (Q := bodyPost _ _ _ _ _) (fun W hW => ?_)
  have A3 : AtN W (w.heap.size + 1 + 1) [.bool k, .slice bo l cb] 52 := by rw [hW]; exact (A31.out.set 0 (.bool k)).set 1 (.slice bo l cb)
  have HC : Cn W k bo l cb y := by rw [hW]; exact (HY.out.below HB1.out).cn.far A31.out (clean2 _ _ _ _) (grown_put2 _ _ _ _ _)
  have HBW : Below w.heap.size w W := by rw [hW]; exact (HB1.out.setCell (p := ⟨w.heap.size + 1 + 1, 0, none⟩) (by show w.heap.size ≤ w.heap.size + 1 + 1; omega) _).setCell (p := ⟨w.heap.size + 1 + 1, 1, none⟩) (by show w.heap.size ≤ w.heap.size + 1 + 1; omega) _
  clear hW c0 c1 d0 d1 f0 f1; obtain ⟨d0, d1⟩ := A3.c2
  refine bodyPost_ret (v := .agg #[.bool k, .slice bo l cb]) (by simp [results, Tryz.results64, go_sem, d0, d1]) rfl ?_
  exact ⟨_, _, _, _, rfl, by rw [HZ.out, Int.zero_add]; exact HC, HBW⟩
 | false =>
  obtain ⟨c0, c1⟩ := A11.out.c2; obtain ⟨d0, d1⟩ := A21.out.c2; go_wp2_with fail; refine (wadd_any (HX.out.below HB1.out).nx (HY.out.below HB1.out).nx).mono ?_; rintro e w2 ⟨rm, ra, rn, rc, rfl, hR, hB⟩; have HB2 := hid (Below.steps HB1.out hB); have A32 := hid (A31.out.below hB); have HR := hid hR; clear hB HB1 A11 A21 A31 c0 c1 d0 d1 hR; obtain ⟨d0, d1⟩ := A32.out.c2; have f0 := A32.out.fz 0; have f1 := A32.out.fz 1; go_wp2_with fail
  refine post_world (Q := bodyPost _ _ _ _ _) (fun W hW => ?_)
  have A3 : AtN W (w.heap.size + 1 + 1) [.bool rm, .slice ra rn rc] 52 := by rw [hW]; exact (A32.out.set 0 (.bool rm)).set 1 (.slice ra rn rc)
  have HC : Cn W rm ra rn rc (x + y) := by rw [hW]; exact HR.out.far A32.out (clean2 _ _ _ _) (grown_put2 _ _ _ _ _)
  have HBW : Below w.heap.size w W := by rw [hW]; exact (HB2.out.setCell (p := ⟨w.heap.size + 1 + 1, 0, none⟩) (by show w.heap.size ≤ w.heap.size + 1 + 1; omega) _).setCell (p := ⟨w.heap.size + 1 + 1, 1, none⟩) (by show w.heap.size ≤ w.heap.size + 1 + 1; omega) _
  clear hW d0 d1 f0 f1; obtain ⟨d0, d1⟩ := A3.c2
  refine bodyPost_ret (v := .agg #[.bool rm, .slice ra rn rc]) (by simp [results, Tryz.results64, go_sem, d0, d1]) rfl ?_
  exact ⟨_, _, _, _, rfl, HC, HBW⟩
open Lib (hid)
theorem Tryz.info_term : (Tryz.prog.info? 56).map (fun i => (i.zero, i.size, i.bytes)) = some (some (.agg #[.bool false, .slice none 0 0, .slice none 0 0]), 3, 56) := by kernel_rfl
def zeroRow (n : Nat) : List Value := (madeCells #[.bool false, .slice none 0 0, .slice none 0 0] (n * 3)).toList
theorem zeroRow_len (n : Nat) : (zeroRow n).length = n * 3 := by simp [zeroRow, size_madeCells]
theorem zeroRow_clean (n : Nat) : Clean (zeroRow n) := by
 intro u hu
 simp only [zeroRow, madeCells, Array.toList_map, List.mem_map] at hu
 obtain ⟨j, _, rfl⟩ := hu
 have hj : j % 3 < 3 := Nat.mod_lt _ (by omega)
 show notInt ((#[Value.bool false, .slice none 0 0, .slice none 0 0] : Array Value)[j % 3]!) = true
 obtain ⟨i, hi⟩ : ∃ i, i = j % 3 := ⟨_, rfl⟩; rw [← hi] at hj ⊢
 match i, hj with
 | 0, _ => rfl
 | 1, _ => rfl
 | 2, _ => rfl
def EachOk [Ol] (K : Nat) (w : World) (g n k : Nat) (ts : List Term) (V : World) : Prop :=
 ∃ L Y, AtN V g L 56 ∧ Clean L ∧ L.length = n * 3 ∧ Seg 3 L 0 Y ∧ Each 3 Y ∧ Tms (TmC K V) Y (ts.take k) ∧ Below w.heap.size w V
theorem EachOk.step [Ol] {K : Nat} {w : World} {g n k : Nat} {ts : List Term} {V V' : World} (h : EachOk K w g n k ts V) (hb : Below V.heap.size V V') : EachOk K w g n k ts V' := by
 obtain ⟨L, Y, h1, h2, h3, h4, h5, h6, h7⟩ := h
 exact ⟨L, Y, h1.below hb, h2, h3, h4, h5, tmsC_below h6 hb, Below.steps h7 hb⟩
theorem EachOk.cells [Ol] {K : Nat} {w : World} {g n k : Nat} {ts : List Term} {V : World} (h : EachOk K w g n k ts V) (hk : k < n) :
  (∃ a b c, V.cell? ⟨g, k * 3, none⟩ = some a ∧ V.cell? ⟨g, k * 3 + 1, none⟩ = some b ∧ V.cell? ⟨g, k * 3 + 2, none⟩ = some c) ∧ V.frozen? ⟨g, k * 3, none⟩ = false ∧ V.frozen? ⟨g, k * 3 + 1, none⟩ = false ∧ V.frozen? ⟨g, k * 3 + 2, none⟩ = false := by
 obtain ⟨L, Y, h1, h2, h3, h4, h5, h6, h7⟩ := h
 have hl : (k + 1) * 3 ≤ n * 3 := Nat.mul_le_mul_right _ hk
 refine ⟨⟨_, _, _, (h1.cell (k * 3)).trans (List.getElem?_eq_getElem (by omega)), (h1.cell (k * 3 + 1)).trans (List.getElem?_eq_getElem (by omega)), (h1.cell (k * 3 + 2)).trans (List.getElem?_eq_getElem (by omega))⟩, h1.fz _, h1.fz _, h1.fz _⟩
theorem EachOk.put [Ol] {K : Nat} {w : World} {g n k : Nat} {ts : List Term} {V : World} (h : EachOk K w g n k ts V) (hk : k < n) (hts : ts.length = n) (hg : w.heap.size ≤ g) {m : Bool} {ao : Option Addr} {na cap : Nat} {bo : Option Addr} {l cb : Nat}
  (hC : Cn V m ao na cap (ts.getD k (0, [])).1) (hB : Bd (ts.getD k (0, [])).1 K) (hM : Ml V bo l cb (ts.getD k (0, [])).2) :
  EachOk K w g n (k + 1) ts (((V.setCell ⟨g, k * 3, none⟩ (.bool m)).setCell ⟨g, k * 3 + 1, none⟩ (.slice ao na cap)).setCell ⟨g, k * 3 + 2, none⟩ (.slice bo l cb)) := by
 obtain ⟨L, Y, h1, h2, h3, h4, h5, h6, h7⟩ := h
 have hl : (k + 1) * 3 ≤ n * 3 := Nat.mul_le_mul_right _ hk
 have hY : Y.length = k := by rw [h6.len, List.length_take]; omega
 have e : ts.take (k + 1) = ts.take k ++ [ts.getD k (0, [])] := by
  rw [List.take_succ_eq_append_getElem (by omega), getD_of _ (by omega)]
 have hGr := grown_put3 V g (k * 3) (.bool m) (.slice ao na cap) (.slice bo l cb)
 refine ⟨putL L (k * 3) [.bool m, .slice ao na cap, .slice bo l cb], Y ++ [[.bool m, .slice ao na cap, .slice bo l cb]], h1.put3 _ _ _ _, clean_put _ _ _ h2 (fun u hu => by simp at hu; rcases hu with rfl | rfl | rfl <;> rfl), by rw [putL_length, h3], ?_, h5.append (Each.mk1 rfl (fun u hu => by simp at hu; rcases hu with rfl | rfl | rfl <;> rfl)), ?_, ?_⟩
 ·refine Seg.append (h4.far (.inr (by rw [hY]; omega))) ?_
  rw [hY, Nat.zero_add]
  exact Seg.one (by omega)
 ·rw [e]
  refine Tms.append (tmsC_stays h6 (h1.cleanB h2) hGr) ⟨⟨m, ao, na, cap, bo, l, cb, rfl, hC.far h1 h2 hGr, hB, ?_⟩, trivial⟩
  exact ⟨hM.len, hM.le, hM.big, hM.wf, hM.nil, fun ad had t ht => ⟨hGr.cell (hM.cells ad had t ht).1 (fun eq => (h1.cleanB h2).far (hM.cells ad had t ht).1 (Option.some.inj eq)), hGr.cell (hM.cells ad had t ht).2 (fun eq => (h1.cleanB h2).far (hM.cells ad had t ht).2 (Option.some.inj eq))⟩, fun h0 ad had => by
   obtain ⟨x, hx⟩ := hM.int h0 had
   exact (hM.kp h0 ad had).grown (hM.blt h0 had) hGr fun eq => (h1.cleanB h2).far hx (Option.some.inj eq)⟩
 ·exact h7.trans (below_of_grown hGr hg h7.size)
theorem EachOk.done [Ol] {K : Nat} {w : World} {g n : Nat} {ts : List Term} {V : World} (h : EachOk K w g n n ts V) (hn : n ≤ 1000000) (hts : ts.length = n) (hg : g = w.heap.size) : NewPw K w ts (.returned (.slice (some ⟨g, 0, none⟩) n n)) V := by
 obtain ⟨L, Y, h1, h2, h3, h4, h5, h6, h7⟩ := h
 rw [List.take_of_length_le (by omega)] at h6
 refine ⟨_, _, _, rfl, ⟨Y, ⟨.inr ⟨g, 0, L, rfl, by omega, h1, h2, by omega, Nat.le_refl _, by unfold maxLen; omega, by omega, by rw [h6.len, hts], h5, h4⟩⟩, h6⟩, h7⟩
theorem each_any [Ol] {G : Nat} {lb : Array Value} (eg : ∀ args w, (callFunc G args).run Tryz.prog w = .ok (.enter G args) w) {K : Nat} {ao : Option Addr} {n cap : Nat} {vss : List (List Value)} {ts : List Term} {w : World} (hG : Gl 3 w ao n cap vss) (hn : n ≤ 1000000) (hts : ts.length = n) (hS : ∀ k, k < n → ∃ xm xa xn xc xp xq xr, vss.getD k [] = [.bool xm, .slice xa xn xc, .slice xp xq xr])
  (hF : ∀ k, k < n → ∀ W, Below w.heap.size w W → Calls Tryz.prog G (#[.agg (vss.getD k []).toArray] ++ lb) W (NewT K W (ts.getD k (0, [])))) :
  Calls Tryz.prog 95 #[.slice ao n cap, .func (.func G) #[] lb] w (NewPw K w ts) := by
 obtain ⟨i0, hi, hz0, hz1, hz2⟩ := info_parts Tryz.info_term
 have hmk : ∀ W : World, (Instr.makeSlice 25 (.int .i64 (n : Int)) (.int .i64 (n : Int))).run Tryz.prog W = .ok (.slice (some ⟨W.heap.size, 0, none⟩) n n) (W.alloc (.cells (zeroRow n).toArray 56)) := by
  intro W
  have h := run_make (P := Tryz.prog) W 25 56 i0 _ Tryz.underlying25 hi hz0 .i64 .i64 (n : Int) (n : Int) (by omega) (by omega) (by rw [hz2]; omega) (by omega)
  rw [h, hz1]
  simp [zeroRow]
  rfl
 have hle := hG.le; have HF := hid hF; have HSH := hid hS; have HG := hid hG; have HT := hid hts; have HN := hid hn; clear hF hG hts hS hi hz0 hz1 hz2
 go_enter Tryz.func95, Tryz.ntmps95
 go_upto_region 2 with (fail)
 refine wp_world (fun W hW => ?_)
 have HE : Hid (EachOk K w w.heap.size n 0 ts W) := by
  rw [hW]
  exact ⟨zeroRow n, [], AtN.new _ _ _, zeroRow_clean n, zeroRow_len n, Seg.nil _ _ _, (fun _ h => by cases h), by simp [Tms], below_alloc _ _⟩
 clear hW hmk
 go_wp2
 go_loopw [13] (fun i wr => ∃ k : Nat, i = .int .i64 k ∧ k ≤ n ∧ Hid (EachOk K w w.heap.size n k ts wr)) (fun i _ => n - (intOf i).toNat)
 case atStart => exact ⟨0, rfl, Nat.zero_le _, HE.out⟩
 case round =>
  clear HE; obtain ⟨k, rfl, hk, HE⟩ := hrel
  by_cases hkn : k < n
  ·obtain ⟨L, Y, _, _, _, _, _, _, hBw⟩ := HE.out
   have hGw := HG.out.below hBw
   obtain ⟨b, off, hao, hb, hc⟩ := hGw.at (by omega)
   subst hao; obtain ⟨xm, xa, xn, xc, xp, xq, xr, hv⟩ := HSH.out k hkn; obtain ⟨c0, c1, c2⟩ := hGw.cell3 hkn hv wr (Below.refl _ _); have HFk := HF.out k hkn; rw [hv] at HFk; have HFK := hid HFk; clear HFk hGw hc hv hBw
   go_upto_region 5 with (fail)
   refine wp_world (fun W hW => ?_)
   have a1 : AtN W wr.heap.size [.bool xm, .slice xa xn xc, .slice xp xq xr] 56 ∧ Below wr.heap.size wr W := by rw [hW]; exact box1 wr [.bool xm, .slice xa xn xc, .slice xp xq xr] 56
   clear hW c0 c1 c2; have HE1 := hid (HE.out.step a1.2); obtain ⟨c0, c1, c2⟩ := a1.1.c3; clear a1 HE; obtain ⟨L, Y, _, _, _, _, _, _, hBw⟩ := HE1.out; have HC := hid (HFK.out W hBw); clear hBw
   go_wp2_with (go_at_fn G; refine HC.out.mono ?_; rintro e w2 ⟨m, ra, rn, rc, rb, rk, rd, rfl, ⟨hC, hD, hM⟩, hB⟩; have HE2 := hid (HE1.out.step hB); have HM := hid (And.intro hC (And.intro hD hM)); obtain ⟨⟨v0, v1, v2, d0, d1, d2⟩, f0, f1, f2⟩ := HE2.out.cells hkn; clear c0 c1 c2 hC hD hM hB HE1)
   go_roundw
   case rel => exact ⟨k + 1, by go_num, by omega, HE2.out.put hkn HT.out (Nat.le_refl _) HM.out.1 HM.out.2.1 HM.out.2.2⟩
   case measure => simp [intOf]; omega
  ·obtain rfl : k = n := by omega
   go_wp2
   go_ret
   exact HE.out.done HN.out HT.out rfl
open Lib (hid)
theorem clean3 (m : Bool) (ao : Option Addr) (n cap : Nat) (bo : Option Addr) (l cb : Nat) : Clean [.bool m, .slice ao n cap, .slice bo l cb] := fun u hu => by simp at hu; rcases hu with rfl | rfl | rfl <;> rfl
theorem put3_far {w : World} {g b o : Nat} (h : b ≠ g) (u v z : Value) : (((w.setCell ⟨g, o, none⟩ u).setCell ⟨g, o + 1, none⟩ v).setCell ⟨g, o + 2, none⟩ z).heap[b]? = w.heap[b]? := by
 rw [Below.heap_setCell _ _ _ _ h, Below.heap_setCell _ _ _ _ h, Below.heap_setCell _ _ _ _ h]
theorem ownFn_any [Ol] {m : Bool} {ao : Option Addr} {n cap : Nat} {bo : Option Addr} {l cb : Nat} {x : Int} {ps : List (Int × Int)} {K : Nat} {w : World} (hx : Nx w m ao n cap x) (hd : Bd x K) (hm : Ml w bo l cb ps) :
  Calls Tryz.prog 96 #[.agg #[.bool m, .slice ao n cap, .slice bo l cb]] w (NewT K w (x, ps)) := by
 go_enter Tryz.func96, Tryz.ntmps96
 go_upto_region 1 with (fail)
 refine wp_world (fun W hW => ?_)
 obtain ⟨a1, a2, hB⟩ := box2 w [.bool m, .slice ao n cap, .slice bo l cb] [.bool false, .slice none 0 0, .slice none 0 0] 56 56; rw [← hW] at a1 a2 hB; clear hW; have A0 := hid a1; have R0 := hid a2; have HB0 := hid hB; clear a1 a2 hB
 refine wp_region_held_drew (S := fun w' => w'.cell? ⟨w.heap.size, 0, none⟩ = some (.bool m) ∧ w'.cell? ⟨w.heap.size, 1, none⟩ = some (.slice ao n cap) ∧ w'.cell? ⟨w.heap.size, 2, none⟩ = some (.slice bo l cb)) (by kernel_rfl) A0.out.c3 (fun hH => ?_)
 refine anyH_world (fun w1 hW => ?_)
 have HB1 : Hid (Below w.heap.size w w1) := by rw [hW]; exact HB0.out.drew
 have A1 : Hid (AtN w1 w.heap.size [.bool m, .slice ao n cap, .slice bo l cb] 56) := by rw [hW]; exact A0.out.below (Below.refl _ _).drew
 have R1 : Hid (AtN w1 (w.heap.size + 1) [.bool false, .slice none 0 0, .slice none 0 0] 56) := by rw [hW]; exact R0.out.below (Below.refl _ _).drew
 rw [← hW] at hH; clear HB0 A0 R0
 clear hW
 refine son 0 hH ?_; try simp only [nrm]
 refine son 1 hH ?_; try simp only [nrm]
 refine son 2 hH ?_; try simp only [nrm]
 refine son 4 hH ?_; try simp only [nrm]
 refine son 5 hH ?_; try simp only [nrm]
 refine step_one 3 rfl (by kernel_rfl) (fun KK hK => ?_)
 go_simp; refine (wadd_any (hx.below HB1.out) ((zero_cx _).nx)).mono ?_
 rintro e w2 ⟨rm, ra, rn, rc, rfl, hC, hB⟩; rw [Int.add_zero] at hC; have A2 := hid (A1.out.below hB); have R2 := hid (R1.out.below hB); have HB2 := hid (Below.steps HB1.out hB); have C2 := hid hC; clear hB hC A1 R1 HB1; go_wp2_with fail
 clear hH; refine hK.out _ _ A2.out.c3 fun hH => ?_; clear hK KK
 try simp only [nrm]
 refine step_one 6 rfl (by kernel_rfl) (fun KK hK => ?_)
 go_simp; refine (clone_any (hm.below HB2.out)).mono ?_
 rintro e w3 ⟨ma, mn, mc, rfl, hM, hB⟩; have A3 := hid (A2.out.below hB); have R3 := hid (R2.out.below hB); have HB3 := hid (Below.steps HB2.out hB); have M3 := hid hM.ml; have C3 := hid (C2.out.below hB); clear hB hM A2 R2 HB2 C2; go_wp2_with fail
 clear hH; refine hK.out _ _ A3.out.c3 fun hH => ?_; clear hK KK
 try simp only [nrm]
 refine son 7 hH ?_; try simp only [nrm]
 obtain ⟨d0, d1, d2⟩ := R3.out.c3; obtain ⟨f0, f1, f2⟩ := R3.out.f3
 refine step_one 8 rfl (by kernel_rfl) (fun KK hK => ?_)
 go_simp; clear d0 d1 d2 f0 f1 f2
 clear hH; refine hK.out _ _ (AtN.c3 (T := 56) (A3.out.keep (put3_far (Nat.ne_of_lt (Nat.lt_succ_self _)) _ _ _))) fun hH => ?_; clear hK KK
 try simp only [nrm]
 refine wpAnyH_done (by kernel_rfl) ?_ _
 go_wp2_with fail
 refine post_world (Q := bodyPost _ _ _ _ _) (fun W hW => ?_)
 have R : AtN W (w.heap.size + 1) [.bool rm, .slice ra rn rc, .slice ma mn mc] 56 := by rw [hW]; exact ((R3.out.set 0 _).set 1 _).set 2 _
 have HC : Cn W rm ra rn rc x := by rw [hW]; exact C3.out.staysC (R3.out.cleanB (clean3 _ _ _ _ _ _ _)) (grown_put3 _ _ 0 _ _ _)
 have HM : Ml W ma mn mc ps := by rw [hW]; exact M3.out.staysC (R3.out.cleanB (clean3 _ _ _ _ _ _ _)) (grown_put3 _ _ 0 _ _ _)
 have HBW : Below w.heap.size w W := by rw [hW]; exact HB3.out.trans (below_of_grown (grown_put3 _ _ 0 _ _ _) (by omega) HB3.out.size)
 clear hW; obtain ⟨d0, d1, d2⟩ := R.c3
 refine bodyPost_ret (v := .agg #[.bool rm, .slice ra rn rc, .slice ma mn mc]) (by simp [results, Tryz.results96, go_sem, d0, d1, d2]) rfl ?_
 exact ⟨_, _, _, _, _, _, _, rfl, ⟨HC, hd, HM⟩, HBW⟩
theorem Pi.gl3 [Ol] {K : Nat} {w : World} {ao : Option Addr} {n cap : Nat} {p : List Term} (h : Pi K w ao n cap p) : ∃ vss, Gl 3 w ao n cap vss ∧ ∀ k, k < n → ∃ xm xa xn xc xp xq xr, vss.getD k [] = [.bool xm, .slice xa xn xc, .slice xp xq xr] ∧ In w xm xa xn xc (p.getD k (0, [])).1 ∧ xn ≤ K ∧ Ml w xp xq xr (p.getD k (0, [])).2 := by
 have hl := h.len; obtain ⟨vss, h1, h2⟩ := h.ex
 exact ⟨vss, h1, fun k hk => Tms.get (0, []) h2 k (by omega)⟩
theorem Pc.gl3 [Ol] {K : Nat} {w : World} {ao : Option Addr} {n cap : Nat} {p : List Term} (h : Pc K w ao n cap p) : ∃ vss, Gl 3 w ao n cap vss ∧ ∀ k, k < n → ∃ xm xa xn xc xp xq xr, vss.getD k [] = [.bool xm, .slice xa xn xc, .slice xp xq xr] ∧ Cn w xm xa xn xc (p.getD k (0, [])).1 ∧ Bd (p.getD k (0, [])).1 K ∧ Ml w xp xq xr (p.getD k (0, [])).2 := by
 have hl := h.len; obtain ⟨vss, h1, h2⟩ := h.ex
 exact ⟨vss, h1, fun k hk => Tms.get (0, []) h2 k (by omega)⟩
theorem own_any8 [Ol] {K : Nat} {ao : Option Addr} {n cap : Nat} {p : List Term} {w : World} (h : Pi K w ao n cap p) (hn : n ≤ 1000000) (hK : K ≤ 1000000) :
  Calls Tryz.prog 63 #[.slice ao n cap] w (NewPw K w p) := by
 have hl := h.len; obtain ⟨vss, hG, hE⟩ := h.gl3
 have eg : ∀ args w, (callFunc 96 args).run Tryz.prog w = .ok (.enter 96 args) w := enters_of Tryz.func96 (by kernel_rfl) rfl
 have hE' : ∀ W, Calls Tryz.prog 95 #[.slice ao n cap, .func (.func 96) #[] #[]] w W → Calls Tryz.prog 95 #[.slice ao n cap, .func (.func 96) #[] #[]] w W := fun _ h => h
 have hC := each_any eg (K := K) (ts := p) hG hn hl (fun k hk => by obtain ⟨xm, xa, xn, xc, xp, xq, xr, hv, _⟩ := hE k hk; exact ⟨xm, xa, xn, xc, xp, xq, xr, hv⟩) (fun k hk W hW => by
  obtain ⟨xm, xa, xn, xc, xp, xq, xr, hv, h1, h2, h3⟩ := hE k hk
  have hx : Nx W xm xa xn xc (p.getD k (0, [])).1 := ⟨h1.below hW, by omega⟩
  have hb := h1.bd h2; have hm := h3.below hW; rw [hv, Array.append_empty]
  generalize p.getD k (0, []) = t at hx hb hm
  obtain ⟨x, ps⟩ := t
  exact ownFn_any hx hb hm)
 have HC := hid hC; clear hE' hC hE hG hl h
 go_enter Tryz.func63, Tryz.ntmps63
 go_wp2_with fail
 refine HC.out.mono ?_
 rintro e w' ⟨oa, on, oc, rfl, h1, h2⟩; go_wp2_with fail
 go_ret
 exact ⟨_, _, _, rfl, h1, h2⟩
open Lib (hid)
theorem notInt_zeros (k : Nat) : Clean (Builtin.zeroCells (Value.agg #[.bool false, .slice none 0 0, .slice none 0 0]).cells k).toList := by
 intro u hu
 simp only [Builtin.zeroCells, Array.toList_map, List.mem_map, Value.cells] at hu
 obtain ⟨j, _, rfl⟩ := hu
 have hj : j % 3 < 3 := Nat.mod_lt _ (by omega)
 obtain ⟨i, hi⟩ : ∃ i, i = j % 3 := ⟨_, rfl⟩
 show notInt ((#[Value.bool false, .slice none 0 0, .slice none 0 0] : Array Value)[j % 3]!) = true
 rw [← hi] at hj ⊢
 match i, hj with
 | 0, _ => rfl
 | 1, _ => rfl
 | 2, _ => rfl
theorem zeros_len (k : Nat) : (Builtin.zeroCells (Value.agg #[.bool false, .slice none 0 0, .slice none 0 0]).cells k).toList.length = k * 3 := by simp [Builtin.zeroCells, Value.cells]
theorem clean_append {L M : List Value} (h : Clean L) (k : Clean M) : Clean (L ++ M) := fun u hu => (List.mem_append.1 hu).elim (h u) (k u)
section
variable {P : Program} (w : World)
theorem run_append_zeros (t ti ty e : TypeId) (i : TypeInfo) (z : Value) (ht : P.underlying t = some (.slice e)) (hti : P.underlying ti = some (.int .i64)) (hi : P.info? e = some i) (hz : i.zero = some z) (h0 : 0 < i.size)
  (b : Addr) (n c k : Nat) (olds : List Value) (hlo : olds.length = n * i.size) (holds : ∀ j v, olds[j]? = some v → w.cell? (b.add j) = some v)
  (hk : 0 < k) (hg : c < n + k) (h63 : ((n + k : Nat) : Int) ≤ 9223372036854775807) (h48 : k * i.bytes ≤ 281474976710656) (hfit : Builtin.nextslicecap (n + k) c * i.bytes ≤ 281474976710656) :
  (Builtin.append_ #[t, ti] ty #[.slice (some b) n c, .int .i64 (k : Int)]).run P w =
   .ok (.slice (some ⟨w.heap.size, 0, none⟩) (n + k) (grownCap w (n + k) c e))
    (w.drew.alloc (.cells (olds.toArray ++ Builtin.zeroCells z.cells k ++ Builtin.zeroCells z.cells (grownCap w (n + k) c e - (n + k))) e)) := by
 have hn : ¬ (n + k ≤ c) := by omega
 have h63' : ¬ (9223372036854775807 < ((n : Int) + (k : Int))) := by omega
 have h48' : ¬ (281474976710656 < Builtin.nextslicecap (n + k) c * i.bytes) := by omega
 have hk48 : ¬ (281474976710656 < (k : Int) * (i.bytes : Int)) := by rw [← Int.natCast_mul]; omega
 have wk : IntKind.i64.wrap (k : Int) = k := by rw [IntKind.wrap_i64]; omega
 have hkn : ¬ ((k : Int) < 0) := by omega
 have hks : k * i.size ≠ 0 := Nat.mul_ne_zero (by omega) (by omega)
 have hfo := run_firstCells_some (P := P) w.drew i.size n b n c olds hlo (by simpa using holds)
 simp [Builtin.append_, run_underlying ht, run_underlying hti, asInt, asIntOf, sizeOf, typeInfo, zeroValue, hi, hz, hn, h63', h48', hk48, hkn, wk, Question.forced, hfo, newRow, grownCap]
 intro h; exact absurd h hks
theorem run_append_zeros_nil (t ti ty e : TypeId) (i : TypeInfo) (z : Value) (ht : P.underlying t = some (.slice e)) (hti : P.underlying ti = some (.int .i64)) (hi : P.info? e = some i) (hz : i.zero = some z) (h0 : 0 < i.size)
  (k : Nat) (hk : 0 < k) (h63 : (k : Int) ≤ 9223372036854775807) (h48 : k * i.bytes ≤ 281474976710656) :
  (Builtin.append_ #[t, ti] ty #[.slice none 0 0, .int .i64 (k : Int)]).run P w =
   .ok (.slice (some ⟨w.heap.size, 0, none⟩) k (grownCap w k 0 e))
    (w.drew.alloc (.cells (Builtin.zeroCells z.cells k ++ Builtin.zeroCells z.cells (grownCap w k 0 e - k)) e)) := by
 have hn : k ≠ 0 := by omega
 have h63' : ¬ (9223372036854775807 < (k : Int)) := by omega
 have h48' : ¬ (281474976710656 < Builtin.nextslicecap k 0 * i.bytes) := by rw [nextslicecap_zero hk]; omega
 have hk48 : ¬ (281474976710656 < (k : Int) * (i.bytes : Int)) := by rw [← Int.natCast_mul]; omega
 have wk : IntKind.i64.wrap (k : Int) = k := by rw [IntKind.wrap_i64]; omega
 have hkn : ¬ ((k : Int) < 0) := by omega
 have hks : k * i.size ≠ 0 := Nat.mul_ne_zero (by omega) (by omega)
 simp [Builtin.append_, run_underlying ht, run_underlying hti, asInt, asIntOf, sizeOf, typeInfo, zeroValue, hi, hz, hn, h63', h48', hk48, hkn, wk, Builtin.firstCells, Question.forced, newRow, grownCap]
 intro h; exact absurd h hks
end
theorem wp_append_of {P : Program} {o : Oper} {a : Act} {w W : World} {K : Act → World → Prop} {Q : Exit → Act → World → Prop} (s x : Operand) (t u : TypeId) (hop : o.op = Op.call { callee := Callee.builtin Builtin.append, args := #[s, x], argTypes := #[t, u] })
  (vs vx : Value) (hs : a.eval s = vs) (hx : a.eval x = vx) {v : Value} (hr : (Builtin.append_ #[t, u] o.type #[vs, vx]).run P w = .ok v W) (hK : K (a.put o.dst v) W) : Oper.wp P o a w K Q := by
 unfold Oper.wp execOp
 simp only [hop, resolve, invoke, builtin, Sem.run_bind, Sem.run_pure, Result.andThen_ok, List.map_toArray, List.map_cons, List.map_nil, hs, hx, hr]
 exact hK
theorem wpList_append_of {P : Program} {ops : Array Oper} {rest : List Oper} {o : Oper} {a : Act} {w W : World} {Q : Exit → Act → World → Prop} (hg : o.guard = none) (s x : Operand) (t u : TypeId) (hop : o.op = Op.call { callee := Callee.builtin Builtin.append, args := #[s, x], argTypes := #[t, u] })
  (vs vx : Value) (hs : a.eval s = vs) (hx : a.eval x = vx) {v : Value} (hr : (Builtin.append_ #[t, u] o.type #[vs, vx]).run P w = .ok v W) (hK : wpList P ops Q rest (a.put o.dst v) W) : wpList P ops Q (o :: rest) a w :=
 wpList_plain hg fun _ hK' => wp_append_of s x t u hop vs vx hs hx hr (hK' _ _ hK)
structure Rm (g off cap : Nat) (L : List Value) (w : World) : Prop where
 at1 : AtN w g L 56
 cln : Clean L
 room : off + cap * 3 ≤ L.length
 big : cap ≤ maxLen
def Grew [Ol] (K : Nat) (w : World) (ao : Option Addr) (n m : Nat) (p : List Term) (e : Ending) (V : World) : Prop :=
 ∃ g off cap L X, e = .returned (.slice (some ⟨g, off, none⟩) n cap) ∧ Rm g off cap L V ∧ n + m ≤ cap ∧ Each 3 X ∧ Seg 3 L off X ∧ Tms (TmC K V) X p ∧ Below w.heap.size w V ∧ (blk ao = some g ∨ w.heap.size ≤ g)
theorem grow_any [Ol] {B K : Nat} {ao : Option Addr} {n cap m : Nat} {p : List Term} {w : World} (h : Pw B K w ao n cap p) (hm : 0 < m) (hn : n + m ≤ 1000000) :
  Calls Tryz.prog 92 #[.slice ao n cap, .int .i64 (m : Int)] w (Grew K w ao n m p) := by
 obtain ⟨i0, hi, hz0, hz1, hz2⟩ := info_parts Tryz.info_term; obtain ⟨X, hR, hT⟩ := h
 have hd0 : decide ((m : Int) < 0) = false := decide_eq_false (by omega)
 rcases hR.ex with ⟨rfl, rfl, rfl, rfl⟩ | ⟨g, off, L, rfl, hBg, hA, hC, hroom, hnc, hbig, hn42, hX, hE, hS⟩
 ·have hd1 : decide ((0 : Int) < (m : Int)) = true := decide_eq_true (by omega)
  have hap : ∀ (ty : TypeId) (W : World), (Builtin.append_ #[26, 3] ty #[.slice none 0 0, .int .i64 (m : Int)]).run Tryz.prog W = .ok (.slice (some ⟨W.heap.size, 0, none⟩) m (grownCap W m 0 56)) (W.drew.alloc (.cells (Builtin.zeroCells (Value.agg #[.bool false, .slice none 0 0, .slice none 0 0]).cells m ++ Builtin.zeroCells (Value.agg #[.bool false, .slice none 0 0, .slice none 0 0]).cells (grownCap W m 0 56 - m)) 56)) := fun ty W =>
   run_append_zeros_nil W 26 3 ty 56 i0 _ Tryz.underlying26 Tryz.underlying3 hi hz0 (by rw [hz1]; omega) m hm (by omega) (by rw [hz2]; omega)
  obtain ⟨c', hc'⟩ : ∃ c', c' = grownCap w m 0 56 := ⟨_, rfl⟩
  have hge : m ≤ c' := by rw [hc']; exact grownCap_ge _ _ _ _
  have hle : c' ≤ maxLen := by rw [hc']; exact grownCap_le_maxLen _ _ _ _ (by unfold maxLen; omega)
  have hapw := fun ty => hap ty w
  rw [← hc'] at hapw; obtain ⟨M, hM⟩ : ∃ M : List Value, M = (Builtin.zeroCells (Value.agg #[.bool false, .slice none 0 0, .slice none 0 0]).cells m ++ Builtin.zeroCells (Value.agg #[.bool false, .slice none 0 0, .slice none 0 0]).cells (c' - m)).toList := ⟨_, rfl⟩
  have hMc : Clean M := by rw [hM, Array.toList_append]; exact clean_append (notInt_zeros _) (notInt_zeros _)
  have hMl : M.length = c' * 3 := by rw [hM, Array.toList_append, List.length_append, zeros_len, zeros_len]; omega
  have hMe : (Builtin.zeroCells (Value.agg #[.bool false, .slice none 0 0, .slice none 0 0]).cells m ++ Builtin.zeroCells (Value.agg #[.bool false, .slice none 0 0, .slice none 0 0]).cells (c' - m)) = M.toArray := by rw [hM]
  rw [hMe] at hapw; clear hap hc' hi hz0 hz1 hz2 hM hMe
  have HT := hid hT; have HL := hid (And.intro hMc (And.intro hMl hle)); clear hT hR hMc hMl hle
  go_enter Tryz.func92, Tryz.ntmps92
  go_wp2_with (at_builtin; refine wpList_append_of rfl (.tmp 20) (.tmp 21) 26 3 rfl _ _ rfl rfl (hapw _) ?_)
  go_ret
  exact ⟨w.heap.size, 0, c', M, [], rfl, ⟨AtN.new _ _ _, HL.out.1, by rw [HL.out.2.1]; omega, HL.out.2.2⟩, by omega, (fun _ h => by cases h), Seg.nil _ _ _, HT.out.imp (fun _ _ h => h.below ((Below.refl _ w).drew.alloc (Nat.le_refl _) _)), (Below.refl _ w).drew.alloc (Nat.le_refl _) _, .inr (Nat.le_refl _)⟩
 ·by_cases hr : m ≤ cap - n
  ·have hd1 : decide ((0 : Int) < (m : Int) - ((cap : Int) - (n : Int))) = false := decide_eq_false (by omega)
   have hbc : cap ≤ 9223372036854775807 := by unfold maxLen at hbig; omega
   have HT := hid hT; have HG := hid (And.intro hE (And.intro hS (Rm.mk (w := w) hA hC hroom hbig))); clear hT hR hE hS hA hC hroom hbig hX hi hz0 hz1 hz2
   go_enter Tryz.func92, Tryz.ntmps92
   go_wp2
   go_ret
   exact ⟨g, off, cap, L, X, rfl, HG.out.2.2, by omega, HG.out.1, HG.out.2.1, HT.out, Below.refl _ _, .inl rfl⟩
  ·have hcap : cap ≤ 1000000 := by omega
   obtain ⟨r, hre⟩ : ∃ r, r = m - (cap - n) := ⟨_, rfl⟩
   have hrz : (m : Int) - ((cap : Int) - (n : Int)) = (r : Int) := by omega
   have hr0 : 0 < r := by omega
   have hd1 : decide ((0 : Int) < (r : Int)) = true := decide_eq_true (by omega)
   obtain ⟨O, hO⟩ : ∃ O, O = (L.drop off).take (cap * 3) := ⟨_, rfl⟩
   have hOl : O.length = cap * 3 := by rw [hO, List.length_take, List.length_drop]; omega
   have hOg : ∀ j, j < cap * 3 → O[j]? = L[off + j]? := fun j hj => by rw [hO, List.getElem?_take, if_pos hj, List.getElem?_drop]
   have hap : ∀ (ty : TypeId), (Builtin.append_ #[26, 3] ty #[.slice (some ⟨g, off, none⟩) cap cap, .int .i64 (r : Int)]).run Tryz.prog w = .ok (.slice (some ⟨w.heap.size, 0, none⟩) (cap + r) (grownCap w (cap + r) cap 56)) (w.drew.alloc (.cells (O.toArray ++ Builtin.zeroCells (Value.agg #[.bool false, .slice none 0 0, .slice none 0 0]).cells r ++ Builtin.zeroCells (Value.agg #[.bool false, .slice none 0 0, .slice none 0 0]).cells (grownCap w (cap + r) cap 56 - (cap + r))) 56)) := fun ty =>
    run_append_zeros w 26 3 ty 56 i0 _ Tryz.underlying26 Tryz.underlying3 hi hz0 (by rw [hz1]; omega) ⟨g, off, none⟩ cap cap r O (by rw [hOl, hz1]) (fun j v hj => by
     have hj2 : j < cap * 3 := by rw [← hOl]; exact (List.getElem?_eq_some_iff.1 hj).1
     rw [Addr.add_lit, hA.cell, ← hOg j hj2, hj]) hr0 (by omega) (by omega) (by rw [hz2]; omega) (by rw [hz2]; exact growslice_fits (by omega) (by omega))
   obtain ⟨c', hc'⟩ : ∃ c', c' = grownCap w (cap + r) cap 56 := ⟨_, rfl⟩
   have hge : cap + r ≤ c' := by rw [hc']; exact grownCap_ge _ _ _ _
   have hle : c' ≤ maxLen := by rw [hc']; exact grownCap_le_maxLen _ _ _ _ (by unfold maxLen; omega)
   rw [← hc'] at hap; obtain ⟨M, hM⟩ : ∃ M : List Value, M = (O.toArray ++ Builtin.zeroCells (Value.agg #[.bool false, .slice none 0 0, .slice none 0 0]).cells r ++ Builtin.zeroCells (Value.agg #[.bool false, .slice none 0 0, .slice none 0 0]).cells (c' - (cap + r))).toList := ⟨_, rfl⟩
   have hOc : Clean O := fun u hu => hC u (List.mem_of_mem_drop (List.mem_of_mem_take (hO ▸ hu)))
   have hMc : Clean M := by rw [hM, Array.toList_append, Array.toList_append]; exact clean_append (clean_append hOc (notInt_zeros _)) (notInt_zeros _)
   have hMl : M.length = c' * 3 := by rw [hM, Array.toList_append, Array.toList_append, List.length_append, List.length_append, zeros_len, zeros_len]; simp only [hOl]; omega
   have hMg : ∀ j, j < cap * 3 → M[j]? = L[off + j]? := fun j hj => by
    rw [hM, Array.toList_append, Array.toList_append, List.append_assoc, List.getElem?_append_left (by rw [hOl]; exact hj)]
    exact hOg j hj
   have hMe : (O.toArray ++ Builtin.zeroCells (Value.agg #[.bool false, .slice none 0 0, .slice none 0 0]).cells r ++ Builtin.zeroCells (Value.agg #[.bool false, .slice none 0 0, .slice none 0 0]).cells (c' - (cap + r))) = M.toArray := by rw [hM]
   rw [hMe] at hap
   have hMS : Seg 3 M 0 X := fun t ht j hj => by
    have : (t + 1) * 3 ≤ cap * 3 := Nat.mul_le_mul_right _ (by omega)
    rw [Nat.zero_add, hMg _ (by omega), ← hS t ht j hj, Nat.add_assoc]
   have HT := hid hT; have HL := hid (And.intro hMc (And.intro hMl (And.intro hle (And.intro hE hMS))))
   have hbc : cap ≤ 9223372036854775807 := by unfold maxLen at hbig; omega
   clear hT hR hMc hMl hle hE hMS hS hA hC hroom hbig hX hi hz0 hz1 hz2 hc' hM hMe hMg hOc hOg hOl hO hre hr
   go_enter Tryz.func92, Tryz.ntmps92
   go_wp2_with (at_builtin; refine wpList_append_of rfl (.tmp 20) (.tmp 21) 26 3 rfl _ _ rfl rfl (hap _) ?_)
   go_ret
   exact ⟨w.heap.size, 0, c', M, X, rfl, ⟨AtN.new _ _ _, HL.out.1, by rw [HL.out.2.1]; omega, HL.out.2.2.1⟩, by omega, HL.out.2.2.2.1, HL.out.2.2.2.2, HT.out.imp (fun _ _ h => h.below ((Below.refl _ w).drew.alloc (Nat.le_refl _) _)), (Below.refl _ w).drew.alloc (Nat.le_refl _) _, .inr (Nat.le_refl _)⟩
open Lib (hid)
theorem run_append_in {P : Program} (w : World) (t ty e : TypeId) (i : TypeInfo) (ht : P.underlying t = some (.slice e)) (hi : P.info? e = some i)
  (g off n c : Nat) (a : Addr) (m c2 : Nat) (news : List Value) (hl : news.length = m * i.size) (hnews : ∀ j v, news[j]? = some v → w.cell? (a.add j) = some v) (h1 : ∀ v ∈ news, v.oneCell' = true) (hroom : n + m ≤ c)
  (hc : ∀ j, j < news.length → (w.cell? ⟨g, off + n * i.size + j, none⟩).isSome = true) (hf : ∀ j, j < news.length → w.frozen? ⟨g, off + n * i.size + j, none⟩ = false) :
  (Builtin.append_ #[t, t] ty #[.slice (some ⟨g, off, none⟩) n c, .slice (some a) m c2]).run P w = .ok (.slice (some ⟨g, off, none⟩) (n + m) c) (w.setCells g (off + n * i.size) news) := by
 have hfs := run_firstCells_some (P := P) w i.size m a m c2 news hl hnews
 have hst := run_storeCells_cells (P := P) g (off + n * i.size) news 0 w (by simpa using hc) (by simpa using hf) h1
 simp only [Nat.add_zero] at hst
 simp [Builtin.append_, run_underlying ht, sizeOf, typeInfo, hi, Builtin.lenOf, hroom, hfs, Addr.add_lit, hst]
theorem run_clearT (w : World) (b o n c : Nat) (hn : 0 < n) (hc : ∀ j, j < n * 3 → (w.cell? ⟨b, o + j, none⟩).isSome = true) (hf : ∀ j, j < n * 3 → w.frozen? ⟨b, o + j, none⟩ = false) :
  ∃ zs : List Value, zs.length = n * 3 ∧ Clean zs ∧ ∀ ty, (Builtin.clear_ #[26] ty #[.slice (some ⟨b, o, none⟩) n c]).run Tryz.prog w = .ok (.tuple #[]) (w.setCells b o zs) := by
 have hlen := zeros_len n
 have hone : ∀ v ∈ (Builtin.zeroCells (Value.agg #[.bool false, .slice none 0 0, .slice none 0 0]).cells n).toList, v.oneCell' = true := by
  intro v hv
  simp only [Builtin.zeroCells, Array.toList_map, List.mem_map, Value.cells] at hv
  obtain ⟨i, _, rfl⟩ := hv
  have : i % 3 = 0 ∨ i % 3 = 1 ∨ i % 3 = 2 := by omega
  rcases this with h | h | h <;> simp [h] <;> rfl
 have hst := run_storeCells_cells (P := Tryz.prog) b o (Builtin.zeroCells (Value.agg #[.bool false, .slice none 0 0, .slice none 0 0]).cells n).toList 0 w (by rw [hlen]; simpa using hc) (by rw [hlen]; simpa using hf) hone
 simp only [Nat.add_zero] at hst
 refine ⟨_, hlen, notInt_zeros n, fun ty => ?_⟩
 obtain ⟨m, rfl⟩ : ∃ m, n = m + 1 := ⟨n - 1, by omega⟩
 simp [Builtin.clear_, run_underlying Tryz.underlying26, hst]
def Kut (V0 : World) (g off cap : Nat) (X Y : List (List Value)) (e : Ending) (V : World) : Prop :=
 ∃ L, e = .returned (.slice (some ⟨g, off, none⟩) (X.length + Y.length) cap) ∧ Rm g off cap L V ∧ Seg 3 L off (X ++ Y) ∧ V0.grownBy V (some g)
theorem delete_any {g off cap N left place : Nat} {L : List Value} {X Y : List (List Value)} {V : World} (hR : Rm g off cap L V) (hX : Seg 3 L off X) (hXl : X.length = left) (hY : Seg 3 L (off + place * 3) Y) (hYE : Each 3 Y) (hYC : Clean Y.flatten) (hN : place + Y.length = N) (hl : left ≤ place) (hc : N ≤ cap) (hN6 : N ≤ 1000000) :
  Calls Tryz.prog 94 #[.slice (some ⟨g, off, none⟩) N cap, .int .i64 (left : Int), .int .i64 (place : Int)] V (Kut V g off cap X Y) := by
 obtain ⟨i0, hi, hz0, hz1, hz2⟩ := info_parts Tryz.info_term; have hbig := hR.big
 have hbc : cap ≤ 9223372036854775807 := by unfold maxLen at hbig; omega
 have hpN : place ≤ N := by omega
 have hlN : left ≤ N := by omega
 have hpc : place ≤ cap := by omega
 have hlc : left ≤ cap := by omega
 have hroomR := hR.room
 by_cases hlp : left = place
 ·subst hlp
  have HR := hid hR
  have HS : Hid (Seg 3 L off (X ++ Y)) := by rw [Hid]; exact Seg.append hX (by rw [hXl]; exact hY)
  clear hR hX hY hYE hYC hi hz0 hz1 hz2 hbig
  have hd1 : ((left : Int) == (left : Int)) = true := by simp
  by_cases hNl : N = left
  ·subst hNl
   go_enter Tryz.func94, Tryz.ntmps94
   go_wp2
   go_ret
   exact ⟨L, by rw [hXl, hN]; rfl, HR.out, HS.out, World.grownBy.refl _ _⟩
  have hNl2 : ¬ (N - left = 0) := by omega
  go_enter Tryz.func94, Tryz.ntmps94
  go_wp2
  go_ret
  exact ⟨L, by rw [hXl, hN]; rfl, HR.out, HS.out, World.grownBy.refl _ _⟩
 ·have hlt : left < place := by omega
  have hd1 : ((left : Int) == (place : Int)) = false := by simp; omega
  have hNl2 : ¬ (N - left = 0) := by omega
  have HYC := hid hYC; have HYE := hid hYE; have HR := hid hR; have HX := hid hX; have hYl := each_len hYE
  have HAPP : ∀ (a : Addr) (c2 : Nat), (∀ j, j < Y.length * 3 → V.drew.cell? (a.add j) = Y.flatten[j]?) → ∀ ty, (Builtin.append_ #[26, 26] ty #[.slice (some ⟨g, off, none⟩) left cap, .slice (some a) Y.length c2]).run Tryz.prog V.drew = .ok (.slice (some ⟨g, off, none⟩) (left + Y.length) cap) (V.drew.setCells g (off + left * 3) Y.flatten) := by
   intro a c2 ha ty
   have hAd : AtN V.drew g L 56 := hR.at1
   have := run_append_in (P := Tryz.prog) V.drew 26 ty 56 i0 Tryz.underlying26 hi g off left cap a Y.length c2 Y.flatten (by rw [hz1]; exact hYl) (fun j v hj => by rw [ha j (by rw [← hYl]; exact (List.getElem?_eq_some_iff.1 hj).1)]; exact hj) (each_one hYE) (by omega)
    (fun j hj => by rw [hz1, hAd.cell, List.getElem?_eq_getElem (by rw [hYl] at hj; omega)]; rfl) (fun j _ => hAd.fz _)
   rw [hz1] at this
   exact this
  by_cases hcp : cap = place
  ·subst hcp
   obtain rfl : Y = [] := List.eq_nil_of_length_eq_zero (by omega)
   obtain rfl : N = cap := by simp at hN; omega
   have HAP : Hid (∀ ty, (Builtin.append_ #[26, 26] ty #[.slice (some ⟨g, off, none⟩) left N, .slice (some ⟨g, off, none⟩) 0 0]).run Tryz.prog V.drew = .ok (.slice (some ⟨g, off, none⟩) left N) V.drew) := fun ty => by simpa [World.setCells] using HAPP ⟨g, off, none⟩ 0 (fun j hj => by simp at hj) ty
   clear HAPP hR hX hY hYE hYC hi hz0 hz1 hz2 hbig hYl
   go_enter Tryz.func94, Tryz.ntmps94
   go_upto_region 5 with (fail)
   refine wp_region_held_drew (S := fun w' => True) (by kernel_rfl) trivial (fun hH => ?_)
   refine anyH_world (fun w1 hW => ?_)
   have hap : ∀ ty, (Builtin.append_ #[26, 26] ty #[.slice (some ⟨g, off, none⟩) left N, .slice (some ⟨g, off, none⟩) 0 0]).run Tryz.prog w1 = .ok (.slice (some ⟨g, off, none⟩) left N) w1 := by rw [hW]; exact HAP.out
   have HR1 : Hid (AtN w1 g L 56) := by rw [hW]; exact HR.out.at1
   have HG1 : Hid (V.grownBy w1 (some g)) := by rw [hW]; exact grown_below _ (Below.refl _ _).drew
   clear hW
   have hzN : True := trivial
   refine son 0 hH ?_; try simp only [nrm]
   refine son 1 hH ?_; try simp only [nrm]
   refine son 2 hH ?_; try simp only [nrm]
   refine son 3 hH ?_; try simp only [nrm]
   refine son 4 hH ?_; try simp only [nrm]
   refine son 5 hH ?_; try simp only [nrm]
   refine step_one 6 rfl (by kernel_rfl) (fun KK hK => ?_)
   rw [if_pos (by rfl)]
   refine wp_append_of (.tmp 22) (.tmp 25) 26 26 rfl _ _ rfl rfl (hap _) ?_
   clear hH; refine hK.out _ _ trivial fun hH => ?_; clear hK KK
   try simp only [nrm]
   refine anyH_world (fun w2 hW => ?_)
   have HR2 : Hid (AtN w2 g L 56) := by rw [hW]; exact HR1.out
   have HG2 : Hid (V.grownBy w2 (some g)) := by rw [hW]; exact HG1.out
   clear hW; clear hap hzN HR1 HG1
   refine son 7 hH ?_; try simp only [nrm]
   refine wpAnyH_done (by kernel_rfl) ?_ _
   clear hH
   obtain ⟨zs, hzl, hzc, hcl⟩ := run_clearT w2 g (off + left * 3) (N - left) (N - left) (by omega) (fun j hj => by rw [HR2.out.cell, List.getElem?_eq_getElem (by omega)]; rfl) (fun j _ => HR2.out.fz _)
   have HZ := hid (And.intro hzl hzc); clear hzl hzc
   go_wp2
   go_ret
   refine ⟨_, by rw [hXl]; rfl, ⟨HR2.out.put zs _, clean_put _ _ _ HR.out.cln HZ.out.2, by rw [putL_length]; exact HR.out.room, HR.out.big⟩, ?_, grown_trans HG2.out (grown_puts g _ _ _)⟩
   refine Seg.far ?_ (.inr (by rw [List.length_append, hXl]; simp))
   refine Seg.append (HX.out) ?_
   rw [hXl]
   exact Seg.nil _ _ _
  ·have HAP := hid (HAPP ⟨g, off + place * 3, none⟩ (cap - place) (fun j hj => by
    have hAd : AtN V.drew g L 56 := hR.at1
    have hq : j / 3 < Y.length := by omega
    have h1 := hY (j / 3) hq (j % 3) (Nat.mod_lt _ (by omega))
    rw [Addr.add_lit, hAd.cell, show off + place * 3 + j = off + place * 3 + j / 3 * 3 + j % 3 by omega, h1, ← each_get hYE (j / 3) (j % 3) hq (Nat.mod_lt _ (by omega)), show j / 3 * 3 + j % 3 = j by omega]))
   clear HAPP hR hX hY hYE hYC hi hz0 hz1 hz2 hbig hYl
   go_enter Tryz.func94, Tryz.ntmps94
   go_upto_region 5 with (fail)
   refine wp_region_held_drew (S := fun w' => True) (by kernel_rfl) trivial (fun hH => ?_)
   refine anyH_world (fun w1 hW => ?_)
   have hap : ∀ ty, (Builtin.append_ #[26, 26] ty #[.slice (some ⟨g, off, none⟩) left cap, .slice (some ⟨g, off + place * 3, none⟩) Y.length (cap - place)]).run Tryz.prog w1 = .ok (.slice (some ⟨g, off, none⟩) (left + Y.length) cap) (w1.setCells g (off + left * 3) Y.flatten) := by rw [hW]; exact HAP.out
   have HR1 : Hid (AtN w1 g L 56) := by rw [hW]; exact HR.out.at1
   have HG1 : Hid (V.grownBy w1 (some g)) := by rw [hW]; exact grown_below _ (Below.refl _ _).drew
   clear hW
   have hzN : N - place = Y.length := by omega
   refine son 0 hH ?_; try simp only [nrm]
   refine son 1 hH ?_; try simp only [nrm]
   refine son 2 hH ?_; try simp only [nrm]
   refine son 3 hH ?_; try simp only [nrm]
   refine son 4 hH ?_; try simp only [nrm]
   refine son 5 hH ?_; try simp only [nrm]
   refine step_one 6 rfl (by kernel_rfl) (fun KK hK => ?_)
   rw [if_pos (by rfl)]
   refine wp_append_of (.tmp 22) (.tmp 25) 26 26 rfl _ _ rfl rfl (hap _) ?_
   clear hH; refine hK.out _ _ trivial fun hH => ?_; clear hK KK
   try simp only [nrm]
   refine anyH_world (fun w2 hW => ?_)
   have HR2 : Hid (AtN w2 g (putL L (off + left * 3) Y.flatten) 56) := by rw [hW]; exact HR1.out.put _ _
   have HG2 : Hid (V.grownBy w2 (some g)) := by rw [hW]; exact grown_trans HG1.out (grown_puts g _ _ _)
   clear hW; clear hap hzN HR1 HG1
   refine son 7 hH ?_; try simp only [nrm]
   refine wpAnyH_done (by kernel_rfl) ?_ _
   clear hH
   obtain ⟨zs, hzl, hzc, hcl⟩ := run_clearT w2 g (off + (left + Y.length) * 3) (N - (left + Y.length)) (cap - (left + Y.length)) (by omega) (fun j hj => by rw [HR2.out.cell, List.getElem?_eq_getElem (by rw [putL_length]; omega)]; rfl) (fun j _ => HR2.out.fz _)
   have HZ := hid (And.intro hzl hzc); clear hzl hzc
   go_wp2
   go_ret
   refine ⟨_, by rw [hXl]; rfl, ⟨HR2.out.put zs _, clean_put _ _ _ (clean_put _ _ _ HR.out.cln HYC.out) HZ.out.2, by rw [putL_length, putL_length]; exact HR.out.room, HR.out.big⟩, ?_, grown_trans HG2.out (grown_puts g _ _ _)⟩
   refine Seg.far ?_ (.inr (by rw [List.length_append, hXl]; omega))
   refine Seg.append (HX.out.far (.inr (by rw [hXl]; omega))) ?_
   rw [hXl]
   exact Seg.here HYE.out (by have := HR.out.room; omega)
end Go.Proofs.YtmmgipcacceakaaGreat
