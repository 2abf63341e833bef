/-
  The contract of poly.May, whatever the numbers' lengths; view.Class so.
-/
import Derived.Test.YtmmgipcacceakaaGreatWSgn
import Derived.Test.YtmmgipcacceakaaGreatGV
set_option maxHeartbeats 40000000
set_option maxRecDepth 100000
namespace Go.Proofs.YtmmgipcacceakaaGreat
open Lib (hid)
open Go.RowKit
theorem pmayU_any [Ol] (r : Bool) {ao : Option Addr} {n cap : Nat} {ps : List Raw} {w : World} (hp : Pr w ao n cap ps) (h : mayR ps = r) :
  Calls Tryz.prog 21 #[.slice ao n cap] w (RetB (.bool r) w) := by
 obtain ⟨vss, hG, _⟩ := hp.ex; have hbig := hG.big; have HLP := hid hp.len; have HP := hid hp; have HR := hid h; clear hp hG h
 go_enter Tryz.func21, Tryz.ntmps21
 go_wp2
 go_loopw [7] (fun i wr => ∃ k : Nat, i = .int .i64 k ∧ k ≤ n ∧ Hid (∀ t, t < k → okAt ps t = true) ∧ Hid (Below w.heap.size w wr)) (fun i _ => n - (intOf i).toNat)
 case atStart => exact ⟨0, rfl, Nat.zero_le _, fun t h => by omega, Below.refl _ _⟩
 case round =>
  obtain ⟨k, rfl, hk, HE, HB⟩ := hrel
  by_cases hkn : k < n
  ·have hlP : k < ps.length := by rw [HLP.out]; omega
   obtain ⟨b, off, xa, xn, xc, xp, xq, xr, rfl, hbw, hc, hs, hm⟩ := HP.out.at hkn; obtain ⟨⟨⟨xm, xs⟩, xps⟩, ht⟩ : ∃ t, t = ps.getD k rawZ := ⟨_, rfl⟩; rw [← ht] at hc hs hm
   have HNX : Hid (xs.length = xn) := hs.len
   have HC := hid hc; have HS := hid hs; have HM := hid hm; have HTK := hid ht; clear hc hs hm ht; obtain ⟨A, hA⟩ : ∃ A, A = mayB xm xn xs := ⟨_, rfl⟩; obtain ⟨s, hs⟩ : ∃ s, (zOf xm (val xs)).sign = s := ⟨_, rfl⟩; obtain ⟨C, hC⟩ : ∃ C, (s == 0) = C := ⟨_, rfl⟩; obtain ⟨D, hD⟩ : ∃ D, D = mayM 0 xps := ⟨_, rfl⟩
   have HT : Hid (mayT ((xm, xs), xps) = (A && !C && D)) := by
    rw [Hid, mayT_sign HS.out.wf, HNX.out, ← hA, hs, hC, ← hD]
   have HA := hid hA; have HSG := hid hs; have HD := hid hD; obtain ⟨c0, c1, c2⟩ := HC.out _ HB.out; clear hA hD hs
   go_upto_region 4 with (fail)
   refine wp_world (fun W hW => ?_)
   obtain ⟨a1, hB⟩ := box1 wr [.bool xm, .slice xa xn xc, .slice xp xq xr] 56; rw [← hW] at a1 hB; clear hW; have HX := hid a1; have HB4 := hid (Below.steps HB.out hB); clear a1 hB c0 c1 c2; obtain ⟨c0, c1, c2⟩ := HX.out.c3
   cases A with
   | false =>
    have HR2 : Hid (r = false) := by
     rw [Hid, ← HR.out]
     exact mayR_no k hlP (by unfold okAt; rw [← HTK.out, HT.out]; rfl)
    go_wp2_with fail; refine (wmay_is false (HS.out.below HB4.out) HA.out.symm).mono ?_
    rintro e w5 ⟨rfl, hB⟩; have HB5 := hid (Below.steps HB4.out hB); have HX5 := hid (HX.out.below hB); clear hB HB4 HX c0 c1 c2; go_wp2_with fail
    go_ret
    have hr := HR2.out; subst hr
    exact ⟨rfl, HB5.out⟩
   | true =>
    go_wp2_with fail; refine (wmay_is true (HS.out.below HB4.out) HA.out.symm).mono ?_
    rintro e w5 ⟨rfl, hB⟩; have HB5 := hid (Below.steps HB4.out hB); have HX5 := hid (HX.out.below hB); clear hB HB4 HX c0 c1 c2; obtain ⟨c0, c1, c2⟩ := HX5.out.c3; go_wp2_with fail; refine (wsignU_is s (x := zOf xm (val xs)) ⟨xs, HS.out.below HB5.out, rfl⟩ HSG.out).mono ?_; rintro e w6 ⟨rfl, hB⟩; have HB6 := hid (Below.steps HB5.out hB); have HX6 := hid (HX5.out.below hB); clear hB HB5 HX5 c0 c1 c2; obtain ⟨c0, c1, c2⟩ := HX6.out.c3
    cases C with
    | true =>
     have HR2 : Hid (r = false) := by
      rw [Hid, ← HR.out]
      exact mayR_no k hlP (by unfold okAt; rw [← HTK.out, HT.out]; rfl)
     go_wp2_with fail
     go_ret
     have hr := HR2.out; subst hr
     exact ⟨rfl, HB6.out⟩
    | false =>
     go_wp2_with fail; refine (may_any D (HM.out.below HB6.out) HD.out.symm).mono ?_
     rintro e w7 ⟨rfl, hB⟩; have HB7 := hid (Below.steps HB6.out hB); have HX7 := hid (HX6.out.below hB); clear hB HB6 HX6 c0 c1 c2; obtain ⟨c0, c1, c2⟩ := HX7.out.c3
     cases D with
     | false =>
      have HR2 : Hid (r = false) := by
       rw [Hid, ← HR.out]
       exact mayR_no k hlP (by unfold okAt; rw [← HTK.out, HT.out]; rfl)
      go_wp2_with fail
      go_ret
      have hr := HR2.out; subst hr
      exact ⟨rfl, HB7.out⟩
     | true =>
      by_cases hk0 : k = 0
      ·subst hk0
       have HE2 : Hid (∀ t, t < 0 + 1 → okAt ps t = true) := fun t ht => by
        obtain rfl : t = 0 := by omega
        unfold okAt
        rw [← HTK.out, HT.out]
        rfl
       have hd : decide ((0 : Int) < ((0 : Nat) : Int)) = false := rfl
       clear c0 c1 c2
       go_upto_region 6 with (fail)
       refine wp_region_held_drew (S := fun w' => True) (by kernel_rfl) trivial (fun hH => ?_)
       refine anyH_world (fun w8 hW => ?_)
       have HB8 : Hid (Below w.heap.size w w8) := by rw [hW]; exact HB7.out.drew
       clear hW HB7
       refine son 0 hH ?_; try simp only [nrm]
       refine son 1 hH ?_; try simp only [nrm]
       refine son 2 hH ?_; try simp only [nrm]
       refine sof 3 hH ?_; try simp only [nrm]
       refine sof 4 hH ?_; try simp only [nrm]
       refine sof 5 hH ?_; try simp only [nrm]
       refine sof 6 hH ?_; try simp only [nrm]
       refine sof 7 hH ?_; try simp only [nrm]
       refine sof 8 hH ?_; try simp only [nrm]
       refine sof 9 hH ?_; try simp only [nrm]
       refine sof 10 hH ?_; try simp only [nrm]
       refine son 11 hH ?_; try simp only [nrm]
       refine wpAnyH_done (by kernel_rfl) ?_ _
       go_wp2_with fail
       go_roundw
       case rel => exact ⟨0 + 1, by go_num, by omega, HE2, HB8⟩
       case measure => simp [intOf]; omega
      ·obtain ⟨j, rfl⟩ : ∃ j, k = j + 1 := ⟨k - 1, by omega⟩
       have hlQ : j < ps.length := by omega
       obtain ⟨b', off', ya, yn, yc, yp, yq, yr, e, _, hc, hs, hm⟩ := HP.out.at (k := j) (by omega)
       cases e
       obtain ⟨⟨⟨ym, ys⟩, yps⟩, ht⟩ : ∃ t, t = ps.getD j rawZ := ⟨_, rfl⟩; rw [← ht] at hc hm; have HCY := hid hc; have HMY := hid hm; have HTY := hid ht; clear hc hm hs ht c0 c1 c2
       have hd : decide ((0 : Int) < ((j + 1 : Nat) : Int)) = true := decide_eq_true (by omega)
       have hw : IntKind.i64.wrap (j : Int) = (j : Int) := IntWalk.i64_in _ ⟨by omega, by omega⟩
       have hjn : j < n := by omega
       have hj1 : 0 ≤ (j : Int) + 1 := by omega
       have hj2 : (j : Int) + 1 < (n : Int) := by omega
       have HY : Hid (mayM 0 yps = true) := by
        have h := HE.out j (by omega)
        unfold okAt mayT at h
        rw [← HTY.out] at h
        simp only [Bool.and_eq_true] at h
        exact h.1.2
       obtain ⟨z, hz⟩ : ∃ z, cmpM yps xps = z := ⟨_, rfl⟩
       have HRG : Hid (z = -1 ∨ z = 0 ∨ z = 1) := by rw [Hid, ← hz]; exact cmp_range HY.out HD.out.symm
       have HO : Hid (okAt ps (j + 1) = (z == 1)) := by
        unfold okAt
        rw [Hid, ← HTK.out, HT.out, show j + 1 - 1 = j from rfl, ← HTY.out]
        show (true && !false && true && (j + 1 == 0 || cmpM yps xps == 1)) = (z == 1)
        rw [hz]
        simp
       have HZE := hid hz; clear hz
       go_upto_region 6 with (fail)
       refine wp_region_held_drew (S := fun w' => (w'.cell? ⟨wr.heap.size, 0, none⟩ = some (.bool xm) ∧ w'.cell? ⟨wr.heap.size, 1, none⟩ = some (.slice xa xn xc) ∧ w'.cell? ⟨wr.heap.size, 2, none⟩ = some (.slice xp xq xr)) ∧ (w'.cell? ⟨b, off + j * 3, none⟩ = some (.bool ym) ∧ w'.cell? ⟨b, off + j * 3 + 1, none⟩ = some (.slice ya yn yc) ∧ w'.cell? ⟨b, off + j * 3 + 2, none⟩ = some (.slice yp yq yr))) (by kernel_rfl) ⟨HX7.out.c3, HCY.out _ HB7.out.drew⟩ (fun hH => ?_)
       refine anyH_world (fun w8 hW => ?_)
       have HB8 : Hid (Below w.heap.size w w8) := by rw [hW]; exact HB7.out.drew
       have HX8 : Hid (AtN w8 wr.heap.size [.bool xm, .slice xa xn xc, .slice xp xq xr] 56) := by rw [hW]; exact HX7.out.below (Below.refl _ _).drew
       rw [← hW] at hH; clear hW HB7 HX7
       refine son 0 hH ?_; try simp only [nrm]
       refine son 1 hH ?_; try simp only [nrm]
       refine son 2 hH ?_; try simp only [nrm]
       refine son 3 hH ?_; try simp only [nrm]
       refine son 4 hH ?_; try simp only [nrm]
       refine son 5 hH ?_; try simp only [nrm]
       refine son 6 hH ?_; try simp only [nrm]
       refine son 7 hH ?_; try simp only [nrm]
       refine son 8 hH ?_; try simp only [nrm]
       refine step_one 9 rfl (by kernel_rfl) (fun KK hK => ?_)
       go_simp; refine (order_any z (HMY.out.below HB8.out) (HM.out.below HB8.out) HY.out HD.out.symm HZE.out).mono ?_
       rintro e w9 ⟨rfl, hB⟩; have HB9 := hid (Below.steps HB8.out hB); have HX9 := hid (HX8.out.below hB); clear hB HB8 HX8; go_wp2_with fail
       clear hH; refine hK.out _ _ ⟨HX9.out.c3, HCY.out _ HB9.out⟩ fun hH => ?_; clear hK KK
       try simp only [nrm]
       obtain ⟨q, hq⟩ : ∃ q, decide (z ≤ 0) = q := ⟨_, rfl⟩
       have HQ : Hid ((z == 1) = !q) := by
        rw [Hid, ← hq]
        rcases HRG.out with e | e | e <;> subst e <;> rfl
       cases q with
       | true =>
        have HR2 : Hid (r = false) := by
         rw [Hid, ← HR.out]
         exact mayR_no (j + 1) hlP (by rw [HO.out, HQ.out]; rfl)
        refine son 10 hH ?_; try simp only [nrm]
        refine son 11 hH ?_; try simp only [nrm]
        refine wpAnyH_done (by kernel_rfl) ?_ _
        go_wp2_with fail
        go_ret
        have hr := HR2.out; subst hr
        exact ⟨rfl, HB9.out⟩
       | false =>
        have HE2 : Hid (∀ t, t < j + 1 + 1 → okAt ps t = true) := fun t ht => by
         by_cases h : t < j + 1
         ·exact HE.out t h
         ·obtain rfl : t = j + 1 := by omega
          rw [HO.out, HQ.out]; rfl
        refine son 10 hH ?_; try simp only [nrm]
        refine son 11 hH ?_; try simp only [nrm]
        refine wpAnyH_done (by kernel_rfl) ?_ _
        go_wp2_with fail
        go_roundw
        case rel => exact ⟨j + 1 + 1, by go_num, by omega, HE2, HB9⟩
        case measure => simp [intOf]; omega
  ·obtain rfl : k = n := by omega
   have HR2 : Hid (r = true) := by
    rw [Hid, ← HR.out]
    exact decide_eq_true fun t ht => HE.out t (by rw [← HLP.out]; exact ht)
   go_wp2_with fail
   go_ret
   have hr := HR2.out; subst hr
   exact ⟨rfl, HB.out⟩
theorem vorzU_any [Ol] (r : Bool) {ao : Option Addr} {n cap : Nat} {ps : List Raw} {w : World} (hp : Pr w ao n cap ps) (h : mayR ps = r) :
  Calls Tryz.prog 43 #[.slice ao n cap] w (RetB (if r = true then .slice ao n cap else .slice none 0 0) w) := by
 cases r with
 | true =>
  go_enter Tryz.func43, Tryz.ntmps43
  go_wp2_with fail; refine (pmayU_any true hp h).mono ?_
  rintro e w1 ⟨rfl, hB⟩; go_wp2_with fail
  go_ret
  exact ⟨rfl, hB⟩
 | false =>
  go_enter Tryz.func43, Tryz.ntmps43
  go_wp2_with fail; refine (pmayU_any false hp h).mono ?_
  rintro e w1 ⟨rfl, hB⟩; go_wp2_with fail
  go_ret
  exact ⟨rfl, hB⟩
theorem lim_ex : ∀ ps : List Raw, ∃ K, ∀ t ∈ ps, t.1.2.length ≤ K
 | [] => ⟨0, fun _ h => by cases h⟩
 | t :: r => by
  obtain ⟨K, hK⟩ := lim_ex r
  refine ⟨K + t.1.2.length, fun x hx => ?_⟩
  rcases List.mem_cons.1 hx with e | e
  ·subst e; omega
  ·have := hK x e; omega
theorem vClassU_any [Ol] (z : Int) {ao : Option Addr} {n cap : Nat} {ps : List Raw} {w : World} (hp : Pr w ao n cap ps) (hz : clsP (plnR ps) = z) : Calls Tryz.prog 15 #[.slice ao n cap] w (RetB (.int .i64 z) w) := by
 obtain ⟨r, hr⟩ : ∃ r, mayR ps = r := ⟨_, rfl⟩; have HO := hid (vorzU_any r hp hr); obtain ⟨K, hK⟩ := lim_ex ps; have hfl := pln_fall hp.wfs
 cases r with
 | true =>
  have HX := hid (And.intro (hp.pln hK hr).1 (And.intro hfl hz)); clear hp hz hr hK hfl
  go_enter Tryz.func15, Tryz.ntmps15
  go_wp2_with fail
  refine HO.out.mono ?_
  rintro e w1 ⟨rfl, hB⟩; go_wp2_with fail; refine (vclass_any z (HX.out.1.below hB) HX.out.2.1 HX.out.2.2).mono ?_; rintro e w2 ⟨rfl, hB2⟩; go_wp2_with fail
  go_ret
  exact ⟨rfl, Below.steps hB hB2⟩
 | false =>
  rw [pln_no hr] at hz; have HZ := hid hz
  clear hp hz hr hK hfl
  go_enter Tryz.func15, Tryz.ntmps15
  go_wp2_with fail
  refine HO.out.mono ?_
  rintro e w1 ⟨rfl, hB⟩; go_wp2_with fail; refine (vclass_any (K := 0) z (Pc.zero _ _) trivial HZ.out).mono ?_; rintro e w2 ⟨rfl, hB2⟩; go_wp2_with fail
  go_ret
  exact ⟨rfl, Below.steps hB hB2⟩
end Go.Proofs.YtmmgipcacceakaaGreat
