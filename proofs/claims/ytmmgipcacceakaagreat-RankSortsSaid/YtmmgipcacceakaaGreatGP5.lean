/- WLawPlain, PlDeg, PlProd, PlMay, PlFace, PCont, PlCont -/
import Derived.Test.YtmmgipcacceakaaGreatGP4
set_option maxHeartbeats 40000000
set_option maxRecDepth 100000
namespace Go.Proofs.YtmmgipcacceakaaGreat
open Go.RowKit
theorem Bd.tmod {x y : Int} {k : Nat} (h : Bd x k) : Bd (x.tmod y) k := by
 unfold Bd at *
 have e : (x.tmod y).natAbs = x.natAbs % y.natAbs := by
  have h1 := zOf_mod (decide (x < 0)) (decide (y < 0)) x.natAbs y.natAbs; rw [zOf_can, zOf_can] at h1; rw [← h1, zOf_abs]
 rw [e]
 exact Nat.lt_of_le_of_lt (Nat.mod_le _ _) h
structure IsDeg (l : List Term) (m : List (Int × Int)) : Prop where
 may : mayM 0 m = true
 all : ∀ t ∈ l, ∀ v, expo t.2 v ≤ expo m v
 att : ∀ v, expo m v = 0 ∨ ∃ t ∈ l, expo t.2 v = expo m v
theorem IsDeg.nil : IsDeg [] [] := ⟨rfl, (fun t h => by cases h), fun v => .inl rfl⟩
theorem IsDeg.next {l : List Term} {m : List (Int × Int)} {t : Term} (h : IsDeg l m) (ht : mayM 0 t.2 = true) : IsDeg (l ++ [t]) (joinL (fun x y => max x y) (orM m) (orM t.2)) := by
 rw [orM_yes h.may, orM_yes ht]
 have hj := join_expo (f := fun x y => max x y) (by rfl) h.may ht
 refine ⟨?_, fun s hs v => ?_, fun v => ?_⟩
 ·rw [may_iff]
  refine ⟨join_ris (by rfl) h.may ht, fun v => ?_⟩
  rw [hj]; have h1 := may_bd h.may v
  have h2 := may_bd ht v
  omega
 ·rw [hj]
  rcases List.mem_append.1 hs with hs | hs
  ·have := h.all s hs v
   omega
  ·rw [List.mem_singleton.1 hs]
   omega
 ·rw [hj]
  by_cases hle : expo t.2 v ≤ expo m v
  ·rw [Int.max_eq_left hle]
   rcases h.att v with h0 | ⟨s, hs, h1⟩
   ·exact .inl h0
   ·exact .inr ⟨s, by simp [hs], h1⟩
  ·exact .inr ⟨t, by simp, by omega⟩
theorem ev_take (ρ : Nat → Int) (q : List Term) {k : Nat} (hk : k < q.length) : ev (q.take (k + 1)) ρ = ev (q.take k) ρ + (q.getD k (0, [])).1 * evM (q.getD k (0, [])).2 ρ := by
 rw [List.take_succ_eq_append_getElem hk, ev_append, getD_of _ hk]
 simp [ev]
structure PSt [Ol] (w : World) (K : Nat) (p q : List Term) (k K2 : Nat) (so : Option Addr) (n2 cap2 : Nat) (X2 : List (List Value)) (ps2 : List (List Term)) (V : World) : Prop where
 pl : Pile w.heap.size K2 V so n2 cap2 X2 ps2
 kk : K2 + n2 ≤ K + K + k
 k2 : K + K ≤ K2
 nk : n2 ≤ k
 vs : ∀ ρ, evs ps2 ρ = ev p ρ * ev (q.take k) ρ
 ln : lens ps2 ≤ k * p.length
 bw : Below w.heap.size w V
theorem PSt.start [Ol] (w : World) (K : Nat) (p q : List Term) : PSt w K p q 0 (K + K) none 0 0 [] [] w := ⟨Pile.nil _ _ _, by omega, Nat.le_refl _, Nat.le_refl _, fun ρ => by simp [evs, ev], by simp [lens], Below.refl _ _⟩
theorem PSt.below [Ol] {w : World} {K : Nat} {p q : List Term} {k K2 : Nat} {so : Option Addr} {n2 cap2 : Nat} {X2 : List (List Value)} {ps2 : List (List Term)} {V V' : World} (h : PSt w K p q k K2 so n2 cap2 X2 ps2 V) (hb : Below V.heap.size V V') : PSt w K p q k K2 so n2 cap2 X2 ps2 V' := { h with pl := h.pl.below hb, bw := Below.steps h.bw hb }
theorem PSt.next [Ol] {w : World} {K : Nat} {p q : List Term} {k K2 : Nat} {so : Option Addr} {n2 cap2 : Nat} {X2 : List (List Value)} {ps2 : List (List Term)} {V V' : World} {e : Ending} (h : PSt w K p q k K2 so n2 cap2 X2 ps2 V) {r : List Term} {t : Term} (hw : WithOk w.heap.size K2 n2 V ps2 r e V') (hk : k < q.length) (ht : t = q.getD k (0, [])) (hr : ∀ ρ, ev r ρ = ev p ρ * (t.1 * evM t.2 ρ)) (hl : r.length ≤ p.length) :
  ∃ so3 n3 cap3 X3 ps3 K3, e = .returned (.slice so3 n3 cap3) ∧ PSt w K p q (k + 1) K3 so3 n3 cap3 X3 ps3 V' := by
 obtain ⟨so3, n3, cap3, X3, ps3, K3, rfl, h1, h2, h3, h4, h5, h6⟩ := hw
 refine ⟨so3, n3, cap3, X3, ps3, max K3 (K + K), rfl, ⟨h1.mono (Nat.le_max_left _ _), ?_, Nat.le_max_right _ _, by have := h.nk; omega, fun ρ => ?_, ?_, h.bw.trans h6⟩⟩
 ·have := h.kk; have := h.nk; omega
 ·rw [h4, h.vs, hr, ev_take ρ q hk, ← ht]; grind
 ·have := h.ln; rw [Nat.add_mul, Nat.one_mul]; omega
open Lib (hid)
theorem pmay_any [Ol] (r : Bool) {ao : Option Addr} {n cap : Nat} {ps : List Raw} {w : World} (hp : Pr w ao n cap ps) (hl : ∀ t ∈ ps, t.1.2.length ≤ 1000) (h : mayR ps = r) :
  Calls Tryz.prog 21 #[.slice ao n cap] w (RetB (.bool r) w) := by
 obtain ⟨vss, hG, _⟩ := hp.ex; have hbig := hG.big; have HLP := hid hp.len; have HP := hid hp; have HR := hid h; have HLL := hid hl; clear hp hG h hl
 go_enter Tryz.func21, Tryz.ntmps21
 go_wp2
 go_loopw [7] (fun i wr => ∃ k : Nat, i = .int .i64 k ∧ k ≤ n ∧ Hid (∀ t, t < k → okAt ps t = true) ∧ Hid (Below w.heap.size w wr)) (fun i _ => n - (intOf i).toNat)
 case atStart => exact ⟨0, rfl, Nat.zero_le _, fun t h => by omega, Below.refl _ _⟩
 case round =>
  obtain ⟨k, rfl, hk, HE, HB⟩ := hrel
  by_cases hkn : k < n
  ·have hlP : k < ps.length := by rw [HLP.out]; omega
   obtain ⟨b, off, xa, xn, xc, xp, xq, xr, rfl, hbw, hc, hs, hm⟩ := HP.out.at hkn
   have hlen : (ps.getD k rawZ).1.2.length ≤ 1000 := HLL.out _ (getD_in rawZ hlP)
   obtain ⟨⟨⟨xm, xs⟩, xps⟩, ht⟩ : ∃ t, t = ps.getD k rawZ := ⟨_, rfl⟩; rw [← ht] at hc hs hm hlen
   have HNX : Hid (xs.length = xn) := hs.len
   have HLK : Hid (xn ≤ 1000) := by rw [Hid, ← HNX.out]; exact hlen
   have HC := hid hc; have HS := hid hs; have HM := hid hm; have HTK := hid ht; clear hc hs hm ht hlen; obtain ⟨A, hA⟩ : ∃ A, A = mayB xm xn xs := ⟨_, rfl⟩; obtain ⟨s, hs⟩ : ∃ s, (zOf xm (val xs)).sign = s := ⟨_, rfl⟩; obtain ⟨C, hC⟩ : ∃ C, (s == 0) = C := ⟨_, rfl⟩; obtain ⟨D, hD⟩ : ∃ D, D = mayM 0 xps := ⟨_, rfl⟩
   have HT : Hid (mayT ((xm, xs), xps) = (A && !C && D)) := by
    rw [Hid, mayT_sign HS.out.wf, HNX.out, ← hA, hs, hC, ← hD]
   have HA := hid hA; have HSG := hid hs; have HD := hid hD; obtain ⟨c0, c1, c2⟩ := HC.out _ HB.out; clear hA hD hs
   go_upto_region 4 with (fail)
   refine wp_world (fun W hW => ?_)
   obtain ⟨a1, hB⟩ := box1 wr [.bool xm, .slice xa xn xc, .slice xp xq xr] 56; rw [← hW] at a1 hB; clear hW; have HX := hid a1; have HB4 := hid (Below.steps HB.out hB); clear a1 hB c0 c1 c2; obtain ⟨c0, c1, c2⟩ := HX.out.c3
   cases A with
   | false =>
    have HR2 : Hid (r = false) := by
     rw [Hid, ← HR.out]
     exact mayR_no k hlP (by unfold okAt; rw [← HTK.out, HT.out]; rfl)
    go_wp2_with fail; refine (wmay_is false (HS.out.below HB4.out) HA.out.symm).mono ?_
    rintro e w5 ⟨rfl, hB⟩; have HB5 := hid (Below.steps HB4.out hB); have HX5 := hid (HX.out.below hB); clear hB HB4 HX c0 c1 c2; go_wp2_with fail
    go_ret
    have hr := HR2.out; subst hr
    exact ⟨rfl, HB5.out⟩
   | true =>
    go_wp2_with fail; refine (wmay_is true (HS.out.below HB4.out) HA.out.symm).mono ?_
    rintro e w5 ⟨rfl, hB⟩; have HB5 := hid (Below.steps HB4.out hB); have HX5 := hid (HX.out.below hB); clear hB HB4 HX c0 c1 c2; obtain ⟨c0, c1, c2⟩ := HX5.out.c3; go_wp2_with fail
    refine (wsign_is s (x := zOf xm (val xs)) ⟨⟨xs, HS.out.below HB5.out, rfl⟩, Nat.le_trans HLK.out (by omega)⟩ HSG.out).mono ?_
    rintro e w6 ⟨rfl, hB⟩; have HB6 := hid (Below.steps HB5.out hB); have HX6 := hid (HX5.out.below hB); clear hB HB5 HX5 c0 c1 c2; obtain ⟨c0, c1, c2⟩ := HX6.out.c3
    cases C with
    | true =>
     have HR2 : Hid (r = false) := by
      rw [Hid, ← HR.out]
      exact mayR_no k hlP (by unfold okAt; rw [← HTK.out, HT.out]; rfl)
     go_wp2_with fail
     go_ret
     have hr := HR2.out; subst hr
     exact ⟨rfl, HB6.out⟩
    | false =>
     go_wp2_with fail; refine (may_any D (HM.out.below HB6.out) HD.out.symm).mono ?_
     rintro e w7 ⟨rfl, hB⟩; have HB7 := hid (Below.steps HB6.out hB); have HX7 := hid (HX6.out.below hB); clear hB HB6 HX6 c0 c1 c2; obtain ⟨c0, c1, c2⟩ := HX7.out.c3
     cases D with
     | false =>
      have HR2 : Hid (r = false) := by
       rw [Hid, ← HR.out]
       exact mayR_no k hlP (by unfold okAt; rw [← HTK.out, HT.out]; rfl)
      go_wp2_with fail
      go_ret
      have hr := HR2.out; subst hr
      exact ⟨rfl, HB7.out⟩
     | true =>
      by_cases hk0 : k = 0
      ·subst hk0
       have HE2 : Hid (∀ t, t < 0 + 1 → okAt ps t = true) := fun t ht => by
        obtain rfl : t = 0 := by omega
        unfold okAt
        rw [← HTK.out, HT.out]
        rfl
       have hd : decide ((0 : Int) < ((0 : Nat) : Int)) = false := rfl
       clear c0 c1 c2
       go_upto_region 6 with (fail)
       refine wp_region_held_drew (S := fun w' => True) (by kernel_rfl) trivial (fun hH => ?_)
       refine anyH_world (fun w8 hW => ?_)
       have HB8 : Hid (Below w.heap.size w w8) := by rw [hW]; exact HB7.out.drew
       clear hW HB7
       refine son 0 hH ?_; try simp only [nrm]
       refine son 1 hH ?_; try simp only [nrm]
       refine son 2 hH ?_; try simp only [nrm]
       refine sof 3 hH ?_; try simp only [nrm]
       refine sof 4 hH ?_; try simp only [nrm]
       refine sof 5 hH ?_; try simp only [nrm]
       refine sof 6 hH ?_; try simp only [nrm]
       refine sof 7 hH ?_; try simp only [nrm]
       refine sof 8 hH ?_; try simp only [nrm]
       refine sof 9 hH ?_; try simp only [nrm]
       refine sof 10 hH ?_; try simp only [nrm]
       refine son 11 hH ?_; try simp only [nrm]
       refine wpAnyH_done (by kernel_rfl) ?_ _
       go_wp2_with fail
       go_roundw
       case rel => exact ⟨0 + 1, by go_num, by omega, HE2, HB8⟩
       case measure => simp [intOf]; omega
      ·obtain ⟨j, rfl⟩ : ∃ j, k = j + 1 := ⟨k - 1, by omega⟩
       have hlQ : j < ps.length := by omega
       obtain ⟨b', off', ya, yn, yc, yp, yq, yr, e, _, hc, hs, hm⟩ := HP.out.at (k := j) (by omega)
       cases e
       obtain ⟨⟨⟨ym, ys⟩, yps⟩, ht⟩ : ∃ t, t = ps.getD j rawZ := ⟨_, rfl⟩; rw [← ht] at hc hm; have HCY := hid hc; have HMY := hid hm; have HTY := hid ht; clear hc hm hs ht c0 c1 c2
       have hd : decide ((0 : Int) < ((j + 1 : Nat) : Int)) = true := decide_eq_true (by omega)
       have hw : IntKind.i64.wrap (j : Int) = (j : Int) := IntWalk.i64_in _ ⟨by omega, by omega⟩
       have hjn : j < n := by omega
       have hj1 : 0 ≤ (j : Int) + 1 := by omega
       have hj2 : (j : Int) + 1 < (n : Int) := by omega
       have HY : Hid (mayM 0 yps = true) := by
        have h := HE.out j (by omega)
        unfold okAt mayT at h
        rw [← HTY.out] at h
        simp only [Bool.and_eq_true] at h
        exact h.1.2
       obtain ⟨z, hz⟩ : ∃ z, cmpM yps xps = z := ⟨_, rfl⟩
       have HRG : Hid (z = -1 ∨ z = 0 ∨ z = 1) := by rw [Hid, ← hz]; exact cmp_range HY.out HD.out.symm
       have HO : Hid (okAt ps (j + 1) = (z == 1)) := by
        unfold okAt
        rw [Hid, ← HTK.out, HT.out, show j + 1 - 1 = j from rfl, ← HTY.out]
        show (true && !false && true && (j + 1 == 0 || cmpM yps xps == 1)) = (z == 1)
        rw [hz]
        simp
       have HZE := hid hz; clear hz
       go_upto_region 6 with (fail)
       refine wp_region_held_drew (S := fun w' => (w'.cell? ⟨wr.heap.size, 0, none⟩ = some (.bool xm) ∧ w'.cell? ⟨wr.heap.size, 1, none⟩ = some (.slice xa xn xc) ∧ w'.cell? ⟨wr.heap.size, 2, none⟩ = some (.slice xp xq xr)) ∧ (w'.cell? ⟨b, off + j * 3, none⟩ = some (.bool ym) ∧ w'.cell? ⟨b, off + j * 3 + 1, none⟩ = some (.slice ya yn yc) ∧ w'.cell? ⟨b, off + j * 3 + 2, none⟩ = some (.slice yp yq yr))) (by kernel_rfl) ⟨HX7.out.c3, HCY.out _ HB7.out.drew⟩ (fun hH => ?_)
       refine anyH_world (fun w8 hW => ?_)
       have HB8 : Hid (Below w.heap.size w w8) := by rw [hW]; exact HB7.out.drew
       have HX8 : Hid (AtN w8 wr.heap.size [.bool xm, .slice xa xn xc, .slice xp xq xr] 56) := by rw [hW]; exact HX7.out.below (Below.refl _ _).drew
       rw [← hW] at hH; clear hW HB7 HX7
       refine son 0 hH ?_; try simp only [nrm]
       refine son 1 hH ?_; try simp only [nrm]
       refine son 2 hH ?_; try simp only [nrm]
       refine son 3 hH ?_; try simp only [nrm]
       refine son 4 hH ?_; try simp only [nrm]
       refine son 5 hH ?_; try simp only [nrm]
       refine son 6 hH ?_; try simp only [nrm]
       refine son 7 hH ?_; try simp only [nrm]
       refine son 8 hH ?_; try simp only [nrm]
       refine step_one 9 rfl (by kernel_rfl) (fun KK hK => ?_)
       go_simp; refine (order_any z (HMY.out.below HB8.out) (HM.out.below HB8.out) HY.out HD.out.symm HZE.out).mono ?_
       rintro e w9 ⟨rfl, hB⟩; have HB9 := hid (Below.steps HB8.out hB); have HX9 := hid (HX8.out.below hB); clear hB HB8 HX8; go_wp2_with fail
       clear hH; refine hK.out _ _ ⟨HX9.out.c3, HCY.out _ HB9.out⟩ fun hH => ?_; clear hK KK
       try simp only [nrm]
       obtain ⟨q, hq⟩ : ∃ q, decide (z ≤ 0) = q := ⟨_, rfl⟩
       have HQ : Hid ((z == 1) = !q) := by
        rw [Hid, ← hq]
        rcases HRG.out with e | e | e <;> subst e <;> rfl
       cases q with
       | true =>
        have HR2 : Hid (r = false) := by
         rw [Hid, ← HR.out]
         exact mayR_no (j + 1) hlP (by rw [HO.out, HQ.out]; rfl)
        refine son 10 hH ?_; try simp only [nrm]
        refine son 11 hH ?_; try simp only [nrm]
        refine wpAnyH_done (by kernel_rfl) ?_ _
        go_wp2_with fail
        go_ret
        have hr := HR2.out; subst hr
        exact ⟨rfl, HB9.out⟩
       | false =>
        have HE2 : Hid (∀ t, t < j + 1 + 1 → okAt ps t = true) := fun t ht => by
         by_cases h : t < j + 1
         ·exact HE.out t h
         ·obtain rfl : t = j + 1 := by omega
          rw [HO.out, HQ.out]; rfl
        refine son 10 hH ?_; try simp only [nrm]
        refine son 11 hH ?_; try simp only [nrm]
        refine wpAnyH_done (by kernel_rfl) ?_ _
        go_wp2_with fail
        go_roundw
        case rel => exact ⟨j + 1 + 1, by go_num, by omega, HE2, HB9⟩
        case measure => simp [intOf]; omega
  ·obtain rfl : k = n := by omega
   have HR2 : Hid (r = true) := by
    rw [Hid, ← HR.out]
    exact decide_eq_true fun t ht => HE.out t (by rw [← HLP.out]; exact ht)
   go_wp2_with fail
   go_ret
   have hr := HR2.out; subst hr
   exact ⟨rfl, HB.out⟩
open Lib (hid)
theorem Pr.pc [Ol] {K : Nat} {w : World} {ao : Option Addr} {n cap : Nat} {p : List Term} (h : Pr w ao n cap (p.map rawC)) (hk : ∀ t ∈ p.map rawC, t.1.2.length ≤ K) : Pc K w ao n cap p := by
 obtain ⟨vss, h1, h2⟩ := h.ex
 have h3 : Tms (TmC K w) vss ((p.map rawC).map rawV) := by
  refine Tms.map rawV (fun v a ha h => ?_) h2
  obtain ⟨t, ht, rfl⟩ := List.mem_map.1 ha; obtain ⟨ao, n, cap, bo, k, cb, e1, e2, e4⟩ := h
  have hb : Bd t.1 K := by
   have h4 := hk _ ha; have h5 := val_lt (limbs t.1.natAbs) e2.wf; rw [val_limbs] at h5
   exact lt_pow_mono h5 h4
  rw [rawV_rawC]
  exact ⟨_, ao, n, cap, bo, k, cb, e1, ⟨rfl, e2⟩, hb, e4⟩
 rw [List.map_map, show rawV ∘ rawC = id from funext rawV_rawC, List.map_id] at h3
 exact ⟨vss, h1, h3⟩
theorem Pc.lens [Ol] {K : Nat} {w : World} {ao : Option Addr} {n cap : Nat} {p : List Term} (h : Pc K w ao n cap p) : ∀ t ∈ p.map rawC, t.1.2.length ≤ K := by
 intro t ht
 obtain ⟨s, hs, rfl⟩ := List.mem_map.1 ht; obtain ⟨i, hi, rfl⟩ := List.mem_iff_getElem.1 hs
 obtain ⟨_, _, _, _, _, _, _, _, _, _, _, _, _, hb, _⟩ := h.at (k := i) (by rw [← h.len]; exact hi)
 rw [getD_of _ hi] at hb
 exact hb.len
theorem mayP_any [Ol] {K : Nat} {w : World} {ao : Option Addr} {n cap : Nat} {p : List Term} (h : Pc K w ao n cap p) (hf : fall p) (hK : K ≤ 1000) : Calls Tryz.prog 21 #[.slice ao n cap] w (RetB (.bool true) w) :=
 pmay_any true h.raw (fun t ht => Nat.le_trans (h.lens t ht) hK) (mayR_rawC hf)
def PE [Ol] (K : Nat) (w : World) (p : List Term) (er : Int) (e : Ending) (w' : World) : Prop := ∃ ao n cap, e = .returned (.tuple #[.slice ao n cap, .int .i64 er]) ∧ Pc K w' ao n cap p ∧ Below w.heap.size w w'
section
variable {K : Nat} {ao bo : Option Addr} {n cap m cb : Nat} {p q : List Term} {ps qs : List Raw} {w : World}
theorem padd_bad1 [Ol] (hp : Pr w ao n cap ps) (hl : ∀ t ∈ ps, t.1.2.length ≤ 1000) (h : mayR ps = false) :
  Calls Tryz.prog 28 #[.slice ao n cap, .slice bo m cb] w (PE 0 w [] 2) := by
 go_enter Tryz.func28, Tryz.ntmps28
 go_wp2_with fail; refine (pmay_any false hp hl h).mono ?_
 rintro e w1 ⟨rfl, hB⟩; go_wp2_with fail
 go_ret2
 exact ⟨none, 0, 0, rfl, Pc.zero _ _, hB⟩
theorem padd_any [Ol] (hp : Pc K w ao n cap p) (hq : Pc K w bo m cb q) (hfp : fall p) (hfq : fall q) (hnm : n + m ≤ 1000000) (hK : K ≤ 1000) :
  Calls Tryz.prog 28 #[.slice ao n cap, .slice bo m cb] w (PE (K + 1) w (addT p q) 0) := by
 have HP := hid hp; have HQ := hid hq; have FP := hid hfp; have FQ := hid hfq; have HN := hid hp.len; clear hp hq hfp hfq
 go_enter Tryz.func28, Tryz.ntmps28
 go_wp2_with fail; refine (mayP_any HP.out FP.out hK).mono ?_
 rintro e w1 ⟨rfl, hB⟩; have HB1 := hid hB; have HP1 := hid (HP.out.below hB); have HQ1 := hid (HQ.out.below hB); clear hB HP HQ; go_wp2_with fail; refine (mayP_any HQ1.out FQ.out hK).mono ?_; rintro e w2 ⟨rfl, hB⟩; have HB2 := hid (Below.steps HB1.out hB); have HP2 := hid (HP1.out.below hB); have HQ2 := hid (HQ1.out.below hB); clear hB HP1 HQ1 HB1; go_wp2_with fail
 refine (own_any8 HP2.out.inn (by omega) (by omega)).mono ?_
 rintro e w3 ⟨po, pn, pc, rfl, h1, hB⟩; have HB3 := hid (Below.steps HB2.out hB); have HP3 := hid (h1.mono HB2.out.size (Nat.le_refl _)); have HQ3 := hid (HQ2.out.below hB); clear h1 hB HP2 HQ2 HB2; go_wp2_with fail
 refine (own_any8 HQ3.out.inn (by omega) (by omega)).mono ?_
 rintro e w4 ⟨qo, qn, qc, rfl, h1, hB⟩
 have hne : ∀ g, blk po = some g → blk qo ≠ some g := fun g hg e => by
  have h2 := (HP3.out.lt g hg).2; have h3 := (h1.lt g e).1
  omega
 have hlen : pn + qn ≤ 1000000 := by have e1 := HP3.out.len; have e2 := h1.len; have e3 := HQ3.out.len; have e4 := HN.out; omega
 have HB4 := hid (Below.steps HB3.out hB); have hsp := addT_spec FP.out (fall_mays FQ.out)
 have HJ := hid (joinPlus_any (HP3.out.below hB) h1.pc hlen (by omega) hne HB4.out.size FP.out FQ.out hsp.1 hsp.2)
 have HL := hid (HP3.out.below hB).lt; clear h1 hB HP3 HQ3 HB3 hne hlen hsp; go_wp2_with fail
 refine HJ.out.mono ?_
 rintro e w5 ⟨ro, rn, rc, rfl, h1, h2, _⟩
 have HR : Hid (PE (K + 1) w (addT p q) 0 (.returned (.tuple #[.slice ro rn rc, .int .i64 0])) w5) := ⟨ro, rn, rc, rfl, h1.pc, HB4.out.grown h2 HB4.out.size (fun r e => (HL.out r e).1)⟩
 clear h1 h2 HJ HB4 HL; go_wp2_with fail
 go_ret2
 exact HR.out
end
section
variable {K : Nat} {ao : Option Addr} {n cap : Nat} {p : List Term} {ps : List Raw} {w : World}
theorem orZ_raw [Ol] (r : Bool) (hp : Pr w ao n cap ps) (hl : ∀ t ∈ ps, t.1.2.length ≤ 1000) (h : mayR ps = r) :
  Calls Tryz.prog 83 #[.slice ao n cap] w (RetB (if r = true then .slice ao n cap else .slice none 0 0) w) := by
 cases r with
 | true =>
  go_enter Tryz.func83, Tryz.ntmps83
  go_wp2_with fail; refine (pmay_any true hp hl h).mono ?_
  rintro e w1 ⟨rfl, hB⟩; go_wp2_with fail
  go_ret
  exact ⟨rfl, hB⟩
 | false =>
  go_enter Tryz.func83, Tryz.ntmps83
  go_wp2_with fail; refine (pmay_any false hp hl h).mono ?_
  rintro e w1 ⟨rfl, hB⟩; go_wp2_with fail
  go_ret
  exact ⟨rfl, hB⟩
end
end Go.Proofs.YtmmgipcacceakaaGreat
