/- PlGat1, PlGat, PlOf, PlOf2, PlPowP -/
import Derived.Test.YtodcddkiodmklaaGreatGPa
import Derived.Test.YtodcddkiodmklaaGreatGP6
import Derived.Test.YtodcddkiodmklaaGreatGPb
import Derived.Test.YtodcddkiodmklaaGreatVProdP
set_option maxHeartbeats 40000000
set_option maxRecDepth 100000
namespace Go.Proofs.YtodcddkiodmklaaGreat
open Go.RowKit
theorem gatZero_any [Ol] {K : Nat} (hK : K ≤ 1000000) {m : Bool} {ao : Option Addr} {n cap : Nat} {bo : Option Addr} {l cb : Nat} {t : Term} {w : World} (hC : Cn w m ao n cap t.1) (hb : Bd t.1 K) :
  Calls Tryz.prog 145 #[.agg #[.bool m, .slice ao n cap, .slice bo l cb]] w (RetB (.bool (t.1 == 0)) w) := by
 obtain ⟨z, hz⟩ : ∃ z, t.1 = z := ⟨_, rfl⟩; obtain ⟨s, hs⟩ : ∃ s, z.sign = s := ⟨_, rfl⟩; obtain ⟨b, hb0⟩ : ∃ b, (z == 0) = b := ⟨_, rfl⟩; rw [hz] at hC hb ⊢
 have hsb : (s == 0) = b := by
  rw [← hb0, ← hs]
  by_cases h0 : z = 0
  ·subst h0; rfl
  ·rw [beq_eq_false_iff_ne.2 h0, beq_eq_false_iff_ne.2 (fun e => h0 (Int.sign_eq_zero_iff_zero.1 e))]
 rw [hb0]; have HC := Lib.hid (hC.cx hb hK)
 have HS := Lib.hid hs; clear hC hb hz hs hb0
 go_enter Tryz.func145, Tryz.ntmps145
 go_upto_region 1 with (fail)
 refine zz233 (fun W hW => ?_)
 obtain ⟨a1, hB⟩ := box1 w [.bool m, .slice ao n cap, .slice bo l cb] 68; rw [← hW] at a1 hB; clear hW; obtain ⟨c10, c11, c12⟩ := a1.c3; have HB := Lib.hid hB; clear a1 hB; go_wp2_with fail; refine (zz234 s (HC.out.below HB.out).nx HS.out).mono ?_; rintro e w' ⟨rfl, hB⟩; have HB2 := Lib.hid (Below.steps HB.out hB); clear hB HB c10 c11 c12; go_wp2_with fail
 go_ret
 exact ⟨rfl, HB2.out⟩
open Lib (hid)
theorem gat_split {p : List Term} {r : Nat} (h : p.length = r + 1) : p = p.take r ++ [p.getD r (0, [])] := by
 conv => lhs; rw [← List.take_length (l := p), h, List.take_succ_eq_append_getElem (by omega), ← getD_of (0, []) (by omega)]
theorem gat_mono : ∀ (l p : List Term) (u : Term), u ∈ l.foldl gatStep p → (∃ s ∈ p, s.2 = u.2) ∨ ∃ s ∈ l, s.2 = u.2
 | [], p, u, h => .inl ⟨u, h, rfl⟩
 | t :: l, p, u, h => by
  rw [List.foldl_cons] at h
  rcases gat_mono l _ u h with ⟨s, hs, e⟩ | ⟨s, hs, e⟩
  ·rcases zz61 p t with ⟨e2, _⟩ | ⟨q, v, rfl, hv, e2⟩
   ·rw [e2] at hs
    rcases List.mem_append.1 hs with h1 | h1
    ·exact .inl ⟨s, h1, e⟩
    ·rw [List.mem_singleton] at h1; subst h1; exact .inr ⟨s, by simp, e⟩
   ·rw [e2] at hs
    rcases List.mem_append.1 hs with h1 | h1
    ·exact .inl ⟨s, by simp [h1], e⟩
    ·rw [List.mem_singleton] at h1; subst h1; exact .inr ⟨t, by simp, e⟩
  ·exact .inr ⟨s, by simp [hs], e⟩
theorem gat_may {l : List Term} (h : ∀ s ∈ l, mayM 0 s.2 = true) : ∀ u ∈ gatT l, mayM 0 u.2 = true := fun u hu => by
 rcases gat_mono l [] u hu with ⟨s, hs, _⟩ | ⟨s, hs, e⟩
 ·cases hs
 ·rw [← e]; exact h s hs
theorem gat_ne {p q : List Term} {u t : Term} (h : p = q ++ [u]) (hn : u.2 ≠ t.2) : gatStep p t = p ++ [t] := by
 rcases zz61 p t with ⟨e, _⟩ | ⟨q2, v, rfl, hv, _⟩
 ·exact e
 ·have := (List.append_inj' h rfl).2
  simp only [List.cons.injEq, and_true] at this
  exact absurd (this ▸ hv) hn
theorem gat_eq {p q : List Term} {u t : Term} (h : p = q ++ [u]) (hn : u.2 = t.2) : gatStep p t = q ++ [(u.1 + t.1, u.2)] := by
 rcases zz61 p t with ⟨_, e⟩ | ⟨q2, v, rfl, hv, e⟩
 ·exact absurd hn (e q u h)
 ·obtain ⟨rfl, h2⟩ := List.append_inj' h rfl
  simp only [List.cons.injEq, and_true] at h2
  subst h2; rw [e, hn]
theorem Bd.add1 {x y : Int} {K k : Nat} (h : Bd x (K + k)) (h2 : Bd y K) : Bd (x + y) (K + k + 1) := h.add (h2.mono (by omega)) (Nat.le_refl _)
structure GatSt [Ol] (K : Nat) (w : World) (q : List Term) (k : Nat) (ro : Option Addr) (rn rc : Nat) (V : World) : Prop where
 pw : Pw w.heap.size (K + k) V ro rn rc (gatT (q.take k))
 nk : rn ≤ k
 cap : rn ≤ rc
 bw : Below w.heap.size w V
section
variable {K : Nat} {w : World} {q : List Term} {k : Nat} {ro : Option Addr} {rn rc : Nat} {V V' : World}
theorem GatSt.below [Ol] (h : GatSt K w q k ro rn rc V) (hb : Below V.heap.size V V') : GatSt K w q k ro rn rc V' := ⟨h.pw.below hb, h.nk, h.cap, Below.steps h.bw hb⟩
theorem GatSt.nil [Ol] (h : GatSt K w q k ro rn rc V) (h0 : rn = 0) : gatT (q.take k) = [] := List.eq_nil_of_length_eq_zero (by rw [h.pw.len]; exact h0)
theorem GatSt.pushed [Ol] (h : GatSt K w q k ro rn rc V) {t : Term} (ht : gatT (q.take (k + 1)) = gatT (q.take k) ++ [t]) {po : Option Addr} {pc : Nat} (h1 : Pw w.heap.size (K + k) V' po (rn + 1) pc (gatT (q.take k) ++ [t])) (hG : V.grownBy V' (blk ro)) : GatSt K w q (k + 1) po (rn + 1) pc V' :=
 ⟨by rw [ht]; exact h1.mono (Nat.le_refl _) (by omega), by have := h.nk; omega, by
  rcases h1 with ⟨X, hR, _⟩
  exact hR.gl.le, h.bw.grown hG h.bw.size (fun r e => (h.pw.lt r e).1)⟩
theorem GatSt.set [Ol] {pb po r : Nat} (h : GatSt K w q k (some ⟨pb, po, none⟩) (r + 1) rc V) {u t : Term} (ht : gatT (q.take (k + 1)) = (gatT (q.take k)).take r ++ [(u.1 + t.1, u.2)]) (hs : gatT (q.take k) = (gatT (q.take k)).take r ++ [u]) (hl : ((gatT (q.take k)).take r).length = r) {m : Bool} {ao : Option Addr} {l c : Nat} (hC : Cn V m ao l c (u.1 + t.1)) (hB : Bd (u.1 + t.1) (K + k + 1)) :
  GatSt K w q (k + 1) (some ⟨pb, po, none⟩) (r + 1) rc ((V.setCell ⟨pb, po + r * 3, none⟩ (.bool m)).setCell ⟨pb, po + r * 3 + 1, none⟩ (.slice ao l c)) := by
 have h1 := h.pw; rw [hs] at h1; obtain ⟨h2, h3⟩ := h1.setC (Below.refl _ _) hC hB; rw [hl] at h2 h3
 exact ⟨by rw [ht]; exact h2, by have := h.nk; omega, h.cap, h.bw.grown h3 h.bw.size (fun r e => (h.pw.lt r e).1)⟩
end
theorem zz63 [Ol] {K : Nat} {ao : Option Addr} {n cap : Nat} {q : List Term} {w : World} (hp : Pc K w ao n cap q) (hm : ∀ t ∈ q, mayM 0 t.2 = true) (hn : n ≤ 900000) (hK : K + n ≤ 900000) :
  Calls Tryz.prog 98 #[.slice ao n cap] w (NewPw (K + n) w (nzT (gatT q))) := by
 have ezero : ∀ args w, (callFunc 145 args).run Tryz.prog w = .ok (.enter 145 args) w := enters_of Tryz.func145 (by kernel_rfl) rfl
 have HP := hid hp; have HM := hid hm; have HPL := hid hp.len
 have HS0 : Hid (GatSt K w q 0 none 0 0 w) := ⟨Pw.zero _ _ _, Nat.le_refl _, Nat.le_refl _, Below.refl _ _⟩
 clear hp hm
 go_enter Tryz.func98, Tryz.ntmps98
 go_wp2
 go_loopw [3, 9] (fun p i wr => ∃ (k : Nat) (ro : Option Addr) (rn rc : Nat), p = .slice ro rn rc ∧ i = .int .i64 k ∧ k ≤ n ∧ Hid (GatSt K w q k ro rn rc wr)) (fun _ i _ => n - (intOf i).toNat)
 case atStart => exact ⟨0, none, 0, 0, rfl, rfl, Nat.zero_le _, HS0.out⟩
 case round =>
  clear HS0; obtain ⟨k, ro, rn, rc, rfl, rfl, hk, HS⟩ := hrel
  by_cases hkn : k < n
  ·obtain ⟨b, off, xm, xa, xn, xc, xp, xq, xr, hbo, hbl, hc, hCn, hBd, hMl⟩ := (HP.out.below HS.out.bw).at (k := k) hkn
   subst hbo; obtain ⟨c0, c1, c2⟩ := hc wr (Below.refl _ _)
   have hkq : k < q.length := by rw [HPL.out]; exact hkn
   obtain ⟨t, ht⟩ : ∃ t, t = q.getD k (0, []) := ⟨_, rfl⟩; rw [← ht] at hCn hBd hMl
   have htq : t ∈ q := by rw [ht]; exact getD_in _ hkq
   have hst : gatT (q.take (k + 1)) = gatStep (gatT (q.take k)) t := gat_take q k t (by rw [ht]; simp [List.getD, hkq])
   have HTF : Hid (Bd t.1 K ∧ mayM 0 t.2 = true) := ⟨hBd, HM.out t htq⟩
   have HST := hid hst; have HTW := hid (And.intro hCn hMl); clear hc hCn hBd hMl hbl ht htq hst; obtain ⟨g, hg⟩ : ∃ g, g = wr.heap.size := ⟨_, rfl⟩
   go_upto_region 5 with (fail)
   refine zz233 (fun W hW => ?_)
   have a1 : AtN W g [.bool xm, .slice xa xn xc, .slice xp xq xr] 68 ∧ Below wr.heap.size wr W := by rw [hW, hg]; exact box1 wr [.bool xm, .slice xa xn xc, .slice xp xq xr] 68
   rw [← hg]; clear hW c0 c1 c2
   have HG : Hid (∀ g2, blk ro = some g2 → g2 ≠ g) := fun g2 e => by have := (HS.out.pw.lt g2 e).2; omega
   clear hg
   have HS_W : Hid (GatSt K w q k ro rn rc W) := HS.out.below a1.2
   have HT_W : Hid (Cn W xm xa xn xc t.1 ∧ Ml W xp xq xr t.2) := ⟨HTW.out.1.below a1.2, HTW.out.2.below a1.2⟩
   have HA_W := hid a1.1; clear a1 HS HTW; have hnk := HS_W.out.nk; have hcap := HS_W.out.cap
   by_cases h0 : rn = 0
   ·subst h0
    have hd : decide ((0 : Int) ≤ -1) = false := rfl
    have HAP : Hid (gatT (q.take (k + 1)) = gatT (q.take k) ++ [t]) := by rw [Hid, HST.out, HS_W.out.nil rfl]; rfl
    go_upto_region 6 with (fail)
    refine wp_region_held_drew (S := fun w' => True) (by kernel_rfl) trivial (fun hH => ?_)
    refine zz10 (fun V hW => ?_)
    have dr := (Below.refl W.heap.size W).drew
    have HS_V : Hid (GatSt K w q k ro 0 rc V) := by rw [hW]; exact HS_W.out.below dr
    have HA_V : Hid (AtN V g [.bool xm, .slice xa xn xc, .slice xp xq xr] 68) := by rw [hW]; exact HA_W.out.below dr
    have HT_V : Hid (Cn V xm xa xn xc t.1 ∧ Ml V xp xq xr t.2) := by rw [hW]; exact ⟨HT_W.out.1.below dr, HT_W.out.2.below dr⟩
    try rw [← hW] at hH
    clear HS_W HA_W HT_W dr; clear hW
    refine son 0 hH ?_; try simp only [nrm]
    refine son 1 hH ?_; try simp only [nrm]
    refine son 2 hH ?_; try simp only [nrm]
    refine sof 3 hH ?_; try simp only [nrm]
    refine sof 4 hH ?_; try simp only [nrm]
    refine sof 5 hH ?_; try simp only [nrm]
    refine sof 6 hH ?_; try simp only [nrm]
    refine sof 7 hH ?_; try simp only [nrm]
    refine sof 8 hH ?_; try simp only [nrm]
    refine sof 9 hH ?_; try simp only [nrm]
    refine son 10 hH ?_; try simp only [nrm]
    refine wpAnyH_done (by kernel_rfl) ?_ _
    obtain ⟨v8, W8, hr8, hps⟩ := push_run (t := t) HS_V.out.pw HS_V.out.bw.size (by have := HS_V.out.nk; omega) HT_V.out.1 (HTF.out.1.mono (by omega)) HT_V.out.2 68 23
    obtain ⟨c0, c1, c2⟩ := HA_V.out.c3; have HPU := hid hps; clear hps
    go_wp2_with (at_builtin; refine zz225 rfl (.tmp 39) (.tmp 41) 23 23 rfl _ _ rfl rfl hr8 ?_)
    clear c0 c1 c2 hr8; obtain ⟨po8, pc8, rfl, hp1, hp2, hp3⟩ := HPU.out
    have HS8 : Hid (GatSt K w q (k + 1) po8 (0 + 1) pc8 W8) := HS_V.out.pushed HAP.out hp1 hp2
    clear HPU HS_V HA_V HT_V hp1 hp2 hp3
    try go_wp2
    go_roundw
    case rel => exact ⟨k + 1, po8, 0 + 1, pc8, rfl, by go_num, by omega, HS8.out⟩
    case measure => simp [intOf]; omega
   ·obtain ⟨r, rfl⟩ : ∃ r, rn = r + 1 := ⟨rn - 1, by omega⟩
    clear h0
    have e1 : ((r + 1 : Nat) : Int) - 1 = (r : Int) := by omega
    have e2 : ((r + 1 : Nat) : Int) = (r : Int) + 1 := by omega
    have e3 : (r : Int) + 1 - 1 = (r : Int) := by omega
    have hw : IntKind.i64.wrap (r : Int) = (r : Int) := IntWalk.i64_in _ ⟨by omega, by omega⟩
    have hr1 : r < r + 1 := by omega
    have hi1 : (r : Int) < (r : Int) + 1 := by omega
    have hd : decide ((0 : Int) ≤ (r : Int)) = true := decide_eq_true (by omega)
    obtain ⟨pb, po, um, ua, un, uc, up, uq, ur, hpo, hpb, hcu, hUn, hUd, hUl⟩ := HS_W.out.pw.pc.at (k := r) hr1; subst hpo
    have hlen : (gatT (q.take k)).length = r + 1 := HS_W.out.pw.len
    obtain ⟨u, hu⟩ : ∃ u, u = (gatT (q.take k)).getD r (0, []) := ⟨_, rfl⟩; rw [← hu] at hUn hUd hUl
    have hsp : gatT (q.take k) = (gatT (q.take k)).take r ++ [u] := by rw [hu]; exact gat_split hlen
    have hum : mayM 0 u.2 = true := gat_may (fun s hs => HM.out s (List.mem_of_mem_take hs)) u (by rw [hsp]; simp)
    obtain ⟨z, hz⟩ : ∃ z, cmpM u.2 t.2 = z := ⟨_, rfl⟩
    have HO : Hid (∀ V, Below W.heap.size W V → Calls Tryz.prog 96 #[.agg #[.bool um, .slice ua un uc, .slice up uq ur], .agg #[.bool xm, .slice xa xn xc, .slice xp xq xr]] V (RetB (.int .i64 z) V)) := fun V hV => zz135 z (hUl.below hV) (HT_W.out.2.below hV) hum HTF.out.2 hz
    have HU : Hid (Cn W um ua un uc u.1 ∧ Bd u.1 (K + k)) := ⟨hUn, hUd⟩
    have HCU := hid hcu; have HSP := hid hsp
    have HLN : Hid (((gatT (q.take k)).take r).length = r) := by rw [Hid, List.length_take, hlen]; omega
    have HZ : Hid ((z = 0 → u.2 = t.2) ∧ (u.2 = t.2 → z = 0)) := ⟨fun e => cmp_eq hum HTF.out.2 (by rw [hz]; exact e), fun e => by rw [← hz, e]; exact cmp_self HTF.out.2⟩
    clear hcu hUn hUd hUl hlen hu hsp hum hz hpb
    by_cases hz0 : z = 0
    ·have hd2 : (z == 0) = true := beq_iff_eq.2 hz0
     have HAP : Hid (gatT (q.take (k + 1)) = (gatT (q.take k)).take r ++ [(u.1 + t.1, u.2)]) := by rw [Hid, HST.out]; exact gat_eq HSP.out (HZ.out.1 hz0)
     go_upto_region 6 with (fail)
     refine wp_region_held_drew (S := (fun w' => (w'.cell? ⟨pb, po + r * 3, none⟩ = some (.bool um) ∧ w'.cell? ⟨pb, po + r * 3 + 1, none⟩ = some (.slice ua un uc) ∧ w'.cell? ⟨pb, po + r * 3 + 2, none⟩ = some (.slice up uq ur)) ∧ w'.cell? ⟨g, 0, none⟩ = some (.bool xm) ∧ w'.cell? ⟨g, 1, none⟩ = some (.slice xa xn xc) ∧ w'.cell? ⟨g, 2, none⟩ = some (.slice xp xq xr))) (by kernel_rfl) ⟨HCU.out _ (Below.refl _ _).drew, (HA_W.out.below (Below.refl _ _).drew).c3⟩ (fun hH => ?_)
     have HBW : Hid (Below W.heap.size W W.drew) := (Below.refl _ _).drew
     refine zz10 (fun V hW => ?_)
     have HBV : Hid (Below W.heap.size W V) := by rw [hW]; exact HBW.out
     have dr := (Below.refl W.heap.size W).drew
     have HS_V : Hid (GatSt K w q k (some ⟨pb, po, none⟩) (r + 1) rc V) := by rw [hW]; exact HS_W.out.below dr
     have HA_V : Hid (AtN V g [.bool xm, .slice xa xn xc, .slice xp xq xr] 68) := by rw [hW]; exact HA_W.out.below dr
     have HT_V : Hid (Cn V xm xa xn xc t.1 ∧ Ml V xp xq xr t.2) := by rw [hW]; exact ⟨HT_W.out.1.below dr, HT_W.out.2.below dr⟩
     try rw [← hW] at hH
     clear HS_W HA_W HT_W dr; clear HBW; clear hW
     refine son 0 hH ?_; try simp only [nrm]
     refine son 1 hH ?_; try simp only [nrm]
     refine son 2 hH ?_; try simp only [nrm]
     refine son 3 hH ?_; try simp only [nrm]
     refine son 4 hH ?_; try simp only [nrm]
     refine son 5 hH ?_; try simp only [nrm]
     refine son 6 hH ?_; try simp only [nrm]
     refine son 7 hH ?_; try simp only [nrm]
     refine zz178 8 rfl (by kernel_rfl) (fun KK hK => ?_)
     go_simp; refine (HO.out _ HBV.out).mono ?_
     rintro e V2 ⟨rfl, hB⟩; have HBV2 := hid (Below.steps HBV.out hB); have HS_V2 := hid (HS_V.out.below hB); have HA_V2 := hid (HA_V.out.below hB); have HT_V2 := hid (And.intro (HT_V.out.1.below hB) (HT_V.out.2.below hB)); clear hB HBV HS_V HA_V HT_V; go_wp2_with fail
     clear hH; refine hK.out _ _ ⟨HCU.out _ HBV2.out, HA_V2.out.c3⟩ fun hH => ?_; clear hK KK
     try simp only [nrm]
     refine son 9 hH ?_; try simp only [nrm]
     refine son 10 hH ?_; try simp only [nrm]
     refine wpAnyH_done (by kernel_rfl) ?_ _
     go_upto_region 7 with (fail)
     refine wp_region_held_drew (S := (fun w' => w'.cell? ⟨g, 0, none⟩ = some (.bool xm) ∧ w'.cell? ⟨g, 1, none⟩ = some (.slice xa xn xc))) (by kernel_rfl) ⟨(HA_V2.out.below (Below.refl _ _).drew).c3.1, (HA_V2.out.below (Below.refl _ _).drew).c3.2.1⟩ (fun hH => ?_)
     refine zz10 (fun V3 hW => ?_)
     have HBV3 : Hid (Below W.heap.size W V3) := by rw [hW]; exact HBV2.out.drew
     have dr := (Below.refl V2.heap.size V2).drew
     have HS_V3 : Hid (GatSt K w q k (some ⟨pb, po, none⟩) (r + 1) rc V3) := by rw [hW]; exact HS_V2.out.below dr
     have HA_V3 : Hid (AtN V3 g [.bool xm, .slice xa xn xc, .slice xp xq xr] 68) := by rw [hW]; exact HA_V2.out.below dr
     have HT_V3 : Hid (Cn V3 xm xa xn xc t.1 ∧ Ml V3 xp xq xr t.2) := by rw [hW]; exact ⟨HT_V2.out.1.below dr, HT_V2.out.2.below dr⟩
     try rw [← hW] at hH
     clear HS_V2 HA_V2 HT_V2 dr; clear HBV2; clear hW
     refine son 0 hH ?_; try simp only [nrm]
     refine son 1 hH ?_; try simp only [nrm]
     refine son 2 hH ?_; try simp only [nrm]
     refine son 3 hH ?_; try simp only [nrm]
     refine son 4 hH ?_; try simp only [nrm]
     refine son 5 hH ?_; try simp only [nrm]
     refine son 7 hH ?_; try simp only [nrm]
     refine son 8 hH ?_; try simp only [nrm]
     refine zz178 6 rfl (by kernel_rfl) (fun KK hK => ?_)
     obtain ⟨d0, d1, d2⟩ := HCU.out _ HBV3.out; go_simp; clear d0 d1 d2
     clear hH; refine hK.out _ _ ⟨(HA_V3.out).c3.1, (HA_V3.out).c3.2.1⟩ fun hH => ?_; clear hK KK
     try simp only [nrm]
     refine zz178 9 rfl (by kernel_rfl) (fun KK hK => ?_)
     go_simp
     refine (zz220 ((HU.out.1.below HBV3.out).cx HU.out.2 (by omega)).nx (HT_V3.out.1.cx HTF.out.1 (by omega)).nx).mono ?_
     rintro e V4 ⟨sm, sa, sn, sc, rfl, hC, hB⟩; have HBV4 := hid (Below.steps HBV3.out hB); have HS_V4 := hid (HS_V3.out.below hB); have HA_V4 := hid (HA_V3.out.below hB); have HC4 := hid hC; clear hB hC HBV3 HS_V3 HA_V3 HT_V3; go_wp2_with fail
     clear hH; refine hK.out _ _ ⟨(HA_V4.out).c3.1, (HA_V4.out).c3.2.1⟩ fun hH => ?_; clear hK KK
     try simp only [nrm]
     refine son 10 hH ?_; try simp only [nrm]
     refine son 11 hH ?_; try simp only [nrm]
     obtain ⟨d0, d1, d2⟩ := HCU.out _ HBV4.out; obtain ⟨f0, f1, f2⟩ := HS_V4.out.pw.fz3 (k := r) hr1; have hset := HS_V4.out.set HAP.out HSP.out HLN.out HC4.out (HU.out.2.add1 HTF.out.1)
     refine zz178 12 rfl (by kernel_rfl) (fun KK hK => ?_)
     go_simp; have HS5 := hid hset
     clear hset d0 d1 d2 f0 f1 f2
     clear hH; refine hK.out _ _ ⟨(((HA_V4.out.far (HG.out _ rfl) _ _).far (HG.out _ rfl) _ _)).c3.1, (((HA_V4.out.far (HG.out _ rfl) _ _).far (HG.out _ rfl) _ _)).c3.2.1⟩ fun hH => ?_; clear hK KK
     try simp only [nrm]
     refine wpAnyH_done (by kernel_rfl) ?_ _
     go_wp2
     go_roundw
     case rel => exact ⟨k + 1, _, r + 1, _, rfl, by go_num, by omega, HS5.out⟩
     case measure => simp [intOf]; omega
    ·have hd2 : (z == 0) = false := beq_eq_false_iff_ne.2 hz0
     have HAP : Hid (gatT (q.take (k + 1)) = gatT (q.take k) ++ [t]) := by rw [Hid, HST.out]; exact gat_ne HSP.out (fun e => hz0 (HZ.out.2 e))
     go_upto_region 6 with (fail)
     refine wp_region_held_drew (S := (fun w' => (w'.cell? ⟨pb, po + r * 3, none⟩ = some (.bool um) ∧ w'.cell? ⟨pb, po + r * 3 + 1, none⟩ = some (.slice ua un uc) ∧ w'.cell? ⟨pb, po + r * 3 + 2, none⟩ = some (.slice up uq ur)) ∧ w'.cell? ⟨g, 0, none⟩ = some (.bool xm) ∧ w'.cell? ⟨g, 1, none⟩ = some (.slice xa xn xc) ∧ w'.cell? ⟨g, 2, none⟩ = some (.slice xp xq xr))) (by kernel_rfl) ⟨HCU.out _ (Below.refl _ _).drew, (HA_W.out.below (Below.refl _ _).drew).c3⟩ (fun hH => ?_)
     have HBW : Hid (Below W.heap.size W W.drew) := (Below.refl _ _).drew
     refine zz10 (fun V hW => ?_)
     have HBV : Hid (Below W.heap.size W V) := by rw [hW]; exact HBW.out
     have dr := (Below.refl W.heap.size W).drew
     have HS_V : Hid (GatSt K w q k (some ⟨pb, po, none⟩) (r + 1) rc V) := by rw [hW]; exact HS_W.out.below dr
     have HA_V : Hid (AtN V g [.bool xm, .slice xa xn xc, .slice xp xq xr] 68) := by rw [hW]; exact HA_W.out.below dr
     have HT_V : Hid (Cn V xm xa xn xc t.1 ∧ Ml V xp xq xr t.2) := by rw [hW]; exact ⟨HT_W.out.1.below dr, HT_W.out.2.below dr⟩
     try rw [← hW] at hH
     clear HS_W HA_W HT_W dr; clear HBW; clear hW
     refine son 0 hH ?_; try simp only [nrm]
     refine son 1 hH ?_; try simp only [nrm]
     refine son 2 hH ?_; try simp only [nrm]
     refine son 3 hH ?_; try simp only [nrm]
     refine son 4 hH ?_; try simp only [nrm]
     refine son 5 hH ?_; try simp only [nrm]
     refine son 6 hH ?_; try simp only [nrm]
     refine son 7 hH ?_; try simp only [nrm]
     refine zz178 8 rfl (by kernel_rfl) (fun KK hK => ?_)
     go_simp; refine (HO.out _ HBV.out).mono ?_
     rintro e V2 ⟨rfl, hB⟩; have HBV2 := hid (Below.steps HBV.out hB); have HS_V2 := hid (HS_V.out.below hB); have HA_V2 := hid (HA_V.out.below hB); have HT_V2 := hid (And.intro (HT_V.out.1.below hB) (HT_V.out.2.below hB)); clear hB HBV HS_V HA_V HT_V; go_wp2_with fail
     clear hH; refine hK.out _ _ ⟨HCU.out _ HBV2.out, HA_V2.out.c3⟩ fun hH => ?_; clear hK KK
     try simp only [nrm]
     refine son 9 hH ?_; try simp only [nrm]
     refine son 10 hH ?_; try simp only [nrm]
     refine wpAnyH_done (by kernel_rfl) ?_ _
     obtain ⟨v8, W8, hr8, hps⟩ := push_run (t := t) HS_V2.out.pw HS_V2.out.bw.size (by have := HS_V2.out.nk; omega) HT_V2.out.1 (HTF.out.1.mono (by omega)) HT_V2.out.2 68 23
     obtain ⟨c0, c1, c2⟩ := HA_V2.out.c3; have HPU := hid hps; clear hps
     go_wp2_with (at_builtin; refine zz225 rfl (.tmp 39) (.tmp 41) 23 23 rfl _ _ rfl rfl hr8 ?_)
     clear c0 c1 c2 hr8; obtain ⟨po8, pc8, rfl, hp1, hp2, hp3⟩ := HPU.out
     have HS8 : Hid (GatSt K w q (k + 1) po8 ((r + 1) + 1) pc8 W8) := HS_V2.out.pushed HAP.out hp1 hp2
     clear HPU HS_V2 HA_V2 HT_V2 hp1 hp2 hp3
     try go_wp2
     go_roundw
     case rel => exact ⟨k + 1, po8, (r + 1) + 1, pc8, rfl, by go_num, by omega, HS8.out⟩
     case measure => simp [intOf]; omega
  ·obtain rfl : k = n := by omega
   have hfull : q.take k = q := List.take_of_length_le (by rw [HPL.out]; exact Nat.le_refl _)
   have hnk := HS.out.nk; have h := HS.out
   have hD := deleteT_any ezero (f := fun t => t.1 == 0) (B := w.heap.size) (K := K + k) (fun m ao n cap bo l cb t W h1 h2 h3 => by rw [Array.append_empty]; exact gatZero_any (by omega) h1 h2) h.pw (by omega)
   have HD := hid hD; have HB := hid h.bw
   have HR := hid (fun g hg => h.pw.lt g hg)
   rw [hfull] at HD; clear h hD HS hfull
   go_wp2_with fail
   refine HD.out.mono ?_
   rintro e w2 ⟨m, rfl, hP, hG⟩
   have HH : Hid (NewPw (K + k) w (nzT (gatT q)) (.returned (.slice ro m rc)) w2) := ⟨_, _, _, rfl, hP, HB.out.grown hG HB.out.size (fun r e => (HR.out r e).1)⟩
   clear hP hG HD HB HR
   go_wp2
   go_ret
   exact HH.out
open Lib (hid)
section
variable {K : Nat} {ao : Option Addr} {n cap : Nat} {p : List Term} {w : World}
theorem pof_any [Ol] (h : Pi K w ao n cap p) (hm : ∀ t ∈ p, mayM 0 t.2 = true) (hn : n ≤ 800000) (hK : K + n ≤ 900000) :
  Calls Tryz.prog 180 #[.slice ao n cap] w (PE (K + n) w (ofT p) 0) := by
 obtain ⟨vss, hG, hE⟩ := h.gl3; have HH := hid h; have HL := hid h.len; have HM := hid hm; have HG := hid hG; have HE := hid hE; clear h hm hG hE
 go_enter Tryz.func180, Tryz.ntmps180
 go_wp2
 go_loopw [9] (fun i wr => ∃ k : Nat, i = .int .i64 k ∧ k ≤ n ∧ Hid (Below w.heap.size w wr)) (fun i _ => n - (intOf i).toNat)
 case atStart => exact ⟨0, rfl, Nat.zero_le _, Below.refl _ _⟩
 case round =>
  obtain ⟨k, rfl, hk, HB⟩ := hrel
  by_cases hkn : k < n
  ·obtain ⟨xm, xa, xn, xc, xp, xq, xr, hv, hI, hkk, hMl⟩ := HE.out k hkn
   have hGw := HG.out.below HB.out
   obtain ⟨b, off, hao, hb, hc⟩ := hGw.at (by omega)
   subst hao; obtain ⟨c0, c1, c2⟩ := hGw.cell3 hkn hv wr (Below.refl _ _)
   have hmt : mayM 0 (p.getD k (0, [])).2 = true := HM.out _ (getD_in _ (by rw [HL.out]; exact hkn))
   generalize p.getD k (0, []) = t at hmt hMl
   have HT := hid (And.intro (hMl.below HB.out) hmt); clear hGw hc hv hI hMl hmt
   go_upto_region 4 with (fail)
   refine zz233 (fun W hW => ?_)
   have a1 : AtN W wr.heap.size [.bool xm, .slice xa xn xc, .slice xp xq xr] 68 ∧ Below wr.heap.size wr W := by rw [hW]; exact box1 wr [.bool xm, .slice xa xn xc, .slice xp xq xr] 68
   clear hW c0 c1 c2; obtain ⟨c0, c1, c2⟩ := a1.1.c3; have HB1 := hid (Below.steps HB.out a1.2); have HT1 := hid (And.intro (HT.out.1.below a1.2) HT.out.2); clear a1 HB HT; go_wp2_with fail; refine (may_any true HT1.out.1 HT1.out.2).mono ?_; rintro e w2 ⟨rfl, hB⟩; have HB2 := hid (Below.steps HB1.out hB); clear hB HB1 HT1 c0 c1 c2
   go_wp2
   go_roundw
   case rel => exact ⟨k + 1, by go_num, by omega, HB2.out⟩
   case measure => simp [intOf]; omega
  ·obtain rfl : k = n := by omega
   go_wp2_with fail
   refine (zz139 (HH.out.below HB.out) (by omega) (by omega)).mono ?_
   rintro e w2 ⟨oa, on, oc, rfl, h1, h2⟩
   have hon : on = k := by rw [← h1.len, HL.out]
   subst hon; have HW1 := hid h1; have HB1 := hid h2; have HB0 := hid (Below.steps HB.out h2); clear h1 h2
   by_cases h0 : on = 0
   ·subst h0
    have hp0 : p = [] := List.eq_nil_of_length_eq_zero HL.out
    subst hp0; go_wp2_with fail; refine (sortNone_any _ _ _ _).mono ?_; rintro e w3 ⟨rfl, rfl⟩; go_wp2_with fail
    refine (zz63 HW1.out.pc HM.out (by omega) (by omega)).mono ?_
    rintro e w4 ⟨ra, rn, rc, rfl, h1, h2⟩
    have HR : Hid (PE (K + 0) w (ofT []) 0 (.returned (.tuple #[.slice ra rn rc, .int .i64 0])) w4) := ⟨_, _, _, rfl, h1.pc, Below.steps HB0.out h2⟩
    clear h1 h2; go_wp2_with fail
    go_ret2
    exact HR.out
   ·obtain ⟨g, off, _, _, _, _, _, _, _, hao, _⟩ := HW1.out.pc.at (k := 0) (by omega)
    subst hao; go_wp2_with fail
    refine (ofSort_any HW1.out (by omega) HM.out).mono ?_
    rintro e w3 ⟨rfl, q, hq1, hq2, hq3, hq4⟩
    have hbw : Below w.heap.size w w3 := HB0.out.grown hq4 HB0.out.size (fun r e => by cases e; have := (HW1.out.lt g rfl).1; have := HB.out.size; omega)
    have HQ := hid (And.intro hq1 (And.intro hq2 (And.intro hq3 hbw))); clear hq1 hq2 hq3 hq4 hbw; go_wp2_with fail
    refine (zz63 HQ.out.2.2.1.pc (fun t ht => HM.out t (HQ.out.1.mem_iff.1 ht)) (by omega) (by omega)).mono ?_
    rintro e w4 ⟨ra, rn, rc, rfl, h1, h2⟩; rw [gat_of HM.out HQ.out.1 HQ.out.2.1] at h1
    have HR : Hid (PE (K + on) w (ofT p) 0 (.returned (.tuple #[.slice ra rn rc, .int .i64 0])) w4) := ⟨_, _, _, rfl, h1.pc, Below.steps HQ.out.2.2.2 h2⟩
    clear h1 h2; go_wp2_with fail
    go_ret2
    exact HR.out
end
open Lib (hid)
theorem Pi.one [Ol] {K : Nat} {w : World} {m : Bool} {ao : Option Addr} {n cap : Nat} {z : Int} (h : In w m ao n cap z) (hn : n ≤ K) {bo : Option Addr} {l cb : Nat} {ps : List (Int × Int)} (hM : Ml w bo l cb ps) (T : TypeId) :
  Pi K (w.alloc (.cells #[.bool m, .slice ao n cap, .slice bo l cb] T)) (some ⟨w.heap.size, 0, none⟩) 1 1 [(z, ps)] :=
 ⟨_, Gl.lit 3 w [.bool m, .slice ao n cap, .slice bo l cb] T rfl (by simp [Value.oneCell']), ⟨⟨_, _, _, _, _, _, _, rfl, h.below (zz13 _ _), hn, hM.below (zz13 _ _)⟩, trivial⟩⟩
theorem may_nil : mayM 0 [] = true := rfl
theorem of_one {z : Int} {m : List (Int × Int)} (hm : mayM 0 m = true) : ofT [(z, m)] = if z = 0 then [] else [(z, m)] := by
 refine zz55 (zz128 (l := [(z, m)]) (fun t ht => by rw [List.mem_singleton] at ht; subst ht; exact hm)).1 ?_ fun ρ => ?_
 ·by_cases h : z = 0
  ·rw [if_pos h]; trivial
  ·rw [if_neg h]; exact ⟨h, hm, (fun _ h => by cases h), trivial⟩
 ·rw [(zz128 (l := [(z, m)]) (fun t ht => by rw [List.mem_singleton] at ht; subst ht; exact hm)).2]
  by_cases h : z = 0
  ·rw [if_pos h, h]; simp [ev]
  ·rw [if_neg h]
section
variable {K : Nat} {w : World}
theorem pnumber_any [Ol] {m : Bool} {ao : Option Addr} {n cap : Nat} {z : Int} (hx : In w m ao n cap z) (hn : n ≤ K) (hK : K ≤ 800000) :
  Calls Tryz.prog 56 #[.agg #[.bool m, .slice ao n cap]] w (NewPc (K + 1) w (ofT [(z, [])])) := by
 have HX := hid hx; clear hx
 go_enter Tryz.func56, Tryz.ntmps56
 go_upto_region 1 with (fail)
 refine zz233 (fun W hW => ?_)
 obtain ⟨a1, hB⟩ := box1 w [.bool m, .slice ao n cap] 64; rw [← hW] at a1 hB; clear hW; have c0 := a1.cell 0; have c1 := a1.cell 1
 simp only [List.getElem?_cons_succ, List.getElem?_cons_zero] at c0 c1
 have HB := hid hB; clear a1 hB; go_wp2_with fail
 refine (zz139 (Pi.one (HX.out.below HB.out) hn (Ml.zero W) _) (by omega) (by omega)).mono ?_
 rintro e w2 ⟨oa, on, oc, rfl, h1, h2⟩; have HW := hid h1; have HB2 := hid (Below.steps HB.out (zz176 h2)); clear h1 h2 HB c0 c1
 have hon : on = 1 := HW.out.len.symm
 subst hon; go_wp2_with fail
 refine (zz63 HW.out.pc (fun t ht => by rw [List.mem_singleton] at ht; subst ht; exact may_nil) (by omega) (by omega)).mono ?_
 rintro e w3 ⟨ra, rn, rc, rfl, h1, h2⟩
 rw [gat_of (l := [(z, [])]) (fun t ht => by rw [List.mem_singleton] at ht; subst ht; exact may_nil) (List.Perm.refl _) (List.pairwise_singleton _ _)] at h1
 have HR : Hid (NewPc (K + 1) w (ofT [(z, [])]) (.returned (.slice ra rn rc)) w3) := ⟨_, _, _, rfl, h1.pc, Below.steps HB2.out h2⟩
 clear h1 h2; go_wp2_with fail
 go_ret
 exact HR.out
variable {po : Option Addr} {pn pc : Nat} {ps : List Raw} {p : List Term} {m : Bool} {ao : Option Addr} {n cap : Nat} {z : Int} {bo : Option Addr} {l cb : Nat} {ms : List (Int × Int)}
theorem pshift_any [Ol] (hp : Pc K w po pn pc p) (hf : fall p) (hpn : pn ≤ 300000) (hx : In w m ao n cap z) (hn : n ≤ K) (hK : K ≤ 900) (hM : Ml w bo l cb ms) (hm : mayM 0 ms = true) :
  Calls Tryz.prog 162 #[.slice po pn pc, .agg #[.bool m, .slice ao n cap], .slice bo l cb] w (PE (K + 1 + (K + 1) + pn + 1) w (tryT p (ofT [(z, ms)])).1 (errT p (ofT [(z, ms)]))) := by
 have HP := hid hp; have HX := hid hx; have HM := hid hM; have HN := hid hm; have HF := hid hf
 have hms : mays [(z, ms)] := fun t ht => by rw [List.mem_singleton] at ht; subst ht; exact hm
 have HQL : Hid ((ofT [(z, ms)]).length ≤ 1) := by
  rw [Hid, of_one hm]
  split <;> simp
 have HMS := hid hms; clear hp hx hM hm hf hms
 go_enter Tryz.func162, Tryz.ntmps162
 go_upto_region 1 with (fail)
 refine zz233 (fun W hW => ?_)
 obtain ⟨a1, hB⟩ := box1 w [.bool m, .slice ao n cap] 64; rw [← hW] at a1 hB; clear hW; have c0 := a1.cell 0; have c1 := a1.cell 1
 simp only [List.getElem?_cons_succ, List.getElem?_cons_zero] at c0 c1
 have HB := hid hB; clear a1 hB; go_wp2_with fail
 refine (pof_any (Pi.one (HX.out.below HB.out) hn (HM.out.below HB.out) _) HMS.out (by omega) (by omega)).mono ?_
 rintro e w2 ⟨ra, rn, rc, rfl, h1, h2⟩; have HB2 := hid (Below.steps HB.out (zz176 h2)); have HQ := hid h1; clear h1 h2 HB c0 c1
 have hrn : rn ≤ 1 := by have := HQ.out.len; have := HQL.out; omega
 clear HQL
 have hmul : pn * rn ≤ pn * 1 := Nat.mul_le_mul_left _ hrn
 go_wp2_with fail
 refine (ptimes_try ((HP.out.below HB2.out).mono (Nat.le_succ K)) HQ.out HF.out (zz128 HMS.out).1 (by omega) (by omega) (by omega) (by omega)).mono ?_
 rintro e w3 ⟨qa, qn, qc, rfl, h1, h2⟩
 have HR : Hid (PE (K + 1 + (K + 1) + pn + 1) w (tryT p (ofT [(z, ms)])).1 (errT p (ofT [(z, ms)])) (.returned (.tuple #[.slice qa qn qc, .int .i64 (errT p (ofT [(z, ms)]))])) w3) := ⟨_, _, _, rfl, h1.mono (by omega), Below.steps HB2.out h2⟩
 clear h1 h2; go_wp2_with fail
 go_ret2
 exact HR.out
end

end Go.Proofs.YtodcddkiodmklaaGreat
