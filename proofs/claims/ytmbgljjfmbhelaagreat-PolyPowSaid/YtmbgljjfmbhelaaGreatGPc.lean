/- PlGat1, PlGat, PlOf, PlOf2, PlPowP, PlPow, PlLead -/
import Derived.Test.YtmbgljjfmbhelaaGreatGPa
import Derived.Test.YtmbgljjfmbhelaaGreatGP6
import Derived.Test.YtmbgljjfmbhelaaGreatGPb
import Derived.Test.YtmbgljjfmbhelaaGreatGP9
import Derived.Test.YtmbgljjfmbhelaaGreatGP8
import Derived.Test.YtmbgljjfmbhelaaGreatVProdP
set_option maxHeartbeats 40000000
set_option maxRecDepth 100000
namespace Go.Proofs.YtmbgljjfmbhelaaGreat
open Go.RowKit
theorem gatZero_any {K : Nat} (hK : K ≤ 1000000) {m : Bool} {ao : Option Addr} {n cap : Nat} {bo : Option Addr} {l cb : Nat} {t : Term} {w : World} (hC : Cn w m ao n cap t.1) (hb : Bd t.1 K) :
  Calls Tryz.prog 152 #[.agg #[.bool m, .slice ao n cap, .slice bo l cb]] w (RetB (.bool (t.1 == 0)) w) := by
 obtain ⟨z, hz⟩ : ∃ z, t.1 = z := ⟨_, rfl⟩; obtain ⟨s, hs⟩ : ∃ s, z.sign = s := ⟨_, rfl⟩; obtain ⟨b, hb0⟩ : ∃ b, (z == 0) = b := ⟨_, rfl⟩; rw [hz] at hC hb ⊢
 have hsb : (s == 0) = b := by
  rw [← hb0, ← hs]
  by_cases h0 : z = 0
  ·subst h0; rfl
  ·rw [beq_eq_false_iff_ne.2 h0, beq_eq_false_iff_ne.2 (fun e => h0 (Int.sign_eq_zero_iff_zero.1 e))]
 rw [hb0]; have HC := Lib.hid (hC.cx hb hK)
 have HS := Lib.hid hs; clear hC hb hz hs hb0
 go_enter Tryz.func152, Tryz.ntmps152
 go_upto_region 1 with (fail)
 refine zz232 (fun W hW => ?_)
 obtain ⟨a1, hB⟩ := box1 w [.bool m, .slice ao n cap, .slice bo l cb] 53; rw [← hW] at a1 hB; clear hW; obtain ⟨c10, c11, c12⟩ := a1.c3; have HB := Lib.hid hB; clear a1 hB; go_wp2_with fail; refine (zz234 s (HC.out.below HB.out).nx HS.out).mono ?_; rintro e w' ⟨rfl, hB⟩; have HB2 := Lib.hid (Below.steps HB.out hB); clear hB HB c10 c11 c12; go_wp2_with fail
 go_ret
 exact ⟨rfl, HB2.out⟩
open Lib (hid)
theorem gat_split {p : List Term} {r : Nat} (h : p.length = r + 1) : p = p.take r ++ [p.getD r (0, [])] := by
 conv => lhs; rw [← List.take_length (l := p), h, List.take_succ_eq_append_getElem (by omega), ← getD_of (0, []) (by omega)]
theorem gat_mono : ∀ (l p : List Term) (u : Term), u ∈ l.foldl gatStep p → (∃ s ∈ p, s.2 = u.2) ∨ ∃ s ∈ l, s.2 = u.2
 | [], p, u, h => .inl ⟨u, h, rfl⟩
 | t :: l, p, u, h => by
  rw [List.foldl_cons] at h
  rcases gat_mono l _ u h with ⟨s, hs, e⟩ | ⟨s, hs, e⟩
  ·rcases zz62 p t with ⟨e2, _⟩ | ⟨q, v, rfl, hv, e2⟩
   ·rw [e2] at hs
    rcases List.mem_append.1 hs with h1 | h1
    ·exact .inl ⟨s, h1, e⟩
    ·rw [List.mem_singleton] at h1; subst h1; exact .inr ⟨s, by simp, e⟩
   ·rw [e2] at hs
    rcases List.mem_append.1 hs with h1 | h1
    ·exact .inl ⟨s, by simp [h1], e⟩
    ·rw [List.mem_singleton] at h1; subst h1; exact .inr ⟨t, by simp, e⟩
  ·exact .inr ⟨s, by simp [hs], e⟩
theorem gat_may {l : List Term} (h : ∀ s ∈ l, mayM 0 s.2 = true) : ∀ u ∈ gatT l, mayM 0 u.2 = true := fun u hu => by
 rcases gat_mono l [] u hu with ⟨s, hs, _⟩ | ⟨s, hs, e⟩
 ·cases hs
 ·rw [← e]; exact h s hs
theorem gat_ne {p q : List Term} {u t : Term} (h : p = q ++ [u]) (hn : u.2 ≠ t.2) : gatStep p t = p ++ [t] := by
 rcases zz62 p t with ⟨e, _⟩ | ⟨q2, v, rfl, hv, _⟩
 ·exact e
 ·have := (List.append_inj' h rfl).2
  simp only [List.cons.injEq, and_true] at this
  exact absurd (this ▸ hv) hn
theorem gat_eq {p q : List Term} {u t : Term} (h : p = q ++ [u]) (hn : u.2 = t.2) : gatStep p t = q ++ [(u.1 + t.1, u.2)] := by
 rcases zz62 p t with ⟨_, e⟩ | ⟨q2, v, rfl, hv, e⟩
 ·exact absurd hn (e q u h)
 ·obtain ⟨rfl, h2⟩ := List.append_inj' h rfl
  simp only [List.cons.injEq, and_true] at h2
  subst h2; rw [e, hn]
theorem Bd.add1 {x y : Int} {K k : Nat} (h : Bd x (K + k)) (h2 : Bd y K) : Bd (x + y) (K + k + 1) := h.add (h2.mono (by omega)) (Nat.le_refl _)
structure GatSt (K : Nat) (w : World) (q : List Term) (k : Nat) (ro : Option Addr) (rn rc : Nat) (V : World) : Prop where
 pw : Pw w.heap.size (K + k) V ro rn rc (gatT (q.take k))
 nk : rn ≤ k
 cap : rn ≤ rc
 bw : Below w.heap.size w V
section
variable {K : Nat} {w : World} {q : List Term} {k : Nat} {ro : Option Addr} {rn rc : Nat} {V V' : World}
theorem GatSt.below (h : GatSt K w q k ro rn rc V) (hb : Below V.heap.size V V') : GatSt K w q k ro rn rc V' := ⟨h.pw.below hb, h.nk, h.cap, Below.steps h.bw hb⟩
theorem GatSt.nil (h : GatSt K w q k ro rn rc V) (h0 : rn = 0) : gatT (q.take k) = [] := List.eq_nil_of_length_eq_zero (by rw [h.pw.len]; exact h0)
theorem GatSt.pushed (h : GatSt K w q k ro rn rc V) {t : Term} (ht : gatT (q.take (k + 1)) = gatT (q.take k) ++ [t]) {po : Option Addr} {pc : Nat} (h1 : Pw w.heap.size (K + k) V' po (rn + 1) pc (gatT (q.take k) ++ [t])) (hG : V.grownBy V' (blk ro)) : GatSt K w q (k + 1) po (rn + 1) pc V' :=
 ⟨by rw [ht]; exact h1.mono (Nat.le_refl _) (by omega), by have := h.nk; omega, by
  rcases h1 with ⟨X, hR, _⟩
  exact hR.gl.le, h.bw.grown hG h.bw.size (fun r e => (h.pw.lt r e).1)⟩
theorem GatSt.set {pb po r : Nat} (h : GatSt K w q k (some ⟨pb, po, none⟩) (r + 1) rc V) {u t : Term} (ht : gatT (q.take (k + 1)) = (gatT (q.take k)).take r ++ [(u.1 + t.1, u.2)]) (hs : gatT (q.take k) = (gatT (q.take k)).take r ++ [u]) (hl : ((gatT (q.take k)).take r).length = r) {m : Bool} {ao : Option Addr} {l c : Nat} (hC : Cn V m ao l c (u.1 + t.1)) (hB : Bd (u.1 + t.1) (K + k + 1)) :
  GatSt K w q (k + 1) (some ⟨pb, po, none⟩) (r + 1) rc ((V.setCell ⟨pb, po + r * 3, none⟩ (.bool m)).setCell ⟨pb, po + r * 3 + 1, none⟩ (.slice ao l c)) := by
 have h1 := h.pw; rw [hs] at h1; obtain ⟨h2, h3⟩ := h1.setC (Below.refl _ _) hC hB; rw [hl] at h2 h3
 exact ⟨by rw [ht]; exact h2, by have := h.nk; omega, h.cap, h.bw.grown h3 h.bw.size (fun r e => (h.pw.lt r e).1)⟩
end
theorem zz64 {K : Nat} {ao : Option Addr} {n cap : Nat} {q : List Term} {w : World} (hp : Pc K w ao n cap q) (hm : ∀ t ∈ q, mayM 0 t.2 = true) (hn : n ≤ 900000) (hK : K + n ≤ 900000) :
  Calls Tryz.prog 98 #[.slice ao n cap] w (NewPw (K + n) w (nzT (gatT q))) := by
 have ezero : ∀ args w, (callFunc 152 args).run Tryz.prog w = .ok (.enter 152 args) w := enters_of Tryz.func152 (by kernel_rfl) rfl
 have HP := hid hp; have HM := hid hm; have HPL := hid hp.len
 have HS0 : Hid (GatSt K w q 0 none 0 0 w) := ⟨Pw.zero _ _ _, Nat.le_refl _, Nat.le_refl _, Below.refl _ _⟩
 clear hp hm
 go_enter Tryz.func98, Tryz.ntmps98
 go_wp2
 go_loopw [3, 9] (fun p i wr => ∃ (k : Nat) (ro : Option Addr) (rn rc : Nat), p = .slice ro rn rc ∧ i = .int .i64 k ∧ k ≤ n ∧ Hid (GatSt K w q k ro rn rc wr)) (fun _ i _ => n - (intOf i).toNat)
 case atStart => exact ⟨0, none, 0, 0, rfl, rfl, Nat.zero_le _, HS0.out⟩
 case round =>
  clear HS0; obtain ⟨k, ro, rn, rc, rfl, rfl, hk, HS⟩ := hrel
  by_cases hkn : k < n
  ·obtain ⟨b, off, xm, xa, xn, xc, xp, xq, xr, hbo, hbl, hc, hCn, hBd, hMl⟩ := (HP.out.below HS.out.bw).at (k := k) hkn
   subst hbo; obtain ⟨c0, c1, c2⟩ := hc wr (Below.refl _ _)
   have hkq : k < q.length := by rw [HPL.out]; exact hkn
   obtain ⟨t, ht⟩ : ∃ t, t = q.getD k (0, []) := ⟨_, rfl⟩; rw [← ht] at hCn hBd hMl
   have htq : t ∈ q := by rw [ht]; exact getD_in _ hkq
   have hst : gatT (q.take (k + 1)) = gatStep (gatT (q.take k)) t := gat_take q k t (by rw [ht]; simp [List.getD, hkq])
   have HTF : Hid (Bd t.1 K ∧ mayM 0 t.2 = true) := ⟨hBd, HM.out t htq⟩
   have HST := hid hst; have HTW := hid (And.intro hCn hMl); clear hc hCn hBd hMl hbl ht htq hst; obtain ⟨g, hg⟩ : ∃ g, g = wr.heap.size := ⟨_, rfl⟩
   go_upto_region 5 with (fail)
   refine zz232 (fun W hW => ?_)
   have a1 : AtN W g [.bool xm, .slice xa xn xc, .slice xp xq xr] 53 ∧ Below wr.heap.size wr W := by rw [hW, hg]; exact box1 wr [.bool xm, .slice xa xn xc, .slice xp xq xr] 53
   rw [← hg]; clear hW c0 c1 c2
   have HG : Hid (∀ g2, blk ro = some g2 → g2 ≠ g) := fun g2 e => by have := (HS.out.pw.lt g2 e).2; omega
   clear hg
   have HS_W : Hid (GatSt K w q k ro rn rc W) := HS.out.below a1.2
   have HT_W : Hid (Cn W xm xa xn xc t.1 ∧ Ml W xp xq xr t.2) := ⟨HTW.out.1.below a1.2, HTW.out.2.below a1.2⟩
   have HA_W := hid a1.1; clear a1 HS HTW; have hnk := HS_W.out.nk; have hcap := HS_W.out.cap
   by_cases h0 : rn = 0
   ·subst h0
    have hd : decide ((0 : Int) ≤ -1) = false := rfl
    have HAP : Hid (gatT (q.take (k + 1)) = gatT (q.take k) ++ [t]) := by rw [Hid, HST.out, HS_W.out.nil rfl]; rfl
    go_upto_region 6 with (fail)
    refine wp_region_held_drew (S := fun w' => True) (by kernel_rfl) trivial (fun hH => ?_)
    refine zz9 (fun V hW => ?_)
    have dr := (Below.refl W.heap.size W).drew
    have HS_V : Hid (GatSt K w q k ro 0 rc V) := by rw [hW]; exact HS_W.out.below dr
    have HA_V : Hid (AtN V g [.bool xm, .slice xa xn xc, .slice xp xq xr] 53) := by rw [hW]; exact HA_W.out.below dr
    have HT_V : Hid (Cn V xm xa xn xc t.1 ∧ Ml V xp xq xr t.2) := by rw [hW]; exact ⟨HT_W.out.1.below dr, HT_W.out.2.below dr⟩
    try rw [← hW] at hH
    clear HS_W HA_W HT_W dr; clear hW
    refine son 0 hH ?_; try simp only [nrm]
    refine son 1 hH ?_; try simp only [nrm]
    refine son 2 hH ?_; try simp only [nrm]
    refine sof 3 hH ?_; try simp only [nrm]
    refine sof 4 hH ?_; try simp only [nrm]
    refine sof 5 hH ?_; try simp only [nrm]
    refine sof 6 hH ?_; try simp only [nrm]
    refine sof 7 hH ?_; try simp only [nrm]
    refine sof 8 hH ?_; try simp only [nrm]
    refine sof 9 hH ?_; try simp only [nrm]
    refine son 10 hH ?_; try simp only [nrm]
    refine wpAnyH_done (by kernel_rfl) ?_ _
    obtain ⟨v8, W8, hr8, hps⟩ := zz148 (t := t) HS_V.out.pw HS_V.out.bw.size (by have := HS_V.out.nk; omega) HT_V.out.1 (HTF.out.1.mono (by omega)) HT_V.out.2 53 23
    obtain ⟨c0, c1, c2⟩ := HA_V.out.c3; have HPU := hid hps; clear hps
    go_wp2_with (at_builtin; refine zz224 rfl (.tmp 39) (.tmp 41) 23 23 rfl _ _ rfl rfl hr8 ?_)
    clear c0 c1 c2 hr8; obtain ⟨po8, pc8, rfl, hp1, hp2, hp3⟩ := HPU.out
    have HS8 : Hid (GatSt K w q (k + 1) po8 (0 + 1) pc8 W8) := HS_V.out.pushed HAP.out hp1 hp2
    clear HPU HS_V HA_V HT_V hp1 hp2 hp3
    try go_wp2
    go_roundw
    case rel => exact ⟨k + 1, po8, 0 + 1, pc8, rfl, by go_num, by omega, HS8.out⟩
    case measure => simp [intOf]; omega
   ·obtain ⟨r, rfl⟩ : ∃ r, rn = r + 1 := ⟨rn - 1, by omega⟩
    clear h0
    have e1 : ((r + 1 : Nat) : Int) - 1 = (r : Int) := by omega
    have e2 : ((r + 1 : Nat) : Int) = (r : Int) + 1 := by omega
    have e3 : (r : Int) + 1 - 1 = (r : Int) := by omega
    have hw : IntKind.i64.wrap (r : Int) = (r : Int) := IntWalk.i64_in _ ⟨by omega, by omega⟩
    have hr1 : r < r + 1 := by omega
    have hi1 : (r : Int) < (r : Int) + 1 := by omega
    have hd : decide ((0 : Int) ≤ (r : Int)) = true := decide_eq_true (by omega)
    obtain ⟨pb, po, um, ua, un, uc, up, uq, ur, hpo, hpb, hcu, hUn, hUd, hUl⟩ := HS_W.out.pw.pc.at (k := r) hr1; subst hpo
    have hlen : (gatT (q.take k)).length = r + 1 := HS_W.out.pw.len
    obtain ⟨u, hu⟩ : ∃ u, u = (gatT (q.take k)).getD r (0, []) := ⟨_, rfl⟩; rw [← hu] at hUn hUd hUl
    have hsp : gatT (q.take k) = (gatT (q.take k)).take r ++ [u] := by rw [hu]; exact gat_split hlen
    have hum : mayM 0 u.2 = true := gat_may (fun s hs => HM.out s (List.mem_of_mem_take hs)) u (by rw [hsp]; simp)
    obtain ⟨z, hz⟩ : ∃ z, cmpM u.2 t.2 = z := ⟨_, rfl⟩
    have HO : Hid (∀ V, Below W.heap.size W V → Calls Tryz.prog 82 #[.agg #[.bool um, .slice ua un uc, .slice up uq ur], .agg #[.bool xm, .slice xa xn xc, .slice xp xq xr]] V (RetB (.int .i64 z) V)) := fun V hV => zz133 z (hUl.below hV) (HT_W.out.2.below hV) hum HTF.out.2 hz
    have HU : Hid (Cn W um ua un uc u.1 ∧ Bd u.1 (K + k)) := ⟨hUn, hUd⟩
    have HCU := hid hcu; have HSP := hid hsp
    have HLN : Hid (((gatT (q.take k)).take r).length = r) := by rw [Hid, List.length_take, hlen]; omega
    have HZ : Hid ((z = 0 → u.2 = t.2) ∧ (u.2 = t.2 → z = 0)) := ⟨fun e => cmp_eq hum HTF.out.2 (by rw [hz]; exact e), fun e => by rw [← hz, e]; exact zz38 HTF.out.2⟩
    clear hcu hUn hUd hUl hlen hu hsp hum hz hpb
    by_cases hz0 : z = 0
    ·have hd2 : (z == 0) = true := beq_iff_eq.2 hz0
     have HAP : Hid (gatT (q.take (k + 1)) = (gatT (q.take k)).take r ++ [(u.1 + t.1, u.2)]) := by rw [Hid, HST.out]; exact gat_eq HSP.out (HZ.out.1 hz0)
     go_upto_region 6 with (fail)
     refine wp_region_held_drew (S := (fun w' => (w'.cell? ⟨pb, po + r * 3, none⟩ = some (.bool um) ∧ w'.cell? ⟨pb, po + r * 3 + 1, none⟩ = some (.slice ua un uc) ∧ w'.cell? ⟨pb, po + r * 3 + 2, none⟩ = some (.slice up uq ur)) ∧ w'.cell? ⟨g, 0, none⟩ = some (.bool xm) ∧ w'.cell? ⟨g, 1, none⟩ = some (.slice xa xn xc) ∧ w'.cell? ⟨g, 2, none⟩ = some (.slice xp xq xr))) (by kernel_rfl) ⟨HCU.out _ (Below.refl _ _).drew, (HA_W.out.below (Below.refl _ _).drew).c3⟩ (fun hH => ?_)
     have HBW : Hid (Below W.heap.size W W.drew) := (Below.refl _ _).drew
     refine zz9 (fun V hW => ?_)
     have HBV : Hid (Below W.heap.size W V) := by rw [hW]; exact HBW.out
     have dr := (Below.refl W.heap.size W).drew
     have HS_V : Hid (GatSt K w q k (some ⟨pb, po, none⟩) (r + 1) rc V) := by rw [hW]; exact HS_W.out.below dr
     have HA_V : Hid (AtN V g [.bool xm, .slice xa xn xc, .slice xp xq xr] 53) := by rw [hW]; exact HA_W.out.below dr
     have HT_V : Hid (Cn V xm xa xn xc t.1 ∧ Ml V xp xq xr t.2) := by rw [hW]; exact ⟨HT_W.out.1.below dr, HT_W.out.2.below dr⟩
     try rw [← hW] at hH
     clear HS_W HA_W HT_W dr; clear HBW; clear hW
     refine son 0 hH ?_; try simp only [nrm]
     refine son 1 hH ?_; try simp only [nrm]
     refine son 2 hH ?_; try simp only [nrm]
     refine son 3 hH ?_; try simp only [nrm]
     refine son 4 hH ?_; try simp only [nrm]
     refine son 5 hH ?_; try simp only [nrm]
     refine son 6 hH ?_; try simp only [nrm]
     refine son 7 hH ?_; try simp only [nrm]
     refine zz176 8 rfl (by kernel_rfl) (fun KK hK => ?_)
     go_simp; refine (HO.out _ HBV.out).mono ?_
     rintro e V2 ⟨rfl, hB⟩; have HBV2 := hid (Below.steps HBV.out hB); have HS_V2 := hid (HS_V.out.below hB); have HA_V2 := hid (HA_V.out.below hB); have HT_V2 := hid (And.intro (HT_V.out.1.below hB) (HT_V.out.2.below hB)); clear hB HBV HS_V HA_V HT_V; go_wp2_with fail
     clear hH; refine hK.out _ _ ⟨HCU.out _ HBV2.out, HA_V2.out.c3⟩ fun hH => ?_; clear hK KK
     try simp only [nrm]
     refine son 9 hH ?_; try simp only [nrm]
     refine son 10 hH ?_; try simp only [nrm]
     refine wpAnyH_done (by kernel_rfl) ?_ _
     go_upto_region 7 with (fail)
     refine wp_region_held_drew (S := (fun w' => w'.cell? ⟨g, 0, none⟩ = some (.bool xm) ∧ w'.cell? ⟨g, 1, none⟩ = some (.slice xa xn xc))) (by kernel_rfl) ⟨(HA_V2.out.below (Below.refl _ _).drew).c3.1, (HA_V2.out.below (Below.refl _ _).drew).c3.2.1⟩ (fun hH => ?_)
     refine zz9 (fun V3 hW => ?_)
     have HBV3 : Hid (Below W.heap.size W V3) := by rw [hW]; exact HBV2.out.drew
     have dr := (Below.refl V2.heap.size V2).drew
     have HS_V3 : Hid (GatSt K w q k (some ⟨pb, po, none⟩) (r + 1) rc V3) := by rw [hW]; exact HS_V2.out.below dr
     have HA_V3 : Hid (AtN V3 g [.bool xm, .slice xa xn xc, .slice xp xq xr] 53) := by rw [hW]; exact HA_V2.out.below dr
     have HT_V3 : Hid (Cn V3 xm xa xn xc t.1 ∧ Ml V3 xp xq xr t.2) := by rw [hW]; exact ⟨HT_V2.out.1.below dr, HT_V2.out.2.below dr⟩
     try rw [← hW] at hH
     clear HS_V2 HA_V2 HT_V2 dr; clear HBV2; clear hW
     refine son 0 hH ?_; try simp only [nrm]
     refine son 1 hH ?_; try simp only [nrm]
     refine son 2 hH ?_; try simp only [nrm]
     refine son 3 hH ?_; try simp only [nrm]
     refine son 4 hH ?_; try simp only [nrm]
     refine son 5 hH ?_; try simp only [nrm]
     refine son 7 hH ?_; try simp only [nrm]
     refine son 8 hH ?_; try simp only [nrm]
     refine zz176 6 rfl (by kernel_rfl) (fun KK hK => ?_)
     obtain ⟨d0, d1, d2⟩ := HCU.out _ HBV3.out; go_simp; clear d0 d1 d2
     clear hH; refine hK.out _ _ ⟨(HA_V3.out).c3.1, (HA_V3.out).c3.2.1⟩ fun hH => ?_; clear hK KK
     try simp only [nrm]
     refine zz176 9 rfl (by kernel_rfl) (fun KK hK => ?_)
     go_simp
     refine (zz218 ((HU.out.1.below HBV3.out).cx HU.out.2 (by omega)).nx (HT_V3.out.1.cx HTF.out.1 (by omega)).nx).mono ?_
     rintro e V4 ⟨sm, sa, sn, sc, rfl, hC, hB⟩; have HBV4 := hid (Below.steps HBV3.out hB); have HS_V4 := hid (HS_V3.out.below hB); have HA_V4 := hid (HA_V3.out.below hB); have HC4 := hid hC; clear hB hC HBV3 HS_V3 HA_V3 HT_V3; go_wp2_with fail
     clear hH; refine hK.out _ _ ⟨(HA_V4.out).c3.1, (HA_V4.out).c3.2.1⟩ fun hH => ?_; clear hK KK
     try simp only [nrm]
     refine son 10 hH ?_; try simp only [nrm]
     refine son 11 hH ?_; try simp only [nrm]
     obtain ⟨d0, d1, d2⟩ := HCU.out _ HBV4.out; obtain ⟨f0, f1, f2⟩ := HS_V4.out.pw.fz3 (k := r) hr1; have hset := HS_V4.out.set HAP.out HSP.out HLN.out HC4.out (HU.out.2.add1 HTF.out.1)
     refine zz176 12 rfl (by kernel_rfl) (fun KK hK => ?_)
     go_simp; have HS5 := hid hset
     clear hset d0 d1 d2 f0 f1 f2
     clear hH; refine hK.out _ _ ⟨(((HA_V4.out.far (HG.out _ rfl) _ _).far (HG.out _ rfl) _ _)).c3.1, (((HA_V4.out.far (HG.out _ rfl) _ _).far (HG.out _ rfl) _ _)).c3.2.1⟩ fun hH => ?_; clear hK KK
     try simp only [nrm]
     refine wpAnyH_done (by kernel_rfl) ?_ _
     go_wp2
     go_roundw
     case rel => exact ⟨k + 1, _, r + 1, _, rfl, by go_num, by omega, HS5.out⟩
     case measure => simp [intOf]; omega
    ·have hd2 : (z == 0) = false := beq_eq_false_iff_ne.2 hz0
     have HAP : Hid (gatT (q.take (k + 1)) = gatT (q.take k) ++ [t]) := by rw [Hid, HST.out]; exact gat_ne HSP.out (fun e => hz0 (HZ.out.2 e))
     go_upto_region 6 with (fail)
     refine wp_region_held_drew (S := (fun w' => (w'.cell? ⟨pb, po + r * 3, none⟩ = some (.bool um) ∧ w'.cell? ⟨pb, po + r * 3 + 1, none⟩ = some (.slice ua un uc) ∧ w'.cell? ⟨pb, po + r * 3 + 2, none⟩ = some (.slice up uq ur)) ∧ w'.cell? ⟨g, 0, none⟩ = some (.bool xm) ∧ w'.cell? ⟨g, 1, none⟩ = some (.slice xa xn xc) ∧ w'.cell? ⟨g, 2, none⟩ = some (.slice xp xq xr))) (by kernel_rfl) ⟨HCU.out _ (Below.refl _ _).drew, (HA_W.out.below (Below.refl _ _).drew).c3⟩ (fun hH => ?_)
     have HBW : Hid (Below W.heap.size W W.drew) := (Below.refl _ _).drew
     refine zz9 (fun V hW => ?_)
     have HBV : Hid (Below W.heap.size W V) := by rw [hW]; exact HBW.out
     have dr := (Below.refl W.heap.size W).drew
     have HS_V : Hid (GatSt K w q k (some ⟨pb, po, none⟩) (r + 1) rc V) := by rw [hW]; exact HS_W.out.below dr
     have HA_V : Hid (AtN V g [.bool xm, .slice xa xn xc, .slice xp xq xr] 53) := by rw [hW]; exact HA_W.out.below dr
     have HT_V : Hid (Cn V xm xa xn xc t.1 ∧ Ml V xp xq xr t.2) := by rw [hW]; exact ⟨HT_W.out.1.below dr, HT_W.out.2.below dr⟩
     try rw [← hW] at hH
     clear HS_W HA_W HT_W dr; clear HBW; clear hW
     refine son 0 hH ?_; try simp only [nrm]
     refine son 1 hH ?_; try simp only [nrm]
     refine son 2 hH ?_; try simp only [nrm]
     refine son 3 hH ?_; try simp only [nrm]
     refine son 4 hH ?_; try simp only [nrm]
     refine son 5 hH ?_; try simp only [nrm]
     refine son 6 hH ?_; try simp only [nrm]
     refine son 7 hH ?_; try simp only [nrm]
     refine zz176 8 rfl (by kernel_rfl) (fun KK hK => ?_)
     go_simp; refine (HO.out _ HBV.out).mono ?_
     rintro e V2 ⟨rfl, hB⟩; have HBV2 := hid (Below.steps HBV.out hB); have HS_V2 := hid (HS_V.out.below hB); have HA_V2 := hid (HA_V.out.below hB); have HT_V2 := hid (And.intro (HT_V.out.1.below hB) (HT_V.out.2.below hB)); clear hB HBV HS_V HA_V HT_V; go_wp2_with fail
     clear hH; refine hK.out _ _ ⟨HCU.out _ HBV2.out, HA_V2.out.c3⟩ fun hH => ?_; clear hK KK
     try simp only [nrm]
     refine son 9 hH ?_; try simp only [nrm]
     refine son 10 hH ?_; try simp only [nrm]
     refine wpAnyH_done (by kernel_rfl) ?_ _
     obtain ⟨v8, W8, hr8, hps⟩ := zz148 (t := t) HS_V2.out.pw HS_V2.out.bw.size (by have := HS_V2.out.nk; omega) HT_V2.out.1 (HTF.out.1.mono (by omega)) HT_V2.out.2 53 23
     obtain ⟨c0, c1, c2⟩ := HA_V2.out.c3; have HPU := hid hps; clear hps
     go_wp2_with (at_builtin; refine zz224 rfl (.tmp 39) (.tmp 41) 23 23 rfl _ _ rfl rfl hr8 ?_)
     clear c0 c1 c2 hr8; obtain ⟨po8, pc8, rfl, hp1, hp2, hp3⟩ := HPU.out
     have HS8 : Hid (GatSt K w q (k + 1) po8 ((r + 1) + 1) pc8 W8) := HS_V2.out.pushed HAP.out hp1 hp2
     clear HPU HS_V2 HA_V2 HT_V2 hp1 hp2 hp3
     try go_wp2
     go_roundw
     case rel => exact ⟨k + 1, po8, (r + 1) + 1, pc8, rfl, by go_num, by omega, HS8.out⟩
     case measure => simp [intOf]; omega
  ·obtain rfl : k = n := by omega
   have hfull : q.take k = q := List.take_of_length_le (by rw [HPL.out]; exact Nat.le_refl _)
   have hnk := HS.out.nk; have h := HS.out
   have hD := deleteT_any ezero (f := fun t => t.1 == 0) (B := w.heap.size) (K := K + k) (fun m ao n cap bo l cb t W h1 h2 h3 => by rw [Array.append_empty]; exact gatZero_any (by omega) h1 h2) h.pw (by omega)
   have HD := hid hD; have HB := hid h.bw
   have HR := hid (fun g hg => h.pw.lt g hg)
   rw [hfull] at HD; clear h hD HS hfull
   go_wp2_with fail
   refine HD.out.mono ?_
   rintro e w2 ⟨m, rfl, hP, hG⟩
   have HH : Hid (NewPw (K + k) w (nzT (gatT q)) (.returned (.slice ro m rc)) w2) := ⟨_, _, _, rfl, hP, HB.out.grown hG HB.out.size (fun r e => (HR.out r e).1)⟩
   clear hP hG HD HB HR
   go_wp2
   go_ret
   exact HH.out
open Lib (hid)
section
variable {K : Nat} {ao : Option Addr} {n cap : Nat} {p : List Term} {w : World}
theorem pof_any (h : Pi K w ao n cap p) (hm : ∀ t ∈ p, mayM 0 t.2 = true) (hn : n ≤ 800000) (hK : K + n ≤ 900000) :
  Calls Tryz.prog 32 #[.slice ao n cap] w (PE (K + n) w (ofT p) 0) := by
 obtain ⟨vss, hG, hE⟩ := h.gl3; have HH := hid h; have HL := hid h.len; have HM := hid hm; have HG := hid hG; have HE := hid hE; clear h hm hG hE
 go_enter Tryz.func32, Tryz.ntmps32
 go_wp2
 go_loopw [9] (fun i wr => ∃ k : Nat, i = .int .i64 k ∧ k ≤ n ∧ Hid (Below w.heap.size w wr)) (fun i _ => n - (intOf i).toNat)
 case atStart => exact ⟨0, rfl, Nat.zero_le _, Below.refl _ _⟩
 case round =>
  obtain ⟨k, rfl, hk, HB⟩ := hrel
  by_cases hkn : k < n
  ·obtain ⟨xm, xa, xn, xc, xp, xq, xr, hv, hI, hkk, hMl⟩ := HE.out k hkn
   have hGw := HG.out.below HB.out
   obtain ⟨b, off, hao, hb, hc⟩ := hGw.at (by omega)
   subst hao; obtain ⟨c0, c1, c2⟩ := hGw.cell3 hkn hv wr (Below.refl _ _)
   have hmt : mayM 0 (p.getD k (0, [])).2 = true := HM.out _ (getD_in _ (by rw [HL.out]; exact hkn))
   generalize p.getD k (0, []) = t at hmt hMl
   have HT := hid (And.intro (hMl.below HB.out) hmt); clear hGw hc hv hI hMl hmt
   go_upto_region 4 with (fail)
   refine zz232 (fun W hW => ?_)
   have a1 : AtN W wr.heap.size [.bool xm, .slice xa xn xc, .slice xp xq xr] 53 ∧ Below wr.heap.size wr W := by rw [hW]; exact box1 wr [.bool xm, .slice xa xn xc, .slice xp xq xr] 53
   clear hW c0 c1 c2; obtain ⟨c0, c1, c2⟩ := a1.1.c3; have HB1 := hid (Below.steps HB.out a1.2); have HT1 := hid (And.intro (HT.out.1.below a1.2) HT.out.2); clear a1 HB HT; go_wp2_with fail; refine (may_any true HT1.out.1 HT1.out.2).mono ?_; rintro e w2 ⟨rfl, hB⟩; have HB2 := hid (Below.steps HB1.out hB); clear hB HB1 HT1 c0 c1 c2
   go_wp2
   go_roundw
   case rel => exact ⟨k + 1, by go_num, by omega, HB2.out⟩
   case measure => simp [intOf]; omega
  ·obtain rfl : k = n := by omega
   go_wp2_with fail
   refine (own_any8 (HH.out.below HB.out) (by omega) (by omega)).mono ?_
   rintro e w2 ⟨oa, on, oc, rfl, h1, h2⟩
   have hon : on = k := by rw [← h1.len, HL.out]
   subst hon; have HW1 := hid h1; have HB1 := hid h2; have HB0 := hid (Below.steps HB.out h2); clear h1 h2
   by_cases h0 : on = 0
   ·subst h0
    have hp0 : p = [] := List.eq_nil_of_length_eq_zero HL.out
    subst hp0; go_wp2_with fail; refine (sortNone_any _ _ _ _).mono ?_; rintro e w3 ⟨rfl, rfl⟩; go_wp2_with fail
    refine (zz64 HW1.out.pc HM.out (by omega) (by omega)).mono ?_
    rintro e w4 ⟨ra, rn, rc, rfl, h1, h2⟩
    have HR : Hid (PE (K + 0) w (ofT []) 0 (.returned (.tuple #[.slice ra rn rc, .int .i64 0])) w4) := ⟨_, _, _, rfl, h1.pc, Below.steps HB0.out h2⟩
    clear h1 h2; go_wp2_with fail
    go_ret2
    exact HR.out
   ·obtain ⟨g, off, _, _, _, _, _, _, _, hao, _⟩ := HW1.out.pc.at (k := 0) (by omega)
    subst hao; go_wp2_with fail
    refine (ofSort_any HW1.out (by omega) HM.out).mono ?_
    rintro e w3 ⟨rfl, q, hq1, hq2, hq3, hq4⟩
    have hbw : Below w.heap.size w w3 := HB0.out.grown hq4 HB0.out.size (fun r e => by cases e; have := (HW1.out.lt g rfl).1; have := HB.out.size; omega)
    have HQ := hid (And.intro hq1 (And.intro hq2 (And.intro hq3 hbw))); clear hq1 hq2 hq3 hq4 hbw; go_wp2_with fail
    refine (zz64 HQ.out.2.2.1.pc (fun t ht => HM.out t (HQ.out.1.mem_iff.1 ht)) (by omega) (by omega)).mono ?_
    rintro e w4 ⟨ra, rn, rc, rfl, h1, h2⟩; rw [gat_of HM.out HQ.out.1 HQ.out.2.1] at h1
    have HR : Hid (PE (K + on) w (ofT p) 0 (.returned (.tuple #[.slice ra rn rc, .int .i64 0])) w4) := ⟨_, _, _, rfl, h1.pc, Below.steps HQ.out.2.2.2 h2⟩
    clear h1 h2; go_wp2_with fail
    go_ret2
    exact HR.out
theorem pof_bad (h : Pi K w ao n cap p) (hm : ∃ t ∈ p, mayM 0 t.2 = false) :
  Calls Tryz.prog 32 #[.slice ao n cap] w (PE 0 w [] 2) := by
 obtain ⟨vss, hG, hE⟩ := h.gl3; have hle := hG.le; have hbig := hG.big; have HL := hid h.len
 have HM : Hid (¬ ∀ t, t < n → mayM 0 (p.getD t (0, [])).2 = true) := fun ha => by
  obtain ⟨t, ht, hf⟩ := hm; obtain ⟨i, hi, rfl⟩ := List.mem_iff_getElem.1 ht
  have := ha i (by rw [← h.len]; exact hi)
  rw [getD_of _ hi] at this; rw [this] at hf
  cases hf
 have HG := hid hG; have HE := hid hE; clear h hm hG hE
 go_enter Tryz.func32, Tryz.ntmps32
 go_wp2
 go_loopw [9] (fun i wr => ∃ k : Nat, i = .int .i64 k ∧ k ≤ n ∧ Hid (Below w.heap.size w wr) ∧ Hid (∀ t, t < k → mayM 0 (p.getD t (0, [])).2 = true)) (fun i _ => n - (intOf i).toNat)
 case atStart => exact ⟨0, rfl, Nat.zero_le _, Below.refl _ _, fun t ht => by omega⟩
 case round =>
  obtain ⟨k, rfl, hk, HB, HA⟩ := hrel
  by_cases hkn : k < n
  ·obtain ⟨xm, xa, xn, xc, xp, xq, xr, hv, hI, hkk, hMl⟩ := HE.out k hkn
   have hGw := HG.out.below HB.out
   obtain ⟨b, off, hao, hb, hc⟩ := hGw.at (by omega)
   subst hao; obtain ⟨c0, c1, c2⟩ := hGw.cell3 hkn hv wr (Below.refl _ _); obtain ⟨r, hr⟩ : ∃ r, mayM 0 (p.getD k (0, [])).2 = r := ⟨_, rfl⟩; have HT := hid (And.intro (hMl.below HB.out) hr); clear hGw hc hv hI hMl hr
   go_upto_region 4 with (fail)
   refine zz232 (fun W hW => ?_)
   have a1 : AtN W wr.heap.size [.bool xm, .slice xa xn xc, .slice xp xq xr] 53 ∧ Below wr.heap.size wr W := by rw [hW]; exact box1 wr [.bool xm, .slice xa xn xc, .slice xp xq xr] 53
   clear hW c0 c1 c2; obtain ⟨c0, c1, c2⟩ := a1.1.c3; have HB1 := hid (Below.steps HB.out a1.2); have HT1 := hid (And.intro (HT.out.1.below a1.2) HT.out.2); clear a1 HB HT; go_wp2_with fail; refine (may_any r HT1.out.1 HT1.out.2).mono ?_; rintro e w2 ⟨rfl, hB⟩; have HB2 := hid (Below.steps HB1.out hB); have HR := hid HT1.out.2; clear hB HB1 HT1 c0 c1 c2
   cases r with
   | true =>
    go_wp2
    go_roundw
    case rel => exact ⟨k + 1, by go_num, by omega, HB2.out, fun t ht => (Nat.lt_succ_iff_lt_or_eq.1 ht).elim (HA.out t) (fun e => by rw [e]; exact HR.out)⟩
    case measure => simp [intOf]; omega
   | false =>
    go_wp2
    go_ret2
    exact ⟨none, 0, 0, rfl, Pc.zero _ _, HB2.out⟩
  ·obtain rfl : k = n := by omega
   exact absurd HA.out HM.out
end
open Lib (hid)
theorem Pi.one {K : Nat} {w : World} {m : Bool} {ao : Option Addr} {n cap : Nat} {z : Int} (h : In w m ao n cap z) (hn : n ≤ K) {bo : Option Addr} {l cb : Nat} {ps : List (Int × Int)} (hM : Ml w bo l cb ps) (T : TypeId) :
  Pi K (w.alloc (.cells #[.bool m, .slice ao n cap, .slice bo l cb] T)) (some ⟨w.heap.size, 0, none⟩) 1 1 [(z, ps)] :=
 ⟨_, Gl.lit 3 w [.bool m, .slice ao n cap, .slice bo l cb] T rfl (by simp [Value.oneCell']), ⟨⟨_, _, _, _, _, _, _, rfl, h.below (zz13 _ _), hn, hM.below (zz13 _ _)⟩, trivial⟩⟩
theorem may_nil : mayM 0 [] = true := rfl
theorem of_one {z : Int} {m : List (Int × Int)} (hm : mayM 0 m = true) : ofT [(z, m)] = if z = 0 then [] else [(z, m)] := by
 refine zz57 (zz128 (l := [(z, m)]) (fun t ht => by rw [List.mem_singleton] at ht; subst ht; exact hm)).1 ?_ fun ρ => ?_
 ·by_cases h : z = 0
  ·rw [if_pos h]; trivial
  ·rw [if_neg h]; exact ⟨h, hm, (fun _ h => by cases h), trivial⟩
 ·rw [(zz128 (l := [(z, m)]) (fun t ht => by rw [List.mem_singleton] at ht; subst ht; exact hm)).2]
  by_cases h : z = 0
  ·rw [if_pos h, h]; simp [ev]
  ·rw [if_neg h]
section
variable {K : Nat} {w : World}
theorem pnumber_any {m : Bool} {ao : Option Addr} {n cap : Nat} {z : Int} (hx : In w m ao n cap z) (hn : n ≤ K) (hK : K ≤ 800000) :
  Calls Tryz.prog 34 #[.agg #[.bool m, .slice ao n cap]] w (NewPc (K + 1) w (ofT [(z, [])])) := by
 have HX := hid hx; clear hx
 go_enter Tryz.func34, Tryz.ntmps34
 go_upto_region 1 with (fail)
 refine zz232 (fun W hW => ?_)
 obtain ⟨a1, hB⟩ := box1 w [.bool m, .slice ao n cap] 43; rw [← hW] at a1 hB; clear hW; have c0 := a1.cell 0; have c1 := a1.cell 1
 simp only [List.getElem?_cons_succ, List.getElem?_cons_zero] at c0 c1
 have HB := hid hB; clear a1 hB; go_wp2_with fail
 refine (own_any8 (Pi.one (HX.out.below HB.out) hn (Ml.zero W) _) (by omega) (by omega)).mono ?_
 rintro e w2 ⟨oa, on, oc, rfl, h1, h2⟩; have HW := hid h1; have HB2 := hid (Below.steps HB.out (zz174 h2)); clear h1 h2 HB c0 c1
 have hon : on = 1 := HW.out.len.symm
 subst hon; go_wp2_with fail
 refine (zz64 HW.out.pc (fun t ht => by rw [List.mem_singleton] at ht; subst ht; exact may_nil) (by omega) (by omega)).mono ?_
 rintro e w3 ⟨ra, rn, rc, rfl, h1, h2⟩
 rw [gat_of (l := [(z, [])]) (fun t ht => by rw [List.mem_singleton] at ht; subst ht; exact may_nil) (List.Perm.refl _) (List.pairwise_singleton _ _)] at h1
 have HR : Hid (NewPc (K + 1) w (ofT [(z, [])]) (.returned (.slice ra rn rc)) w3) := ⟨_, _, _, rfl, h1.pc, Below.steps HB2.out h2⟩
 clear h1 h2; go_wp2_with fail
 go_ret
 exact HR.out
variable {po : Option Addr} {pn pc : Nat} {ps : List Raw} {p : List Term} {m : Bool} {ao : Option Addr} {n cap : Nat} {z : Int} {bo : Option Addr} {l cb : Nat} {ms : List (Int × Int)}
theorem zz147 (hx : In w m ao n cap z) (hn : n ≤ K) (hM : Ml w bo l cb ms) (hm : mayM 0 ms = false) :
  Calls Tryz.prog 46 #[.slice po pn pc, .agg #[.bool m, .slice ao n cap], .slice bo l cb] w (PE 0 w [] 2) := by
 have HX := hid hx; have HM := hid hM; have HN := hid hm; clear hx hM hm
 go_enter Tryz.func46, Tryz.ntmps46
 go_upto_region 1 with (fail)
 refine zz232 (fun W hW => ?_)
 obtain ⟨a1, hB⟩ := box1 w [.bool m, .slice ao n cap] 43; rw [← hW] at a1 hB; clear hW; have c0 := a1.cell 0; have c1 := a1.cell 1
 simp only [List.getElem?_cons_succ, List.getElem?_cons_zero] at c0 c1
 have HB := hid hB; clear a1 hB; go_wp2_with fail; refine (pof_bad (Pi.one (HX.out.below HB.out) hn (HM.out.below HB.out) _) ⟨_, List.mem_singleton.2 rfl, HN.out⟩).mono ?_; rintro e w2 ⟨ra, rn, rc, rfl, h1, h2⟩; have HB2 := hid (Below.steps HB.out (zz174 h2)); clear h1 h2 HB c0 c1; go_wp2_with fail
 go_ret2
 exact ⟨none, 0, 0, rfl, Pc.zero _ _, HB2.out⟩
theorem pshift_bad (hp : Pr w po pn pc ps) (hl : ∀ t ∈ ps, t.1.2.length ≤ 1000) (h0 : mayR ps = false) (hx : In w m ao n cap z) (hn : n ≤ K) (hK : K ≤ 800000) (hM : Ml w bo l cb ms) (hm : mayM 0 ms = true) :
  Calls Tryz.prog 46 #[.slice po pn pc, .agg #[.bool m, .slice ao n cap], .slice bo l cb] w (PE 0 w [] 2) := by
 have HP := hid hp; have HX := hid hx; have HM := hid hM; have HN := hid hm; clear hp hx hM hm
 go_enter Tryz.func46, Tryz.ntmps46
 go_upto_region 1 with (fail)
 refine zz232 (fun W hW => ?_)
 obtain ⟨a1, hB⟩ := box1 w [.bool m, .slice ao n cap] 43; rw [← hW] at a1 hB; clear hW; have c0 := a1.cell 0; have c1 := a1.cell 1
 simp only [List.getElem?_cons_succ, List.getElem?_cons_zero] at c0 c1
 have HB := hid hB; clear a1 hB; go_wp2_with fail
 refine (pof_any (Pi.one (HX.out.below HB.out) hn (HM.out.below HB.out) _) (fun t ht => by rw [List.mem_singleton] at ht; subst ht; exact HN.out) (by omega) (by omega)).mono ?_
 rintro e w2 ⟨ra, rn, rc, rfl, h1, h2⟩; have HB2 := hid (Below.steps HB.out (zz174 h2)); clear h1 h2 HB c0 c1; go_wp2_with fail; refine (ptimes_bad1 (HP.out.below HB2.out) hl h0).mono ?_; rintro e w3 ⟨qa, qn, qc, rfl, h1, h2⟩
 have HR : Hid (PE 0 w [] 2 (.returned (.tuple #[.slice qa qn qc, .int .i64 2])) w3) := ⟨_, _, _, rfl, h1, Below.steps HB2.out h2⟩
 clear h1 h2; go_wp2_with fail
 go_ret2
 exact HR.out
theorem pshift_any (hp : Pc K w po pn pc p) (hf : fall p) (hpn : pn ≤ 300000) (hx : In w m ao n cap z) (hn : n ≤ K) (hK : K ≤ 900) (hM : Ml w bo l cb ms) (hm : mayM 0 ms = true) :
  Calls Tryz.prog 46 #[.slice po pn pc, .agg #[.bool m, .slice ao n cap], .slice bo l cb] w (PE (K + 1 + (K + 1) + pn + 1) w (tryT p (ofT [(z, ms)])).1 (errT p (ofT [(z, ms)]))) := by
 have HP := hid hp; have HX := hid hx; have HM := hid hM; have HN := hid hm; have HF := hid hf
 have hms : mays [(z, ms)] := fun t ht => by rw [List.mem_singleton] at ht; subst ht; exact hm
 have HQL : Hid ((ofT [(z, ms)]).length ≤ 1) := by
  rw [Hid, of_one hm]
  split <;> simp
 have HMS := hid hms; clear hp hx hM hm hf hms
 go_enter Tryz.func46, Tryz.ntmps46
 go_upto_region 1 with (fail)
 refine zz232 (fun W hW => ?_)
 obtain ⟨a1, hB⟩ := box1 w [.bool m, .slice ao n cap] 43; rw [← hW] at a1 hB; clear hW; have c0 := a1.cell 0; have c1 := a1.cell 1
 simp only [List.getElem?_cons_succ, List.getElem?_cons_zero] at c0 c1
 have HB := hid hB; clear a1 hB; go_wp2_with fail
 refine (pof_any (Pi.one (HX.out.below HB.out) hn (HM.out.below HB.out) _) HMS.out (by omega) (by omega)).mono ?_
 rintro e w2 ⟨ra, rn, rc, rfl, h1, h2⟩; have HB2 := hid (Below.steps HB.out (zz174 h2)); have HQ := hid h1; clear h1 h2 HB c0 c1
 have hrn : rn ≤ 1 := by have := HQ.out.len; have := HQL.out; omega
 clear HQL
 have hmul : pn * rn ≤ pn * 1 := Nat.mul_le_mul_left _ hrn
 go_wp2_with fail
 refine (ptimes_try ((HP.out.below HB2.out).mono (Nat.le_succ K)) HQ.out HF.out (zz128 HMS.out).1 (by omega) (by omega) (by omega) (by omega)).mono ?_
 rintro e w3 ⟨qa, qn, qc, rfl, h1, h2⟩
 have HR : Hid (PE (K + 1 + (K + 1) + pn + 1) w (tryT p (ofT [(z, ms)])).1 (errT p (ofT [(z, ms)])) (.returned (.tuple #[.slice qa qn qc, .int .i64 (errT p (ofT [(z, ms)]))])) w3) := ⟨_, _, _, rfl, h1.mono (by omega), Below.steps HB2.out h2⟩
 clear h1 h2; go_wp2_with fail
 go_ret2
 exact HR.out
end
theorem deg_is {p : List Term} {m : List (Int × Int)} (h : IsDeg p m) (v : Int) : expo m v = degP p v :=
 (degP_is (may_bd h.may v).1 (fun t ht => h.all t ht v) (h.att v)).symm
theorem fit_deg {p q : List Term} (hp : fall p) (hq : fall q) (h : ∀ v, degP p v + degP q v ≤ 10000) : fitT p q := fun t ht s hs => by
 rw [zz112 (zz58 hp t ht) (zz58 hq s hs)]
 intro v
 have h1 := degP_ge ht v; have h2 := degP_ge hs v
 have := h v
 omega
theorem deg_fits {p q : List Term} (hp : fall p) (hq : fall q) (hp0 : p ≠ []) (hq0 : q ≠ []) (h : fitT p q) (v : Int) : degP p v + degP q v ≤ 10000 := by
 obtain ⟨t, ht, e1⟩ := zz43 (zz59 hp) hp0 v; obtain ⟨s, hs, e2⟩ := zz43 (zz59 hq) hq0 v
 have := (zz112 (zz58 hp t ht) (zz58 hq s hs)).1 (h t ht s hs) v
 omega
theorem smallT_one : smallT 1 = [(1, [])] := rfl
theorem deg_one (v : Int) : degP (smallT 1) v = 0 := rfl
theorem zz145 {p : List Term} (hp : fall p) : ∀ n : Nat, (∀ v, (n : Int) * degP p v ≤ 10000) → (powT p n).2 = true ∧ (p ≠ [] → (powT p n).1 ≠ [] ∧ ∀ v, degP (powT p n).1 v = n * degP p v)
 | 0, _ => ⟨rfl, fun _ => ⟨by simp [powT, smallT_one], fun v => by simp [powT, deg_one]⟩⟩
 | n + 1, h => by
  have hz := fun v => zz44 p v
  have h' : ∀ v, (n : Int) * degP p v ≤ 10000 := fun v => by
   have := h v
   have e : ((n + 1 : Nat) : Int) * degP p v = n * degP p v + degP p v := by grind
   have := hz v
   omega
  obtain ⟨i1, i2⟩ := zz145 hp n h'
  have hf : fitT (powT p n).1 p := by
   by_cases h0 : p = []
   ·subst h0; intro t _ s hs; cases hs
   ·refine fit_deg (zz142 (zz59 hp) n) hp fun v => ?_
    rw [(i2 h0).2 v]
    have := h v
    have e : ((n + 1 : Nat) : Int) * degP p v = n * degP p v + degP p v := by grind
    omega
  have e : powT p (n + 1) = (timesT (powT p n).1 p, true) := by
   show (if (powT p n).2 = true then tryT (powT p n).1 p else ([], false)) = _
   rw [if_pos i1, zz205 hf]
  rw [e]
  refine ⟨rfl, fun h0 => ⟨fun h1 => ?_, fun v => ?_⟩⟩
  ·rcases (times_nil_T (zz142 (zz59 hp) n) hp hf).1 h1 with h2 | h2
   ·exact (i2 h0).1 h2
   ·exact h0 h2
  ·show degP (timesT (powT p n).1 p) v = _
   rw [deg_times (zz142 (zz59 hp) n) hp hf (i2 h0).1 h0 v, (i2 h0).2 v]
   grind
theorem powT_no {p : List Term} (hp : fall p) : ∀ n : Nat, (∃ v, 10000 < (n : Int) * degP p v) → powT p n = ([], false)
 | 0, ⟨v, h⟩ => by simp at h
 | n + 1, ⟨v, h⟩ => by
  by_cases hn : ∃ v, 10000 < (n : Int) * degP p v
  ·exact zz144 (Nat.le_succ n) (powT_no hp n hn)
  ·have h' : ∀ v, (n : Int) * degP p v ≤ 10000 := fun v => Int.not_lt.1 fun g => hn ⟨v, g⟩
   obtain ⟨i1, i2⟩ := zz145 hp n h'
   have h0 : p ≠ [] := fun e => by subst e; simp [degP] at h
   have hf : ¬ fitT (powT p n).1 p := fun g => by
    have := deg_fits (zz142 (zz59 hp) n) hp (i2 h0).1 h0 g v
    rw [(i2 h0).2 v] at this
    have e : ((n + 1 : Nat) : Int) * degP p v = n * degP p v + degP p v := by grind
    omega
   show (if (powT p n).2 = true then tryT (powT p n).1 p else ([], false)) = _
   rw [if_pos i1, tryT_no hf]
theorem powT_step {p : List Term} {k n : Nat} (hk : k < n) (h : (powT p n).2 = true) : fitT (powT p k).1 p ∧ (powT p (k + 1)).1 = timesT (powT p k).1 p := by
 have h1 : ∀ j, j ≤ n → (powT p j).2 = true := fun j hj => by
  cases e : (powT p j).2 with
  | true => rfl
  | false =>
   have e2 : powT p j = ([], false) := by
    cases j with
    | zero => cases e
    | succ j =>
     unfold powT at e ⊢
     split at e
     ·rename_i hi
      rw [if_pos hi]
      by_cases hf : fitT (powT p j).1 p
      ·rw [zz205 hf] at e; cases e
      ·exact tryT_no hf
     ·rename_i hi
      rw [if_neg hi]
   rw [zz144 hj e2] at h
   cases h
 have h2 := h1 (k + 1) hk
 have e : powT p (k + 1) = tryT (powT p k).1 p := if_pos (h1 k (by omega))
 rw [e] at h2 ⊢
 by_cases hf : fitT (powT p k).1 p
 ·exact ⟨hf, by rw [zz205 hf]⟩
 ·rw [tryT_no hf] at h2; cases h2
def pkb (l Kp : Nat) : Nat → Nat
 | 0 => Kp + 2
 | n + 1 => pkb l Kp n + pkb l Kp n + l ^ n + l
theorem pkb_mono (l Kp : Nat) {j k : Nat} (h : j ≤ k) : pkb l Kp j ≤ pkb l Kp k := by
 induction h with
 | refl => exact Nat.le_refl _
 | step _ ih => simp only [pkb]; omega
theorem pkb_ge (l Kp n : Nat) : Kp + 2 ≤ pkb l Kp n := pkb_mono l Kp (Nat.zero_le n)
open Lib (hid)
theorem fall_ev_times {p q r : List Term} (hp : fall p) (hq : fall q) (hf : fitT p q) (hr : fall r) (h : ∀ ρ, ev r ρ = ev p ρ * ev q ρ) : r = timesT p q := by
 have hs := zz184 (zz59 hp) (zz59 hq) hf
 exact zz57 hr hs.1 fun ρ => by rw [h, hs.2]
theorem expo_self : ∀ {ps : List (Int × Int)} {lo : Int}, risM lo ps → ∀ d ∈ ps, expo ps d.1 = d.2
 | p :: r, lo, h, d, hd => by
  unfold expo
  rcases List.mem_cons.1 hd with rfl | hd
  ·rw [if_pos rfl]
  ·have h1 := expo_self h.2.2.2 d hd
   have h2 : p.1 ≠ d.1 := fun e => by
    have h3 := ris_low h.2.2.2 (v := d.1) (by omega)
    rw [h3] at h1
    have : ∀ {r : List (Int × Int)} {lo : Int}, risM lo r → d ∈ r → d.2 ≠ 0 := fun {r} => by
     induction r with
     | nil => intro lo _ h; cases h
     | cons q r ih => intro lo h hm; rcases List.mem_cons.1 hm with rfl | hm; exact h.2.2.1; exact ih h.2.2.2 hm
    exact this h.2.2.2 hd h1.symm
   rw [if_neg h2]; exact h1
 | [], _, _, _, hd => by cases hd
theorem expo_has {v : Int} : ∀ {ps : List (Int × Int)}, expo ps v ≠ 0 → ∃ d ∈ ps, d.2 = expo ps v
 | [], h => absurd rfl h
 | p :: r, h => by
  unfold expo at h ⊢
  by_cases e : p.1 = v
  ·rw [if_pos e]; exact ⟨p, by simp, rfl⟩
  ·rw [if_neg e] at h ⊢
   obtain ⟨d, hd, h2⟩ := expo_has h
   exact ⟨d, by simp [hd], h2⟩
theorem deg_ok {p : List Term} {m : List (Int × Int)} (h : IsDeg p m) (n : Nat) : (∀ d ∈ m, d.2 * (n : Int) ≤ 10000) ↔ ∀ v, (n : Int) * degP p v ≤ 10000 := by
 constructor
 ·intro g v
  rw [← deg_is h v]
  by_cases h0 : expo m v = 0
  ·rw [h0]; simp
  ·obtain ⟨d, hd, e⟩ := expo_has h0
   have := g d hd
   rw [← e, Int.mul_comm]
   exact this
 ·intro g d hd
  have := g d.1
  rw [← deg_is h d.1, expo_self (may_ris h.may) d hd, Int.mul_comm] at this
  exact this
section
variable {K : Nat} {ao : Option Addr} {n cap : Nat} {p : List Term} {ps : List Raw} {w : World}
theorem ppow_bad (k : Int) (hp : Pr w ao n cap ps) (hl : ∀ t ∈ ps, t.1.2.length ≤ 1000) (h0 : mayR ps = false) :
  Calls Tryz.prog 45 #[.slice ao n cap, .int .i64 k] w (PE 0 w [] 2) := by
 go_enter Tryz.func45, Tryz.ntmps45
 go_wp2_with fail; refine (zz139 false hp hl h0).mono ?_
 rintro e w1 ⟨rfl, hB⟩; go_wp2_with fail
 go_ret2
 exact ⟨none, 0, 0, rfl, Pc.zero _ _, hB⟩
theorem ppow_arg (k : Int) (hk : k < 0 ∨ 100 < k) (hp : Pr w ao n cap ps) (hl : ∀ t ∈ ps, t.1.2.length ≤ 1000) (h0 : mayR ps = true) :
  Calls Tryz.prog 45 #[.slice ao n cap, .int .i64 k] w (PE 0 w [] 2) := by
 by_cases h1 : k < 0
 ·have d1 : decide (k < 0) = true := decide_eq_true h1
  go_enter Tryz.func45, Tryz.ntmps45
  go_wp2_with fail; refine (zz139 true hp hl h0).mono ?_
  rintro e w1 ⟨rfl, hB⟩; go_wp2_with fail
  go_ret2
  exact ⟨none, 0, 0, rfl, Pc.zero _ _, hB⟩
 ·have d1 : decide (k < 0) = false := decide_eq_false h1
  have d2 : decide (100 < k) = true := decide_eq_true (by omega)
  clear h1 hk
  go_enter Tryz.func45, Tryz.ntmps45
  go_wp2_with fail; refine (zz139 true hp hl h0).mono ?_
  rintro e w1 ⟨rfl, hB⟩; go_wp2_with fail
  go_ret2
  exact ⟨none, 0, 0, rfl, Pc.zero _ _, hB⟩
theorem ppow_exp (k : Nat) (hk : k ≤ 100) (hp : Pc K w ao n cap p) (hf : fall p) (hn : n ≤ 1000000) (hK : K ≤ 1000) (hx : ¬ ∀ v, (k : Int) * degP p v ≤ 10000) :
  Calls Tryz.prog 45 #[.slice ao n cap, .int .i64 (k : Int)] w (PE 0 w [] 8) := by
 have d1 : decide ((k : Int) < 0) = false := decide_eq_false (by omega)
 have d2 : decide ((100 : Int) < (k : Int)) = false := decide_eq_false (by omega)
 have HP := hid hp; have HF := hid hf; have HX := hid hx; clear hp hf hx
 go_enter Tryz.func45, Tryz.ntmps45
 go_wp2_with fail; refine (zz108 HP.out HF.out hK).mono ?_
 rintro e w1 ⟨rfl, hB⟩; have HB1 := hid hB; clear hB; go_wp2_with fail; refine (zz45 (HP.out.below HB1.out) HF.out hn).mono ?_; rintro e w2 ⟨mo, mn, mc, m, rfl, hM, hD, hB⟩; have HM2 := hid hM; have hle := hM.le; have hbig := hM.big; have HML := hid hM.len; have HMY := hid hD.may
 have HNO : Hid (¬ ∀ t, t < mn → (m.getD t (0, 0)).2 * (k : Int) ≤ 10000) := fun g => HX.out ((deg_ok hD k).1 fun d hd => by
  obtain ⟨i, hi, rfl⟩ := List.mem_iff_getElem.1 hd
  have := g i (by rw [← HML.out]; exact hi)
  rwa [getD_of _ hi] at this)
 have HB2 := hid (Below.steps HB1.out hB); clear hB hM hD HX HP HF HB1 d1 d2
 go_wp2
 go_loopw [23] (fun i wr => ∃ j : Nat, i = .int .i64 j ∧ j ≤ mn ∧ Hid (Ml wr mo mn mc m ∧ Below w.heap.size w wr) ∧ Hid (∀ t, t < j → (m.getD t (0, 0)).2 * (k : Int) ≤ 10000)) (fun i _ => mn - (intOf i).toNat)
 case atStart => exact ⟨0, rfl, Nat.zero_le _, ⟨HM2.out, HB2.out⟩, fun t ht => by omega⟩
 case round =>
  clear HM2 HB2; obtain ⟨j, rfl, hj, HS, HA⟩ := hrel; have HM := hid HS.out.1
  by_cases hjn : j < mn
  ·obtain ⟨b, off, rfl, hb, hc⟩ := HM.out.at (by omega)
   obtain ⟨c1, c2⟩ := hc j hjn; clear hc
   have hmem : m.getD j (0, 0) ∈ m := getD_in _ (by rw [HML.out]; exact hjn)
   have hbd := (may_mem HMY.out (by omega) _ hmem).2
   obtain ⟨v, hv⟩ : ∃ v, v = (m.getD j (0, 0)).1 := ⟨_, rfl⟩; obtain ⟨e, he⟩ : ∃ v, v = (m.getD j (0, 0)).2 := ⟨_, rfl⟩; rw [← hv] at c1; rw [← he] at c2 hbd
   have hmul : e * (k : Int) ≤ 10000 * 100 := Int.mul_le_mul hbd.2 (by omega) (by omega) (by omega)
   have hmul0 : 0 ≤ e * (k : Int) := Int.mul_nonneg hbd.1 (by omega)
   obtain ⟨y, hy⟩ : ∃ y, y = e * (k : Int) := ⟨_, rfl⟩; rw [← hy] at hmul hmul0
   have hw : IntKind.i64.wrap (e * (k : Int)) = y := by rw [← hy]; exact IntWalk.i64_in _ ⟨by omega, by omega⟩
   have HE := hid (And.intro he hy); clear hv he hmem hy
   by_cases g0 : 10000 < y
   ·have f0 : decide (10000 < y) = true := decide_eq_true g0
    go_wp2
    go_ret2
    exact ⟨none, 0, 0, rfl, Pc.zero _ _, Below.steps HS.out.2 (zz13 _ _)⟩
   ·have f0 : decide (10000 < y) = false := decide_eq_false g0
    go_wp2
    go_roundw
    case rel => exact ⟨j + 1, by go_num, by omega, ⟨HS.out.1.below (zz13 _ _), Below.steps HS.out.2 (zz13 _ _)⟩, fun t ht => (Nat.lt_succ_iff_lt_or_eq.1 ht).elim (HA.out t) (fun e2 => by rw [e2, ← HE.out.1, ← HE.out.2]; omega)⟩
    case measure => simp [intOf]; omega
  ·obtain rfl : j = mn := by omega
   exact absurd HA.out HNO.out
theorem ppow_any (k : Nat) (hk : k ≤ 100) (hp : Pc K w ao n cap p) (hf : fall p) (hn : n ≤ 300000) (hK : K ≤ 1000) (hx : ∀ v, (k : Int) * degP p v ≤ 10000) (hkb : pkb n K k ≤ 100000) (hln : ∀ j, j < k → n ^ j * n ≤ 1000000 ∧ n ^ j ≤ 300000) :
  Calls Tryz.prog 45 #[.slice ao n cap, .int .i64 (k : Int)] w (PE (pkb n K k) w (powT p k).1 0) := by
 have d1 : decide ((k : Int) < 0) = false := decide_eq_false (by omega)
 have d2 : decide ((100 : Int) < (k : Int)) = false := decide_eq_false (by omega)
 have HP := hid hp; have HPL := hid hp.len; have HF := hid hf; have HX := hid hx; have HLN := hid hln; clear hp hf hx hln
 go_enter Tryz.func45, Tryz.ntmps45
 go_wp2_with fail; refine (zz108 HP.out HF.out hK).mono ?_
 rintro e w1 ⟨rfl, hB⟩; have HB1 := hid hB; clear hB; go_wp2_with fail
 refine (zz45 (HP.out.below HB1.out) HF.out (by omega)).mono ?_
 rintro e w2 ⟨mo, mn, mc, m, rfl, hM, hD, hB⟩; have HM2 := hid hM; have hle := hM.le; have hbig := hM.big; have HML := hid hM.len; have HMY := hid hD.may
 have HYES : Hid (∀ d ∈ m, d.2 * (k : Int) ≤ 10000) := (deg_ok hD k).2 HX.out
 have HB2 := hid (Below.steps HB1.out hB); clear hB hM hD HB1 d1 d2
 go_wp2
 go_loopw [23] (fun i wr => ∃ j : Nat, i = .int .i64 j ∧ j ≤ mn ∧ Hid (Ml wr mo mn mc m ∧ Below w.heap.size w wr)) (fun i _ => mn - (intOf i).toNat)
 case atStart => exact ⟨0, rfl, Nat.zero_le _, ⟨HM2.out, HB2.out⟩⟩
 case round =>
  clear HM2 HB2; obtain ⟨j, rfl, hj, HS⟩ := hrel; have HM := hid HS.out.1
  by_cases hjn : j < mn
  ·obtain ⟨b, off, rfl, hb, hc⟩ := HM.out.at (by omega)
   obtain ⟨c1, c2⟩ := hc j hjn; clear hc
   have hmem : m.getD j (0, 0) ∈ m := getD_in _ (by rw [HML.out]; exact hjn)
   have hbd := (may_mem HMY.out (by omega) _ hmem).2
   have hy0 := HYES.out _ hmem; obtain ⟨v, hv⟩ : ∃ v, v = (m.getD j (0, 0)).1 := ⟨_, rfl⟩; obtain ⟨e, he⟩ : ∃ v, v = (m.getD j (0, 0)).2 := ⟨_, rfl⟩; rw [← hv] at c1; rw [← he] at c2 hbd hy0
   have hmul0 : 0 ≤ e * (k : Int) := Int.mul_nonneg hbd.1 (by omega)
   obtain ⟨y, hy⟩ : ∃ y, y = e * (k : Int) := ⟨_, rfl⟩; rw [← hy] at hy0 hmul0
   have hw : IntKind.i64.wrap (e * (k : Int)) = y := by rw [← hy]; exact IntWalk.i64_in _ ⟨by omega, by omega⟩
   have f0 : decide (10000 < y) = false := decide_eq_false (by omega)
   clear hv he hmem hy
   go_wp2
   go_roundw
   case rel => exact ⟨j + 1, by go_num, by omega, ⟨HS.out.1.below (zz13 _ _), Below.steps HS.out.2 (zz13 _ _)⟩⟩
   case measure => simp [intOf]; omega
  ·obtain rfl : j = mn := by omega
   have HB3 := hid HS.out.2; clear HS HM; go_wp2_with fail
   refine (wof_any 1 _ ⟨by omega, by omega⟩).mono ?_
   rintro e1 w3 ⟨sm, sa, sn, sc, rfl, hX, hB⟩; have HX3 := hid hX; have HB4 := hid (Below.steps HB3.out hB); clear hX hB HB3
   have hsn : sn ≤ 1 := HX3.out.le (by unfold Bd; decide)
   go_wp2_with fail
   refine (pnumber_any HX3.out.inn hsn (by omega)).mono ?_
   rintro e1 w4 ⟨ra, rn, rc, rfl, h1, h2⟩; rw [of_one may_nil] at h1
   have HR0 : Hid (Pc (pkb n K 0) w4 ra rn rc (powT p 0).1 ∧ Below w.heap.size w w4) := ⟨h1.mono (by simp [pkb]), Below.steps HB4.out h2⟩
   clear h1 h2 HX3 HB4
   go_wp2
   go_loopw [8, 36] (fun s i wr => ∃ (j : Nat) (ro : Option Addr) (rn rc : Nat), s = .slice ro rn rc ∧ i = .int .i64 j ∧ j ≤ k ∧ Hid (Pc (pkb n K j) wr ro rn rc (powT p j).1 ∧ Below w.heap.size w wr)) (fun _ i _ => k - (intOf i).toNat)
   case atStart => exact ⟨0, ra, rn, rc, rfl, rfl, Nat.zero_le _, HR0.out⟩
   case round =>
    clear HR0; obtain ⟨i, ro, qn, qc, rfl, rfl, hi, HS⟩ := hrel
    by_cases hik : i < k
    ·have hst := powT_step hik (zz145 HF.out k HX.out).1
     have hfl := zz142 (zz59 HF.out) i; have hlen := zz143 p i
     have hmo := pkb_mono n K (show i + 1 ≤ k by omega)
     have hge := pkb_ge n K i
     have hqn : qn = (powT p i).1.length := HS.out.1.len.symm
     have hl1 := HLN.out i hik; have hpl := HPL.out; rw [hpl] at hlen
     have hmul : qn * n ≤ n ^ i * n := Nat.mul_le_mul_right _ (by omega)
     have hpk : pkb n K (i + 1) = pkb n K i + pkb n K i + n ^ i + n := rfl
     have HST := hid (And.intro hst hfl)
     have HPR := hid (product_any HS.out.1 ((HP.out.below HS.out.2).mono (by omega)) hfl HF.out hst.1 (by omega) (by omega) (by omega) (by omega))
     have hqk : qn ≤ n ^ i := by omega
     clear hst hfl hlen hqn hl1 hmul hpl; go_wp2_with fail
     refine HPR.out.mono ?_
     rintro e w5 ⟨ya, yn, yc, r, K', rfl, h1, h2, h3, h4, h5⟩
     have hr : r = (powT p (i + 1)).1 := by rw [HST.out.1.2]; exact fall_ev_times HST.out.2 HF.out HST.out.1.1 h2 h4
     have HN : Hid (Pc (pkb n K (i + 1)) w5 ya yn yc (powT p (i + 1)).1 ∧ Below w.heap.size w w5) := ⟨by rw [← hr]; exact h1.pc.mono (by omega), Below.steps HS.out.2 h5⟩
     clear h1 h2 h3 h4 h5 hr HPR HS HST
     go_wp2
     go_roundw
     case rel => exact ⟨i + 1, ya, yn, yc, rfl, by go_num, by omega, HN.out⟩
     case measure => simp [intOf]; omega
    ·obtain rfl : i = k := by omega
     go_wp2
     go_ret2
     exact ⟨ro, qn, qc, rfl, HS.out.1, HS.out.2⟩
end
section
variable {K : Nat} {w : World} {ao : Option Addr} {n cap : Nat} {p : List Term}
end
end Go.Proofs.YtmbgljjfmbhelaaGreat
