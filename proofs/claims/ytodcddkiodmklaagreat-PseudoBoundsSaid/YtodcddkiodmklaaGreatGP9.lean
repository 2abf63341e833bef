/- PlTry, PlLimbs -/
import Derived.Test.YtodcddkiodmklaaGreatGP5
set_option maxHeartbeats 40000000
set_option maxRecDepth 100000
namespace Go.Proofs.YtodcddkiodmklaaGreat
open Go.RowKit
def errT (p q : List Term) : Int := if fitB p q = true then 0 else 8
theorem err_yes {p q : List Term} (h : fitT p q) : errT p q = 0 := if_pos (fitB_iff.2 h)
theorem err_no {p q : List Term} (h : ¬ fitT p q) : errT p q = 8 := if_neg (fun g => h (fitB_iff.1 g))
theorem PE.mono [Ol] {K L : Nat} {w : World} {p : List Term} {er : Int} {e : Ending} {w' : World} (h : PE K w p er e w') (hk : K ≤ L) : PE L w p er e w' := by
 obtain ⟨ao, n, cap, h1, h2, h3⟩ := h
 exact ⟨ao, n, cap, h1, h2.mono hk, h3⟩
theorem Pr.wf' [Ol] {w : World} {ao : Option Addr} {n cap : Nat} {ps : List Raw} (h : Pr w ao n cap ps) : ∀ t ∈ ps, Wf t.1.2 := by
 intro t ht
 obtain ⟨i, hi, rfl⟩ := List.mem_iff_getElem.1 ht
 obtain ⟨_, _, _, _, _, _, _, _, _, _, _, hs, _⟩ := h.at (k := i) (by rw [← h.len]; exact hi)
 rw [getD_of _ hi] at hs
 exact hs.wf
section
variable {K : Nat} {ao bo : Option Addr} {n cap m cb : Nat} {p q : List Term} {ps qs : List Raw} {w : World}
theorem ptimes_try [Ol] (hp : Pc K w ao n cap p) (hq : Pc K w bo m cb q) (hfp : fall p) (hfq : fall q) (hn : n ≤ 300000) (hm : m ≤ 300000) (hnm : n * m ≤ 1000000) (hK : K ≤ 1000) :
  Calls Tryz.prog 22 #[.slice ao n cap, .slice bo m cb] w (PE (K + K + n + m) w (tryT p q).1 (errT p q)) := by
 by_cases h : fitT p q
 ·rw [zz208 h, err_yes h]
  exact ptimes_any hp hq hfp hfq hn hm hnm hK (fitB_iff.2 h)
 ·rw [tryT_no h, err_no h]
  refine (ptimes_no hp hq hfp hfq hn hm hK (by simpa using fun g => h (fitB_iff.1 g))).mono fun e V h => h.mono (Nat.zero_le _)
end
open Lib (hid)
def plnR (ps : List Raw) : List Term := if mayR ps = true then ps.map rawV else []
theorem pln_no {ps : List Raw} (h : mayR ps = false) : plnR ps = [] := by unfold plnR; rw [h]; rfl
theorem pln_yes {ps : List Raw} (h : mayR ps = true) : plnR ps = ps.map rawV := if_pos h
theorem pln_fall {ps : List Raw} (hw : ∀ t ∈ ps, Wf t.1.2) : fall (plnR ps) := by
 cases h : mayR ps with
 | false => rw [pln_no h]; trivial
 | true => rw [pln_yes h]; exact (zz106 hw h).1
theorem pln_raw {p : List Term} (h : fall p) : plnR (p.map rawC) = p := by
 rw [pln_yes (mayR_rawC h), List.map_map, show rawV ∘ rawC = id from funext zz160, List.map_id]
theorem Pr.wfs [Ol] {w : World} {ao : Option Addr} {n cap : Nat} {ps : List Raw} (h : Pr w ao n cap ps) : ∀ t ∈ ps, Wf t.1.2 := by
 intro t ht
 obtain ⟨i, hi, rfl⟩ := List.mem_iff_getElem.1 ht
 obtain ⟨_, _, _, _, _, _, _, _, _, _, _, hs, _⟩ := h.at (k := i) (by rw [← h.len]; exact hi)
 rw [getD_of _ hi] at hs
 exact hs.wf
theorem Pr.pln [Ol] {K : Nat} {w : World} {ao : Option Addr} {n cap : Nat} {ps : List Raw} (h : Pr w ao n cap ps) (hl : ∀ t ∈ ps, t.1.2.length ≤ K) (hm : mayR ps = true) : Pc K w ao n cap (plnR ps) ∧ ps = (plnR ps).map rawC := by
 obtain ⟨h1, h2⟩ := zz106 h.wfs hm; rw [pln_yes hm]
 exact ⟨Pr.pc (h2 ▸ h) (h2 ▸ hl), h2⟩
def OrZ [Ol] (K : Nat) (w : World) (n : Nat) (ps : List Raw) (e : Ending) (w' : World) : Prop := ∃ ao k cap, e = .returned (.slice ao k cap) ∧ Pc K w' ao k cap (plnR ps) ∧ k ≤ n ∧ Below w.heap.size w w'
section
variable {K : Nat} {ao : Option Addr} {n cap : Nat} {ps : List Raw} {w : World}
theorem orz_of [Ol] (hp : Pr w ao n cap ps) (hl : ∀ t ∈ ps, t.1.2.length ≤ K) {f : Nat}
  (h : ∀ r, mayR ps = r → Calls Tryz.prog f #[.slice ao n cap] w (RetB (if r = true then .slice ao n cap else .slice none 0 0) w)) : Calls Tryz.prog f #[.slice ao n cap] w (OrZ K w n ps) := by
 cases hm : mayR ps with
 | true =>
  refine (h true hm).mono ?_; rintro e w1 ⟨rfl, hB⟩
  exact ⟨ao, n, cap, rfl, (hp.pln hl hm).1.below hB, Nat.le_refl _, hB⟩
 | false =>
  refine (h false hm).mono ?_; rintro e w1 ⟨rfl, hB⟩
  exact ⟨none, 0, 0, rfl, by rw [pln_no hm]; exact Pc.zero K w1, Nat.zero_le _, hB⟩
theorem orZ_pc [Ol] (hp : Pr w ao n cap ps) (hl : ∀ t ∈ ps, t.1.2.length ≤ K) (hK : K ≤ 1000) : Calls Tryz.prog 71 #[.slice ao n cap] w (OrZ K w n ps) :=
 orz_of hp hl fun r hr => orZ_raw r hp (fun t ht => Nat.le_trans (hl t ht) hK) hr
end
def limT (p : List Term) : Int := p.foldl (fun a t => max a ((limbs t.1.natAbs).length : Int)) 0
theorem limT_next {p : List Term} (k : Nat) (hk : k < p.length) : limT (p.take (k + 1)) = max (limT (p.take k)) ((limbs (p[k]).1.natAbs).length : Int) := by
 unfold limT
 rw [List.take_succ_eq_append_getElem hk, List.foldl_append]
 rfl
def limR (ps : List Raw) : Int := limT (plnR ps)
theorem plimbs_any [Ol] (z : Int) {ao : Option Addr} {n cap : Nat} {ps : List Raw} {w : World} (hp : Pr w ao n cap ps) (hl : ∀ t ∈ ps, t.1.2.length ≤ 1000) (hz : limR ps = z) :
  Calls Tryz.prog 27 #[.slice ao n cap] w (RetB (.int .i64 z) w) := by
 have HP := hid hp; have HL := hid hl; have HZ := hid hz; clear hp hl hz
 go_enter Tryz.func27, Tryz.ntmps27
 go_wp2_with fail; refine (orZ_pc HP.out HL.out (Nat.le_refl _)).mono ?_
 rintro e w1 ⟨bo, m, cb, rfl, hX, hmn, hB⟩; obtain ⟨p, hpp⟩ : ∃ p, plnR ps = p := ⟨_, rfl⟩; rw [hpp] at hX
 have hmb : m ≤ 4398046511104 := by obtain ⟨_, hG, _⟩ := hX.ex; exact hG.big
 have HZ2 : Hid (limT p = z) := by rw [← hpp]; exact HZ.out
 have HX := hid hX; have HB := hid hB; clear hX hB hpp HZ HL HP hmn
 go_wp2
 go_loopw [3, 9] (fun s3 s9 wr => ∃ (k : Nat) (y : Int), s3 = .int .i64 y ∧ s9 = .int .i64 k ∧ k ≤ m ∧ Hid (limT (p.take k) = y ∧ Below w.heap.size w wr ∧ Pc 1000 wr bo m cb p)) (fun _ s9 _ => m - (intOf s9).toNat)
 case atStart => exact ⟨0, 0, rfl, rfl, Nat.zero_le _, rfl, HB.out, HX.out⟩
 case round =>
  obtain ⟨k, y, rfl, rfl, hk, HI⟩ := hrel
  by_cases hkm : k < m
  ·have hkp : k < p.length := by rw [HI.out.2.2.len]; exact hkm
   obtain ⟨b, off, xm, xa, xn, xc, xp, xq, xr, hbo, hbl, hc, hCn, hBd, hMl⟩ := HI.out.2.2.at (k := k) hkm; subst hbo; obtain ⟨c0, c1, c2⟩ := hc wr (Below.refl _ _); have hlen := hCn.sl.len; have hxb := hCn.sl.big; rw [getD_of _ hkp] at hlen; have hN := limT_next k hkp; rw [hlen, HI.out.1] at hN; have HN := hid hN; clear hc hCn hBd hMl hbl hlen hN
   go_upto_region 5 with (fail)
   refine zz233 (fun W hW => ?_)
   obtain ⟨a1, hB⟩ := box1 wr [.bool xm, .slice xa xn xc, .slice xp xq xr] 68; rw [← hW] at a1 hB; clear hW c0 c1 c2
   have HI2 : Hid (limT (p.take (k + 1)) = max y (xn : Int) ∧ Below w.heap.size w W ∧ Pc 1000 W (some ⟨b, off, none⟩) m cb p) := ⟨HN.out, Below.steps HI.out.2.1 hB, HI.out.2.2.below hB⟩
   obtain ⟨c0, c1, c2⟩ := a1.c3; clear a1 hB HI HN
   go_wp2
   go_roundw
   case rel => exact ⟨k + 1, max y (xn : Int), rfl, by go_num, by omega, HI2.out⟩
   case measure => simp [intOf]; omega
  ·obtain rfl : m = k := by omega
   have h := HI.out
   rw [List.take_of_length_le (by rw [h.2.2.len]; exact Nat.le_refl _)] at h
   obtain rfl : y = z := by rw [← h.1]; exact HZ2.out
   have HH := hid h.2.1; clear h HI HX
   go_wp2
   go_ret
   exact ⟨rfl, HH.out⟩
end Go.Proofs.YtodcddkiodmklaaGreat
