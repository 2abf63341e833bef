/- VRefA, VRef -/
import Derived.Test.YtdgpnfjohijpeaaGreatGV
set_option maxHeartbeats 40000000
set_option maxRecDepth 100000
namespace Go.Proofs.YtdgpnfjohijpeaaGreat
open Lib (hid)
open Go.RowKit
theorem Pz.at {K : Nat} {w : World} {ao : Option Addr} {n cap : Nat} {p : List Term} (h : Pz K w ao n cap p) {k : Nat} (hk : k < n) :
  ∃ b off xm xa xn xc xp xq xr, ao = some ⟨b, off, none⟩ ∧ b < w.heap.size ∧ Cell3 w b (off + k * 3) (.bool xm) (.slice xa xn xc) (.slice xp xq xr) ∧ Zd w xm xa xn xc (p.getD k (0, [])).1 ∧ Bd (p.getD k (0, [])).1 K ∧ Ml w xp xq xr (p.getD k (0, [])).2 := by
 have hl := h.len; obtain ⟨vss, hG, hT⟩ := h.ex
 obtain ⟨b, off, rfl, hb⟩ := hG.some_of (by omega)
 obtain ⟨xm, xa, xn, xc, xp, xq, xr, hv, h1, h2, h3⟩ := Tms.get (0, []) hT k (by omega)
 exact ⟨b, off, xm, xa, xn, xc, xp, xq, xr, rfl, hb, hG.cell3 hk hv, h1, h2, h3⟩
theorem Cell3.keep {w V : World} {b o : Nat} {u0 u1 u2 : Value} (h : Cell3 w b o u0 u1 u2) (hV : Below w.heap.size w V) : Cell3 V b o u0 u1 u2 := fun W hW => h W (Below.steps hV hW)
theorem degP_next2 {p : List Term} (v : Int) (k : Nat) (hk : k < p.length) : degP (p.take (k + 1)) v = if expo (p[k]).2 v > degP (p.take k) v then expo (p[k]).2 v else degP (p.take k) v := by
 rw [degP_next v k hk]
 split <;> omega
theorem rdeg_any (v : Int) (z : Int) {K : Nat} {ao : Option Addr} {n cap : Nat} {p : List Term} {w : World} (hp : Pz K w ao n cap p) (hf : fall p) (hz : degP p v = z) :
  Calls Tryz.prog 48 #[.slice ao n cap, .int .i64 v] w (RetB (.int .i64 z) w) := by
 have hle := hp.le
 have hmb : n ≤ 4398046511104 := by obtain ⟨_, hG, _⟩ := hp.ex; exact hG.big
 have HX := hid hp; have HF := hid hf
 have HZ : Hid (degP p v = z) := hz
 clear hp hf hz
 go_enter Tryz.func48, Tryz.ntmps48
 go_wp2
 go_loopw [5, 6] (fun s5 s6 wr => ∃ (k : Nat) (y : Int), s5 = .int .i64 y ∧ s6 = .int .i64 k ∧ k ≤ n ∧ Hid (degP (p.take k) v = y ∧ Below w.heap.size w wr)) (fun _ s6 _ => n - (intOf s6).toNat)
 case atStart => exact ⟨0, 0, rfl, rfl, Nat.zero_le _, rfl, Below.refl _ _⟩
 case round =>
  obtain ⟨k, y, rfl, rfl, hk, HI⟩ := hrel
  by_cases hkm : k < n
  ·have hkp : k < p.length := by rw [HX.out.len]; exact hkm
   obtain ⟨b, off, xm, xa, xn, xc, xp, xq, xr, hbo, hbl, hc, hCn, hBd, hMl⟩ := (HX.out.below HI.out.2).at (k := k) hkm; subst hbo; obtain ⟨c0, c1, c2⟩ := hc wr (Below.refl _ _); rw [getD_of _ hkp] at hMl; obtain ⟨d, hd⟩ : ∃ d, expo (p[k]).2 v = d := ⟨_, rfl⟩; have hN := degP_next2 v k hkp; rw [HI.out.1, hd] at hN
   have HT : Hid (Ml wr xp xq xr (p[k]).2 ∧ exE (p[k]).2 v = d) := ⟨hMl, by rw [exE_yes (fall_may HF.out _ (List.getElem_mem hkp))]; exact hd⟩
   have HN := hid hN; have HC := hid hc; clear hc hCn hBd hMl hbl hN hd
   by_cases hg : d > y
   ·have hdd : decide (y < d) = true := decide_eq_true hg
    have HN2 : Hid (degP (p.take (k + 1)) v = d) := by rw [Hid, HN.out, if_pos hg]
    go_wp2_with fail
    refine (degree7_any (show Ml _ xp xq xr (p[k]).2 from HT.out.1) v d (by first | exact HT.out.2 | exact HT2.out.2)).mono ?_
    rintro e w2 ⟨rfl, hB⟩
    have HI2 : Hid (Below w.heap.size w w2) := Below.steps HI.out.2 hB
    have HT2 : Hid (Ml w2 xp xq xr (p[k]).2 ∧ exE (p[k]).2 v = d) := ⟨HT.out.1.below hB, HT.out.2⟩
    clear c0 c1 c2; obtain ⟨c0, c1, c2⟩ := HC.out w2 hB; clear hB HI HT HN; go_wp2_with fail
    refine (degree7_any (show Ml _ xp xq xr (p[k]).2 from HT2.out.1) v d (by first | exact HT.out.2 | exact HT2.out.2)).mono ?_
    rintro e w3 ⟨rfl, hB⟩
    have HI3 : Hid (degP (p.take (k + 1)) v = d ∧ Below w.heap.size w w3) := ⟨HN2.out, Below.steps HI2.out hB⟩
    clear hB HI2 HT2 c0 c1 c2
    go_wp2
    go_roundw
    case rel => exact ⟨k + 1, d, rfl, by go_num, by omega, HI3.out⟩
    case measure => simp [intOf]; omega
   ·have hdd : decide (y < d) = false := decide_eq_false hg
    have HN2 : Hid (degP (p.take (k + 1)) v = y) := by rw [Hid, HN.out, if_neg hg]
    go_wp2_with fail
    refine (degree7_any (show Ml _ xp xq xr (p[k]).2 from HT.out.1) v d (by first | exact HT.out.2 | exact HT2.out.2)).mono ?_
    rintro e w2 ⟨rfl, hB⟩
    have HI3 : Hid (degP (p.take (k + 1)) v = y ∧ Below w.heap.size w w2) := ⟨HN2.out, Below.steps HI.out.2 hB⟩
    clear hB HI HT HN c0 c1 c2
    go_wp2
    go_roundw
    case rel => exact ⟨k + 1, y, rfl, by go_num, by omega, HI3.out⟩
    case measure => simp [intOf]; omega
  ·obtain rfl : n = k := by omega
   have h := HI.out
   rw [List.take_of_length_le (by rw [HX.out.len]; exact Nat.le_refl _)] at h
   obtain rfl : y = z := by rw [← h.1]; exact HZ.out
   have HH := hid h.2; clear h HI HX
   go_wp2
   go_ret
   exact ⟨rfl, HH.out⟩
def powP (v e : Int) : List Term := [(1, powM v e)]
theorem powP_fall {v e : Int} (hv : 1 ≤ v ∧ v ≤ 200) (he : 0 ≤ e ∧ e ≤ 10000) : fall (powP v e) := ⟨(by show (1 : Int) ≠ 0; decide), pow_may hv he, (fun _ h => by cases h), trivial⟩
theorem rpow_any {v e : Int} (hv : in64 v) (he : in64 e) (w : World) : Calls Tryz.prog 41 #[.int .i64 v, .int .i64 e] w (NewPz 3 w (powP v e)) := by
 by_cases h0 : e = 0
 ·have hd : (e == 0) = true := by simpa using h0
  have HR : Hid (powP v e = smallT 1) := by subst h0; rfl
  rw [HR.out]
  go_enter Tryz.func41, Tryz.ntmps41
  go_wp2_with fail
  refine (small_any8 1 w (by omega)).mono ?_
  rintro e w1 ⟨ao, k, cap, rfl, hX, hB⟩; go_wp2_with fail
  go_ret
  exact ⟨_, _, _, rfl, hX, hB⟩
 ·have hd : (e == 0) = false := by simpa using h0
  have HR : Hid (powP v e = [(1, [(v, e)])]) := by unfold Hid powP powM; rw [if_neg h0]
  have HV := hid (And.intro hv he); rw [HR.out]; clear hv he h0
  go_enter Tryz.func41, Tryz.ntmps41
  go_wp2_with fail
  refine (zsmall_any 1 w (by omega)).mono ?_
  rintro e2 w1 ⟨m, ao, k, cap, rfl, hX, hB⟩; have HX := hid hX; have HB := hid hB; clear hX hB; go_wp2_with fail
  go_ret
  have hgl := Gl.lit 3 (w1.alloc (.cells #[.int .i64 v, .int .i64 e] 89)) [.bool m, .slice ao k cap, .slice (some ⟨w1.heap.size, 0, none⟩) 1 1] 76 rfl (by simp [Value.oneCell'])
  rw [show (w1.alloc (.cells #[.int .i64 v, .int .i64 e] 89)).heap.size = w1.heap.size + 1 from by simp] at hgl
  refine ⟨_, _, _, rfl, ⟨_, hgl, ?_⟩, ?_⟩
  ·have hM := Ml.lit w1 v e 89 HV.out.1 HV.out.2
   have hZ := (HX.out.below (below_alloc w1 (.cells #[.int .i64 v, .int .i64 e] 89)))
   exact ⟨⟨_, _, _, _, _, _, _, rfl, hZ.below (below_alloc _ _), (bd_small (by omega)).mono (by omega), hM.below (below_alloc _ _)⟩, trivial⟩
  ·have h := HB.out.size
   exact (HB.out.alloc h _).alloc (by simp; omega) _
open Lib (hid)
theorem fall_take {k : Nat} : ∀ {p : List Term}, fall p → fall (p.take k)
 | [], _ => by simp [fall]
 | t :: r, h => by
  cases k with
  | zero => trivial
  | succ k => exact ⟨h.1, h.2.1, fun s hs => h.2.2.1 s (List.mem_of_mem_take hs), fall_take h.2.2.2⟩
theorem coef_next {p : List Term} (v e : Int) (k : Nat) (hk : k < p.length) : coefP (p.take (k + 1)) v e = coefP (p.take k) v e ++ if expo (p[k]).2 v = e then [((p[k]).1, outM v (p[k]).2)] else [] := by
 unfold coefP
 rw [List.take_succ_eq_append_getElem hk, List.filter_append, List.map_append]
 congr 1
 by_cases h : expo (p[k]).2 v = e
 ·rw [if_pos h, List.filter_cons_of_pos (by simpa using h)]; rfl
 ·rw [if_neg h, List.filter_cons_of_neg (by simpa using h)]; rfl
theorem coef_len (v e : Int) (p : List Term) : (coefP p v e).length ≤ p.length := by
 unfold coefP
 rw [List.length_map]
 exact List.length_filter_le _ _
theorem add_one_end {a b : List Term} {t : Term} (ha : fall a) (h : b = a ++ [t]) (hb : fall b) : addT a [t] = b := by
 have ht : mays [t] := fun s hs => by
  simp at hs
  subst hs
  exact fall_may hb s (by rw [h]; simp)
 have h1 := addT_spec ha ht
 exact fall_ext h1.1 hb fun ρ => by rw [h1.2, h, ev_append]
theorem coef_add {a b : List Term} {t : Term} (ha : fall a) (h : b = a ++ [t]) (hb : fall b) : addT a [t] = b := add_one_end ha h hb
section
variable {K : Nat} {ao : Option Addr} {n cap : Nat} {p : List Term} {w : World}
theorem rcoef_any (v e0 : Int) (hp : Pz K w ao n cap p) (hf : fall p) (hn : n ≤ 1000) (hK : K ≤ 1000) :
  Calls Tryz.prog 49 #[.slice ao n cap, .int .i64 v, .int .i64 e0] w (NewPz (K + n) w (coefP p v e0)) := by
 have hle := hp.le
 have hmb : n ≤ 4398046511104 := by obtain ⟨_, hG, _⟩ := hp.ex; exact hG.big
 have HX := hid hp; have HF := hid hf; clear hp hf
 go_enter Tryz.func49, Tryz.ntmps49
 go_wp2
 go_loopw [7, 8] (fun s7 s8 wr => ∃ (k : Nat) (oo : Option Addr) (on oc : Nat), s7 = .slice oo on oc ∧ s8 = .int .i64 k ∧ k ≤ n ∧ Hid (Pz (K + k) wr oo on oc (coefP (p.take k) v e0) ∧ Below w.heap.size w wr)) (fun _ s8 _ => n - (intOf s8).toNat)
 case atStart => exact ⟨0, none, 0, 0, rfl, rfl, Nat.zero_le _, Pz.zero _ _, Below.refl _ _⟩
 case round =>
  obtain ⟨k, oo, on, oc, rfl, rfl, hk, HI⟩ := hrel
  by_cases hkm : k < n
  ·have hkp : k < p.length := by rw [HX.out.len]; exact hkm
   obtain ⟨b, off, xm, xa, xn, xc, xp, xq, xr, hbo, hbl, hc, hCn, hBd, hMl⟩ := (HX.out.below HI.out.2).at (k := k) hkm; subst hbo; obtain ⟨c0, c1, c2⟩ := hc wr (Below.refl _ _); rw [getD_of _ hkp] at hCn hBd hMl; obtain ⟨d, hd⟩ : ∃ d, expo (p[k]).2 v = d := ⟨_, rfl⟩; have hmay := fall_may HF.out _ (List.getElem_mem hkp)
   have HT : Hid (Ml wr xp xq xr (p[k]).2 ∧ exE (p[k]).2 v = d ∧ mayM 0 (p[k]).2 = true ∧ Zd wr xm xa xn xc (p[k]).1) := ⟨hMl, by rw [exE_yes hmay]; exact hd, hmay, hCn⟩
   have HD := hid hBd; have HC := hid hc; have hln := HI.out.1.len; have hN := coef_next v e0 k hkp; rw [hd] at hN; have hln2 := coef_len v e0 (p.take k); rw [List.length_take] at hln2; have HN := hid hN; clear hc hCn hBd hMl hbl hd hmay hN
   by_cases hg : d = e0
   ·have hdd : (d == e0) = true := by simpa using hg
    have HN2 : Hid (coefP (p.take (k + 1)) v e0 = coefP (p.take k) v e0 ++ [((p[k]).1, outM v (p[k]).2)]) := by rw [Hid, HN.out, if_pos hg]
    have HFK := hid (And.intro (coef_fall (fall_take (k := k) HF.out) v e0) (coef_fall (fall_take (k := k + 1) HF.out) v e0)); go_wp2_with fail; refine (degree7_any HT.out.1 v d HT.out.2.1).mono ?_; rintro e w2 ⟨rfl, hB⟩
    have HI2 : Hid (Pz (K + k) w2 oo on oc (coefP (p.take k) v e0) ∧ Below w.heap.size w w2) := ⟨HI.out.1.below hB, Below.steps HI.out.2 hB⟩
    have HT2 := hid (And.intro (HT.out.1.below hB) (HT.out.2.2.2.below hB)); have HC2 := hid (HC.out.keep hB); have HMY := hid HT.out.2.2.1; clear hB HI HT HN HC c0 c1 c2
    go_upto_region 6 with (fail)
    refine wp_region_held_drew (S := fun w' => w'.cell? ⟨b, off + k * 3, none⟩ = some (.bool xm) ∧ w'.cell? ⟨b, off + k * 3 + 1, none⟩ = some (.slice xa xn xc) ∧ w'.cell? ⟨b, off + k * 3 + 2, none⟩ = some (.slice xp xq xr)) (by kernel_rfl) (HC2.out _ (Below.refl _ _).drew) (fun hH => ?_)
    refine anyH_world (fun w4 hW => ?_)
    have HI4 : Hid (Pz (K + k) w4 oo on oc (coefP (p.take k) v e0) ∧ Below w.heap.size w w4) := by rw [hW]; exact ⟨HI2.out.1.below (Below.refl _ _).drew, HI2.out.2.drew⟩
    have HT4 : Hid (Ml w4 xp xq xr (p[k]).2 ∧ Zd w4 xm xa xn xc (p[k]).1) := by rw [hW]; exact ⟨HT2.out.1.below (Below.refl _ _).drew, HT2.out.2.below (Below.refl _ _).drew⟩
    have HC4 : Hid (Cell3 w4 b (off + k * 3) (.bool xm) (.slice xa xn xc) (.slice xp xq xr)) := by rw [hW]; exact HC2.out.keep (Below.refl _ _).drew
    rw [← hW] at hH; clear HI2 HT2 HC2
    clear hW
    refine son 0 hH ?_; try simp only [nrm]
    refine son 1 hH ?_; try simp only [nrm]
    refine son 2 hH ?_; try simp only [nrm]
    refine son 3 hH ?_; try simp only [nrm]
    refine son 4 hH ?_; try simp only [nrm]
    refine son 5 hH ?_; try simp only [nrm]
    refine son 6 hH ?_; try simp only [nrm]
    refine son 7 hH ?_; try simp only [nrm]
    refine son 8 hH ?_; try simp only [nrm]
    refine son 9 hH ?_; try simp only [nrm]
    refine son 10 hH ?_; try simp only [nrm]
    refine son 11 hH ?_; try simp only [nrm]
    refine step_one 12 rfl (by kernel_rfl) (fun KK hK => ?_)
    go_simp; refine (without7_any HT4.out.1 v).mono ?_
    rintro e w5 ⟨ro, rn, rc, rfl, hR, hB⟩; rw [orM_yes HMY.out] at hR
    have HI5 : Hid (Pz (K + k) w5 oo on oc (coefP (p.take k) v e0) ∧ Below w.heap.size w w5) := ⟨HI4.out.1.below hB, Below.steps HI4.out.2 hB⟩
    have HZ5 := hid (And.intro (HT4.out.2.below hB) hR); have HC5 := hid (HC4.out.keep hB); clear HI4 HT4 HC4 hB hR; go_wp2_with fail
    clear hH; refine hK.out _ _ (HC5.out _ (Below.refl _ _)) fun hH => ?_; clear hK KK
    try simp only [nrm]
    refine son 13 hH ?_; try simp only [nrm]
    refine step_one 14 rfl (by kernel_rfl) (fun KK hK => ?_)
    go_simp
    clear hH; refine hK.out _ _ (HC5.out _ (below_alloc w5 _)) fun hH => ?_; clear hK KK
    try simp only [nrm]
    refine anyH_world (fun w6 hW => ?_)
    have HL6 : Hid (Pz (K + k) w6 (some ⟨w5.heap.size, 0, none⟩) 1 1 [((p[k]).1, outM v (p[k]).2)]) := by rw [hW]; exact ⟨_, Gl.lit 3 w5 [.bool xm, .slice xa xn xc, .slice ro rn rc] _ rfl (by simp [Value.oneCell']), ⟨_, _, _, _, _, _, _, rfl, HZ5.out.1.below (below_alloc w5 _), HD.out.mono (by omega), HZ5.out.2.below (below_alloc w5 _)⟩, trivial⟩
    have HI6 : Hid (Pz (K + k) w6 oo on oc (coefP (p.take k) v e0) ∧ Below w.heap.size w w6) := by rw [hW]; exact ⟨HI5.out.1.below (below_alloc w5 _), Below.steps HI5.out.2 (below_alloc w5 _)⟩
    have HC6 : Hid (Cell3 w6 b (off + k * 3) (.bool xm) (.slice xa xn xc) (.slice xp xq xr)) := by rw [hW]; exact HC5.out.keep (below_alloc w5 _)
    rw [← hW] at hH; clear HI5 HZ5 HC5
    clear hW
    refine step_one 15 rfl (by kernel_rfl) (fun KK hK => ?_)
    go_simp
    refine (add_any8 HI6.out.1 HL6.out HFK.out.1 (by intro t ht; simp at ht; subst ht; exact out_may HMY.out v) (by omega) (by omega)).mono ?_
    rintro e w7 ⟨so, sn, sc, rfl, hR, hB⟩; rw [coef_add HFK.out.1 HN2.out HFK.out.2] at hR
    have HI7 : Hid (Pz (K + k + 1) w7 so sn sc (coefP (p.take (k + 1)) v e0) ∧ Below w.heap.size w w7) := ⟨hR, Below.steps HI6.out.2 hB⟩
    have HC7 := hid (HC6.out.keep hB); clear HI6 HL6 HC6 hB hR; go_wp2_with fail
    clear hH; refine hK.out _ _ (HC7.out _ (Below.refl _ _)) fun hH => ?_; clear hK KK
    try simp only [nrm]
    refine son 16 hH ?_; try simp only [nrm]
    refine wpAnyH_done (by kernel_rfl) ?_ _
    go_wp2_with fail
    go_roundw
    case rel => exact ⟨k + 1, so, sn, sc, rfl, by go_num, by omega, HI7.out⟩
    case measure => simp [intOf]; omega
   ·have hdd : (d == e0) = false := by simpa using hg
    have HN2 : Hid (coefP (p.take (k + 1)) v e0 = coefP (p.take k) v e0) := by rw [Hid, HN.out, if_neg hg, List.append_nil]
    go_wp2_with fail; refine (degree7_any HT.out.1 v d HT.out.2.1).mono ?_
    rintro e w2 ⟨rfl, hB⟩
    have HI2 : Hid (Pz (K + (k + 1)) w2 oo on oc (coefP (p.take (k + 1)) v e0) ∧ Below w.heap.size w w2) := by rw [Hid, HN2.out]; exact ⟨(HI.out.1.below hB).mono (by omega), Below.steps HI.out.2 hB⟩
    clear hB HI HT HN HC c0 c1 c2
    go_wp2
    go_roundw
    case rel => exact ⟨k + 1, oo, on, oc, rfl, by go_num, by omega, HI2.out⟩
    case measure => simp [intOf]; omega
  ·obtain rfl : n = k := by omega
   have h := HI.out
   rw [List.take_of_length_le (by rw [HX.out.len]; exact Nat.le_refl _)] at h
   have HH := hid h; clear h HI
   go_wp2
   go_ret
   exact ⟨_, _, _, rfl, HH.out.1, HH.out.2⟩
end
end Go.Proofs.YtdgpnfjohijpeaaGreat
