/- VPlain, VDeg, VPick, VFn -/
import Derived.Test.YtmmgipcacceakaaGP9
import Derived.Test.YtmmgipcacceakaaGP8
set_option maxHeartbeats 40000000
set_option maxRecDepth 100000
namespace Go.Proofs.Ytmmgipcacceakaa
open Go.RowKit
def degP (p : List Term) (v : Int) : Int := p.foldl (fun a t => max a (expo t.2 v)) 0
theorem degP_next {p : List Term} (v : Int) (k : Nat) (hk : k < p.length) : degP (p.take (k + 1)) v = max (degP (p.take k) v) (expo (p[k]).2 v) := by
 unfold degP
 rw [List.take_succ_eq_append_getElem hk, List.foldl_append]
 rfl
def clsP : List Term → Int
 | [] => 0
 | t :: _ => clsM t.2
open Lib (hid)
section
variable {K : Nat} {ao : Option Addr} {n cap : Nat} {p : List Term} {ps : List Raw} {w : World}
theorem vorz_raw [Ol] (r : Bool) (hp : Pr w ao n cap ps) (hl : ∀ t ∈ ps, t.1.2.length ≤ 1000) (h : mayR ps = r) :
  Calls Try.prog 62 #[.slice ao n cap] w (RetB (if r = true then .slice ao n cap else .slice none 0 0) w) := by
 cases r with
 | true =>
  go_enter Try.func62, Try.ntmps62
  go_wp2_with fail; refine (pmay_any true hp hl h).mono ?_
  rintro e w1 ⟨rfl, hB⟩; go_wp2_with fail
  go_ret
  exact ⟨rfl, hB⟩
 | false =>
  go_enter Try.func62, Try.ntmps62
  go_wp2_with fail; refine (pmay_any false hp hl h).mono ?_
  rintro e w1 ⟨rfl, hB⟩; go_wp2_with fail
  go_ret
  exact ⟨rfl, hB⟩
theorem vorz_pc [Ol] (hp : Pr w ao n cap ps) (hl : ∀ t ∈ ps, t.1.2.length ≤ K) (hK : K ≤ 1000) : Calls Try.prog 62 #[.slice ao n cap] w (OrZ K w n ps) :=
 orz_of hp hl fun r hr => vorz_raw r hp (fun t ht => Nat.le_trans (hl t ht) hK) hr
theorem vclass_any [Ol] (z : Int) (hp : Pc K w ao n cap p) (hf : fall p) (hz : clsP p = z) : Calls Try.prog 61 #[.slice ao n cap] w (RetB (.int .i64 z) w) := by
 rcases Nat.eq_zero_or_pos n with h0 | h0
 ·subst h0
  obtain rfl : p = [] := List.eq_nil_of_length_eq_zero hp.len; subst hz
  have hd : (((0 : Nat) : Int) == 0) = true := rfl
  clear hp hf
  go_enter Try.func61, Try.ntmps61
  go_wp2_with fail
  go_ret
  exact ⟨rfl, Below.refl _ _⟩
 ·obtain ⟨b, off, xm, xa, xn, xc, xp, xq, xr, hbo, hbl, hc, hCn, hBd, hMl⟩ := hp.at (k := 0) h0
  subst hbo; rw [Nat.zero_mul, Nat.add_zero] at hc; obtain ⟨c0, c1, c2⟩ := hc w (Below.refl _ _)
  have hM : Hid (Ml w xp xq xr (p.getD 0 (0, [])).2 ∧ clsM (orM (p.getD 0 (0, [])).2) = z) := by
   refine ⟨hMl, ?_⟩
   cases p with
   | nil => have := hp.len; simp at this; omega
   | cons t r => rw [← hz]; show clsM (orM t.2) = clsM t.2; rw [orM_yes hf.2.1]
  have hd : ((n : Int) == 0) = false := by simpa using (show ¬ (n : Int) = 0 by omega)
  clear hp hf hc hCn hBd hMl hz
  go_enter Try.func61, Try.ntmps61
  go_wp2_with fail; refine (class_any hM.out.1 z hM.out.2).mono ?_
  rintro e w1 ⟨rfl, hB⟩; go_wp2_with fail
  go_ret
  exact ⟨rfl, hB⟩
theorem vdegree_any [Ol] (v z : Int) (hp : Pc K w ao n cap p) (hf : mays p) (hz : degP p v = z) : Calls Try.prog 63 #[.slice ao n cap, .int .i64 v] w (RetB (.int .i64 z) w) := by
 have hmb : n ≤ 4398046511104 := by obtain ⟨_, hG, _⟩ := hp.ex; exact hG.big
 have HX := hid hp; have HF := hid hf; have HZ := hid hz; clear hp hf hz
 go_enter Try.func63, Try.ntmps63
 go_wp2
 go_loopw [5, 10] (fun s5 s10 wr => ∃ (k : Nat) (y : Int), s5 = .int .i64 y ∧ s10 = .int .i64 k ∧ k ≤ n ∧ Hid (degP (p.take k) v = y ∧ Below w.heap.size w wr)) (fun _ s10 _ => n - (intOf s10).toNat)
 case atStart => exact ⟨0, 0, rfl, rfl, Nat.zero_le _, rfl, Below.refl _ _⟩
 case round =>
  obtain ⟨k, y, rfl, rfl, hk, HI⟩ := hrel
  by_cases hkm : k < n
  ·have hkp : k < p.length := by rw [HX.out.len]; exact hkm
   obtain ⟨b, off, xm, xa, xn, xc, xp, xq, xr, hbo, hbl, hc, hCn, hBd, hMl⟩ := (HX.out.below HI.out.2).at (k := k) hkm; subst hbo; obtain ⟨c0, c1, c2⟩ := hc wr (Below.refl _ _); rw [getD_of _ hkp] at hMl; obtain ⟨d, hd⟩ : ∃ d, expo (p[k]).2 v = d := ⟨_, rfl⟩; have hN := degP_next v k hkp; rw [HI.out.1, hd] at hN
   have HT : Hid (Ml wr xp xq xr (p[k]).2 ∧ exE (p[k]).2 v = d) := ⟨hMl, by rw [exE_yes (HF.out _ (List.getElem_mem hkp))]; exact hd⟩
   have HN := hid hN; clear hc hCn hBd hMl hbl hN hd
   go_upto_region 5 with (fail)
   refine wp_world (fun W hW => ?_)
   obtain ⟨a1, hB⟩ := box1 wr [.bool xm, .slice xa xn xc, .slice xp xq xr] 63; rw [← hW] at a1 hB; clear hW c0 c1 c2
   have HI2 : Hid (degP (p.take (k + 1)) v = max y d ∧ Below w.heap.size w W) := ⟨HN.out, Below.steps HI.out.2 hB⟩
   have HT2 : Hid (Ml W xp xq xr (p[k]).2 ∧ exE (p[k]).2 v = d) := ⟨HT.out.1.below hB, HT.out.2⟩
   obtain ⟨c0, c1, c2⟩ := a1.c3; clear a1 hB HI HN HT; go_wp2_with fail; refine (degree_any HT2.out.1 v d HT2.out.2).mono ?_; rintro e w2 ⟨rfl, hB⟩
   have HI3 : Hid (degP (p.take (k + 1)) v = max y d ∧ Below w.heap.size w w2) := ⟨HI2.out.1, Below.steps HI2.out.2 hB⟩
   clear hB HI2 HT2 c0 c1 c2
   go_wp2
   go_roundw
   case rel => exact ⟨k + 1, max y d, rfl, by go_num, by omega, HI3.out⟩
   case measure => simp [intOf]; omega
  ·obtain rfl : n = k := by omega
   have h := HI.out
   rw [List.take_of_length_le (by rw [HX.out.len]; exact Nat.le_refl _)] at h
   obtain rfl : y = z := by rw [← h.1]; exact HZ.out
   have HH := hid h.2; clear h HI HX
   go_wp2
   go_ret
   exact ⟨rfl, HH.out⟩
theorem vClass_any [Ol] (z : Int) (hp : Pr w ao n cap ps) (hl : ∀ t ∈ ps, t.1.2.length ≤ 1000) (hz : clsP (plnR ps) = z) : Calls Try.prog 31 #[.slice ao n cap] w (RetB (.int .i64 z) w) := by
 go_enter Try.func31, Try.ntmps31
 go_wp2_with fail; refine (vorz_pc hp hl (Nat.le_refl _)).mono ?_
 rintro e w1 ⟨bo, m, cb, rfl, hX, hmn, hB⟩; go_wp2_with fail; refine (vclass_any z hX (pln_fall hp.wfs) hz).mono ?_; rintro e w2 ⟨rfl, hB2⟩; go_wp2_with fail
 go_ret
 exact ⟨rfl, Below.steps hB hB2⟩
theorem vDegree_any [Ol] (v z : Int) (hp : Pr w ao n cap ps) (hl : ∀ t ∈ ps, t.1.2.length ≤ 1000) (hz : degP (plnR ps) v = z) : Calls Try.prog 32 #[.slice ao n cap, .int .i64 v] w (RetB (.int .i64 z) w) := by
 go_enter Try.func32, Try.ntmps32
 go_wp2_with fail; refine (vorz_pc hp hl (Nat.le_refl _)).mono ?_
 rintro e w1 ⟨bo, m, cb, rfl, hX, hmn, hB⟩; go_wp2_with fail; refine (vdegree_any v z hX (fall_mays (pln_fall hp.wfs)) hz).mono ?_; rintro e w2 ⟨rfl, hB2⟩; go_wp2_with fail
 go_ret
 exact ⟨rfl, Below.steps hB hB2⟩
end
end Go.Proofs.Ytmmgipcacceakaa
