/- VPlain, VDeg, VPick, VFn -/
import Derived.Test.YtmmgipcacceakaaGreatGP9
import Derived.Test.YtmmgipcacceakaaGreatGP8
set_option maxHeartbeats 40000000
set_option maxRecDepth 100000
namespace Go.Proofs.YtmmgipcacceakaaGreat
open Go.RowKit
def degP (p : List Term) (v : Int) : Int := p.foldl (fun a t => max a (expo t.2 v)) 0
theorem degP_next {p : List Term} (v : Int) (k : Nat) (hk : k < p.length) : degP (p.take (k + 1)) v = max (degP (p.take k) v) (expo (p[k]).2 v) := by
 unfold degP
 rw [List.take_succ_eq_append_getElem hk, List.foldl_append]
 rfl
theorem fold_ge (v : Int) : ∀ (p : List Term) (a : Int), a ≤ p.foldl (fun a t => max a (expo t.2 v)) a ∧ (∀ t ∈ p, expo t.2 v ≤ p.foldl (fun a t => max a (expo t.2 v)) a) ∧
  (p.foldl (fun a t => max a (expo t.2 v)) a = a ∨ ∃ t ∈ p, p.foldl (fun a t => max a (expo t.2 v)) a = expo t.2 v)
 | [], a => ⟨Int.le_refl _, (fun _ h => by cases h), .inl rfl⟩
 | s :: r, a => by
  obtain ⟨h1, h2, h3⟩ := fold_ge v r (max a (expo s.2 v))
  simp only [List.foldl_cons]
  refine ⟨by omega, fun t ht => ?_, ?_⟩
  ·rcases List.mem_cons.1 ht with rfl | ht
   ·omega
   ·exact h2 t ht
  ·rcases h3 with h3 | ⟨t, ht, h3⟩
   ·by_cases h : a ≤ expo s.2 v
    ·exact .inr ⟨s, by simp, by rw [h3]; omega⟩
    ·exact .inl (by rw [h3]; omega)
   ·exact .inr ⟨t, by simp [ht], h3⟩
theorem degP_ge {p : List Term} {t : Term} (h : t ∈ p) (v : Int) : expo t.2 v ≤ degP p v := (fold_ge v p 0).2.1 t h
theorem degP_zero (p : List Term) (v : Int) : 0 ≤ degP p v := (fold_ge v p 0).1
theorem degP_at (p : List Term) (v : Int) : degP p v = 0 ∨ ∃ t ∈ p, degP p v = expo t.2 v := (fold_ge v p 0).2.2
theorem degP_is {p : List Term} {v d : Int} (hn : 0 ≤ d) (h1 : ∀ t ∈ p, expo t.2 v ≤ d) (h2 : d = 0 ∨ ∃ t ∈ p, expo t.2 v = d) : degP p v = d := by
 have h0 := degP_zero p v
 rcases degP_at p v with h3 | ⟨t, ht, h3⟩
 ·rcases h2 with h2 | ⟨t, ht, h2⟩
  ·omega
  ·have := degP_ge ht v; omega
 ·have h4 := h1 t ht
  rcases h2 with h2 | ⟨s, hs, h2⟩
  ·omega
  ·have := degP_ge hs v; omega
theorem degP_out {p : List Term} (h : mays p) {v : Int} (hv : v < 1 ∨ 200 < v) : degP p v = 0 :=
 degP_is (Int.le_refl _) (fun t ht => by rw [may_out (h t ht) hv]; exact Int.le_refl _) (.inl rfl)
def clsP : List Term → Int
 | [] => 0
 | t :: _ => clsM t.2
theorem cls_bd {m : List (Int × Int)} (hm : mayM 0 m = true) : 0 ≤ clsM m ∧ clsM m ≤ 200 := by
 rcases cls_spec (may_ris hm) with ⟨_, h⟩ | ⟨h1, h2, _⟩ <;> omega
theorem cls_above {m : List (Int × Int)} (hm : mayM 0 m = true) {v : Int} (h : clsM m < v) : expo m v = 0 := by
 rcases cls_spec (may_ris hm) with ⟨h1, _⟩ | ⟨_, _, _, h4⟩
 ·rw [h1]; rfl
 ·exact h4 v h
theorem cls_here {m : List (Int × Int)} (hm : mayM 0 m = true) (h : 0 < clsM m) : 0 < expo m (clsM m) := by
 rcases cls_spec (may_ris hm) with ⟨_, h1⟩ | ⟨_, _, h3, _⟩
 ·omega
 ·have := (may_bd hm (clsM m)).1
  omega
theorem clsM_le {m : List (Int × Int)} (hm : mayM 0 m = true) {c : Int} (hc : 0 ≤ c) (h : ∀ v, c < v → expo m v = 0) : clsM m ≤ c := by
 rcases Int.lt_or_le c (clsM m) with g | g
 ·have h1 := cls_here hm (by omega)
  rw [h _ g] at h1
  omega
 ·exact g
theorem gt_cls {a b : List (Int × Int)} (ha : mayM 0 a = true) (hb : mayM 0 b = true) (h : gtM a b) : clsM b ≤ clsM a := by
 refine clsM_le hb (cls_bd ha).1 fun v hv => ?_
 have h0 := cls_above ha hv
 rcases h with ⟨h, _⟩ | ⟨_, h, _⟩ | ⟨u, _, h1, h2⟩
 ·omega
 ·omega
 ·rcases Int.lt_trichotomy u v with g | g | g
  ·rw [← h2 v g]; exact h0
  ·subst g; rw [h0] at h1; have := (may_bd hb u).1; omega
  ·have h3 := cls_above ha (show clsM a < u by omega)
   rw [h3] at h1
   have := (may_bd hb u).1
   omega
theorem clsP_ge {p : List Term} (h : fall p) {t : Term} (ht : t ∈ p) : clsM t.2 ≤ clsP p := by
 cases p with
 | nil => cases ht
 | cons s r =>
  rcases List.mem_cons.1 ht with rfl | ht
  ·exact Int.le_refl _
  ·exact gt_cls h.2.1 (fall_may h.2.2.2 t ht) (h.2.2.1 t ht)
theorem clsP_bd {p : List Term} (h : fall p) : 0 ≤ clsP p ∧ clsP p ≤ 200 := by
 cases p with
 | nil => exact ⟨Int.le_refl _, by decide⟩
 | cons s r => exact cls_bd h.2.1
theorem deg_zero_var {p : List Term} (h : mays p) : degP p 0 = 0 := degP_out h (.inl (by omega))
open Lib (hid)
section
variable {K : Nat} {ao : Option Addr} {n cap : Nat} {p : List Term} {ps : List Raw} {w : World}
theorem vorz_raw [Ol] (r : Bool) (hp : Pr w ao n cap ps) (hl : ∀ t ∈ ps, t.1.2.length ≤ 1000) (h : mayR ps = r) :
  Calls Tryz.prog 43 #[.slice ao n cap] w (RetB (if r = true then .slice ao n cap else .slice none 0 0) w) := by
 cases r with
 | true =>
  go_enter Tryz.func43, Tryz.ntmps43
  go_wp2_with fail; refine (pmay_any true hp hl h).mono ?_
  rintro e w1 ⟨rfl, hB⟩; go_wp2_with fail
  go_ret
  exact ⟨rfl, hB⟩
 | false =>
  go_enter Tryz.func43, Tryz.ntmps43
  go_wp2_with fail; refine (pmay_any false hp hl h).mono ?_
  rintro e w1 ⟨rfl, hB⟩; go_wp2_with fail
  go_ret
  exact ⟨rfl, hB⟩
theorem vorz_pc [Ol] (hp : Pr w ao n cap ps) (hl : ∀ t ∈ ps, t.1.2.length ≤ K) (hK : K ≤ 1000) : Calls Tryz.prog 43 #[.slice ao n cap] w (OrZ K w n ps) :=
 orz_of hp hl fun r hr => vorz_raw r hp (fun t ht => Nat.le_trans (hl t ht) hK) hr
theorem vclass_any [Ol] (z : Int) (hp : Pc K w ao n cap p) (hf : fall p) (hz : clsP p = z) : Calls Tryz.prog 42 #[.slice ao n cap] w (RetB (.int .i64 z) w) := by
 rcases Nat.eq_zero_or_pos n with h0 | h0
 ·subst h0
  obtain rfl : p = [] := List.eq_nil_of_length_eq_zero hp.len; subst hz
  have hd : (((0 : Nat) : Int) == 0) = true := rfl
  clear hp hf
  go_enter Tryz.func42, Tryz.ntmps42
  go_wp2_with fail
  go_ret
  exact ⟨rfl, Below.refl _ _⟩
 ·obtain ⟨b, off, xm, xa, xn, xc, xp, xq, xr, hbo, hbl, hc, hCn, hBd, hMl⟩ := hp.at (k := 0) h0
  subst hbo; rw [Nat.zero_mul, Nat.add_zero] at hc; obtain ⟨c0, c1, c2⟩ := hc w (Below.refl _ _)
  have hM : Hid (Ml w xp xq xr (p.getD 0 (0, [])).2 ∧ clsM (orM (p.getD 0 (0, [])).2) = z) := by
   refine ⟨hMl, ?_⟩
   cases p with
   | nil => have := hp.len; simp at this; omega
   | cons t r => rw [← hz]; show clsM (orM t.2) = clsM t.2; rw [orM_yes hf.2.1]
  have hd : ((n : Int) == 0) = false := by simpa using (show ¬ (n : Int) = 0 by omega)
  clear hp hf hc hCn hBd hMl hz
  go_enter Tryz.func42, Tryz.ntmps42
  go_wp2_with fail; refine (class_any hM.out.1 z hM.out.2).mono ?_
  rintro e w1 ⟨rfl, hB⟩; go_wp2_with fail
  go_ret
  exact ⟨rfl, hB⟩
theorem vdegree_any [Ol] (v z : Int) (hp : Pc K w ao n cap p) (hf : mays p) (hz : degP p v = z) : Calls Tryz.prog 45 #[.slice ao n cap, .int .i64 v] w (RetB (.int .i64 z) w) := by
 have hmb : n ≤ 4398046511104 := by obtain ⟨_, hG, _⟩ := hp.ex; exact hG.big
 have HX := hid hp; have HF := hid hf; have HZ := hid hz; clear hp hf hz
 go_enter Tryz.func45, Tryz.ntmps45
 go_wp2
 go_loopw [5, 10] (fun s5 s10 wr => ∃ (k : Nat) (y : Int), s5 = .int .i64 y ∧ s10 = .int .i64 k ∧ k ≤ n ∧ Hid (degP (p.take k) v = y ∧ Below w.heap.size w wr)) (fun _ s10 _ => n - (intOf s10).toNat)
 case atStart => exact ⟨0, 0, rfl, rfl, Nat.zero_le _, rfl, Below.refl _ _⟩
 case round =>
  obtain ⟨k, y, rfl, rfl, hk, HI⟩ := hrel
  by_cases hkm : k < n
  ·have hkp : k < p.length := by rw [HX.out.len]; exact hkm
   obtain ⟨b, off, xm, xa, xn, xc, xp, xq, xr, hbo, hbl, hc, hCn, hBd, hMl⟩ := (HX.out.below HI.out.2).at (k := k) hkm; subst hbo; obtain ⟨c0, c1, c2⟩ := hc wr (Below.refl _ _); rw [getD_of _ hkp] at hMl; obtain ⟨d, hd⟩ : ∃ d, expo (p[k]).2 v = d := ⟨_, rfl⟩; have hN := degP_next v k hkp; rw [HI.out.1, hd] at hN
   have HT : Hid (Ml wr xp xq xr (p[k]).2 ∧ exE (p[k]).2 v = d) := ⟨hMl, by rw [exE_yes (HF.out _ (List.getElem_mem hkp))]; exact hd⟩
   have HN := hid hN; clear hc hCn hBd hMl hbl hN hd
   go_upto_region 5 with (fail)
   refine wp_world (fun W hW => ?_)
   obtain ⟨a1, hB⟩ := box1 wr [.bool xm, .slice xa xn xc, .slice xp xq xr] 56; rw [← hW] at a1 hB; clear hW c0 c1 c2
   have HI2 : Hid (degP (p.take (k + 1)) v = max y d ∧ Below w.heap.size w W) := ⟨HN.out, Below.steps HI.out.2 hB⟩
   have HT2 : Hid (Ml W xp xq xr (p[k]).2 ∧ exE (p[k]).2 v = d) := ⟨HT.out.1.below hB, HT.out.2⟩
   obtain ⟨c0, c1, c2⟩ := a1.c3; clear a1 hB HI HN HT; go_wp2_with fail; refine (degree_any HT2.out.1 v d HT2.out.2).mono ?_; rintro e w2 ⟨rfl, hB⟩
   have HI3 : Hid (degP (p.take (k + 1)) v = max y d ∧ Below w.heap.size w w2) := ⟨HI2.out.1, Below.steps HI2.out.2 hB⟩
   clear hB HI2 HT2 c0 c1 c2
   go_wp2
   go_roundw
   case rel => exact ⟨k + 1, max y d, rfl, by go_num, by omega, HI3.out⟩
   case measure => simp [intOf]; omega
  ·obtain rfl : n = k := by omega
   have h := HI.out
   rw [List.take_of_length_le (by rw [HX.out.len]; exact Nat.le_refl _)] at h
   obtain rfl : y = z := by rw [← h.1]; exact HZ.out
   have HH := hid h.2; clear h HI HX
   go_wp2
   go_ret
   exact ⟨rfl, HH.out⟩
theorem vClass_any [Ol] (z : Int) (hp : Pr w ao n cap ps) (hl : ∀ t ∈ ps, t.1.2.length ≤ 1000) (hz : clsP (plnR ps) = z) : Calls Tryz.prog 15 #[.slice ao n cap] w (RetB (.int .i64 z) w) := by
 go_enter Tryz.func15, Tryz.ntmps15
 go_wp2_with fail; refine (vorz_pc hp hl (Nat.le_refl _)).mono ?_
 rintro e w1 ⟨bo, m, cb, rfl, hX, hmn, hB⟩; go_wp2_with fail; refine (vclass_any z hX (pln_fall hp.wfs) hz).mono ?_; rintro e w2 ⟨rfl, hB2⟩; go_wp2_with fail
 go_ret
 exact ⟨rfl, Below.steps hB hB2⟩
theorem vDegree_any [Ol] (v z : Int) (hp : Pr w ao n cap ps) (hl : ∀ t ∈ ps, t.1.2.length ≤ 1000) (hz : degP (plnR ps) v = z) : Calls Tryz.prog 54 #[.slice ao n cap, .int .i64 v] w (RetB (.int .i64 z) w) := by
 go_enter Tryz.func54, Tryz.ntmps54
 go_wp2_with fail; refine (vorz_pc hp hl (Nat.le_refl _)).mono ?_
 rintro e w1 ⟨bo, m, cb, rfl, hX, hmn, hB⟩; go_wp2_with fail; refine (vdegree_any v z hX (fall_mays (pln_fall hp.wfs)) hz).mono ?_; rintro e w2 ⟨rfl, hB2⟩; go_wp2_with fail
 go_ret
 exact ⟨rfl, Below.steps hB hB2⟩
end
end Go.Proofs.YtmmgipcacceakaaGreat
