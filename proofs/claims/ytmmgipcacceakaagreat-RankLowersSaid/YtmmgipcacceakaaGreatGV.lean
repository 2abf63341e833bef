/- VPlain, VDeg, VPick, VFn, VFace -/
import Derived.Test.YtmmgipcacceakaaGreatGP9
import Derived.Test.YtmmgipcacceakaaGreatGP8
set_option maxHeartbeats 40000000
set_option maxRecDepth 100000
namespace Go.Proofs.YtmmgipcacceakaaGreat
open Go.RowKit
def powM (v e : Int) : List (Int × Int) := if e = 0 then [] else [(v, e)]
theorem pow_may {v e : Int} (hv : 1 ≤ v ∧ v ≤ 200) (he : 0 ≤ e ∧ e ≤ 10000) : mayM 0 (powM v e) = true := by
 unfold powM
 by_cases h : e = 0
 ·rw [if_pos h]; rfl
 ·rw [if_neg h]
  unfold mayM okP
  simp only [Bool.and_eq_true, decide_eq_true_eq]
  exact ⟨⟨by omega, by omega, by omega, by omega⟩, rfl⟩
theorem pow_expo (v e u : Int) : expo (powM v e) u = if u = v then e else 0 := by
 unfold powM
 by_cases h : e = 0
 ·rw [if_pos h, h]; simp [expo]
 ·rw [if_neg h]
  simp only [expo]
  by_cases hu : u = v
  ·rw [if_pos hu, if_pos hu.symm]
  ·rw [if_neg hu, if_neg (fun e => hu e.symm)]
theorem out_may {m : List (Int × Int)} (hm : mayM 0 m = true) (v : Int) : mayM 0 (outM v m) = true :=
 may_iff.2 ⟨outM_ris v (may_ris hm), fun u => by
  rw [outM_expo]
  by_cases hu : u = v
  ·rw [if_pos hu]; omega
  ·rw [if_neg hu]; exact may_bd hm u⟩
def subM (m : List (Int × Int)) (v : Int) : List (Int × Int) := joinL (fun x y => x - y) m [(v, 1)]
theorem one_may {v : Int} (hv : 1 ≤ v ∧ v ≤ 200) : mayM 0 [(v, 1)] = true := by
 have := pow_may hv (e := 1) (by omega)
 exact this
theorem one_expo (v u : Int) : expo [(v, 1)] u = if u = v then 1 else 0 := pow_expo v 1 u
theorem subM_expo {m : List (Int × Int)} (hm : mayM 0 m = true) {v : Int} (hv : 1 ≤ v ∧ v ≤ 200) (u : Int) : expo (subM m v) u = expo m u - if u = v then 1 else 0 := by
 unfold subM
 rw [join_expo (f := fun x y => x - y) rfl hm (one_may hv), one_expo]
theorem subM_may {m : List (Int × Int)} (hm : mayM 0 m = true) {v : Int} (hv : 1 ≤ v ∧ v ≤ 200) : mayM 0 (subM m v) = true ↔ 0 < expo m v := by
 unfold subM
 rw [join_may (f := fun x y => x - y) rfl hm (one_may hv)]
 constructor
 ·intro h
  have := (h v).1
  rw [one_expo, if_pos rfl] at this
  omega
 ·intro h u
  have h1 := may_bd hm u
  show 0 ≤ expo m u - expo [(v, 1)] u ∧ expo m u - expo [(v, 1)] u ≤ 10000
  rw [one_expo]
  by_cases hu : u = v
  ·rw [if_pos hu, hu]; rw [hu] at h1; omega
  ·rw [if_neg hu]; omega
def degP (p : List Term) (v : Int) : Int := p.foldl (fun a t => max a (expo t.2 v)) 0
theorem degP_next {p : List Term} (v : Int) (k : Nat) (hk : k < p.length) : degP (p.take (k + 1)) v = max (degP (p.take k) v) (expo (p[k]).2 v) := by
 unfold degP
 rw [List.take_succ_eq_append_getElem hk, List.foldl_append]
 rfl
theorem fold_ge (v : Int) : ∀ (p : List Term) (a : Int), a ≤ p.foldl (fun a t => max a (expo t.2 v)) a ∧ (∀ t ∈ p, expo t.2 v ≤ p.foldl (fun a t => max a (expo t.2 v)) a) ∧
  (p.foldl (fun a t => max a (expo t.2 v)) a = a ∨ ∃ t ∈ p, p.foldl (fun a t => max a (expo t.2 v)) a = expo t.2 v)
 | [], a => ⟨Int.le_refl _, (fun _ h => by cases h), .inl rfl⟩
 | s :: r, a => by
  obtain ⟨h1, h2, h3⟩ := fold_ge v r (max a (expo s.2 v))
  simp only [List.foldl_cons]
  refine ⟨by omega, fun t ht => ?_, ?_⟩
  ·rcases List.mem_cons.1 ht with rfl | ht
   ·omega
   ·exact h2 t ht
  ·rcases h3 with h3 | ⟨t, ht, h3⟩
   ·by_cases h : a ≤ expo s.2 v
    ·exact .inr ⟨s, by simp, by rw [h3]; omega⟩
    ·exact .inl (by rw [h3]; omega)
   ·exact .inr ⟨t, by simp [ht], h3⟩
theorem degP_ge {p : List Term} {t : Term} (h : t ∈ p) (v : Int) : expo t.2 v ≤ degP p v := (fold_ge v p 0).2.1 t h
theorem degP_zero (p : List Term) (v : Int) : 0 ≤ degP p v := (fold_ge v p 0).1
theorem degP_at (p : List Term) (v : Int) : degP p v = 0 ∨ ∃ t ∈ p, degP p v = expo t.2 v := (fold_ge v p 0).2.2
theorem degP_att {p : List Term} (h : mays p) (hn : p ≠ []) (v : Int) : ∃ t ∈ p, expo t.2 v = degP p v := by
 rcases degP_at p v with h0 | ⟨t, ht, h1⟩
 ·cases p with
  | nil => exact absurd rfl hn
  | cons t r =>
   refine ⟨t, by simp, ?_⟩
   have h1 := (may_bd (h t (by simp)) v).1
   have h2 := degP_ge (p := t :: r) (t := t) (by simp) v
   omega
 ·exact ⟨t, ht, h1.symm⟩
theorem degP_is {p : List Term} {v d : Int} (hn : 0 ≤ d) (h1 : ∀ t ∈ p, expo t.2 v ≤ d) (h2 : d = 0 ∨ ∃ t ∈ p, expo t.2 v = d) : degP p v = d := by
 have h0 := degP_zero p v
 rcases degP_at p v with h3 | ⟨t, ht, h3⟩
 ·rcases h2 with h2 | ⟨t, ht, h2⟩
  ·omega
  ·have := degP_ge ht v; omega
 ·have h4 := h1 t ht
  rcases h2 with h2 | ⟨s, hs, h2⟩
  ·omega
  ·have := degP_ge hs v; omega
def clsP : List Term → Int
 | [] => 0
 | t :: _ => clsM t.2
theorem cls_bd {m : List (Int × Int)} (hm : mayM 0 m = true) : 0 ≤ clsM m ∧ clsM m ≤ 200 := by
 rcases cls_spec (may_ris hm) with ⟨_, h⟩ | ⟨h1, h2, _⟩ <;> omega
theorem cls_above {m : List (Int × Int)} (hm : mayM 0 m = true) {v : Int} (h : clsM m < v) : expo m v = 0 := by
 rcases cls_spec (may_ris hm) with ⟨h1, _⟩ | ⟨_, _, _, h4⟩
 ·rw [h1]; rfl
 ·exact h4 v h
theorem cls_here {m : List (Int × Int)} (hm : mayM 0 m = true) (h : 0 < clsM m) : 0 < expo m (clsM m) := by
 rcases cls_spec (may_ris hm) with ⟨_, h1⟩ | ⟨_, _, h3, _⟩
 ·omega
 ·have := (may_bd hm (clsM m)).1
  omega
theorem clsM_le {m : List (Int × Int)} (hm : mayM 0 m = true) {c : Int} (hc : 0 ≤ c) (h : ∀ v, c < v → expo m v = 0) : clsM m ≤ c := by
 rcases Int.lt_or_le c (clsM m) with g | g
 ·have h1 := cls_here hm (by omega)
  rw [h _ g] at h1
  omega
 ·exact g
theorem gt_cls {a b : List (Int × Int)} (ha : mayM 0 a = true) (hb : mayM 0 b = true) (h : gtM a b) : clsM b ≤ clsM a := by
 refine clsM_le hb (cls_bd ha).1 fun v hv => ?_
 have h0 := cls_above ha hv
 rcases h with ⟨h, _⟩ | ⟨_, h, _⟩ | ⟨u, _, h1, h2⟩
 ·omega
 ·omega
 ·rcases Int.lt_trichotomy u v with g | g | g
  ·rw [← h2 v g]; exact h0
  ·subst g; rw [h0] at h1; have := (may_bd hb u).1; omega
  ·have h3 := cls_above ha (show clsM a < u by omega)
   rw [h3] at h1
   have := (may_bd hb u).1
   omega
theorem clsP_ge {p : List Term} (h : fall p) {t : Term} (ht : t ∈ p) : clsM t.2 ≤ clsP p := by
 cases p with
 | nil => cases ht
 | cons s r =>
  rcases List.mem_cons.1 ht with rfl | ht
  ·exact Int.le_refl _
  ·exact gt_cls h.2.1 (fall_may h.2.2.2 t ht) (h.2.2.1 t ht)
theorem clsP_bd {p : List Term} (h : fall p) : 0 ≤ clsP p ∧ clsP p ≤ 200 := by
 cases p with
 | nil => exact ⟨Int.le_refl _, by decide⟩
 | cons s r => exact cls_bd h.2.1
theorem clsP_above {p : List Term} (h : fall p) {v : Int} (hv : clsP p < v) : degP p v = 0 :=
 degP_is (Int.le_refl _) (fun t ht => by rw [cls_above (fall_may h t ht) (by have := clsP_ge h ht; omega)]; exact Int.le_refl _) (.inl rfl)
theorem clsP_here {p : List Term} (h : fall p) (hc : 0 < clsP p) : 0 < degP p (clsP p) := by
 cases p with
 | nil => exact absurd hc (by decide)
 | cons s r =>
  have h1 := cls_here h.2.1 hc
  have h2 := degP_ge (p := s :: r) (t := s) (by simp) (clsP (s :: r))
  have h3 : clsP (s :: r) = clsM s.2 := rfl
  rw [h3] at h2 ⊢
  omega
theorem fall_filter (f : Term → Bool) : ∀ {p : List Term}, fall p → fall (p.filter f)
 | [], _ => trivial
 | t :: r, h => by
  have ih := fall_filter f h.2.2.2
  by_cases hf : f t = true
  ·rw [List.filter_cons_of_pos hf]
   exact ⟨h.1, h.2.1, fun s hs => h.2.2.1 s ((List.mem_filter.1 hs).1), ih⟩
  ·rw [List.filter_cons_of_neg hf]
   exact ih
theorem fall_map (g : Term → Term) : ∀ {p : List Term}, fall p → (∀ t ∈ p, (g t).1 ≠ 0 ∧ mayM 0 (g t).2 = true) → (∀ t ∈ p, ∀ s ∈ p, gtM t.2 s.2 → gtM (g t).2 (g s).2) → fall (p.map g)
 | [], _, _, _ => trivial
 | t :: r, h, h1, h2 => by
  refine ⟨(h1 t (by simp)).1, (h1 t (by simp)).2, fun s hs => ?_, fall_map g h.2.2.2 (fun s hs => h1 s (by simp [hs])) (fun a ha b hb => h2 a (by simp [ha]) b (by simp [hb]))⟩
  obtain ⟨u, hu, rfl⟩ := List.mem_map.1 hs
  exact h2 t (by simp) u (by simp [hu]) (h.2.2.1 u hu)
def coefP (p : List Term) (v e : Int) : List Term := (p.filter fun t => expo t.2 v == e).map fun t => (t.1, outM v t.2)
theorem coef_fall {p : List Term} (h : fall p) (v e : Int) : fall (coefP p v e) := by
 refine fall_map _ (fall_filter _ h) (fun t ht => ?_) (fun t ht s hs hg => ?_)
 ·have hm := (List.mem_filter.1 ht).1
  exact ⟨fall_nz h t hm, out_may (fall_may h t hm) v⟩
 ·have h1 : expo t.2 v = e := by simpa using (List.mem_filter.1 ht).2
  have h2 : expo s.2 v = e := by simpa using (List.mem_filter.1 hs).2
  rcases hg with ⟨h, _⟩ | ⟨_, h, _⟩ | ⟨u, _, g1, g2⟩
  ·omega
  ·omega
  ·have hu : u ≠ v := fun e => by subst e; omega
   refine .inr (.inr ⟨u, rfl, ?_, fun x hx => ?_⟩)
   ·show expo (outM v s.2) u < expo (outM v t.2) u
    rw [outM_expo, outM_expo, if_neg hu, if_neg hu]
    exact g1
   ·show expo (outM v t.2) x = expo (outM v s.2) x
    rw [outM_expo, outM_expo, g2 x hx]
def initP (p : List Term) : List Term := coefP p (clsP p) (degP p (clsP p))
theorem init_fall {p : List Term} (h : fall p) : fall (initP p) := coef_fall h _ _
def tailP (p : List Term) : List Term := p.filter fun t => !(expo t.2 (clsP p) == degP p (clsP p))
theorem tail_fall {p : List Term} (h : fall p) : fall (tailP p) := fall_filter _ h
def derT (v : Int) (t : Term) : Term := (t.1 * expo t.2 v, subM t.2 v)
def derP (p : List Term) (v : Int) : List Term := (p.filter fun t => decide (0 < expo t.2 v)).map (derT v)
theorem var_of {m : List (Int × Int)} (h : mayM 0 m = true) {v : Int} (hv : 0 < expo m v) : 1 ≤ v ∧ v ≤ 200 := by
 rcases Int.lt_or_le v 1 with g | g
 ·rw [may_out h (.inl g)] at hv; omega
 ·rcases Int.lt_or_le 200 v with g2 | g2
  ·rw [may_out h (.inr g2)] at hv; omega
  ·exact ⟨g, g2⟩
theorem der_fall {p : List Term} (h : fall p) (v : Int) : fall (derP p v) := by
 refine fall_map _ (fall_filter _ h) (fun t ht => ?_) (fun t ht s hs hg => ?_)
 ·have hm := (List.mem_filter.1 ht).1
  have h1 : 0 < expo t.2 v := by simpa using (List.mem_filter.1 ht).2
  have hv := var_of (fall_may h t hm) h1
  exact ⟨Int.mul_ne_zero (fall_nz h t hm) (by omega), (subM_may (fall_may h t hm) hv).2 h1⟩
 ·have hmt := (List.mem_filter.1 ht).1
  have hms := (List.mem_filter.1 hs).1
  have h1 : 0 < expo t.2 v := by simpa using (List.mem_filter.1 ht).2
  have hv := var_of (fall_may h t hmt) h1
  rcases hg with ⟨h, _⟩ | ⟨_, h, _⟩ | ⟨u, _, g1, g2⟩
  ·omega
  ·omega
  ·refine .inr (.inr ⟨u, rfl, ?_, fun x hx => ?_⟩)
   ·show expo (subM s.2 v) u < expo (subM t.2 v) u
    rw [subM_expo (fall_may h s hms) hv, subM_expo (fall_may h t hmt) hv]
    omega
   ·show expo (subM t.2 v) x = expo (subM s.2 v) x
    rw [subM_expo (fall_may h s hms) hv, subM_expo (fall_may h t hmt) hv, g2 x hx]
open Lib (hid)
section
variable {K : Nat} {ao : Option Addr} {n cap : Nat} {p : List Term} {ps : List Raw} {w : World}
theorem vorz_raw [Ol] (r : Bool) (hp : Pr w ao n cap ps) (hl : ∀ t ∈ ps, t.1.2.length ≤ 1000) (h : mayR ps = r) :
  Calls Tryz.prog 43 #[.slice ao n cap] w (RetB (if r = true then .slice ao n cap else .slice none 0 0) w) := by
 cases r with
 | true =>
  go_enter Tryz.func43, Tryz.ntmps43
  go_wp2_with fail; refine (pmay_any true hp hl h).mono ?_
  rintro e w1 ⟨rfl, hB⟩; go_wp2_with fail
  go_ret
  exact ⟨rfl, hB⟩
 | false =>
  go_enter Tryz.func43, Tryz.ntmps43
  go_wp2_with fail; refine (pmay_any false hp hl h).mono ?_
  rintro e w1 ⟨rfl, hB⟩; go_wp2_with fail
  go_ret
  exact ⟨rfl, hB⟩
theorem vorz_pc [Ol] (hp : Pr w ao n cap ps) (hl : ∀ t ∈ ps, t.1.2.length ≤ K) (hK : K ≤ 1000) : Calls Tryz.prog 43 #[.slice ao n cap] w (OrZ K w n ps) :=
 orz_of hp hl fun r hr => vorz_raw r hp (fun t ht => Nat.le_trans (hl t ht) hK) hr
theorem vclass_any [Ol] (z : Int) (hp : Pc K w ao n cap p) (hf : fall p) (hz : clsP p = z) : Calls Tryz.prog 42 #[.slice ao n cap] w (RetB (.int .i64 z) w) := by
 rcases Nat.eq_zero_or_pos n with h0 | h0
 ·subst h0
  obtain rfl : p = [] := List.eq_nil_of_length_eq_zero hp.len; subst hz
  have hd : (((0 : Nat) : Int) == 0) = true := rfl
  clear hp hf
  go_enter Tryz.func42, Tryz.ntmps42
  go_wp2_with fail
  go_ret
  exact ⟨rfl, Below.refl _ _⟩
 ·obtain ⟨b, off, xm, xa, xn, xc, xp, xq, xr, hbo, hbl, hc, hCn, hBd, hMl⟩ := hp.at (k := 0) h0
  subst hbo; rw [Nat.zero_mul, Nat.add_zero] at hc; obtain ⟨c0, c1, c2⟩ := hc w (Below.refl _ _)
  have hM : Hid (Ml w xp xq xr (p.getD 0 (0, [])).2 ∧ clsM (orM (p.getD 0 (0, [])).2) = z) := by
   refine ⟨hMl, ?_⟩
   cases p with
   | nil => have := hp.len; simp at this; omega
   | cons t r => rw [← hz]; show clsM (orM t.2) = clsM t.2; rw [orM_yes hf.2.1]
  have hd : ((n : Int) == 0) = false := by simpa using (show ¬ (n : Int) = 0 by omega)
  clear hp hf hc hCn hBd hMl hz
  go_enter Tryz.func42, Tryz.ntmps42
  go_wp2_with fail; refine (class_any hM.out.1 z hM.out.2).mono ?_
  rintro e w1 ⟨rfl, hB⟩; go_wp2_with fail
  go_ret
  exact ⟨rfl, hB⟩
theorem vdegree_any [Ol] (v z : Int) (hp : Pc K w ao n cap p) (hf : mays p) (hz : degP p v = z) : Calls Tryz.prog 45 #[.slice ao n cap, .int .i64 v] w (RetB (.int .i64 z) w) := by
 have hmb : n ≤ 4398046511104 := by obtain ⟨_, hG, _⟩ := hp.ex; exact hG.big
 have HX := hid hp; have HF := hid hf; have HZ := hid hz; clear hp hf hz
 go_enter Tryz.func45, Tryz.ntmps45
 go_wp2
 go_loopw [5, 10] (fun s5 s10 wr => ∃ (k : Nat) (y : Int), s5 = .int .i64 y ∧ s10 = .int .i64 k ∧ k ≤ n ∧ Hid (degP (p.take k) v = y ∧ Below w.heap.size w wr)) (fun _ s10 _ => n - (intOf s10).toNat)
 case atStart => exact ⟨0, 0, rfl, rfl, Nat.zero_le _, rfl, Below.refl _ _⟩
 case round =>
  obtain ⟨k, y, rfl, rfl, hk, HI⟩ := hrel
  by_cases hkm : k < n
  ·have hkp : k < p.length := by rw [HX.out.len]; exact hkm
   obtain ⟨b, off, xm, xa, xn, xc, xp, xq, xr, hbo, hbl, hc, hCn, hBd, hMl⟩ := (HX.out.below HI.out.2).at (k := k) hkm; subst hbo; obtain ⟨c0, c1, c2⟩ := hc wr (Below.refl _ _); rw [getD_of _ hkp] at hMl; obtain ⟨d, hd⟩ : ∃ d, expo (p[k]).2 v = d := ⟨_, rfl⟩; have hN := degP_next v k hkp; rw [HI.out.1, hd] at hN
   have HT : Hid (Ml wr xp xq xr (p[k]).2 ∧ exE (p[k]).2 v = d) := ⟨hMl, by rw [exE_yes (HF.out _ (List.getElem_mem hkp))]; exact hd⟩
   have HN := hid hN; clear hc hCn hBd hMl hbl hN hd
   go_upto_region 5 with (fail)
   refine wp_world (fun W hW => ?_)
   obtain ⟨a1, hB⟩ := box1 wr [.bool xm, .slice xa xn xc, .slice xp xq xr] 56; rw [← hW] at a1 hB; clear hW c0 c1 c2
   have HI2 : Hid (degP (p.take (k + 1)) v = max y d ∧ Below w.heap.size w W) := ⟨HN.out, Below.steps HI.out.2 hB⟩
   have HT2 : Hid (Ml W xp xq xr (p[k]).2 ∧ exE (p[k]).2 v = d) := ⟨HT.out.1.below hB, HT.out.2⟩
   obtain ⟨c0, c1, c2⟩ := a1.c3; clear a1 hB HI HN HT; go_wp2_with fail; refine (degree_any HT2.out.1 v d HT2.out.2).mono ?_; rintro e w2 ⟨rfl, hB⟩
   have HI3 : Hid (degP (p.take (k + 1)) v = max y d ∧ Below w.heap.size w w2) := ⟨HI2.out.1, Below.steps HI2.out.2 hB⟩
   clear hB HI2 HT2 c0 c1 c2
   go_wp2
   go_roundw
   case rel => exact ⟨k + 1, max y d, rfl, by go_num, by omega, HI3.out⟩
   case measure => simp [intOf]; omega
  ·obtain rfl : n = k := by omega
   have h := HI.out
   rw [List.take_of_length_le (by rw [HX.out.len]; exact Nat.le_refl _)] at h
   obtain rfl : y = z := by rw [← h.1]; exact HZ.out
   have HH := hid h.2; clear h HI HX
   go_wp2
   go_ret
   exact ⟨rfl, HH.out⟩
theorem vClass_any [Ol] (z : Int) (hp : Pr w ao n cap ps) (hl : ∀ t ∈ ps, t.1.2.length ≤ 1000) (hz : clsP (plnR ps) = z) : Calls Tryz.prog 15 #[.slice ao n cap] w (RetB (.int .i64 z) w) := by
 go_enter Tryz.func15, Tryz.ntmps15
 go_wp2_with fail; refine (vorz_pc hp hl (Nat.le_refl _)).mono ?_
 rintro e w1 ⟨bo, m, cb, rfl, hX, hmn, hB⟩; go_wp2_with fail; refine (vclass_any z hX (pln_fall hp.wfs) hz).mono ?_; rintro e w2 ⟨rfl, hB2⟩; go_wp2_with fail
 go_ret
 exact ⟨rfl, Below.steps hB hB2⟩
theorem vDegree_any [Ol] (v z : Int) (hp : Pr w ao n cap ps) (hl : ∀ t ∈ ps, t.1.2.length ≤ 1000) (hz : degP (plnR ps) v = z) : Calls Tryz.prog 54 #[.slice ao n cap, .int .i64 v] w (RetB (.int .i64 z) w) := by
 go_enter Tryz.func54, Tryz.ntmps54
 go_wp2_with fail; refine (vorz_pc hp hl (Nat.le_refl _)).mono ?_
 rintro e w1 ⟨bo, m, cb, rfl, hX, hmn, hB⟩; go_wp2_with fail; refine (vdegree_any v z hX (fall_mays (pln_fall hp.wfs)) hz).mono ?_; rintro e w2 ⟨rfl, hB2⟩; go_wp2_with fail
 go_ret
 exact ⟨rfl, Below.steps hB hB2⟩
end
open Lib (hid)
def pickT (f : List (Int × Int) → List (Int × Int) × Int) (p : List Term) : List Term := (p.filter fun t => !((f t.2).2 == 0)).map fun t => (t.1 * (f t.2).2, (f t.2).1)
theorem pickT_next (f : List (Int × Int) → List (Int × Int) × Int) {p : List Term} (k : Nat) (hk : k < p.length) :
  pickT f (p.take (k + 1)) = pickT f (p.take k) ++ if (f (p[k]).2).2 = 0 then [] else [((p[k]).1 * (f (p[k]).2).2, (f (p[k]).2).1)] := by
 unfold pickT
 rw [List.take_succ_eq_append_getElem hk, List.filter_append, List.map_append]
 congr 1
 by_cases h : (f (p[k]).2).2 = 0
 ·rw [if_pos h, List.filter_cons_of_neg (by simp [h])]; rfl
 ·rw [if_neg h, List.filter_cons_of_pos (by simp [h])]; rfl
theorem pickT_len (f : List (Int × Int) → List (Int × Int) × Int) (p : List Term) : (pickT f p).length ≤ p.length := by
 unfold pickT
 rw [List.length_map]
 exact List.length_filter_le _ _
theorem pick_any [Ol] {G : Nat} {lb : Array Value} (eg : ∀ args w, (callFunc G args).run Tryz.prog w = .ok (.enter G args) w) (f : List (Int × Int) → List (Int × Int) × Int) {K : Nat} {ao : Option Addr} {n cap : Nat} {p : List Term} {w : World} (hp : Pc K w ao n cap p) (hn : n ≤ 1000000) (hK : K ≤ 100000)
  (hf : ∀ t ∈ p, -10000 ≤ (f t.2).2 ∧ (f t.2).2 ≤ 10000)
  (hF : ∀ t ∈ p, ∀ W, Below w.heap.size w W → ∀ mo mn mc, Ml W mo mn mc t.2 → Calls Tryz.prog G (#[.slice mo mn mc] ++ lb) W (NewME W (f t.2).1 (f t.2).2)) :
  Calls Tryz.prog 46 #[.slice ao n cap, .func (.func G) #[] lb] w (NewPw (K + 1) w (pickT f p)) := by
 obtain ⟨i0, hi, hz0, hz1, hz2⟩ := info_parts Tryz.info_TT; have HP := hid hp; have HB := hid hf; have HF := hid hF; clear hp hf hF
 go_enter Tryz.func46, Tryz.ntmps46
 go_wp2
 go_loopw [5, 12] (fun o i wr => ∃ (k c2 : Nat) (oo : Option Addr) (zs : List (List Value)), i = .int .i64 k ∧ o = .slice oo (pickT f (p.take k)).length c2 ∧ k ≤ n ∧ Hid (Go1 w.heap.size 56 3 wr oo (pickT f (p.take k)).length c2 zs ∧ Tms (TmC (K + 1) wr) zs (pickT f (p.take k)) ∧ Below w.heap.size w wr)) (fun _ i _ => n - (intOf i).toNat)
 case atStart => exact ⟨0, 0, none, [], rfl, rfl, Nat.zero_le _, Go1.nil _ _ _ _, trivial, Below.refl _ _⟩
 case round =>
  obtain ⟨k, c2, oo, zs, rfl, rfl, hk, HS⟩ := hrel
  by_cases hkn : k < n
  ·have hkp : k < p.length := by rw [HP.out.len]; exact hkn
   obtain ⟨b, off, xm, xa, xn, xc, xp, xq, xr, hbo, hbl, hc, hCn, hBd, hMl⟩ := (HP.out.below HS.out.2.2).at (k := k) hkn; subst hbo; obtain ⟨c0, c1, c2x⟩ := hc wr (Below.refl _ _); rw [getD_of _ hkp] at hCn hBd hMl; obtain ⟨m2, hm2⟩ : ∃ m2, (f (p[k]).2).1 = m2 := ⟨_, rfl⟩; obtain ⟨y, hy⟩ : ∃ y, (f (p[k]).2).2 = y := ⟨_, rfl⟩; have hyb := HB.out _ (List.getElem_mem hkp); rw [hy] at hyb; have hN := pickT_next f k hkp; rw [hm2, hy] at hN; have hFk := HF.out _ (List.getElem_mem hkp); rw [hm2, hy] at hFk
   have hlen := pickT_len f (p.take k); rw [List.length_take] at hlen; have HT := hid (And.intro hCn hMl); have HBD := hid hBd
   have HY : Hid (-9223372036854775808 ≤ y ∧ y ≤ 9223372036854775807) := by rw [Hid]; omega
   have HYB : Hid (Bd y 1) := by unfold Hid Bd; omega
   have HFK := hid hFk; have HN := hid hN; have HPL := hid (HP.out.len); obtain ⟨kk, hkk⟩ : ∃ kk, kk = (pickT f (p.take k)).length := ⟨_, rfl⟩; rw [← hkk] at hlen
   have hkk2 : kk ≤ k := by omega
   clear hc hCn hBd hMl hbl hm2 hy hyb hN hFk; rw [← hkk]; have HKK := hid hkk; clear hkk hlen
   go_upto_region 5 with (fail)
   refine wp_world (fun W hW => ?_)
   obtain ⟨g, hg⟩ : ∃ g, g = wr.heap.size := ⟨_, rfl⟩
   have a1 : AtN W g [.bool xm, .slice xa xn xc, .slice xp xq xr] 56 ∧ Below wr.heap.size wr W := by rw [hW, hg]; exact box1 wr [.bool xm, .slice xa xn xc, .slice xp xq xr] 56
   rw [← hg]
   have HN0 : Hid (some g ≠ (Value.slice oo (pickT f (p.take k)).length c2).ownBlock) := by rw [Hid, blk_own]; intro e; have := (HS.out.1.rw.lt g e.symm).2; omega
   clear hW c0 c1 c2x hg
   have HS1 : Hid (Go1 w.heap.size 56 3 W oo (pickT f (p.take k)).length c2 zs ∧ Tms (TmC (K + 1) W) zs (pickT f (p.take k)) ∧ Below w.heap.size w W) := ⟨HS.out.1.below a1.2, HS.out.2.1.imp (fun _ _ h => h.below a1.2), Below.steps HS.out.2.2 a1.2⟩
   have HT1 := hid (And.intro (HT.out.1.below a1.2) (HT.out.2.below a1.2)); obtain ⟨c0, c1, c2x⟩ := a1.1.c3; have HA1 := hid a1.1; clear a1 HS HT; have HC := hid (HFK.out W HS1.out.2.2 _ _ _ HT1.out.2); clear HFK
   by_cases hy0 : y = 0
   ·have hd : (y != 0) = false := by simpa using hy0
    have HN2 : Hid (pickT f (p.take (k + 1)) = pickT f (p.take k)) := by rw [Hid, HN.out, if_pos hy0, List.append_nil]
    go_wp2_with (go_at_fn G; refine HC.out.mono ?_; rintro e w2 ⟨ro, rn, rc, rfl, hM, hB⟩; have HS2 : Hid (Go1 w.heap.size 56 3 w2 oo (pickT f (p.take k)).length c2 zs ∧ Tms (TmC (K + 1) w2) zs (pickT f (p.take k)) ∧ Below w.heap.size w w2) := ⟨HS1.out.1.below hB, HS1.out.2.1.imp (fun _ _ h => h.below hB), Below.steps HS1.out.2.2 hB⟩; clear c0 c1 c2x hM hB HS1 HT1 HA1)
    rw [HKK.out, ← HN2.out]
    go_roundw
    case rel => exact ⟨k + 1, c2, oo, zs, by go_num, rfl, by omega, by rw [HN2.out]; exact HS2.out⟩
    case measure => simp [intOf]; omega
   ·have hd : (y != 0) = true := by simpa using hy0
    have HQ : Hid (pickT f (p.take (k + 1)) = pickT f (p.take k) ++ [((p[k]).1 * y, m2)]) := by rw [Hid, HN.out, if_neg hy0]
    have HCP := HC
    go_wp2_with (first | (go_at_fn G; refine HC.out.mono ?_; rintro e w2 ⟨ro, rn, rc, rfl, hM, hB⟩; have HS2 : Hid (Go1 w.heap.size 56 3 w2 oo (pickT f (p.take k)).length c2 zs ∧ Tms (TmC (K + 1) w2) zs (pickT f (p.take k)) ∧ Below w.heap.size w w2) := ⟨HS1.out.1.below hB, HS1.out.2.1.imp (fun _ _ h => h.below hB), Below.steps HS1.out.2.2 hB⟩; have HA2 := hid (HA1.out.below hB); have HC2 := hid (And.intro (HT1.out.1.below hB) hM); clear c0 c1 c2x hM hB HS1 HT1 HA1) | fail)
    rw [HKK.out]
    have hlen3 : (pickT f (p.take k)).length ≤ k := by rw [← HKK.out]; exact hkk2
    have HNE : Hid (some g ≠ (Value.slice oo (pickT f (p.take k)).length c2).ownBlock) := HN0.out
    go_upto_region 7 with (fail)
    refine wp_region_held_drew (S := fun w' => w'.cell? ⟨g, 0, none⟩ = some (.bool xm) ∧ w'.cell? ⟨g, 1, none⟩ = some (.slice xa xn xc)) (by kernel_rfl) (by have h := (HA2.out.below (Below.refl _ _).drew).c3; exact ⟨h.1, h.2.1⟩) (fun hH => ?_)
    refine anyH_world (fun w4 hW => ?_)
    have HS4 : Hid (Go1 w.heap.size 56 3 w4 oo (pickT f (p.take k)).length c2 zs ∧ Tms (TmC (K + 1) w4) zs (pickT f (p.take k)) ∧ Below w.heap.size w w4) := by rw [hW]; exact ⟨HS2.out.1.below (Below.refl _ _).drew, HS2.out.2.1.imp (fun _ _ h => h.below (Below.refl _ _).drew), Below.steps HS2.out.2.2 (Below.refl _ _).drew⟩
    have HA4 : Hid (AtN w4 g [.bool xm, .slice xa xn xc, .slice xp xq xr] 56) := by rw [hW]; exact HA2.out.below (Below.refl _ _).drew
    have HC4 : Hid (Cn w4 xm xa xn xc (p[k]).1 ∧ Ml w4 ro rn rc m2) := by rw [hW]; exact ⟨HC2.out.1.below (Below.refl _ _).drew, HC2.out.2.below (Below.refl _ _).drew⟩
    rw [← hW] at hH; clear HS2 HA2 HC2
    clear hW
    refine son 0 hH ?_; try simp only [nrm]
    refine son 1 hH ?_; try simp only [nrm]
    refine son 2 hH ?_; try simp only [nrm]
    refine son 3 hH ?_; try simp only [nrm]
    refine son 6 hH ?_; try simp only [nrm]
    refine step_one 4 rfl (by kernel_rfl) (fun KK hK => ?_)
    go_simp; refine (wof_any y _ HY.out).mono ?_
    rintro e w5 ⟨om, ob, on2, oc, rfl, hX, hB⟩
    have HS5 : Hid (Go1 w.heap.size 56 3 w5 oo (pickT f (p.take k)).length c2 zs ∧ Tms (TmC (K + 1) w5) zs (pickT f (p.take k)) ∧ Below w.heap.size w w5) := ⟨HS4.out.1.below hB, HS4.out.2.1.imp (fun _ _ h => h.below hB), Below.steps HS4.out.2.2 hB⟩
    have HA5 := hid (HA4.out.below hB); have HC5 := hid (And.intro (HC4.out.1.below hB) (HC4.out.2.below hB)); have HO5 := hid hX; clear HS4 HA4 HC4 hX hB; go_wp2_with fail
    clear hH; refine hK.out _ _ ⟨HA5.out.c3.1, HA5.out.c3.2.1⟩ fun hH => ?_; clear hK KK
    try simp only [nrm]
    refine step_one 5 rfl (by kernel_rfl) (fun KK hK => ?_)
    go_simp
    refine (wmul_any (HC5.out.1.cx HBD.out (by omega)).nx (HO5.out.cx HYB.out (by omega)).nx).mono ?_
    rintro e w6 ⟨sm, sa, sn, sc, rfl, hX, hB⟩
    have HS6 : Hid (Go1 w.heap.size 56 3 w6 oo (pickT f (p.take k)).length c2 zs ∧ Tms (TmC (K + 1) w6) zs (pickT f (p.take k)) ∧ Below w.heap.size w w6) := ⟨HS5.out.1.below hB, HS5.out.2.1.imp (fun _ _ h => h.below hB), Below.steps HS5.out.2.2 hB⟩
    have HA6 := hid (HA5.out.below hB)
    have HT6 : Hid (TmC (K + 1) w6 [.bool sm, .slice sa sn sc, .slice ro rn rc] ((p[k]).1 * y, m2)) := ⟨_, _, _, _, _, _, _, rfl, hX, HBD.out.mul HYB.out, HC5.out.2.below hB⟩
    clear HS5 HA5 HC5 HO5 hX hB; go_wp2_with fail
    clear hH; refine hK.out _ _ ⟨HA6.out.c3.1, HA6.out.c3.2.1⟩ fun hH => ?_; clear hK KK
    try simp only [nrm]
    refine son 7 hH ?_; try simp only [nrm]
    refine step_one 8 rfl (by kernel_rfl) (fun KK hK => ?_)
    go_simp
    clear hH; refine hK.out _ _ ⟨(HA6.out.below (below_alloc w6 _)).c3.1, (HA6.out.below (below_alloc w6 _)).c3.2.1⟩ fun hH => ?_; clear hK KK
    try simp only [nrm]
    refine step_one 9 rfl (by kernel_rfl) (fun KK hK => ?_)
    refine wp_joinG _ w (.tmp 25) (.tmp 33) 26 rfl w.heap.size 56 3 56 i0 (.agg #[.bool false, .slice none 0 0, .slice none 0 0]) Tryz.underlying26 hi hz0 hz1 hz2 rfl (by omega) oo _ c2 zs rfl (HS6.out.1.below (below_alloc w6 _)) _ 1 1 [[.bool sm, .slice sa sn sc, .slice ro rn rc]] rfl (Gl.lit 3 w6 _ _ rfl (by simp [Value.oneCell'])) (HS6.out.2.2.alloc HS6.out.2.2.size _) (by have := HS6.out.2.2.size; simp; omega) (by omega) (by omega) (by simp [Value.cells, notInt]) (by simp [notInt]) ?_
    intro o8 c8 w8 hO hB8 hG8
    have HS8 : Hid (Go1 w.heap.size 56 3 w8 o8 (pickT f (p.take (k + 1))).length c8 (zs ++ [[.bool sm, .slice sa sn sc, .slice ro rn rc]]) ∧ Tms (TmC (K + 1) w8) (zs ++ [[.bool sm, .slice sa sn sc, .slice ro rn rc]]) (pickT f (p.take (k + 1))) ∧ Below w.heap.size w w8) := by rw [Hid, HQ.out]; exact ⟨by rw [List.length_append]; exact hO, Tms.append (HS6.out.2.1.imp (fun _ _ h => (h.below (below_alloc w6 _)).stays (HS6.out.1.below (below_alloc w6 _)) hG8)) ⟨(HT6.out.below (below_alloc w6 _)).stays (HS6.out.1.below (below_alloc w6 _)) hG8, trivial⟩, hB8⟩
    have HA8 : Hid (AtN w8 g [.bool xm, .slice xa xn xc, .slice xp xq xr] 56) := (HA6.out.below (below_alloc w6 _)).apart hG8 HNE.out
    have HL8 : Hid ((pickT f (p.take (k + 1))).length = (pickT f (p.take k)).length + 1) := by rw [Hid, HQ.out]; simp
    clear HS6 HA6 HT6 hO hB8 hG8 HQ
    clear hH; refine hK.out _ _ ⟨HA8.out.c3.1, HA8.out.c3.2.1⟩ fun hH => ?_; clear hK KK
    try simp only [nrm]
    refine son 10 hH ?_; try simp only [nrm]
    refine wpAnyH_done (by kernel_rfl) ?_ _
    go_wp2_with fail; rw [← HL8.out]
    go_roundw
    case rel => exact ⟨k + 1, c8, o8, _, by go_num, rfl, by omega, HS8.out⟩
    case measure => simp [intOf]; omega
  ·obtain rfl : n = k := by omega
   have hfull : p.take n = p := List.take_of_length_le (by rw [HP.out.len]; exact Nat.le_refl _)
   have h := HS.out; rw [hfull] at h ⊢; clear hfull; have HH := hid h; clear h HS
   go_wp2
   go_ret
   exact ⟨_, _, _, rfl, ⟨_, HH.out.1.rw, HH.out.2.1⟩, HH.out.2.2⟩
open Lib (hid)
def cfF (v e : Int) (m : List (Int × Int)) : List (Int × Int) × Int := if expo m v = e then (outM v m, 1) else ([], 0)
def tlF (v e : Int) (m : List (Int × Int)) : List (Int × Int) × Int := if expo m v = e then ([], 0) else (m, 1)
def drF (v : Int) (m : List (Int × Int)) : List (Int × Int) × Int := if 0 < expo m v then (subM m v, expo m v) else ([], 0)
theorem pick_cf (p : List Term) (v e : Int) : pickT (cfF v e) p = coefP p v e := by
 unfold pickT coefP
 have h1 : ∀ t : Term, (!((cfF v e t.2).2 == 0)) = (expo t.2 v == e) := fun t => by
  unfold cfF
  by_cases h : expo t.2 v = e <;> simp [h]
 rw [List.filter_congr (fun t _ => h1 t)]
 refine List.map_congr_left fun t ht => ?_
 have h2 : expo t.2 v = e := by simpa using (List.mem_filter.1 ht).2
 unfold cfF
 rw [if_pos h2]
 simp
theorem pick_tl (p : List Term) (v e : Int) : pickT (tlF v e) p = p.filter fun t => !(expo t.2 v == e) := by
 unfold pickT
 have h1 : ∀ t : Term, (!((tlF v e t.2).2 == 0)) = !(expo t.2 v == e) := fun t => by
  unfold tlF
  by_cases h : expo t.2 v = e <;> simp [h]
 rw [List.filter_congr (fun t _ => h1 t)]
 refine (List.map_congr_left (g := id) fun t ht => ?_).trans (List.map_id _)
 have h2 : ¬ expo t.2 v = e := by simpa using (List.mem_filter.1 ht).2
 unfold tlF
 rw [if_neg h2]
 simp
theorem pick_dr (p : List Term) (v : Int) : pickT (drF v) p = derP p v := by
 unfold pickT derP
 have h1 : ∀ t : Term, (!((drF v t.2).2 == 0)) = decide (0 < expo t.2 v) := fun t => by
  unfold drF
  by_cases h : 0 < expo t.2 v
  ·rw [if_pos h, decide_eq_true h]
   simp
   omega
  ·rw [if_neg h, decide_eq_false h]; rfl
 rw [List.filter_congr (fun t _ => h1 t)]
 refine List.map_congr_left fun t ht => ?_
 have h2 : 0 < expo t.2 v := by simpa using (List.mem_filter.1 ht).2
 unfold drF derT
 rw [if_pos h2]
theorem cf_bd {v e : Int} (m : List (Int × Int)) : -10000 ≤ (cfF v e m).2 ∧ (cfF v e m).2 ≤ 10000 := by unfold cfF; split <;> simp
theorem tl_bd {v e : Int} (m : List (Int × Int)) : -10000 ≤ (tlF v e m).2 ∧ (tlF v e m).2 ≤ 10000 := by unfold tlF; split <;> simp
theorem dr_bd {v : Int} {m : List (Int × Int)} (h : mayM 0 m = true) : -10000 ≤ (drF v m).2 ∧ (drF v m).2 ≤ 10000 := by
 have := may_bd h v
 unfold drF
 split
 ·simp only []; omega
 ·simp
theorem over_one {m : List (Int × Int)} (hm : mayM 0 m = true) (v : Int) : ∃ er, (joinR (fun x y => x - y) 5 m [(v, 1)] = if 0 < expo m v then (subM m v, 0) else ([], er)) ∧ er ≠ 0 := by
 unfold joinR
 by_cases hv : mayM 0 [(v, 1)] = true
 ·have hv2 : 1 ≤ v ∧ v ≤ 200 := by
   unfold mayM okP at hv
   simp only [Bool.and_eq_true, decide_eq_true_eq] at hv
   omega
  rw [if_pos ⟨hm, hv⟩]
  refine ⟨5, ?_, by omega⟩
  show (if mayM 0 (subM m v) = true then (subM m v, (0 : Int)) else ([], 5)) = _
  by_cases h : 0 < expo m v
  ·rw [if_pos h, if_pos ((subM_may hm hv2).2 h)]
  ·rw [if_neg h, if_neg (fun g => h ((subM_may hm hv2).1 g))]
 ·rw [if_neg (fun g => hv g.2)]
  refine ⟨2, ?_, by omega⟩
  rw [if_neg]
  intro h
  exact hv (one_may (var_of hm h))
theorem coefFn_any [Ol] {x y : Nat} {v e0 : Int} {mo : Option Addr} {mn mc : Nat} {m : List (Int × Int)} {w : World} (hx : At1 w x (.int .i64 v) 3) (hy : At1 w y (.int .i64 e0) 3) (hm : Ml w mo mn mc m) (h : mayM 0 m = true) :
  Calls Tryz.prog 76 #[.slice mo mn mc, .pointer (some ⟨x, 0, none⟩), .pointer (some ⟨y, 0, none⟩)] w (NewME w (cfF v e0 m).1 (cfF v e0 m).2) := by
 have HX := hid hx; have HY := hid hy; have HM := hid hm; have HH := hid h; obtain ⟨z, hz⟩ : ∃ z, expo m v = z := ⟨_, rfl⟩
 have HZ : Hid (exE m v = z) := by rw [Hid, exE_yes h]; exact hz
 have HR : Hid (cfF v e0 m = if z = e0 then (outM v m, 1) else ([], 0)) := by rw [Hid, ← hz]; rfl
 clear hx hy hm h hz
 by_cases hze : z = e0
 ·have HR2 : Hid (cfF v e0 m = (outM v m, 1)) := by rw [Hid, HR.out, if_pos hze]
  rw [HR2.out]
  have hd : (z != e0) = false := by simpa using hze
  go_enter Tryz.func76, Tryz.ntmps76
  go_upto_region 1 with (fail)
  refine wp_region_held_drew (S := fun w' => w'.cell? ⟨x, 0, none⟩ = some (.int .i64 v) ∧ w'.cell? ⟨y, 0, none⟩ = some (.int .i64 e0)) (by kernel_rfl) ⟨(HX.out.below (Below.refl _ _).drew).cell, (HY.out.below (Below.refl _ _).drew).cell⟩ (fun hH => ?_)
  refine anyH_world (fun w1 hW => ?_)
  have HS1 : Hid (Below w.heap.size w w1) := by rw [hW]; exact (Below.refl _ _).drew
  rw [← hW] at hH; clear hW
  refine son 0 hH ?_; try simp only [nrm]
  refine son 1 hH ?_; try simp only [nrm]
  refine son 3 hH ?_; try simp only [nrm]
  refine step_one 2 rfl (by kernel_rfl) (fun KK hK => ?_)
  go_simp; refine (degree_any (HM.out.below HS1.out) v z HZ.out).mono ?_
  rintro e w2 ⟨rfl, hB⟩
  have HS2 : Hid (Below w.heap.size w w2) := Below.steps HS1.out hB
  clear hB HS1; go_wp2_with fail
  clear hH; refine hK.out _ _ ⟨(HX.out.below HS2.out).cell, (HY.out.below HS2.out).cell⟩ fun hH => ?_; clear hK KK
  try simp only [nrm]
  refine son 4 hH ?_; try simp only [nrm]
  refine wpAnyH_done (by kernel_rfl) ?_ _
  have c0 := (HX.out.below HS2.out).cell; go_wp2_with fail; refine (without_any (HM.out.below HS2.out) v).mono ?_; rintro e w3 ⟨ro, rn, rc, rfl, hR, hB⟩; rw [orM_yes HH.out] at hR; clear c0; go_wp2_with fail
  go_ret2
  exact ⟨_, _, _, rfl, hR, Below.steps HS2.out hB⟩
 ·have HR2 : Hid (cfF v e0 m = ([], 0)) := by rw [Hid, HR.out, if_neg hze]
  rw [HR2.out]
  have hd : (z != e0) = true := by simpa using hze
  go_enter Tryz.func76, Tryz.ntmps76
  go_upto_region 1 with (fail)
  refine wp_region_held_drew (S := fun w' => w'.cell? ⟨x, 0, none⟩ = some (.int .i64 v) ∧ w'.cell? ⟨y, 0, none⟩ = some (.int .i64 e0)) (by kernel_rfl) ⟨(HX.out.below (Below.refl _ _).drew).cell, (HY.out.below (Below.refl _ _).drew).cell⟩ (fun hH => ?_)
  refine anyH_world (fun w1 hW => ?_)
  have HS1 : Hid (Below w.heap.size w w1) := by rw [hW]; exact (Below.refl _ _).drew
  rw [← hW] at hH; clear hW
  refine son 0 hH ?_; try simp only [nrm]
  refine son 1 hH ?_; try simp only [nrm]
  refine son 3 hH ?_; try simp only [nrm]
  refine step_one 2 rfl (by kernel_rfl) (fun KK hK => ?_)
  go_simp; refine (degree_any (HM.out.below HS1.out) v z HZ.out).mono ?_
  rintro e w2 ⟨rfl, hB⟩
  have HS2 : Hid (Below w.heap.size w w2) := Below.steps HS1.out hB
  clear hB HS1; go_wp2_with fail
  clear hH; refine hK.out _ _ ⟨(HX.out.below HS2.out).cell, (HY.out.below HS2.out).cell⟩ fun hH => ?_; clear hK KK
  try simp only [nrm]
  refine son 4 hH ?_; try simp only [nrm]
  refine wpAnyH_done (by kernel_rfl) ?_ _
  go_wp2_with fail
  go_ret2
  exact ⟨_, _, _, rfl, Ml.zero w2, HS2.out⟩
theorem tailFn_any [Ol] {x y : Nat} {v e0 : Int} {mo : Option Addr} {mn mc : Nat} {m : List (Int × Int)} {w : World} (hx : At1 w x (.int .i64 v) 3) (hy : At1 w y (.int .i64 e0) 3) (hm : Ml w mo mn mc m) (h : mayM 0 m = true) :
  Calls Tryz.prog 47 #[.slice mo mn mc, .pointer (some ⟨x, 0, none⟩), .pointer (some ⟨y, 0, none⟩)] w (NewME w (tlF v e0 m).1 (tlF v e0 m).2) := by
 have HX := hid hx; have HY := hid hy; have HM := hid hm; have HH := hid h; obtain ⟨z, hz⟩ : ∃ z, expo m v = z := ⟨_, rfl⟩
 have HZ : Hid (exE m v = z) := by rw [Hid, exE_yes h]; exact hz
 have HR : Hid (tlF v e0 m = if z = e0 then ([], 0) else (m, 1)) := by rw [Hid, ← hz]; rfl
 clear hx hy hm h hz
 by_cases hze : z = e0
 ·have HR2 : Hid (tlF v e0 m = ([], 0)) := by rw [Hid, HR.out, if_pos hze]
  rw [HR2.out]
  have hd : (z == e0) = true := by simpa using hze
  go_enter Tryz.func47, Tryz.ntmps47
  go_upto_region 1 with (fail)
  refine wp_region_held_drew (S := fun w' => w'.cell? ⟨x, 0, none⟩ = some (.int .i64 v) ∧ w'.cell? ⟨y, 0, none⟩ = some (.int .i64 e0)) (by kernel_rfl) ⟨(HX.out.below (Below.refl _ _).drew).cell, (HY.out.below (Below.refl _ _).drew).cell⟩ (fun hH => ?_)
  refine anyH_world (fun w1 hW => ?_)
  have HS1 : Hid (Below w.heap.size w w1) := by rw [hW]; exact (Below.refl _ _).drew
  rw [← hW] at hH; clear hW
  refine son 0 hH ?_; try simp only [nrm]
  refine son 1 hH ?_; try simp only [nrm]
  refine son 3 hH ?_; try simp only [nrm]
  refine step_one 2 rfl (by kernel_rfl) (fun KK hK => ?_)
  go_simp; refine (degree_any (HM.out.below HS1.out) v z HZ.out).mono ?_
  rintro e w2 ⟨rfl, hB⟩
  have HS2 : Hid (Below w.heap.size w w2) := Below.steps HS1.out hB
  clear hB HS1; go_wp2_with fail
  clear hH; refine hK.out _ _ ⟨(HX.out.below HS2.out).cell, (HY.out.below HS2.out).cell⟩ fun hH => ?_; clear hK KK
  try simp only [nrm]
  refine son 4 hH ?_; try simp only [nrm]
  refine wpAnyH_done (by kernel_rfl) ?_ _
  go_wp2_with fail
  go_ret2
  exact ⟨_, _, _, rfl, Ml.zero w2, HS2.out⟩
 ·have HR2 : Hid (tlF v e0 m = (m, 1)) := by rw [Hid, HR.out, if_neg hze]
  rw [HR2.out]
  have hd : (z == e0) = false := by simpa using hze
  go_enter Tryz.func47, Tryz.ntmps47
  go_upto_region 1 with (fail)
  refine wp_region_held_drew (S := fun w' => w'.cell? ⟨x, 0, none⟩ = some (.int .i64 v) ∧ w'.cell? ⟨y, 0, none⟩ = some (.int .i64 e0)) (by kernel_rfl) ⟨(HX.out.below (Below.refl _ _).drew).cell, (HY.out.below (Below.refl _ _).drew).cell⟩ (fun hH => ?_)
  refine anyH_world (fun w1 hW => ?_)
  have HS1 : Hid (Below w.heap.size w w1) := by rw [hW]; exact (Below.refl _ _).drew
  rw [← hW] at hH; clear hW
  refine son 0 hH ?_; try simp only [nrm]
  refine son 1 hH ?_; try simp only [nrm]
  refine son 3 hH ?_; try simp only [nrm]
  refine step_one 2 rfl (by kernel_rfl) (fun KK hK => ?_)
  go_simp; refine (degree_any (HM.out.below HS1.out) v z HZ.out).mono ?_
  rintro e w2 ⟨rfl, hB⟩
  have HS2 : Hid (Below w.heap.size w w2) := Below.steps HS1.out hB
  clear hB HS1; go_wp2_with fail
  clear hH; refine hK.out _ _ ⟨(HX.out.below HS2.out).cell, (HY.out.below HS2.out).cell⟩ fun hH => ?_; clear hK KK
  try simp only [nrm]
  refine son 4 hH ?_; try simp only [nrm]
  refine wpAnyH_done (by kernel_rfl) ?_ _
  go_wp2_with fail; refine (clone_any (HM.out.below HS2.out)).mono ?_
  rintro e w3 ⟨ro, rn, rc, rfl, hR, hB⟩; go_wp2_with fail
  go_ret2
  exact ⟨_, _, _, rfl, hR.ml, Below.steps HS2.out hB⟩
theorem powerOf_any [Ol] {v e : Int} (hv : in64 v) (he : in64 e) (w : World) : Calls Tryz.prog 52 #[.int .i64 v, .int .i64 e] w (NewM w (powM v e)) := by
 by_cases h0 : e = 0
 ·have hd : (e == 0) = true := by simpa using h0
  have HR : Hid (powM v e = []) := if_pos h0
  rw [HR.out]
  go_enter Tryz.func52, Tryz.ntmps52
  go_wp2_with fail
  go_ret
  exact ⟨_, _, _, rfl, Ml.zero w, Below.refl _ _⟩
 ·have hd : (e == 0) = false := by simpa using h0
  have HR : Hid (powM v e = [(v, e)]) := if_neg h0
  rw [HR.out]
  go_enter Tryz.func52, Tryz.ntmps52
  go_wp2_with fail
  go_ret
  exact ⟨_, _, _, rfl, Ml.lit w v e _ hv he, below_alloc _ _⟩
theorem derFn_any [Ol] {x : Nat} {v : Int} {mo : Option Addr} {mn mc : Nat} {m : List (Int × Int)} {w : World} (hx : At1 w x (.int .i64 v) 3) (hv : in64 v) (hm : Ml w mo mn mc m) (h : mayM 0 m = true) :
  Calls Tryz.prog 50 #[.slice mo mn mc, .pointer (some ⟨x, 0, none⟩)] w (NewME w (drF v m).1 (drF v m).2) := by
 obtain ⟨er, ho, he⟩ := over_one h v; have HX := hid hx; have HM := hid hm; have HH := hid h; have HV := hid hv; have c0 := hx.cell; clear hx hm h hv
 by_cases h0 : 0 < expo m v
 ·have HO : Hid (joinR (fun x y => x - y) 5 m [(v, 1)] = (subM m v, 0)) := by rw [Hid, ho, if_pos h0]
  have HR : Hid (drF v m = (subM m v, expo m v)) := if_pos h0
  rw [HR.out]; obtain ⟨z, hz⟩ : ∃ z, expo m v = z := ⟨_, rfl⟩
  have HZ : Hid (exE m v = z) := by rw [Hid, exE_yes HH.out]; exact hz
  rw [hz]; clear ho he h0 hz
  go_enter Tryz.func50, Tryz.ntmps50
  go_wp2_with fail
  refine (powerOf_any HV.out (by unfold in64; omega) w).mono ?_
  rintro e w1 ⟨po, pn, pc, rfl, hP, hB⟩; have HX1 := hid (HX.out.below hB); have HM1 := hid (HM.out.below hB)
  have HP1 : Hid (Ml w1 po pn pc [(v, 1)]) := hP
  have HB1 := hid hB; clear hP hB HX HM c0; go_wp2_with fail; refine (over_any HM1.out HP1.out).mono ?_; rw [HO.out]; rintro e w2 ⟨ro, rn, rc, rfl, hR, hB⟩; have HX2 := hid (HX1.out.below hB); have HM2 := hid (HM1.out.below hB); have HR2 := hid hR; have HB2 := hid (Below.steps HB1.out hB); have c0 := HX2.out.cell; clear hR hB HX1 HM1 HP1 HB1; go_wp2_with fail; refine (degree_any HM2.out v z HZ.out).mono ?_; rintro e w3 ⟨rfl, hB⟩; clear c0; go_wp2_with fail
  go_ret2
  exact ⟨_, _, _, rfl, HR2.out.below hB, Below.steps HB2.out hB⟩
 ·have HO : Hid (joinR (fun x y => x - y) 5 m [(v, 1)] = ([], er)) := by rw [Hid, ho, if_neg h0]
  have HR : Hid (drF v m = ([], 0)) := if_neg h0
  rw [HR.out]
  have hd : (er != 0) = true := by simpa using he
  clear ho he h0
  go_enter Tryz.func50, Tryz.ntmps50
  go_wp2_with fail
  refine (powerOf_any HV.out (by unfold in64; omega) w).mono ?_
  rintro e w1 ⟨po, pn, pc, rfl, hP, hB⟩; have HM1 := hid (HM.out.below hB)
  have HP1 : Hid (Ml w1 po pn pc [(v, 1)]) := hP
  have HB1 := hid hB; clear hP hB HX HM c0; go_wp2_with fail; refine (over_any HM1.out HP1.out).mono ?_; rw [HO.out]; rintro e w2 ⟨ro, rn, rc, rfl, hR, hB⟩; have HB2 := hid (Below.steps HB1.out hB); clear hR hB HM1 HP1 HB1; go_wp2_with fail
  go_ret2
  exact ⟨_, _, _, rfl, Ml.zero w2, HB2.out⟩
open Lib (hid)
theorem two_boxes (w : World) (u v : Value) (S T : TypeId) : At1 ((w.alloc (.cells #[u] S)).alloc (.cells #[v] T)) w.heap.size u S ∧ At1 ((w.alloc (.cells #[u] S)).alloc (.cells #[v] T)) (w.heap.size + 1) v T ∧ Below w.heap.size w ((w.alloc (.cells #[u] S)).alloc (.cells #[v] T)) := by
 have h1 := At1.new w u S; have h2 := At1.new (w.alloc (.cells #[u] S)) v T
 refine ⟨h1.below (below_alloc _ _), by simpa using h2, ?_⟩
 exact Below.steps (below_alloc w _) (below_alloc _ _)
section
variable {K : Nat} {ao : Option Addr} {n cap : Nat} {p : List Term} {ps : List Raw} {w : World}
theorem coef_any [Ol] (v e0 : Int) (hp : Pc K w ao n cap p) (hf : mays p) (hn : n ≤ 1000000) (hK : K ≤ 100000) :
  Calls Tryz.prog 44 #[.slice ao n cap, .int .i64 v, .int .i64 e0] w (NewPw (K + 1) w (coefP p v e0)) := by
 have eg : ∀ args w, (callFunc 76 args).run Tryz.prog w = .ok (.enter 76 args) w := enters_of Tryz.func76 (by kernel_rfl) rfl
 have hmf : ∀ (fn : Fn) (first cap : Array Value) (w : World), (Instr.makeFunc fn first cap).run Tryz.prog w = .ok (.func fn first cap) w := fun _ _ _ _ => rfl
 have hbx := two_boxes w (.int .i64 v) (.int .i64 e0) 3 3; obtain ⟨W, hW⟩ : ∃ W, W = (w.alloc (.cells #[.int .i64 v] 3)).alloc (.cells #[.int .i64 e0] 3) := ⟨_, rfl⟩; rw [← hW] at hbx
 have hC := pick_any eg (lb := #[.pointer (some ⟨w.heap.size, 0, none⟩), .pointer (some ⟨w.heap.size + 1, 0, none⟩)]) (cfF v e0) (hp.below hbx.2.2) hn hK (fun t _ => cf_bd t.2) (fun t ht V hV mo mn mc hm => coefFn_any (hbx.1.below hV) (hbx.2.1.below hV) hm (hf t ht))
 rw [pick_cf] at hC; have HC := hid hC
 have HB := hid hbx.2.2; have HW := hid hW; clear hC hbx hp hf hW eg
 go_enter Tryz.func44, Tryz.ntmps44
 go_wp2_with fail; rw [← HW.out]
 refine HC.out.mono ?_
 rintro e w2 ⟨ro, rn, rc, rfl, hR, hB⟩; go_wp2_with fail
 go_ret
 exact ⟨_, _, _, rfl, hR.mono HB.out.size (Nat.le_refl _), Below.steps HB.out hB⟩
theorem vInit_any [Ol] (hp : Pr w ao n cap ps) (hl : ∀ t ∈ ps, t.1.2.length ≤ K) (hn : n ≤ 1000000) (hK : K ≤ 1000) :
  Calls Tryz.prog 16 #[.slice ao n cap] w (NewPw (K + 1) w (initP (plnR ps))) := by
 have hfl := pln_fall hp.wfs
 go_enter Tryz.func16, Tryz.ntmps16
 go_wp2_with fail; refine (vorz_pc hp hl hK).mono ?_
 rintro e w1 ⟨bo, m, cb, rfl, hX, hmn, hB⟩; obtain ⟨p, hpp⟩ : ∃ p, plnR ps = p := ⟨_, rfl⟩; rw [hpp] at hX hfl; obtain ⟨c, hc⟩ : ∃ c, clsP p = c := ⟨_, rfl⟩; obtain ⟨d, hd⟩ : ∃ d, degP p c = d := ⟨_, rfl⟩
 have HI : Hid (initP (plnR ps) = coefP p c d) := by rw [Hid, hpp, ← hd, ← hc]; rfl
 have HX := hid hX; have HF := hid hfl; have HB := hid hB; clear hX hfl hB hpp hp hl; go_wp2_with fail; refine (vclass_any c HX.out HF.out hc).mono ?_; rintro e w2 ⟨rfl, hB⟩; have HX2 := hid (HX.out.below hB); have HB2 := hid (Below.steps HB.out hB); clear hB HX HB; go_wp2_with fail; refine (vdegree_any c d HX2.out (fall_mays HF.out) hd).mono ?_; rintro e w3 ⟨rfl, hB⟩; have HX3 := hid (HX2.out.below hB); have HB3 := hid (Below.steps HB2.out hB); clear hB HX2 HB2; go_wp2_with fail
 refine (coef_any c d HX3.out (fall_mays HF.out) (by omega) (by omega)).mono ?_
 rintro e w4 ⟨ro, rn, rc, rfl, hR, hB⟩; rw [← HI.out] at hR; go_wp2_with fail
 go_ret
 exact ⟨_, _, _, rfl, hR.mono HB3.out.size (Nat.le_refl _), Below.steps HB3.out hB⟩
theorem vTail_any [Ol] (hp : Pr w ao n cap ps) (hl : ∀ t ∈ ps, t.1.2.length ≤ K) (hn : n ≤ 1000000) (hK : K ≤ 1000) :
  Calls Tryz.prog 17 #[.slice ao n cap] w (NewPw (K + 1) w (tailP (plnR ps))) := by
 have hfl := pln_fall hp.wfs
 have eg : ∀ args w, (callFunc 47 args).run Tryz.prog w = .ok (.enter 47 args) w := enters_of Tryz.func47 (by kernel_rfl) rfl
 have hmf : ∀ (fn : Fn) (first cap : Array Value) (w : World), (Instr.makeFunc fn first cap).run Tryz.prog w = .ok (.func fn first cap) w := fun _ _ _ _ => rfl
 have EG := hid eg; clear eg
 go_enter Tryz.func17, Tryz.ntmps17
 go_wp2_with fail; refine (vorz_pc hp hl hK).mono ?_
 rintro e w1 ⟨bo, m, cb, rfl, hX, hmn, hB⟩; obtain ⟨p, hpp⟩ : ∃ p, plnR ps = p := ⟨_, rfl⟩; rw [hpp] at hX hfl; obtain ⟨c, hc⟩ : ∃ c, clsP p = c := ⟨_, rfl⟩; obtain ⟨d, hd⟩ : ∃ d, degP p c = d := ⟨_, rfl⟩
 have HI : Hid (tailP (plnR ps) = p.filter fun t => !(expo t.2 c == d)) := by rw [Hid, hpp, ← hd, ← hc]; rfl
 have HX := hid hX; have HF := hid hfl; have HB := hid hB; clear hX hfl hB hpp hp hl; go_wp2_with fail; refine (vclass_any c HX.out HF.out hc).mono ?_; rintro e w2 ⟨rfl, hB⟩; have HX2 := hid (HX.out.below hB); have HB2 := hid (Below.steps HB.out hB); clear hB HX HB
 go_upto_region 3 with (fail)
 refine wp_world (fun W hW => ?_)
 obtain ⟨g, hg⟩ : ∃ g, g = w2.heap.size := ⟨_, rfl⟩
 have HA : Hid (At1 W g (.int .i64 c) 3) := by rw [hW, hg]; exact At1.new w2 _ _
 have HX3 : Hid (Pc K W bo m cb p) := by rw [hW]; exact HX2.out.below (below_alloc _ _)
 have HB3 : Hid (Below w.heap.size w W) := by rw [hW]; exact Below.steps HB2.out (below_alloc _ _)
 rw [← hg]; have c0 := HA.out.cell
 clear hW hg HX2 HB2; go_wp2_with fail; refine (vdegree_any c d HX3.out (fall_mays HF.out) hd).mono ?_; rintro e w3 ⟨rfl, hB⟩; have HX4 := hid (HX3.out.below hB); have HA4 := hid (HA.out.below hB); have HB4 := hid (Below.steps HB3.out hB); clear hB HX3 HB3 HA c0
 go_upto_region 4 with (fail)
 refine wp_world (fun W2 hW => ?_)
 obtain ⟨g2, hg⟩ : ∃ g2, g2 = w3.heap.size := ⟨_, rfl⟩
 have HA5 : Hid (At1 W2 g (.int .i64 c) 3 ∧ At1 W2 g2 (.int .i64 d) 3) := by rw [hW, hg]; exact ⟨HA4.out.below (below_alloc _ _), At1.new w3 _ _⟩
 have HX5 : Hid (Pc K W2 bo m cb p) := by rw [hW]; exact HX4.out.below (below_alloc _ _)
 have HB5 : Hid (Below w.heap.size w W2) := by rw [hW]; exact Below.steps HB4.out (below_alloc _ _)
 rw [← hg]; clear hW hg HX4 HB4 HA4
 have hC := pick_any EG.out (lb := #[.pointer (some ⟨g, 0, none⟩), .pointer (some ⟨g2, 0, none⟩)]) (tlF c d) HX5.out (by omega) (by omega) (fun t _ => tl_bd t.2) (fun t ht V hV mo mn mc hm => tailFn_any (HA5.out.1.below hV) (HA5.out.2.below hV) hm (fall_mays HF.out t ht))
 rw [pick_tl] at hC; have HC := hid hC
 clear hC; go_wp2_with fail
 refine HC.out.mono ?_
 rintro e w4 ⟨ro, rn, rc, rfl, hR, hB⟩; rw [← HI.out] at hR; go_wp2_with fail
 go_ret
 exact ⟨_, _, _, rfl, hR.mono HB5.out.size (Nat.le_refl _), Below.steps HB5.out hB⟩
theorem vDer_any [Ol] (v : Int) (hv : in64 v) (hp : Pr w ao n cap ps) (hl : ∀ t ∈ ps, t.1.2.length ≤ K) (hn : n ≤ 1000000) (hK : K ≤ 1000) :
  Calls Tryz.prog 18 #[.slice ao n cap, .int .i64 v] w (NewPw (K + 1) w (derP (plnR ps) v)) := by
 have hfl := pln_fall hp.wfs
 have eg : ∀ args w, (callFunc 50 args).run Tryz.prog w = .ok (.enter 50 args) w := enters_of Tryz.func50 (by kernel_rfl) rfl
 have hmf : ∀ (fn : Fn) (first cap : Array Value) (w : World), (Instr.makeFunc fn first cap).run Tryz.prog w = .ok (.func fn first cap) w := fun _ _ _ _ => rfl
 have EG := hid eg; obtain ⟨W, hW⟩ : ∃ W, W = w.alloc (.cells #[.int .i64 v] 3) := ⟨_, rfl⟩
 have HA : Hid (At1 W w.heap.size (.int .i64 v) 3) := by rw [hW]; exact At1.new w _ _
 have HB : Hid (Below w.heap.size w W) := by rw [hW]; exact below_alloc _ _
 have HP := hid (hp.below HB.out); have HW := hid hW; clear eg hW hp
 go_enter Tryz.func18, Tryz.ntmps18
 go_wp2_with fail; rw [← HW.out]
 refine (vorz_pc HP.out hl hK).mono ?_; rintro e w1 ⟨bo, m, cb, rfl, hX, hmn, hB⟩
 have HA1 := hid (HA.out.below hB); have HB1 := hid (Below.steps HB.out hB)
 have hC := pick_any EG.out (lb := #[.pointer (some ⟨w.heap.size, 0, none⟩)]) (drF v) hX (by omega) (by omega) (fun t ht => dr_bd (fall_mays hfl t ht)) (fun t ht V hV mo mn mc hm => derFn_any (HA1.out.below hV) hv hm (fall_mays hfl t ht))
 rw [pick_dr] at hC; have HC := hid hC
 clear hC hX hB HA HB HP HW; go_wp2_with fail
 refine HC.out.mono ?_
 rintro e w4 ⟨ro, rn, rc, rfl, hR, hB⟩; go_wp2_with fail
 go_ret
 exact ⟨_, _, _, rfl, hR.mono HB1.out.size (Nat.le_refl _), Below.steps HB1.out hB⟩
end
end Go.Proofs.YtmmgipcacceakaaGreat
