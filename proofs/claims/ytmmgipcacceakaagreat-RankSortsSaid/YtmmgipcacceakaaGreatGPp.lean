/- PPlain, POps, PDeg, PlJoinP -/
import Derived.Test.YtmmgipcacceakaaGreatMPlain
set_option maxHeartbeats 40000000
set_option maxRecDepth 100000
/- Polynomials in plain words: terms (a whole number, a monomial), what they are at a point; a falling list is told by its values. -/
namespace Go.Proofs.YtmmgipcacceakaaGreat
abbrev Term := Int × List (Int × Int)
def evE (f : Nat → Nat) (ρ : Nat → Int) : Nat → Int
 | 0 => 1
 | n + 1 => evE f ρ n * ρ n ^ f n
def exN (ps : List (Int × Int)) (u : Nat) : Nat := (expo ps (u : Int)).toNat
def evM (ps : List (Int × Int)) (ρ : Nat → Int) : Int := evE (exN ps) ρ 201
def ev : List Term → (Nat → Int) → Int
 | [], _ => 0
 | t :: r, ρ => t.1 * evM t.2 ρ + ev r ρ
theorem ev_append (p q : List Term) (ρ : Nat → Int) : ev (p ++ q) ρ = ev p ρ + ev q ρ := by
 induction p with
 | nil => simp [ev]
 | cons t r ih => simp only [List.cons_append, ev, ih]; omega
def negP (p : List Term) : List Term := p.map fun t => (-t.1, t.2)
theorem ev_neg (p : List Term) (ρ : Nat → Int) : ev (negP p) ρ = -ev p ρ := by
 induction p with
 | nil => simp [ev, negP]
 | cons t r ih =>
  simp only [negP, List.map_cons, ev] at ih ⊢
  rw [ih]; grind
def wtE (f : Nat → Nat) : Nat → Nat
 | 0 => 0
 | n + 1 => wtE f n + f n * 10001 ^ n
def wtM (ps : List (Int × Int)) : Nat := wtE (exN ps) 201
def ptB (B : Nat) (n : Nat) : Int := (B : Int) ^ (10001 ^ n)
theorem evE_pt (f : Nat → Nat) (B : Nat) : ∀ n, evE f (ptB B) n = (B : Int) ^ wtE f n
 | 0 => by simp [evE, wtE]
 | n + 1 => by
  simp only [evE, wtE]
  rw [evE_pt f B n, Int.pow_add]
  congr 1
  unfold ptB
  rw [← Int.pow_mul, Nat.mul_comm]
theorem evM_pt (ps : List (Int × Int)) (B : Nat) : evM ps (ptB B) = (B : Int) ^ wtM ps := evE_pt _ _ _
theorem wtE_lt (f : Nat → Nat) (hf : ∀ u, f u ≤ 10000) : ∀ n, wtE f n < 10001 ^ n
 | 0 => by simp [wtE]
 | n + 1 => by
  simp only [wtE]
  have h1 := wtE_lt f hf n
  have h2 : f n * 10001 ^ n ≤ 10000 * 10001 ^ n := Nat.mul_le_mul_right _ (hf n)
  rw [Nat.pow_succ]
  omega
theorem wtE_less {f g : Nat → Nat} (hg : ∀ u, g u ≤ 10000) {v : Nat} (hv : g v < f v) : ∀ n, v < n → (∀ u, v < u → u < n → f u = g u) → wtE g n < wtE f n
 | 0, h, _ => by omega
 | n + 1, h, he => by
  simp only [wtE]
  by_cases hn : v = n
  ·subst hn
   have h1 := wtE_lt g hg v
   have h2 : (g v + 1) * 10001 ^ v ≤ f v * 10001 ^ v := Nat.mul_le_mul_right _ hv
   rw [Nat.add_mul] at h2
   omega
  ·rw [he n (by omega) (by omega)]
   have := wtE_less hg hv n (by omega) (fun u h1 h2 => he u h1 (by omega))
   omega
theorem exN_le {ps : List (Int × Int)} (h : mayM 0 ps = true) (u : Nat) : exN ps u ≤ 10000 := by
 have := may_bd h (u : Int)
 unfold exN; omega
def gtM (a b : List (Int × Int)) : Prop := IsCmp 1 (expo a) (expo b)
theorem wtM_lt {a b : List (Int × Int)} (ha : mayM 0 a = true) (hb : mayM 0 b = true) (h : gtM a b) : wtM b < wtM a := by
 rcases h with ⟨h, _⟩ | ⟨_, h, _⟩ | ⟨v, _, h1, h2⟩
 ·omega
 ·omega
 ·have hv : 1 ≤ v ∧ v ≤ 200 := Classical.byContradiction fun hn => by rw [may_out ha (by omega), may_out hb (by omega)] at h1; omega
  obtain ⟨n, rfl⟩ : ∃ n : Nat, v = (n : Int) := ⟨v.toNat, by omega⟩
  refine wtE_less (v := n) (exN_le hb) ?_ 201 (by omega) fun u h3 _ => ?_
  ·have := (may_bd hb n).1
   unfold exN; omega
  ·unfold exN; rw [h2 u (by omega)]
def sumC : List Term → Nat
 | [] => 0
 | t :: r => t.1.natAbs + sumC r
theorem ev_bound (B : Nat) (hB : 1 ≤ B) (w : Nat) : ∀ (p : List Term), (∀ t ∈ p, wtM t.2 ≤ w) → (ev p (ptB B)).natAbs ≤ sumC p * B ^ w
 | [], _ => by simp [ev, sumC]
 | t :: r, h => by
  have ih := ev_bound B hB w r (fun s hs => h s (by simp [hs]))
  have h1 : B ^ wtM t.2 ≤ B ^ w := Nat.pow_le_pow_right hB (h t (by simp))
  simp only [ev, sumC]
  have h2 : (t.1 * evM t.2 (ptB B)).natAbs ≤ t.1.natAbs * B ^ w := by
   rw [Int.natAbs_mul, evM_pt, Int.natAbs_pow]
   exact Nat.mul_le_mul_left _ h1
  have h3 := Int.natAbs_add_le (t.1 * evM t.2 (ptB B)) (ev r (ptB B)); rw [Nat.add_mul]
  omega
theorem ev_lead {t : Term} {r : List Term} (h0 : t.1 ≠ 0) (ht : mayM 0 t.2 = true) (hr : ∀ s ∈ r, mayM 0 s.2 = true ∧ gtM t.2 s.2) (B : Nat) (hB : sumC r < B) : ev (t :: r) (ptB B) ≠ 0 := by
 intro he
 have hw : ∀ s ∈ r, wtM s.2 < wtM t.2 := fun s hs => wtM_lt ht (hr s hs).1 (hr s hs).2
 simp only [ev] at he
 have h1 : (ev r (ptB B)).natAbs = t.1.natAbs * B ^ wtM t.2 := by
  have : ev r (ptB B) = -(t.1 * evM t.2 (ptB B)) := by omega
  rw [this, Int.natAbs_neg, Int.natAbs_mul, evM_pt, Int.natAbs_pow]
  rfl
 cases hwt : wtM t.2 with
 | zero =>
  match r, hw with
  | [], _ =>
   simp [ev] at h1
   have : 0 < B := by omega
   rw [hwt] at h1
   simp at h1
   omega
  | s :: q, hw =>
   have := hw s (by simp)
   omega
 | succ w =>
  have h2 := ev_bound B (by omega) w r (fun s hs => by have := hw s hs; omega)
  rw [h1, hwt, Nat.pow_succ] at h2
  have h3 : 0 < B ^ w := Nat.pow_pos (by omega)
  have h4 : 1 ≤ t.1.natAbs := by omega
  have h5 : B * B ^ w ≤ t.1.natAbs * (B ^ w * B) := by
   rw [Nat.mul_comm B]
   exact Nat.le_mul_of_pos_left _ h4
  have h6 : sumC r * B ^ w < B * B ^ w := Nat.mul_lt_mul_of_pos_right hB h3
  omega
def fall : List Term → Prop
 | [] => True
 | t :: r => t.1 ≠ 0 ∧ mayM 0 t.2 = true ∧ (∀ s ∈ r, gtM t.2 s.2) ∧ fall r
theorem fall_may : ∀ {p : List Term}, fall p → ∀ t ∈ p, mayM 0 t.2 = true
 | t :: r, h, s, hs => by
  rcases List.mem_cons.1 hs with rfl | hs
  ·exact h.2.1
  ·exact fall_may h.2.2.2 s hs
theorem fall_nz : ∀ {p : List Term}, fall p → ∀ t ∈ p, t.1 ≠ 0
 | t :: r, h, s, hs => by
  rcases List.mem_cons.1 hs with rfl | hs
  ·exact h.1
  ·exact fall_nz h.2.2.2 s hs
theorem gtM_trans {a b c : List (Int × Int)} (h : gtM a b) (k : gtM b c) : gtM a c := by
 rcases h with ⟨h, _⟩ | ⟨_, h, _⟩ | ⟨v, _, h1, h2⟩
 ·omega
 ·omega
 ·rcases k with ⟨k, _⟩ | ⟨_, k, _⟩ | ⟨u, _, k1, k2⟩
  ·omega
  ·omega
  ·rcases Int.lt_trichotomy u v with e | e | e
   ·exact .inr (.inr ⟨v, rfl, by rw [← k2 v e]; exact h1, fun t ht => by rw [h2 t ht, k2 t (by omega)]⟩)
   ·subst e; exact .inr (.inr ⟨u, rfl, by omega, fun t ht => by rw [h2 t ht, k2 t ht]⟩)
   ·exact .inr (.inr ⟨u, rfl, by rw [h2 u e]; exact k1, fun t ht => by rw [h2 t (by omega), k2 t ht]⟩)
theorem mono_ext {a b : List (Int × Int)} (ha : mayM 0 a = true) (hb : mayM 0 b = true) (h : ∀ v, expo a v = expo b v) : a = b := ris_ext (may_ris ha) (may_ris hb) h
theorem gtM_total {a b : List (Int × Int)} (ha : mayM 0 a = true) (hb : mayM 0 b = true) : gtM a b ∨ a = b ∨ gtM b a := by
 rcases cmpM_is ha hb with ⟨_, h⟩ | ⟨v, _, h1, h2⟩ | ⟨v, _, h1, h2⟩
 ·exact .inr (.inl (mono_ext ha hb h))
 ·exact .inr (.inr (.inr (.inr ⟨v, rfl, h1, fun u hu => (h2 u hu).symm⟩)))
 ·exact .inl (.inr (.inr ⟨v, rfl, h1, h2⟩))
theorem fall_ne {t : Term} {r : List Term} (h : fall (t :: r)) (B : Nat) (hB : sumC r < B) : ev (t :: r) (ptB B) ≠ 0 :=
 ev_lead h.1 h.2.1 (fun s hs => ⟨fall_may h.2.2.2 s hs, h.2.2.1 s hs⟩) B hB
theorem negP_mem {p : List Term} {s : Term} (h : s ∈ negP p) : ∃ t ∈ p, s = (-t.1, t.2) := by
 obtain ⟨t, ht, rfl⟩ := List.mem_map.1 h
 exact ⟨t, ht, rfl⟩
theorem fall_ext : ∀ {p q : List Term}, fall p → fall q → (∀ ρ, ev p ρ = ev q ρ) → p = q
 | [], [], _, _, _ => rfl
 | [], s :: q, _, hq, he => by
  exfalso
  refine fall_ne hq (sumC q + 1) (by omega) ?_
  rw [← he]; rfl
 | t :: p, [], hp, _, he => by
  exfalso
  refine fall_ne hp (sumC p + 1) (by omega) ?_
  rw [he]; rfl
 | t :: p, s :: q, hp, hq, he => by
  have H : ∀ {x : Term} {a b : List Term}, x.1 ≠ 0 → mayM 0 x.2 = true → (∀ y ∈ a, mayM 0 y.2 = true ∧ gtM x.2 y.2) → (∀ y ∈ b, mayM 0 y.2 = true ∧ gtM x.2 y.2) → (∀ ρ, ev (x :: a) ρ = ev b ρ) → False := by
   intro x a b h0 hm ha hb hab
   refine ev_lead (t := x) (r := a ++ negP b) h0 hm (fun y hy => ?_) (sumC (a ++ negP b) + 1) (by omega) ?_
   ·rcases List.mem_append.1 hy with hy | hy
    ·exact ha y hy
    ·obtain ⟨z, hz, rfl⟩ := negP_mem hy
     exact hb z hz
   ·have h1 := hab (ptB (sumC (a ++ negP b) + 1))
    simp only [ev, ev_append, ev_neg] at h1 ⊢
    omega
  have hpm : ∀ y ∈ p, mayM 0 y.2 = true ∧ gtM t.2 y.2 := fun y hy => ⟨fall_may hp.2.2.2 y hy, hp.2.2.1 y hy⟩
  have hqm : ∀ y ∈ q, mayM 0 y.2 = true ∧ gtM s.2 y.2 := fun y hy => ⟨fall_may hq.2.2.2 y hy, hq.2.2.1 y hy⟩
  rcases gtM_total hp.2.1 hq.2.1 with g | g | g
  ·exact (H hp.1 hp.2.1 hpm (b := s :: q) (fun y hy => by
    rcases List.mem_cons.1 hy with rfl | hy
    ·exact ⟨hq.2.1, g⟩
    ·exact ⟨(hqm y hy).1, gtM_trans g (hqm y hy).2⟩) he).elim
  ·have hc : t.1 = s.1 := Classical.byContradiction fun hne => by
    refine H (x := (t.1 - s.1, t.2)) (a := p) (b := q) (by show t.1 - s.1 ≠ 0; omega) hp.2.1 hpm (fun y hy => by rw [g]; exact hqm y hy) fun ρ => ?_
    have := he ρ
    simp only [ev] at this ⊢
    rw [← g] at this
    grind
   have ht : t = s := Prod.ext hc g
   subst ht
   rw [fall_ext hp.2.2.2 hq.2.2.2 fun ρ => by have := he ρ; simp only [ev] at this; omega]
  ·exact (H hq.1 hq.2.1 hqm (b := t :: p) (fun y hy => by
    rcases List.mem_cons.1 hy with rfl | hy
    ·exact ⟨hp.2.1, g⟩
    ·exact ⟨(hpm y hy).1, gtM_trans g (hpm y hy).2⟩) (fun ρ => (he ρ).symm)).elim
termination_by p q => p.length + q.length
def mulM (a b : List (Int × Int)) : List (Int × Int) := joinL (fun x y => x + y) a b
end Go.Proofs.YtmmgipcacceakaaGreat

/- Polynomials in plain words: a term more at its place, sums, products, quotients, contents, powers. -/
namespace Go.Proofs.YtmmgipcacceakaaGreat
theorem cmp_gt {a b : List (Int × Int)} (ha : mayM 0 a = true) (hb : mayM 0 b = true) (h : cmpM a b = 1) : gtM a b := by have := cmpM_is ha hb; rw [h] at this; exact this
theorem cmp_lt {a b : List (Int × Int)} (ha : mayM 0 a = true) (hb : mayM 0 b = true) (h : cmpM a b = -1) : gtM b a := by
 rcases cmpM_is ha hb with ⟨h1, _⟩ | ⟨v, _, h1, h2⟩ | ⟨_, h1, _⟩
 ·omega
 ·exact .inr (.inr ⟨v, rfl, h1, fun u hu => (h2 u hu).symm⟩)
 ·omega
theorem cmp_eq {a b : List (Int × Int)} (ha : mayM 0 a = true) (hb : mayM 0 b = true) (h : cmpM a b = 0) : a = b := by
 rcases cmpM_is ha hb with ⟨_, h1⟩ | ⟨_, h1, _⟩ | ⟨_, h1, _⟩
 ·exact mono_ext ha hb h1
 ·omega
 ·omega
theorem cmp_range {a b : List (Int × Int)} (ha : mayM 0 a = true) (hb : mayM 0 b = true) : cmpM a b = -1 ∨ cmpM a b = 0 ∨ cmpM a b = 1 := by
 rcases cmpM_is ha hb with ⟨h1, _⟩ | ⟨_, h1, _⟩ | ⟨_, h1, _⟩ <;> simp [h1]
theorem gt_cmp {a b : List (Int × Int)} (ha : mayM 0 a = true) (hb : mayM 0 b = true) (h : gtM a b) : cmpM a b = 1 := (cmpM_is ha hb).unique h
def putT : List Term → Int → List (Int × Int) → List Term
 | [], c, m => if c = 0 then [] else [(c, m)]
 | t :: r, c, m => if 0 < cmpM t.2 m then t :: putT r c m else if cmpM t.2 m = 0 then (if c + t.1 = 0 then r else (c + t.1, m) :: r) else (if c = 0 then t :: r else (c, m) :: t :: r)
theorem putT_spec : ∀ {p : List Term} (c : Int) {m : List (Int × Int)}, fall p → mayM 0 m = true →
  fall (putT p c m) ∧ (∀ x, (∀ s ∈ p, gtM x s.2) → gtM x m → ∀ s ∈ putT p c m, gtM x s.2) ∧ ∀ ρ, ev (putT p c m) ρ = ev p ρ + c * evM m ρ
 | [], c, m, _, hm => by
  unfold putT
  by_cases h : c = 0
  ·rw [if_pos h]; exact ⟨trivial, (fun _ _ _ s hs => by cases hs), fun ρ => by simp [ev, h]⟩
  ·rw [if_neg h]
   refine ⟨⟨h, hm, (fun s hs => by cases hs), trivial⟩, fun x _ hx s hs => ?_, fun ρ => by simp [ev]⟩
   simp at hs; subst hs; exact hx
 | t :: r, c, m, hp, hm => by
  have ih := putT_spec (p := r) c hp.2.2.2 hm
  unfold putT
  by_cases h1 : 0 < cmpM t.2 m
  ·rw [if_pos h1]
   have hg : gtM t.2 m := cmp_gt hp.2.1 hm (by rcases cmp_range hp.2.1 hm with e | e | e <;> omega)
   refine ⟨⟨hp.1, hp.2.1, ih.2.1 _ hp.2.2.1 hg, ih.1⟩, fun x hx hxm s hs => ?_, fun ρ => by simp only [ev]; rw [ih.2.2]; omega⟩
   rcases List.mem_cons.1 hs with rfl | hs
   ·exact hx _ (by simp)
   ·exact ih.2.1 x (fun y hy => hx y (by simp [hy])) hxm s hs
  ·rw [if_neg h1]
   by_cases h2 : cmpM t.2 m = 0
   ·rw [if_pos h2]
    have he := cmp_eq hp.2.1 hm h2
    by_cases h3 : c + t.1 = 0
    ·rw [if_pos h3]
     refine ⟨hp.2.2.2, fun x hx _ s hs => hx s (by simp [hs]), fun ρ => ?_⟩
     simp only [ev]
     rw [he, show t.1 = -c by omega]
     grind
    ·rw [if_neg h3]
     refine ⟨⟨h3, hm, he ▸ hp.2.2.1, hp.2.2.2⟩, fun x hx hxm s hs => ?_, fun ρ => ?_⟩
     ·rcases List.mem_cons.1 hs with rfl | hs
      ·exact hxm
      ·exact hx s (by simp [hs])
     ·simp only [ev]
      rw [he]
      grind
   ·rw [if_neg h2]
    have hl : gtM m t.2 := cmp_lt hp.2.1 hm (by rcases cmp_range hp.2.1 hm with e | e | e <;> omega)
    by_cases h3 : c = 0
    ·rw [if_pos h3]; exact ⟨hp, fun x hx _ => hx, fun ρ => by rw [h3]; omega⟩
    ·rw [if_neg h3]
     refine ⟨⟨h3, hm, fun s hs => ?_, hp⟩, fun x hx hxm s hs => ?_, fun ρ => by simp only [ev]; omega⟩
     ·rcases List.mem_cons.1 hs with rfl | hs
      ·exact hl
      ·exact gtM_trans hl (hp.2.2.1 s hs)
     ·rcases List.mem_cons.1 hs with rfl | hs
      ·exact hxm
      ·exact hx s hs
def mays (l : List Term) : Prop := ∀ t ∈ l, mayM 0 t.2 = true
def addT (p : List Term) : List Term → List Term
 | [] => p
 | t :: r => addT (putT p t.1 t.2) r
theorem addT_spec : ∀ {q p : List Term}, fall p → mays q → fall (addT p q) ∧ ∀ ρ, ev (addT p q) ρ = ev p ρ + ev q ρ
 | [], p, hp, _ => ⟨hp, fun ρ => by simp [addT, ev]⟩
 | t :: r, p, hp, hq => by
  have h1 := putT_spec t.1 hp (hq t (by simp))
  have h2 := addT_spec (q := r) h1.1 (fun s hs => hq s (by simp [hs]))
  exact ⟨h2.1, fun ρ => by simp only [addT, ev]; rw [h2.2, h1.2.2]; omega⟩
theorem addT_append (p : List Term) : ∀ q r : List Term, addT p (q ++ r) = addT (addT p q) r
 | [], _ => rfl
 | t :: q, r => by simp only [List.cons_append, addT]; exact addT_append _ q r
theorem fall_mays {p : List Term} (h : fall p) : mays p := fall_may h
def ofT (l : List Term) : List Term := addT [] l
theorem ofT_spec {l : List Term} (h : mays l) : fall (ofT l) ∧ ∀ ρ, ev (ofT l) ρ = ev l ρ := by
 have := addT_spec (p := []) trivial h
 exact ⟨this.1, fun ρ => by rw [ofT, this.2]; simp [ev]⟩
theorem ofT_fall {p : List Term} (h : fall p) : ofT p = p := fall_ext (ofT_spec (fall_mays h)).1 h (ofT_spec (fall_mays h)).2
def mulT (t : Term) (q : List Term) : List Term := q.map fun s => (t.1 * s.1, mulM t.2 s.2)
def fitT (p q : List Term) : Prop := ∀ t ∈ p, ∀ s ∈ q, mayM 0 (mulM t.2 s.2) = true
def mulL : List Term → List Term → List Term
 | [], _ => []
 | t :: r, q => mulT t q ++ mulL r q
theorem mulL_mays {p q : List Term} (h : fitT p q) : mays (mulL p q) := by
 induction p with
 | nil => intro t ht; cases ht
 | cons a r ih =>
  intro t ht
  rcases List.mem_append.1 ht with ht | ht
  ·obtain ⟨s, hs, rfl⟩ := List.mem_map.1 ht
   exact h a (by simp) s hs
  ·exact ih (fun x hx => h x (by simp [hx])) t ht
def timesT (p q : List Term) : List Term := ofT (mulL p q)
end Go.Proofs.YtmmgipcacceakaaGreat

/- Coefficients; which products of three have no exponent too great; the plain side of the ring's laws. -/
namespace Go.Proofs.YtmmgipcacceakaaGreat
open Go.RowKit
end Go.Proofs.YtmmgipcacceakaaGreat

/- poly.joined in plain words: a list gone over backwards, the other one put into it. -/
namespace Go.Proofs.YtmmgipcacceakaaGreat
def slideT (m : List (Int × Int)) : List Term → List Term → List Term × List Term × Bool
 | [], S => ([], S, false)
 | u :: r, S => if cmpM u.2 m < 0 then slideT m r (u :: S) else (u :: r, S, cmpM u.2 m == 0)
def joinS (f : Int → Int → Int) (st : List Term × List Term) (t : Term) : List Term × List Term :=
 let s := slideT t.2 st.1 st.2
 let c := if s.2.2 then f (s.1.headD (0, [])).1 t.1 else f 0 t.1
 (if s.2.2 then s.1.tail else s.1, if c = 0 then s.2.1 else (c, t.2) :: s.2.1)
def joinF (f : Int → Int → Int) (p ts : List Term) : List Term × List Term := ts.foldl (joinS f) (p.reverse, [])
def Up : List Term → Prop
 | [] => True
 | u :: r => u.1 ≠ 0 ∧ mayM 0 u.2 = true ∧ (∀ s ∈ r, gtM s.2 u.2) ∧ Up r
def Ab (a b : List Term) : Prop := ∀ u ∈ a, ∀ s ∈ b, gtM u.2 s.2
theorem up_rev : ∀ {p b : List Term}, fall p → Up b → Ab b p → Up (p.reverse ++ b)
 | [], b, _, hb, _ => hb
 | t :: r, b, hp, hb, h => by
  rw [List.reverse_cons, List.append_assoc]
  refine up_rev (p := r) (b := [t] ++ b) hp.2.2.2 ⟨hp.1, hp.2.1, fun s hs => h s hs t (by simp), hb⟩ fun u hu s hs => ?_
  rcases List.mem_cons.1 hu with rfl | hu
  ·exact hp.2.2.1 s hs
  ·exact h u hu s (by simp [hs])
theorem fall_up : ∀ {r S : List Term}, Up r → fall S → Ab r S → fall (r.reverse ++ S)
 | [], S, _, hS, _ => hS
 | u :: r, S, hr, hS, h => by
  rw [List.reverse_cons, List.append_assoc]
  refine fall_up (r := r) (S := [u] ++ S) hr.2.2.2 ⟨hr.1, hr.2.1, fun s hs => h u (by simp) s hs, hS⟩ fun v hv s hs => ?_
  rcases List.mem_cons.1 hs with rfl | hs
  ·exact hr.2.2.1 v hv
  ·exact h v (by simp [hv]) s hs
theorem ev_reverse (ρ : Nat → Int) : ∀ l : List Term, ev l.reverse ρ = ev l ρ
 | [] => rfl
 | t :: r => by rw [List.reverse_cons, ev_append, ev_reverse ρ r]; simp only [ev]; omega
theorem slide_spec {m : List (Int × Int)} (hm : mayM 0 m = true) : ∀ {r S : List Term}, Up r → fall S → Ab r S → (∀ s ∈ S, gtM m s.2) →
  Up (slideT m r S).1 ∧ fall (slideT m r S).2.1 ∧ Ab (slideT m r S).1 (slideT m r S).2.1 ∧ (∀ s ∈ (slideT m r S).2.1, gtM m s.2) ∧ (∀ ρ, ev (slideT m r S).1 ρ + ev (slideT m r S).2.1 ρ = ev r ρ + ev S ρ) ∧
  ((slideT m r S).2.2 = true → ∃ u r', (slideT m r S).1 = u :: r' ∧ u.2 = m) ∧ ((slideT m r S).2.2 = false → ∀ u ∈ (slideT m r S).1, gtM u.2 m)
 | [], S, _, hS, h, hmS => by
  unfold slideT
  exact ⟨trivial, hS, h, hmS, fun ρ => rfl, (fun e => by cases e), fun _ u hu => by cases hu⟩
 | u :: r, S, hr, hS, h, hmS => by
  unfold slideT
  have hc := cmp_range hr.2.1 hm
  by_cases hl : cmpM u.2 m < 0
  ·rw [if_pos hl]
   have hmu : gtM m u.2 := cmp_lt hr.2.1 hm (by omega)
   have ih := slide_spec hm (r := r) (S := u :: S) hr.2.2.2 ⟨hr.1, hr.2.1, fun s hs => h u (by simp) s hs, hS⟩ (fun v hv s hs => by
    rcases List.mem_cons.1 hs with rfl | hs
    ·exact hr.2.2.1 v hv
    ·exact h v (by simp [hv]) s hs) (fun s hs => by
    rcases List.mem_cons.1 hs with rfl | hs
    ·exact hmu
    ·exact hmS s hs)
   refine ⟨ih.1, ih.2.1, ih.2.2.1, ih.2.2.2.1, fun ρ => ?_, ih.2.2.2.2.2⟩
   have := ih.2.2.2.2.1 ρ
   simp only [ev] at this ⊢
   omega
  ·rw [if_neg hl]
   refine ⟨hr, hS, h, hmS, fun ρ => rfl, fun e => ⟨u, r, rfl, cmp_eq hr.2.1 hm (by simpa using e)⟩, fun e v hv => ?_⟩
   have hne : cmpM u.2 m ≠ 0 := by simpa using e
   have hg : gtM u.2 m := cmp_gt hr.2.1 hm (by omega)
   rcases List.mem_cons.1 hv with rfl | hv
   ·exact hg
   ·exact gtM_trans (hr.2.2.1 v hv) hg
structure JOk (r S ts : List Term) : Prop where
 up : Up r
 fl : fall S
 ab : Ab r S
 nx : Ab ts S
theorem joinS_spec {f : Int → Int → Int} {σ : Int} (hf : ∀ x y, f x y = x + σ * y) {r S ts : List Term} {t : Term} (h : JOk r S (t :: ts)) (ht : mayM 0 t.2 = true) (hts : ∀ s ∈ ts, gtM s.2 t.2) :
  JOk (joinS f (r, S) t).1 (joinS f (r, S) t).2 ts ∧ ∀ ρ, ev (joinS f (r, S) t).1 ρ + ev (joinS f (r, S) t).2 ρ = ev r ρ + ev S ρ + σ * t.1 * evM t.2 ρ := by
 obtain ⟨h1, h2, h3, h4, h5, h6, h7⟩ := slide_spec ht h.up h.fl h.ab (fun s hs => h.nx t (by simp) s hs)
 unfold joinS
 simp only
 generalize slideT t.2 r S = x at h1 h2 h3 h4 h5 h6 h7 ⊢
 obtain ⟨r', S', b⟩ := x
 simp only at h1 h2 h3 h4 h5 h6 h7 ⊢
 have hnx : ∀ s ∈ S', ∀ v ∈ ts, gtM v.2 s.2 := fun s hs v hv => gtM_trans (hts v hv) (h4 s hs)
 have key : ∀ (R : List Term) (c : Int), Up R → Ab R S' → (∀ u ∈ R, gtM u.2 t.2) → JOk R (if c = 0 then S' else (c, t.2) :: S') ts ∧ ∀ ρ, ev (if c = 0 then S' else (c, t.2) :: S') ρ = c * evM t.2 ρ + ev S' ρ := by
  intro R c hR hab hgt
  by_cases hc : c = 0
  ·rw [if_pos hc]
   exact ⟨⟨hR, h2, hab, fun v hv s hs => hnx s hs v hv⟩, fun ρ => by rw [hc]; simp⟩
  ·rw [if_neg hc]
   refine ⟨⟨hR, ⟨hc, ht, h4, h2⟩, fun u hu s hs => ?_, fun v hv s hs => ?_⟩, fun ρ => rfl⟩
   ·rcases List.mem_cons.1 hs with rfl | hs
    ·exact hgt u hu
    ·exact hab u hu s hs
   ·rcases List.mem_cons.1 hs with rfl | hs
    ·exact hts v hv
    ·exact hnx s hs v hv
 cases b with
 | true =>
  obtain ⟨u, q, rfl, hum⟩ := h6 rfl
  simp only [if_true, List.tail_cons, List.headD_cons]
  have k := key q (f u.1 t.1) h1.2.2.2 (fun v hv s hs => h3 v (by simp [hv]) s hs) (fun v hv => by rw [← hum]; exact h1.2.2.1 v hv)
  refine ⟨k.1, fun ρ => ?_⟩
  have e := h5 ρ; rw [k.2 ρ, hf]
  simp only [ev] at e
  rw [hum] at e
  grind
 | false =>
  simp only [Bool.false_eq_true, if_false]
  have k := key r' (f 0 t.1) h1 h3 (h7 rfl)
  refine ⟨k.1, fun ρ => ?_⟩
  have e := h5 ρ; rw [k.2 ρ, hf]
  grind
theorem joinF_spec {f : Int → Int → Int} {σ : Int} (hf : ∀ x y, f x y = x + σ * y) : ∀ {ts r S : List Term}, Up ts → JOk r S ts →
  JOk (ts.foldl (joinS f) (r, S)).1 (ts.foldl (joinS f) (r, S)).2 [] ∧ ∀ ρ, ev (ts.foldl (joinS f) (r, S)).1 ρ + ev (ts.foldl (joinS f) (r, S)).2 ρ = ev r ρ + ev S ρ + σ * ev ts ρ
 | [], r, S, _, h => ⟨h, fun ρ => by simp [ev]⟩
 | t :: ts, r, S, hts, h => by
  have h1 := joinS_spec hf h hts.2.1 hts.2.2.1; have h2 := joinF_spec hf (ts := ts) hts.2.2.2 h1.1
  refine ⟨h2.1, fun ρ => ?_⟩
  have e1 := h1.2 ρ; have e2 := h2.2 ρ
  simp only [List.foldl_cons, ev]
  rw [e2, e1]
  grind
theorem join_is {f : Int → Int → Int} {σ : Int} (hf : ∀ x y, f x y = x + σ * y) {p q r : List Term} (hp : fall p) (hq : fall q) (hr : fall r) (hv : ∀ ρ, ev r ρ = ev p ρ + σ * ev q ρ) :
  (joinF f p q.reverse).1.reverse ++ (joinF f p q.reverse).2 = r := by
 have h1 := up_rev (b := []) hp trivial (fun u hu => by cases hu)
 have h2 := up_rev (b := []) hq trivial (fun u hu => by cases hu)
 rw [List.append_nil] at h1 h2
 have h := joinF_spec hf h2 (r := p.reverse) (S := []) ⟨h1, trivial, (fun _ _ s hs => by cases hs), fun _ _ s hs => by cases hs⟩
 refine fall_ext (fall_up h.1.up h.1.fl h.1.ab) hr fun ρ => ?_
 have e := h.2 ρ; rw [ev_append, ev_reverse, hv]
 unfold joinF
 rw [e, ev_reverse, ev_reverse]
 simp [ev]
theorem take_rev {α : Type} (d : α) (q : List α) {j : Nat} (hj : j < q.length) : q.reverse.take (j + 1) = q.reverse.take j ++ [q.getD (q.length - 1 - j) d] := by
 rw [List.take_succ_eq_append_getElem (by rw [List.length_reverse]; exact hj)]
 congr 1
 rw [List.getElem_reverse]
 simp [List.getD, List.getElem?_eq_getElem (show q.length - 1 - j < q.length by omega)]
theorem joinF_step (f : Int → Int → Int) (p q : List Term) {j : Nat} (hj : j < q.length) : joinF f p (q.reverse.take (j + 1)) = joinS f (joinF f p (q.reverse.take j)) (q.getD (q.length - 1 - j) (0, [])) := by
 unfold joinF
 rw [take_rev (0, []) q hj, List.foldl_append]
 rfl
end Go.Proofs.YtmmgipcacceakaaGreat

