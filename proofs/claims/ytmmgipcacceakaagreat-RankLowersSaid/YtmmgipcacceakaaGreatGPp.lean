/- PPlain, POps, PDeg, PlJoinP -/
import Derived.Test.YtmmgipcacceakaaGreatMPlain
set_option maxHeartbeats 40000000
set_option maxRecDepth 100000
/- Polynomials in plain words: terms (a whole number, a monomial), what they are at a point; a falling list is told by its values. -/
namespace Go.Proofs.YtmmgipcacceakaaGreat
abbrev Term := Int × List (Int × Int)
def evE (f : Nat → Nat) (ρ : Nat → Int) : Nat → Int
 | 0 => 1
 | n + 1 => evE f ρ n * ρ n ^ f n
def exN (ps : List (Int × Int)) (u : Nat) : Nat := (expo ps (u : Int)).toNat
def evM (ps : List (Int × Int)) (ρ : Nat → Int) : Int := evE (exN ps) ρ 201
def ev : List Term → (Nat → Int) → Int
 | [], _ => 0
 | t :: r, ρ => t.1 * evM t.2 ρ + ev r ρ
theorem ev_append (p q : List Term) (ρ : Nat → Int) : ev (p ++ q) ρ = ev p ρ + ev q ρ := by
 induction p with
 | nil => simp [ev]
 | cons t r ih => simp only [List.cons_append, ev, ih]; omega
def gtM (a b : List (Int × Int)) : Prop := IsCmp 1 (expo a) (expo b)
def fall : List Term → Prop
 | [] => True
 | t :: r => t.1 ≠ 0 ∧ mayM 0 t.2 = true ∧ (∀ s ∈ r, gtM t.2 s.2) ∧ fall r
theorem fall_may : ∀ {p : List Term}, fall p → ∀ t ∈ p, mayM 0 t.2 = true
 | t :: r, h, s, hs => by
  rcases List.mem_cons.1 hs with rfl | hs
  ·exact h.2.1
  ·exact fall_may h.2.2.2 s hs
theorem fall_nz : ∀ {p : List Term}, fall p → ∀ t ∈ p, t.1 ≠ 0
 | t :: r, h, s, hs => by
  rcases List.mem_cons.1 hs with rfl | hs
  ·exact h.1
  ·exact fall_nz h.2.2.2 s hs
theorem gtM_trans {a b c : List (Int × Int)} (h : gtM a b) (k : gtM b c) : gtM a c := by
 rcases h with ⟨h, _⟩ | ⟨_, h, _⟩ | ⟨v, _, h1, h2⟩
 ·omega
 ·omega
 ·rcases k with ⟨k, _⟩ | ⟨_, k, _⟩ | ⟨u, _, k1, k2⟩
  ·omega
  ·omega
  ·rcases Int.lt_trichotomy u v with e | e | e
   ·exact .inr (.inr ⟨v, rfl, by rw [← k2 v e]; exact h1, fun t ht => by rw [h2 t ht, k2 t (by omega)]⟩)
   ·subst e; exact .inr (.inr ⟨u, rfl, by omega, fun t ht => by rw [h2 t ht, k2 t ht]⟩)
   ·exact .inr (.inr ⟨u, rfl, by rw [h2 u e]; exact k1, fun t ht => by rw [h2 t (by omega), k2 t ht]⟩)
theorem mono_ext {a b : List (Int × Int)} (ha : mayM 0 a = true) (hb : mayM 0 b = true) (h : ∀ v, expo a v = expo b v) : a = b := ris_ext (may_ris ha) (may_ris hb) h
def mulM (a b : List (Int × Int)) : List (Int × Int) := joinL (fun x y => x + y) a b
end Go.Proofs.YtmmgipcacceakaaGreat

/- Polynomials in plain words: a term more at its place, sums, products, quotients, contents, powers. -/
namespace Go.Proofs.YtmmgipcacceakaaGreat
theorem cmp_gt {a b : List (Int × Int)} (ha : mayM 0 a = true) (hb : mayM 0 b = true) (h : cmpM a b = 1) : gtM a b := by have := cmpM_is ha hb; rw [h] at this; exact this
theorem cmp_lt {a b : List (Int × Int)} (ha : mayM 0 a = true) (hb : mayM 0 b = true) (h : cmpM a b = -1) : gtM b a := by
 rcases cmpM_is ha hb with ⟨h1, _⟩ | ⟨v, _, h1, h2⟩ | ⟨_, h1, _⟩
 ·omega
 ·exact .inr (.inr ⟨v, rfl, h1, fun u hu => (h2 u hu).symm⟩)
 ·omega
theorem cmp_eq {a b : List (Int × Int)} (ha : mayM 0 a = true) (hb : mayM 0 b = true) (h : cmpM a b = 0) : a = b := by
 rcases cmpM_is ha hb with ⟨_, h1⟩ | ⟨_, h1, _⟩ | ⟨_, h1, _⟩
 ·exact mono_ext ha hb h1
 ·omega
 ·omega
theorem cmp_range {a b : List (Int × Int)} (ha : mayM 0 a = true) (hb : mayM 0 b = true) : cmpM a b = -1 ∨ cmpM a b = 0 ∨ cmpM a b = 1 := by
 rcases cmpM_is ha hb with ⟨h1, _⟩ | ⟨_, h1, _⟩ | ⟨_, h1, _⟩ <;> simp [h1]
theorem gt_cmp {a b : List (Int × Int)} (ha : mayM 0 a = true) (hb : mayM 0 b = true) (h : gtM a b) : cmpM a b = 1 := (cmpM_is ha hb).unique h
def putT : List Term → Int → List (Int × Int) → List Term
 | [], c, m => if c = 0 then [] else [(c, m)]
 | t :: r, c, m => if 0 < cmpM t.2 m then t :: putT r c m else if cmpM t.2 m = 0 then (if c + t.1 = 0 then r else (c + t.1, m) :: r) else (if c = 0 then t :: r else (c, m) :: t :: r)
theorem putT_spec : ∀ {p : List Term} (c : Int) {m : List (Int × Int)}, fall p → mayM 0 m = true →
  fall (putT p c m) ∧ (∀ x, (∀ s ∈ p, gtM x s.2) → gtM x m → ∀ s ∈ putT p c m, gtM x s.2) ∧ ∀ ρ, ev (putT p c m) ρ = ev p ρ + c * evM m ρ
 | [], c, m, _, hm => by
  unfold putT
  by_cases h : c = 0
  ·rw [if_pos h]; exact ⟨trivial, (fun _ _ _ s hs => by cases hs), fun ρ => by simp [ev, h]⟩
  ·rw [if_neg h]
   refine ⟨⟨h, hm, (fun s hs => by cases hs), trivial⟩, fun x _ hx s hs => ?_, fun ρ => by simp [ev]⟩
   simp at hs; subst hs; exact hx
 | t :: r, c, m, hp, hm => by
  have ih := putT_spec (p := r) c hp.2.2.2 hm
  unfold putT
  by_cases h1 : 0 < cmpM t.2 m
  ·rw [if_pos h1]
   have hg : gtM t.2 m := cmp_gt hp.2.1 hm (by rcases cmp_range hp.2.1 hm with e | e | e <;> omega)
   refine ⟨⟨hp.1, hp.2.1, ih.2.1 _ hp.2.2.1 hg, ih.1⟩, fun x hx hxm s hs => ?_, fun ρ => by simp only [ev]; rw [ih.2.2]; omega⟩
   rcases List.mem_cons.1 hs with rfl | hs
   ·exact hx _ (by simp)
   ·exact ih.2.1 x (fun y hy => hx y (by simp [hy])) hxm s hs
  ·rw [if_neg h1]
   by_cases h2 : cmpM t.2 m = 0
   ·rw [if_pos h2]
    have he := cmp_eq hp.2.1 hm h2
    by_cases h3 : c + t.1 = 0
    ·rw [if_pos h3]
     refine ⟨hp.2.2.2, fun x hx _ s hs => hx s (by simp [hs]), fun ρ => ?_⟩
     simp only [ev]
     rw [he, show t.1 = -c by omega]
     grind
    ·rw [if_neg h3]
     refine ⟨⟨h3, hm, he ▸ hp.2.2.1, hp.2.2.2⟩, fun x hx hxm s hs => ?_, fun ρ => ?_⟩
     ·rcases List.mem_cons.1 hs with rfl | hs
      ·exact hxm
      ·exact hx s (by simp [hs])
     ·simp only [ev]
      rw [he]
      grind
   ·rw [if_neg h2]
    have hl : gtM m t.2 := cmp_lt hp.2.1 hm (by rcases cmp_range hp.2.1 hm with e | e | e <;> omega)
    by_cases h3 : c = 0
    ·rw [if_pos h3]; exact ⟨hp, fun x hx _ => hx, fun ρ => by rw [h3]; omega⟩
    ·rw [if_neg h3]
     refine ⟨⟨h3, hm, fun s hs => ?_, hp⟩, fun x hx hxm s hs => ?_, fun ρ => by simp only [ev]; omega⟩
     ·rcases List.mem_cons.1 hs with rfl | hs
      ·exact hl
      ·exact gtM_trans hl (hp.2.2.1 s hs)
     ·rcases List.mem_cons.1 hs with rfl | hs
      ·exact hxm
      ·exact hx s hs
def mays (l : List Term) : Prop := ∀ t ∈ l, mayM 0 t.2 = true
def addT (p : List Term) : List Term → List Term
 | [] => p
 | t :: r => addT (putT p t.1 t.2) r
theorem addT_spec : ∀ {q p : List Term}, fall p → mays q → fall (addT p q) ∧ ∀ ρ, ev (addT p q) ρ = ev p ρ + ev q ρ
 | [], p, hp, _ => ⟨hp, fun ρ => by simp [addT, ev]⟩
 | t :: r, p, hp, hq => by
  have h1 := putT_spec t.1 hp (hq t (by simp))
  have h2 := addT_spec (q := r) h1.1 (fun s hs => hq s (by simp [hs]))
  exact ⟨h2.1, fun ρ => by simp only [addT, ev]; rw [h2.2, h1.2.2]; omega⟩
theorem addT_append (p : List Term) : ∀ q r : List Term, addT p (q ++ r) = addT (addT p q) r
 | [], _ => rfl
 | t :: q, r => by simp only [List.cons_append, addT]; exact addT_append _ q r
theorem fall_mays {p : List Term} (h : fall p) : mays p := fall_may h
def ofT (l : List Term) : List Term := addT [] l
theorem ofT_spec {l : List Term} (h : mays l) : fall (ofT l) ∧ ∀ ρ, ev (ofT l) ρ = ev l ρ := by
 have := addT_spec (p := []) trivial h
 exact ⟨this.1, fun ρ => by rw [ofT, this.2]; simp [ev]⟩
def mulT (t : Term) (q : List Term) : List Term := q.map fun s => (t.1 * s.1, mulM t.2 s.2)
def fitT (p q : List Term) : Prop := ∀ t ∈ p, ∀ s ∈ q, mayM 0 (mulM t.2 s.2) = true
def mulL : List Term → List Term → List Term
 | [], _ => []
 | t :: r, q => mulT t q ++ mulL r q
theorem mulL_mays {p q : List Term} (h : fitT p q) : mays (mulL p q) := by
 induction p with
 | nil => intro t ht; cases ht
 | cons a r ih =>
  intro t ht
  rcases List.mem_append.1 ht with ht | ht
  ·obtain ⟨s, hs, rfl⟩ := List.mem_map.1 ht
   exact h a (by simp) s hs
  ·exact ih (fun x hx => h x (by simp [hx])) t ht
def timesT (p q : List Term) : List Term := ofT (mulL p q)
end Go.Proofs.YtmmgipcacceakaaGreat

/- Coefficients; which products of three have no exponent too great; the plain side of the ring's laws. -/
namespace Go.Proofs.YtmmgipcacceakaaGreat
open Go.RowKit
end Go.Proofs.YtmmgipcacceakaaGreat

/- poly.joined in plain words: a list gone over backwards, the other one put into it. -/
namespace Go.Proofs.YtmmgipcacceakaaGreat
end Go.Proofs.YtmmgipcacceakaaGreat

