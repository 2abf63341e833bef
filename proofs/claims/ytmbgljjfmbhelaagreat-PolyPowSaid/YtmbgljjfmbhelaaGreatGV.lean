/- VPlain -/
import Derived.Test.YtmbgljjfmbhelaaGreatGP2
set_option maxHeartbeats 40000000
set_option maxRecDepth 100000
namespace Go.Proofs.YtmbgljjfmbhelaaGreat
open Go.RowKit
def degP (p : List Term) (v : Int) : Int := p.foldl (fun a t => max a (expo t.2 v)) 0
theorem fold_ge (v : Int) : ∀ (p : List Term) (a : Int), a ≤ p.foldl (fun a t => max a (expo t.2 v)) a ∧ (∀ t ∈ p, expo t.2 v ≤ p.foldl (fun a t => max a (expo t.2 v)) a) ∧
  (p.foldl (fun a t => max a (expo t.2 v)) a = a ∨ ∃ t ∈ p, p.foldl (fun a t => max a (expo t.2 v)) a = expo t.2 v)
 | [], a => ⟨Int.le_refl _, (fun _ h => by cases h), .inl rfl⟩
 | s :: r, a => by
  obtain ⟨h1, h2, h3⟩ := fold_ge v r (max a (expo s.2 v))
  simp only [List.foldl_cons]
  refine ⟨by omega, fun t ht => ?_, ?_⟩
  ·rcases List.mem_cons.1 ht with rfl | ht
   ·omega
   ·exact h2 t ht
  ·rcases h3 with h3 | ⟨t, ht, h3⟩
   ·by_cases h : a ≤ expo s.2 v
    ·exact .inr ⟨s, by simp, by rw [h3]; omega⟩
    ·exact .inl (by rw [h3]; omega)
   ·exact .inr ⟨t, by simp [ht], h3⟩
theorem degP_ge {p : List Term} {t : Term} (h : t ∈ p) (v : Int) : expo t.2 v ≤ degP p v := (fold_ge v p 0).2.1 t h
theorem zz44 (p : List Term) (v : Int) : 0 ≤ degP p v := (fold_ge v p 0).1
theorem degP_at (p : List Term) (v : Int) : degP p v = 0 ∨ ∃ t ∈ p, degP p v = expo t.2 v := (fold_ge v p 0).2.2
theorem zz43 {p : List Term} (h : mays p) (hn : p ≠ []) (v : Int) : ∃ t ∈ p, expo t.2 v = degP p v := by
 rcases degP_at p v with h0 | ⟨t, ht, h1⟩
 ·cases p with
  | nil => exact absurd rfl hn
  | cons t r =>
   refine ⟨t, by simp, ?_⟩
   have h1 := (may_bd (h t (by simp)) v).1
   have h2 := degP_ge (p := t :: r) (t := t) (by simp) v
   omega
 ·exact ⟨t, ht, h1.symm⟩
theorem degP_is {p : List Term} {v d : Int} (hn : 0 ≤ d) (h1 : ∀ t ∈ p, expo t.2 v ≤ d) (h2 : d = 0 ∨ ∃ t ∈ p, expo t.2 v = d) : degP p v = d := by
 have h0 := zz44 p v
 rcases degP_at p v with h3 | ⟨t, ht, h3⟩
 ·rcases h2 with h2 | ⟨t, ht, h2⟩
  ·omega
  ·have := degP_ge ht v; omega
 ·have h4 := h1 t ht
  rcases h2 with h2 | ⟨s, hs, h2⟩
  ·omega
  ·have := degP_ge hs v; omega
end Go.Proofs.YtmbgljjfmbhelaaGreat
