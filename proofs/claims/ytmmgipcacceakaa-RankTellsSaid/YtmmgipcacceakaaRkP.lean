/-
  Ritt's ranks: plain facts.
-/
import Derived.Test.YtmmgipcacceakaaGV
set_option maxHeartbeats 40000000
set_option maxRecDepth 100000
namespace Go.Proofs.Ytmmgipcacceakaa
open Go.RowKit
def rkP (p : List Term) : Int × Int := (clsP p, degP p (clsP p))
def cmpI (a b : Int) : Int := if a < b then -1 else if b < a then 1 else 0
def cmpRk (a b : Int × Int) : Int := if cmpI a.1 b.1 = 0 then cmpI a.2 b.2 else cmpI a.1 b.1
def ltRk (a b : Int × Int) : Bool := decide (a.1 < b.1 ∨ a.1 = b.1 ∧ a.2 < b.2)
def redP (p q : List Term) : Bool := if clsP q = 0 then decide (p.length = 0) else decide (degP p (clsP q) < degP q (clsP q))
theorem cmpI_is (a b : Int) : (a < b ∧ cmpI a b = -1) ∨ (b < a ∧ cmpI a b = 1) ∨ (a = b ∧ cmpI a b = 0) := by
 unfold cmpI
 rcases Int.lt_trichotomy a b with h | h | h
 ·exact .inl ⟨h, if_pos h⟩
 ·subst h; exact .inr (.inr ⟨rfl, by rw [if_neg (Int.lt_irrefl _), if_neg (Int.lt_irrefl _)]⟩)
 ·exact .inr (.inl ⟨h, by rw [if_neg (by omega), if_pos h]⟩)
theorem lt_iff (a b : Int × Int) : ltRk a b = true ↔ a.1 < b.1 ∨ a.1 = b.1 ∧ a.2 < b.2 := decide_eq_true_iff
theorem lt_not (a b : Int × Int) : ltRk a b = false ↔ b.1 < a.1 ∨ b.1 = a.1 ∧ b.2 ≤ a.2 := by
 unfold ltRk
 rw [decide_eq_false_iff_not]
 omega
theorem cmpRk_is (a b : Int × Int) : (ltRk a b = true ∧ cmpRk a b = -1) ∨ (ltRk b a = true ∧ cmpRk a b = 1) ∨ (a = b ∧ ltRk a b = false ∧ ltRk b a = false ∧ cmpRk a b = 0) := by
 unfold cmpRk
 rw [lt_iff, lt_iff, lt_not, lt_not]; obtain ⟨a1, a2⟩ := a
 obtain ⟨b1, b2⟩ := b
 rcases cmpI_is a1 b1 with ⟨h, e⟩ | ⟨h, e⟩ | ⟨h, e⟩
 ·exact .inl ⟨.inl h, by show (if cmpI a1 b1 = 0 then _ else cmpI a1 b1) = _; rw [e]; rfl⟩
 ·exact .inr (.inl ⟨.inl h, by show (if cmpI a1 b1 = 0 then _ else cmpI a1 b1) = _; rw [e]; rfl⟩)
 ·subst h
  rcases cmpI_is a2 b2 with ⟨h, e2⟩ | ⟨h, e2⟩ | ⟨h, e2⟩
  ·exact .inl ⟨.inr ⟨rfl, h⟩, by show (if cmpI a1 a1 = 0 then cmpI a2 b2 else cmpI a1 a1) = _; rw [e, e2]; rfl⟩
  ·exact .inr (.inl ⟨.inr ⟨rfl, h⟩, by show (if cmpI a1 a1 = 0 then cmpI a2 b2 else cmpI a1 a1) = _; rw [e, e2]; rfl⟩)
  ·subst h
   exact .inr (.inr ⟨rfl, .inr ⟨rfl, Int.le_refl _⟩, .inr ⟨rfl, Int.le_refl _⟩, by show (if cmpI a1 a1 = 0 then cmpI a2 a2 else cmpI a1 a1) = _; rw [e, e2]; rfl⟩)
theorem lt_asym {a b : Int × Int} (h : ltRk a b = true) : ltRk b a = false := by
 rw [lt_iff] at h; rw [lt_not]
 omega
section
variable {α β : Type} (lt : α → α → Bool)
variable {lt}
variable {lt2 : β → β → Bool} {f : α → β}
end
end Go.Proofs.Ytmmgipcacceakaa
