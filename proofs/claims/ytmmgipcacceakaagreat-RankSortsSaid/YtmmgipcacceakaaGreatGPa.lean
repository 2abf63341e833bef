/- PlSetT -/
import Derived.Test.YtmmgipcacceakaaGreatGP2
set_option maxHeartbeats 40000000
set_option maxRecDepth 100000
namespace Go.Proofs.YtmmgipcacceakaaGreat
open Go.RowKit
theorem tmsT_take {α : Type} {R : List Value → α → Prop} : ∀ {X : List (List Value)} {p : List α} (k : Nat), Tms R X p → Tms R (X.take k) (p.take k)
 | [], [], _, _ => by simp [Tms]
 | [], _ :: _, _, h => h.elim
 | _ :: _, [], _, h => h.elim
 | _ :: _, _ :: _, 0, _ => trivial
 | _ :: _, _ :: _, k + 1, h => ⟨h.1, tmsT_take k h.2⟩
theorem Pw.room [Ol] {B K : Nat} {w : World} {g off n cap : Nat} {p : List Term} (h : Pw B K w (some ⟨g, off, none⟩) n cap p) :
  B ≤ g ∧ g < w.heap.size ∧ n ≤ cap ∧ cap ≤ maxLen ∧ ∀ j, j < cap * 3 → (w.cell? ⟨g, off + j, none⟩).isSome = true ∧ w.frozen? ⟨g, off + j, none⟩ = false := by
 obtain ⟨X, hR, hT⟩ := h
 rcases hR.ex with ⟨h0, _⟩ | ⟨g', off', L, hao, hB, hA, hcl, hl, hnc, hcm, hnm, hXl, hE, hS⟩
 ·cases h0
 cases hao
 refine ⟨hB, hA.lt, hnc, hcm, fun j hj => ⟨?_, hA.fz _⟩⟩
 rw [hA.cell, List.getElem?_eq_getElem (by omega)]
 rfl
end Go.Proofs.YtmmgipcacceakaaGreat
