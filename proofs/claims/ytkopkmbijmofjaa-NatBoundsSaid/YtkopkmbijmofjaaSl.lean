/-
  Slices of limbs as lists of numbers: what a slice reads, and that it goes on reading so while memory below stays.
-/
import Derived.Test.YtkopkmbijmofjaaPlain
import Derived.Test.YtkopkmbijmofjaaRows
import Derived.WalkSpells
import Derived.WalkLawsBesides
namespace Go.Proofs.Ytkopkmbijmofjaa
open Go.RowKit

/-- The slice value '.slice ao n cap' of type []uint32 reads as the numbers xs. -/
structure Sl (w : World) (ao : Option Addr) (n cap : Nat) (xs : List Nat) : Prop where
  len : xs.length = n
  le : n ≤ cap
  big : n ≤ 35184372088832
  wf : ∀ x ∈ xs, x < 4294967296
  nil : ao = none → cap = 0
  cells : ∀ ad, ao = some ad → ∀ t, t < n → w.cell? (ad.add t) = some (.int .u32 (xs.getD t 0 : Nat))

theorem Sl.at {w : World} {ao : Option Addr} {n cap : Nat} {xs : List Nat} (h : Sl w ao n cap xs) (hn : 0 < n) :
    ∃ b off, ao = some ⟨b, off, none⟩ ∧ b < w.heap.size ∧ ∀ t, t < n → w.cell? ⟨b, off + t, none⟩ = some (.int .u32 (xs.getD t 0 : Nat)) := by
  cases hao : ao with
  | none => have := h.nil hao; have := h.le; omega
  | some ad =>
    obtain ⟨b, off, s⟩ := ad
    have h0 := h.cells _ hao 0 hn
    have hs : s = none := by simpa [Addr.add] using World.cell?_spot h0
    subst hs
    refine ⟨b, off, rfl, ?_, fun t ht => ?_⟩
    · simpa [Addr.add] using World.block_lt_of_cell? w _ h0
    · have := h.cells _ hao t ht
      rwa [Addr.add_lit] at this

theorem Sl.of_cells {w : World} {b off n cap : Nat} {xs : List Nat} (h1 : xs.length = n) (h2 : n ≤ cap) (h3 : n ≤ 35184372088832) (h4 : ∀ x ∈ xs, x < 4294967296)
    (hc : ∀ t, t < n → w.cell? ⟨b, off + t, none⟩ = some (.int .u32 (xs.getD t 0 : Nat))) : Sl w (some ⟨b, off, none⟩) n cap xs :=
  ⟨h1, h2, h3, h4, (fun h => by cases h), fun ad had t ht => by cases had; rw [Addr.add_lit]; exact hc t ht⟩

theorem Sl.none (w : World) : Sl w Option.none 0 0 [] :=
  ⟨rfl, Nat.le_refl _, by omega, (fun _ h => by cases h), (fun _ => rfl), fun _ h => by cases h⟩

/-- Memory that was there stays: so does what is read. -/
theorem Sl.below {w w' : World} {ao : Option Addr} {n cap : Nat} {xs : List Nat} (h : Sl w ao n cap xs) (hb : Below w.heap.size w w') : Sl w' ao n cap xs :=
  ⟨h.len, h.le, h.big, h.wf, h.nil, fun ad had t ht => by
    have h0 := h.cells ad had t ht
    rw [hb.cell (World.block_lt_of_cell? w _ h0)]
    exact h0⟩

theorem Sl.getD_lt {w : World} {ao : Option Addr} {n cap : Nat} {xs : List Nat} (h : Sl w ao n cap xs) (t : Nat) : xs.getD t 0 < 4294967296 := by
  by_cases ht : t < xs.length
  · simp only [List.getD, List.getElem?_eq_getElem ht, Option.getD_some]
    exact h.wf _ (List.getElem_mem ht)
  · simp [List.getD, List.getElem?_eq_none (by omega : xs.length ≤ t)]

end Go.Proofs.Ytkopkmbijmofjaa
