/- TPlain, Bare, AddRow, TRows, TParts, TCut, TMul -/
import Derived.Test.YtmmgipcacceakaaGNatB
import Derived.Test.YtmmgipcacceakaaGLaw
set_option maxHeartbeats 40000000
set_option maxRecDepth 100000
/- Plain lemmas for layer 2: rows, parts, sums of parts. -/
namespace Go.Proofs.Ytmmgipcacceakaa
end Go.Proofs.Ytmmgipcacceakaa

/- The contract of times.bare: the limbs without the noughts at the end, not copied. -/
namespace Go.Proofs.Ytmmgipcacceakaa
open Go.RowKit
theorem Sl.take {w : World} {ao : Option Addr} {n cap : Nat} {xs : List Nat} (h : Sl w ao n cap xs) (k : Nat) (hk : k ≤ n) : Sl w ao k cap (xs.take k) :=
 ⟨by rw [List.length_take, h.len]; omega, by have := h.le; omega, by have := h.big; omega, h.wf |> fun hw x hx => hw x (List.mem_of_mem_take hx), h.nil, fun ad had t ht => by
  rw [h.cells ad had t (by omega)]
  congr 3
  simp [List.getD, ht]⟩
end Go.Proofs.Ytmmgipcacceakaa

/- The contract of times.addRow: a row's products are added to limbs of the call's own. -/
namespace Go.Proofs.Ytmmgipcacceakaa
open Go.RowKit
end Go.Proofs.Ytmmgipcacceakaa

/- The contract of times.Rows. -/
namespace Go.Proofs.Ytmmgipcacceakaa
open Go.RowKit
end Go.Proofs.Ytmmgipcacceakaa

/- The contracts of times.parts, times.less and times.addInto. -/
namespace Go.Proofs.Ytmmgipcacceakaa
open Go.RowKit
end Go.Proofs.Ytmmgipcacceakaa

/- The contracts of times.cut and of product: the product by the parts' products. -/
namespace Go.Proofs.Ytmmgipcacceakaa
open Go.RowKit
theorem Sl.hpos {w : World} {ao : Option Addr} {n cap : Nat} {xs : List Nat} (h : Sl w ao n cap xs) (h0 : 0 < (cellsOf xs).length) : ∃ ad, ao = some ad ∧ ∀ j v, (cellsOf xs)[j]? = some v → w.cell? (ad.add j) = some v := by
 rw [cellsOf_length, h.len] at h0
 have := h.src n (Nat.le_refl _) h0
 rwa [take_all xs n h.len] at this
end Go.Proofs.Ytmmgipcacceakaa

/- The contract of times.Mul. -/
namespace Go.Proofs.Ytmmgipcacceakaa
open Go.RowKit
end Go.Proofs.Ytmmgipcacceakaa

