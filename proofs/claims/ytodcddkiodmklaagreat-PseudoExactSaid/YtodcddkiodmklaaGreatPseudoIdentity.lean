/-
  The law PseudoIdentity.
-/
import Derived.Test.YtodcddkiodmklaaGreatGQ2
set_option maxHeartbeats 40000000
set_option maxRecDepth 100000
namespace Go.Proofs.YtodcddkiodmklaaGreat
open Go.RowKit
theorem sm_of {p : List Term} (hf : fall p) (h : greatR (p.map rawC) 8 = false ∧ (∀ t ∈ p.map rawC, t.1.2.length ≤ 8) ∧ ∀ t ∈ p.map rawC, ∀ x ∈ t.2, x.2 ≤ 8) (hb : ∀ t ∈ p, Bd t.1 8) : Sm 8 p :=
 ⟨hf, by have := (greatR_no h.1).2; rw [List.length_map] at this; omega, hb, eb_of_deg (fun t ht x hx => h.2.2 (rawC t) (List.mem_map.2 ⟨t, ht, rfl⟩) x hx) (by omega)⟩
end Go.Proofs.YtodcddkiodmklaaGreat
