/-
  What rows over lists of structs share.
-/
import Derived.Test.YthllkgjgakeinaaTms
import Derived.Test.YthllkgjgakeinaaGLaw
import Derived.Deep.Slices
set_option maxRecDepth 8192
namespace Go.Proofs.Ythllkgjgakeinaa
open Go.ChangeShapes Go.WideShapes Go.ChangeAt Go.RowKit Go.Deep
theorem weights_mem_all {H : Type} {P : Program} {e : TypeId} : ∀ {ds : List (DataW H)} {d : DataW H}, d ∈ ds → ∀ n ∈ d.weights P e, n ∈ DataW.weightsAll P e ds
  | d0 :: ds, d, hd, n, hn => by
    simp only [DataW.weightsAll, List.mem_append]
    rcases List.mem_cons.1 hd with rfl | hd
    · exact .inl hn
    · exact .inr (weights_mem_all hd n hn)
theorem cell_lt {w : World} {a : Addr} {v : Value} (h : w.cell? a = some v) : a.block < w.heap.size := by
  refine Classical.byContradiction fun hn => ?_
  unfold World.cell? at h
  rw [Array.getElem?_eq_none (by omega)] at h
  simp at h
theorem tms_of {α : Type} {R : List Value → α → Prop} (f : Nat → List Value) (g : Nat → α) : ∀ n, (∀ i, i < n → R (f i) (g i)) → Tms R ((List.range n).map f) ((List.range n).map g)
  | 0, _ => trivial
  | n + 1, h => by
    rw [List.range_succ, List.map_append, List.map_append]
    exact Tms.append (tms_of f g n fun i hi => h i (by omega)) ⟨h n (by omega), trivial⟩
end Go.Proofs.Ythllkgjgakeinaa