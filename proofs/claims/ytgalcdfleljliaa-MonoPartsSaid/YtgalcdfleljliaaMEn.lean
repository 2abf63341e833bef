/-
  Lists of powers among what is alive in a walk.
-/
import Derived.Test.YtgalcdfleljliaaMl
import Derived.Test.YtgalcdfleljliaaEc
set_option maxRecDepth 8192
namespace Go.Proofs.Ytgalcdfleljliaa
open Go.RowKit

/-- the block of a list that is not empty -/
def mlFoot (ao : Option Addr) (n : Nat) (c : Nat) : Prop := 0 < n ∧ ∃ a, ao = some a ∧ a.block = c

theorem add_block2 (a : Addr) (k : Nat) : (a.add k).block = a.block := by unfold Addr.add; split <;> rfl

theorem ml_dep {ao : Option Addr} {n cap : Nat} {ps : List (Int × Int)} (w w' : World) (hh : ∀ c, mlFoot ao n c → w'.heap[c]? = w.heap[c]?) (h : Ml w ao n cap ps) : Ml w' ao n cap ps :=
  ⟨h.len, h.le, h.big, h.wf, h.nil, fun ad had t ht =>
    ⟨(World.cell?_of_block (a := ad.add (t * 2)) (by rw [add_block2]; exact hh _ ⟨by omega, ad, had, rfl⟩)).trans (h.cells ad had t ht).1,
     (World.cell?_of_block (a := ad.add (t * 2 + 1)) (by rw [add_block2]; exact hh _ ⟨by omega, ad, had, rfl⟩)).trans (h.cells ad had t ht).2⟩⟩
theorem ml_lt {ao : Option Addr} {n cap : Nat} {ps : List (Int × Int)} (w : World) (h : Ml w ao n cap ps) (c : Nat) (hc : mlFoot ao n c) : c < w.heap.size := by
  obtain ⟨h0, a, ha, rfl⟩ := hc
  have h1 := (h.cells a ha 0 h0).1
  have := World.block_lt_of_cell? w _ h1
  rwa [add_block2] at this

def En.ml (ao : Option Addr) (n cap : Nat) (ps : List (Int × Int)) : En := ⟨fun w => Ml w ao n cap ps, mlFoot ao n, ml_dep, fun w h => ml_lt w h⟩
theorem Alls.ml {w : World} {ao : Option Addr} {n cap : Nat} {ps : List (Int × Int)} {r : List En} (h : Alls w (.ml ao n cap ps :: r)) : Ml w ao n cap ps := h.1

/-- a list that came of a call made behind world w: a walk whose variables are none -/
theorem Sx.ml {w0 w : World} {N : List En} (s : Sx w0 w [] N) {ao : Option Addr} {n cap : Nat} {ps : List (Int × Int)} (h : Ml w ao n cap ps) : Sx w0 w [] (.ml ao n cap ps :: N) :=
  s.add (.ml ao n cap ps) h (fun v hv => by cases hv)

end Go.Proofs.Ytgalcdfleljliaa
