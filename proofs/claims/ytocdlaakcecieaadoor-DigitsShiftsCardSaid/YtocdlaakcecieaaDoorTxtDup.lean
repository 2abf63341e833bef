/-
  'append([]uint32{}, a...)' as a step of a region that draws its order, wherever the empty literal lies.
-/
import Derived.Test.YtocdlaakcecieaaDoorGWInt
import Derived.Laws.AppendOwnNone
set_option maxRecDepth 8192
namespace Go.Proofs.YtocdlaakcecieaaDoor
open Go.RowKit

theorem step_dup2 {P : Program} {w : World} {ops : Array Oper} {o : Oper} {a : Act} {K : Act → World → Prop} {Q : Exit → Act → World → Prop} {E : Prop}
    (hg : o.guard = none) (s x : Operand) (t : TypeId) (hop : o.op = Op.call { callee := Callee.builtin Builtin.append, args := #[s, x], argTypes := #[t, t] })
    (i : TypeInfo) (z : Value) (h1 : P.underlying t = some (.slice 39)) (h2 : P.info? 39 = some i) (h3 : i.zero = some z) (h4 : i.size = 1) (h5 : i.bytes = 4) (h6 : z.cells.size = 1)
    (g : Nat) (hs : a.eval s = .slice (some ⟨g, 0, none⟩) 0 0) {B : Nat} (hown0 : w.ownsRow B 39 1 (.slice (some ⟨g, 0, none⟩) 0 0) 0 []) (w0 : World) (hb : Below B w0 w) (hBw : B ≤ w.heap.size)
    (ao : Option Addr) (n cap : Nat) (xs : List Nat) (hx : a.eval x = .slice ao n cap) (hS : Sl w ao n cap xs)
    (hK : ∀ ao' cap' w', Own B w' ao' n cap' xs → Below B w0 w' → w.grownBy w' (some g) → K (a.put o.dst (.slice ao' n cap')) w') :
    if Region.wanted o (yielded ops a.tmps) = true then Oper.wp P o a w K Q else E := by
  have hw : Region.wanted o (yielded ops a.tmps) = true := by simp [Region.wanted, hg]
  rw [if_pos hw]
  cases ao with
  | none =>
    have hn : n = 0 := by have := hS.nil rfl; have := hS.le; omega
    have hc : cap = 0 := hS.nil rfl
    subst hn; subst hc
    have hxs : xs = [] := List.eq_nil_of_length_eq_zero hS.len
    subst hxs
    have hrun := run_append_owned_none (P := P) w B t o.type 39 i 1 h1 h2 _ 0 [] hown0
    unfold Oper.wp
    simp [execOp, hop, resolve, invoke, builtin, hs, hx, hrun, Result.andThen]
    exact hK _ _ _ ⟨by simpa [cellsOf] using hown0, Nat.zero_le _, fun _ h => by cases h⟩ hb ⟨rfl, rfl, rfl, Nat.le_refl _, fun _ _ _ => rfl⟩
  | some ad =>
    refine wp_append_own _ s x t hop B 39 i z 1 4 h1 h2 h3 h4 h5 h6 (by decide) _ 0 [] hs hown0 ad n cap (cellsOf xs) hx (by rw [cellsOf_length, hS.len, Nat.mul_one]) ?_ (cellsOf_one xs) (by have := hS.big; unfold maxLen; omega) (by have := hS.big; omega) hBw ?_
    · intro j u hj
      have hjl : j < n := by have := (List.getElem?_eq_some_iff.1 hj).1; rwa [cellsOf_length, hS.len] at this
      rw [hS.cells ad rfl j hjl, ← hj, cellsOf_get xs j (by rw [hS.len]; exact hjl)]
    · intro v' w' hown' hgrow _
      have hsh : ∃ ao' cap', v' = .slice ao' (0 + n) cap' := by
        rcases hown'.2 with ⟨hv, h0⟩ | ⟨g, cap, cur, hv, _⟩
        · exact ⟨none, 0, by rw [hv, h0]⟩
        · exact ⟨_, _, hv⟩
      obtain ⟨ao', cap', rfl⟩ := hsh
      rw [Nat.zero_add] at hown' ⊢
      refine hK ao' cap' w' ⟨by simpa using hown', hS.big, hS.wf⟩ (hb.grown hgrow hBw fun k hk => ?_) hgrow
      have h7 := (hown0.lt k hk).1
      exact h7

theorem Box.grown {w w' : World} {b : Nat} {m : Bool} {ao : Option Addr} {n cap : Nat} {row : Option Nat} (h : Box w b m ao n cap) (hg : w.grownBy w' row) (hne : some b ≠ row) : Box w' b m ao n cap := by
  have hc : ∀ o, w'.cell? ⟨b, o, none⟩ = w.cell? ⟨b, o, none⟩ := fun o => World.cell?_of_block (hg.block b h.lt hne)
  have hf : ∀ o, w'.frozen? ⟨b, o, none⟩ = w.frozen? ⟨b, o, none⟩ := fun o => World.frozen?_of_block (hg.block b h.lt hne)
  exact ⟨Nat.lt_of_lt_of_le h.lt hg.size, (hc 0).trans h.c0, (hc 1).trans h.c1, (hf 0).trans h.f0, (hf 1).trans h.f1, fun o v hv => h.only o v ((hc o).symm.trans hv)⟩

theorem lit_owns (w : World) : (w.alloc (.cells #[] 39)).ownsRow w.heap.size 39 1 (.slice (some ⟨w.heap.size, 0, none⟩) 0 0) 0 [] :=
  World.ownsRow_made w #[] 0 (Nat.le_refl _) (Nat.zero_le _) rfl

end Go.Proofs.YtocdlaakcecieaaDoor
