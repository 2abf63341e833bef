/-
  'append(s, x)' of one element of one cell to a slice that the call owns: as the walk takes it.
-/
import Derived.Test.YtkopkmbijmofjaaOwn
namespace Go.Proofs.Ytkopkmbijmofjaa
open Go.RowKit

theorem owns_shape {w : World} {base : Nat} {e : TypeId} {v : Value} {n : Nat} {xs : List Value} (h : w.ownsRow base e 1 v n xs) : ∃ ao cap, v = .slice ao n cap := by
  rcases h.2 with ⟨hv, h0⟩ | ⟨g, cap, cur, hv, _⟩
  · exact ⟨none, 0, by rw [hv, h0]⟩
  · exact ⟨_, _, hv⟩

theorem wpList_push {P : Program} (w w0 : World) {ops : Array Oper} {rest : List Oper} {o : Oper} {a : Act} {Q : Exit → Act → World → Prop}
    (hg : o.guard = none) (s x : Operand) (t : TypeId) (hop : o.op = Op.call { callee := Callee.builtin Builtin.append, args := #[s, x], argTypes := #[t, t] })
    (base : Nat) (e : TypeId) (i : TypeInfo) (z : Value) (bytes : Nat) (h1 : P.underlying t = some (.slice e)) (h2 : P.info? e = some i) (h3 : i.zero = some z) (h4 : i.size = 1) (h5 : i.bytes = bytes) (h6 : z.cells.size = 1)
    (ao : Option Addr) (n cap : Nat) (xs : List Value) (hs : a.eval s = .slice ao n cap) (hown : w.ownsRow base e 1 (.slice ao n cap) n xs)
    (v : Value) (hv : v.oneCell' = true) (tt : TypeId) (hx : a.eval x = .slice (some ⟨w.heap.size, 0, none⟩) 1 1) (hb : Below base w0 w) (hbase : base ≤ w.heap.size)
    (b1 : n + 1 ≤ maxLen) (b2 : (n + 1) * bytes ≤ 140737488355328)
    (hK : ∀ ao' cap' w', w'.ownsRow base e 1 (.slice ao' (n + 1) cap') (n + 1) (xs ++ [v]) → Below base w0 w' → (w.alloc (.cells #[v] tt)).grownBy w' (Value.slice ao n cap).ownBlock → wpList P ops Q rest (a.put o.dst (.slice ao' (n + 1) cap')) w') :
    wpList P ops Q (o :: rest) a (w.alloc (.cells #[v] tt)) := by
  have ho1 := hown.alloc (.cells #[v] tt)
  refine wpList_append_own _ hg s x t hop base e i z 1 bytes h1 h2 h3 h4 h5 h6 (by decide) _ n xs hs ho1 ⟨w.heap.size, 0, none⟩ 1 1 [v] hx rfl ?_ ?_ b1 b2 (by simp; omega) ?_
  · intro j u hj
    match j, hj with
    | 0, hj =>
      simp at hj
      subst hj
      simp [Addr.add]
  · intro u hu
    simp at hu
    subst hu
    exact hv
  · intro v' w' hown' hgrow _
    obtain ⟨ao', cap', rfl⟩ := owns_shape hown'
    refine hK ao' cap' w' hown' ((hb.alloc hbase _).grown hgrow (by simp; omega) fun k hk => ?_) hgrow
    exact (ho1.lt k hk).1

end Go.Proofs.Ytkopkmbijmofjaa
