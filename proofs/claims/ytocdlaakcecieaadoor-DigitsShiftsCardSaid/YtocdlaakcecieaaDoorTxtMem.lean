/-
  Texts in memory: a block of bytes that reads as a text, a copy of a string into it.
-/
import Derived.Test.YtocdlaakcecieaaDoorTxtBytes
import Derived.Lib.BufferWrite
set_option maxRecDepth 8192
namespace Go.Proofs.YtocdlaakcecieaaDoor
open Go.RowKit Go.Lib

/-- The first T cells of block g are the text l. -/
def TxtIs (w : World) (g T : Nat) (l : List UInt8) : Prop :=
  l.length = T ∧ ∃ cur : List Value, w.heap[g]? = some (.cells cur.toArray 5 (0, 0)) ∧ cur.take T = byteCells l

theorem TxtIs.of_fill {w : World} {g n : Nat} {c : UInt8} (h : Filled w g n n c) : TxtIs w g n (List.replicate n c) := by
  obtain ⟨cur, hc, hl, he⟩ := h
  refine ⟨List.length_replicate, cur, hc, ?_⟩
  apply List.ext_getElem?
  intro j
  by_cases hj : j < n
  · rw [List.getElem?_take_of_lt hj, he j hj]
    simp [byteCells, hj]
  · rw [List.getElem?_eq_none (by rw [List.length_take]; omega), List.getElem?_eq_none (by simp [byteCells]; omega)]

theorem TxtIs.row {w : World} {g T : Nat} {l : List UInt8} (h : TxtIs w g T l) : ∃ cur : List Value, w.heap[g]? = some (.cells cur.toArray 5 (0, 0)) ∧ T ≤ cur.length := by
  obtain ⟨hl, cur, hc, ht⟩ := h
  refine ⟨cur, hc, ?_⟩
  have := congrArg List.length ht
  rw [byteCells_length, hl, List.length_take] at this
  omega

theorem TxtIs.cell {w : World} {g T : Nat} {l : List UInt8} (h : TxtIs w g T l) (j : Nat) (hj : j < l.length) : w.cell? ⟨g, j, none⟩ = some (.int .u8 (l[j].toNat : Int)) := by
  obtain ⟨hl, cur, hc, ht⟩ := h
  rw [Lib.cell_of_heap hc, List.getElem?_toArray, ← List.getElem?_take_of_lt (show j < T by omega), ht]
  simp [byteCells, hj]

theorem take3 (A S D : List Value) (T : Nat) (h : A.length + S.length ≤ T) : (A ++ (S ++ D)).take T = A ++ (S ++ D.take (T - A.length - S.length)) := by
  rw [List.take_append, List.take_append, List.take_of_length_le (show A.length ≤ T by omega), List.take_of_length_le (show S.length ≤ T - A.length by omega)]

/-- 'copy(dst, s)', s a string that fits. -/
theorem wpList_copy_str {w : World} {ops : Array Oper} {rest : List Oper} {o : Oper} {a : Act} {Q : Exit → Act → World → Prop} (hgd : o.guard = none) (d s : Operand) (dT sT : TypeId)
    (ho : o.op = .call { callee := .builtin .copy, args := #[d, s], argTypes := #[dT, sT] }) (hu : Tryd.prog.underlying dT = some (.slice 5))
    (g off dLen dCap : Nat) (hd : a.eval d = .slice (some ⟨g, off, none⟩) dLen dCap) (str : List UInt8) (hs : a.eval s = .string ⟨str.toArray⟩)
    (T : Nat) (l : List UInt8) (hT : TxtIs w g T l) (hle : str.length ≤ dLen) (hfit : off + str.length ≤ T) (B : Nat) (w0 : World) (hb : Below B w0 w) (hBg : B ≤ g)
    (h : ∀ w', Hid (TxtIs w' g T (l.take off ++ (str ++ l.drop (off + str.length)))) → Below B w0 w' → wpList Tryd.prog ops Q rest (a.put o.dst (goInt str.length)) w') :
    wpList Tryd.prog ops Q (o :: rest) a w := by
  have hT0 := hT
  obtain ⟨hl, cur, hc, ht⟩ := hT
  obtain ⟨cur', hc', hcl⟩ := hT0.row
  have e : cur' = cur := by
    rw [hc] at hc'
    simpa using hc'.symm
  subst e
  have hsz : (⟨str.toArray⟩ : ByteArray).size = str.length := by rw [Lib.size_eq]
  have hr := run_copy_row_string (P := Tryd.prog) w dT sT o.type 5 g off dLen dCap ⟨str.toArray⟩ cur'.toArray 5 hu Tryd.size_u8 hc (by rw [hsz]; exact hle) (by rw [hsz]; simp; omega)
  rw [hsz] at hr
  refine wpList_plain hgd fun K hK => ?_
  unfold Oper.wp
  simp [execOp, ho, resolve, invoke, builtin, hd, hs, hr, Result.andThen]
  refine hK _ _ (h _ ?_ (below_setRow hb hBg _))
  have hT1 : T ≤ cur'.length := hcl
  refine ⟨?_, _, setRow_heap w g _ _ 5 _ hc, ?_⟩
  · rw [List.length_append, List.length_append, List.length_take, List.length_drop]; omega
  · have e1 : List.take off cur' = byteCells (l.take off) := by
      unfold byteCells at ht ⊢
      rw [List.map_take, ← ht, List.take_take, Nat.min_eq_left (by omega)]
    have e2 : List.take (T - off - str.length) (List.drop (off + str.length) cur') = byteCells (l.drop (off + str.length)) := by
      unfold byteCells at ht ⊢
      rw [List.map_drop, ← ht, List.drop_take]
      congr 1
      omega
    have e3 : (List.take off cur').length = off := by rw [List.length_take]; omega
    have e4 : (byteCells str).length = str.length := byteCells_length _
    have e5 := take3 (List.take off cur') (byteCells str) (List.drop (off + str.length) cur') T (by omega)
    rw [e3, e4] at e5
    rw [byteCells_append, byteCells_append, ← e1, ← e2]
    exact e5

end Go.Proofs.YtocdlaakcecieaaDoor
