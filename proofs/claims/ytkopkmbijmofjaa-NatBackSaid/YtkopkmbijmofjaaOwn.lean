/-
  Slices of limbs that the call itself made: what it owns.
-/
import Derived.Test.YtkopkmbijmofjaaSl
import Derived.Laws.CopyOwn
namespace Go.Proofs.Ytkopkmbijmofjaa
open Go.RowKit

/-- the cells of a list of limbs -/
def cellsOf (ys : List Nat) : List Value := ys.map fun x => Value.int .u32 ((x : Nat) : Int)

theorem cellsOf_length (ys : List Nat) : (cellsOf ys).length = ys.length := by simp [cellsOf]
theorem cellsOf_get (ys : List Nat) (j : Nat) (h : j < ys.length) : (cellsOf ys)[j]? = some (.int .u32 (ys.getD j 0 : Nat)) := by
  simp [cellsOf, h, List.getD]
theorem cellsOf_append (xs ys : List Nat) : cellsOf (xs ++ ys) = cellsOf xs ++ cellsOf ys := by simp [cellsOf]
theorem cellsOf_take (xs : List Nat) (k : Nat) : cellsOf (xs.take k) = (cellsOf xs).take k := by simp [cellsOf]
theorem cellsOf_drop (xs : List Nat) (k : Nat) : cellsOf (xs.drop k) = (cellsOf xs).drop k := by simp [cellsOf]
theorem cellsOf_set (xs : List Nat) (k x : Nat) : cellsOf (xs.set k x) = (cellsOf xs).set k (.int .u32 ((x : Nat) : Int)) := by simp [cellsOf, List.map_set]
theorem cellsOf_replicate (k : Nat) : cellsOf (List.replicate k 0) = List.replicate k (.int .u32 0) := by simp [cellsOf]
theorem cellsOf_one (ys : List Nat) : ∀ v ∈ cellsOf ys, v.oneCell' = true := by
  intro v hv
  obtain ⟨_, _, rfl⟩ := List.mem_map.1 hv
  rfl

/-- The slice '.slice ao n cap' is the call's own (blocks from B on) and reads as ys. -/
structure Own (B : Nat) (w : World) (ao : Option Addr) (n cap : Nat) (ys : List Nat) : Prop where
  row : w.ownsRow B 38 1 (.slice ao n cap) n (cellsOf ys)
  big : n ≤ 35184372088832
  wf : ∀ x ∈ ys, x < 4294967296

theorem Own.nil (B : Nat) (w : World) : Own B w none 0 0 [] :=
  ⟨World.ownsRow_nil _ _ _ _, by omega, fun _ h => by cases h⟩

theorem Own.len {B : Nat} {w : World} {ao : Option Addr} {n cap : Nat} {ys : List Nat} (h : Own B w ao n cap ys) : ys.length = n := by
  have := h.row.1
  rw [cellsOf_length] at this
  omega

theorem Own.parts {B : Nat} {w : World} {ao : Option Addr} {n cap : Nat} {ys : List Nat} (h : Own B w ao n cap ys) :
    (ao = none ∧ n = 0 ∧ cap = 0 ∧ ys = []) ∨ ∃ g, ao = some ⟨g, 0, none⟩ ∧ B ≤ g ∧ g < w.heap.size ∧ n ≤ cap := by
  rcases h.row.2 with ⟨hv, h0⟩ | ⟨g, cap', cur, hv, hg, hh, hn, _⟩
  · simp only [Value.slice.injEq] at hv
    exact .inl ⟨hv.1, hv.2.1, hv.2.2, List.eq_nil_of_length_eq_zero (by rw [h.len, h0])⟩
  · simp only [Value.slice.injEq, true_and] at hv
    obtain ⟨rfl, rfl⟩ := hv
    exact .inr ⟨g, rfl, hg, lt_of_block hh, hn⟩

theorem Own.sl {B : Nat} {w : World} {ao : Option Addr} {n cap : Nat} {ys : List Nat} (h : Own B w ao n cap ys) : Sl w ao n cap ys := by
  rcases h.parts with ⟨rfl, rfl, rfl, rfl⟩ | ⟨g, rfl, hg, hlt, hn⟩
  · exact Sl.none w
  · refine Sl.of_cells h.len hn h.big h.wf fun t ht => ?_
    rw [Nat.zero_add, h.row.cellAt t (by omega), cellsOf_get ys t (by rw [h.len]; exact ht)]

theorem Own.frozen {B : Nat} {w : World} {g n cap : Nat} {ys : List Nat} (h : Own B w (some ⟨g, 0, none⟩) n cap ys) (j : Nat) : w.frozen? ⟨g, j, none⟩ = false := h.row.frozenAt j

/-- What is owned stays owned while the memory that is there stays. -/
theorem Own.below {B : Nat} {w w' : World} {ao : Option Addr} {n cap : Nat} {ys : List Nat} (h : Own B w ao n cap ys) (hb : Below w.heap.size w w') : Own B w' ao n cap ys := by
  refine ⟨⟨h.row.1, ?_⟩, h.big, h.wf⟩
  rcases h.row.2 with h2 | ⟨g, cap', cur, hv, hg, hh, r⟩
  · exact .inl h2
  · exact .inr ⟨g, cap', cur, hv, hg, by rw [hb.block g (lt_of_block hh)]; exact hh, r⟩

theorem Own.mono {B B' : Nat} {w : World} {ao : Option Addr} {n cap : Nat} {ys : List Nat} (h : Own B w ao n cap ys) (hB : B' ≤ B) : Own B' w ao n cap ys := by
  refine ⟨⟨h.row.1, ?_⟩, h.big, h.wf⟩
  rcases h.row.2 with h2 | ⟨g, cap', cur, hv, hg, r⟩
  · exact .inl h2
  · exact .inr ⟨g, cap', cur, hv, by omega, r⟩

/-- A store into what is owned. -/
theorem Own.set {B : Nat} {w : World} {g n cap : Nat} {ys : List Nat} (h : Own B w (some ⟨g, 0, none⟩) n cap ys) (j x : Nat) (hx : x < 4294967296) :
    Own B (w.setCell ⟨g, j, none⟩ (.int .u32 ((x : Nat) : Int))) (some ⟨g, 0, none⟩) n cap (ys.set j x) := by
  refine ⟨?_, h.big, fun y hy => ?_⟩
  · rw [cellsOf_set]
    exact (h.row.stored j _).1
  · rcases List.mem_or_eq_of_mem_set hy with hy | rfl
    · exact h.wf y hy
    · exact hx

/-- The first k of what is owned. -/
theorem Own.take {B : Nat} {w : World} {ao : Option Addr} {n cap : Nat} {ys : List Nat} (h : Own B w ao n cap ys) (k : Nat) (hk : k ≤ n) (h0 : 0 < k) : Own B w ao k cap (ys.take k) := by
  refine ⟨⟨by rw [cellsOf_length, List.length_take, h.len]; omega, ?_⟩, Nat.le_trans hk h.big, fun y hy => h.wf y (List.mem_of_mem_take hy)⟩
  rcases h.row.2 with ⟨hv, h2⟩ | ⟨g, cap', cur, hv, hg, hh, hn, hm, hs, ht⟩
  · omega
  · simp only [Value.slice.injEq, true_and] at hv
    obtain ⟨rfl, rfl⟩ := hv
    refine .inr ⟨g, cap, cur, rfl, hg, hh, by omega, hm, hs, ?_⟩
    rw [cellsOf_take, ← ht, List.take_take]
    congr 1
    omega

/-- A row that is full. -/
theorem row_full {B : Nat} {w : World} {e : TypeId} {g n : Nat} {xs : List Value} (h : w.ownsRow B e 1 (.slice (some ⟨g, 0, none⟩) n n) n xs) : w.heap[g]? = some (.cells xs.toArray e (0, 0)) := by
  rcases h.2 with ⟨hv, _⟩ | ⟨g', cap', cur, hv, hg, hh, hn, hm, hs, ht⟩
  · cases hv
  · simp only [Value.slice.injEq, Option.some.injEq, Addr.mk.injEq, true_and, and_true] at hv
    obtain ⟨rfl, rfl⟩ := hv
    rw [hh, ← ht, List.take_of_length_le (by simp; omega)]

theorem full_row {B : Nat} {w : World} {e : TypeId} {g n : Nat} {xs : List Value} (hB : B ≤ g) (hn : xs.length = n) (hm : n ≤ maxLen) (h : w.heap[g]? = some (.cells xs.toArray e (0, 0))) :
    w.ownsRow B e 1 (.slice (some ⟨g, 0, none⟩) n n) n xs :=
  ⟨by omega, .inr ⟨g, n, xs.toArray, rfl, hB, h, Nat.le_refl _, hm, by simp; omega, List.take_of_length_le (by simp; omega)⟩⟩

/-- What a call that makes a list of limbs leaves. -/
def NewSl (w : World) (ys : List Nat) (e : Ending) (w' : World) : Prop :=
  ∃ ao n cap, e = .returned (.slice ao n cap) ∧ Own w.heap.size w' ao n cap ys ∧ Below w.heap.size w w'

/-- The same beside an error's number. -/
def NewSlE (w : World) (ys : List Nat) (er : Int) (e : Ending) (w' : World) : Prop :=
  ∃ ao n cap, e = .returned (.tuple #[.slice ao n cap, .int .i64 er]) ∧ Own w.heap.size w' ao n cap ys ∧ Below w.heap.size w w'

theorem Try.info_u32 : (Try.prog.info? 38).map (fun i => (i.zero, i.size, i.bytes)) = some (some (.int .u32 0), 1, 4) := by kernel_rfl
theorem Try.size_u32 : (Try.prog.info? 38).map (·.size) = some 1 := by kernel_rfl

theorem made_u32 (n : Nat) : (madeCells #[Value.int .u32 0] n).toList = cellsOf (List.replicate n 0) := by
  rw [cellsOf_replicate]
  exact toList_madeCells_one _ n

/-- A list of limbs written out. -/
theorem Own.lit (w : World) (ys : List Nat) (hw : ∀ x ∈ ys, x < 4294967296) (hl : ys.length ≤ 35184372088832) :
    Own w.heap.size (w.alloc (.cells (cellsOf ys).toArray 38)) (some ⟨w.heap.size, 0, none⟩) ys.length ys.length ys :=
  ⟨by simpa using World.ownsRow_lit (base := w.heap.size) w (cellsOf ys).toArray ys.length (size := 1) (e := 38) (Nat.le_refl _) (by unfold maxLen; omega) (by simp [cellsOf]), hl, hw⟩

end Go.Proofs.Ytkopkmbijmofjaa
