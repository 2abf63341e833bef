/-
  In one: Sl, Own.
-/
import Derived.Test.YthllkgjgakeinaaGBase
import Derived.Test.YthllkgjgakeinaaRows
import Derived.WalkSpells
import Derived.WalkLawsBesides
import Derived.Laws.CopyOwn
set_option maxRecDepth 8192
/- Slices of limbs as lists of numbers: what a slice reads, and that it goes on reading so while memory below stays. -/
namespace Go.Proofs.Ythllkgjgakeinaa
open Go.RowKit
theorem ret_int {k : IntKind} {a b : Int} (h : a = b) : Ending.returned (.int k a) = .returned (.int k b) := by rw [h]
theorem ret_int2 {k l : IntKind} {a b c d : Int} (h : a = b) (h2 : c = d) : Ending.returned (.tuple #[.int k a, .int l c]) = .returned (.tuple #[.int k b, .int l d]) := by rw [h, h2]
theorem ret_bool {a b : Bool} (h : a = b) : Ending.returned (.bool a) = .returned (.bool b) := by rw [h]
structure Sl (w : World) (ao : Option Addr) (n cap : Nat) (xs : List Nat) : Prop where
  len : xs.length = n
  le : n ≤ cap
  big : n ≤ 35184372088832
  wf : ∀ x ∈ xs, x < 4294967296
  nil : ao = none → cap = 0
  cells : ∀ ad, ao = some ad → ∀ t, t < n → w.cell? (ad.add t) = some (.int .u32 (xs.getD t 0 : Nat))
theorem Sl.at {w : World} {ao : Option Addr} {n cap : Nat} {xs : List Nat} (h : Sl w ao n cap xs) (hn : 0 < n) :
    ∃ b off, ao = some ⟨b, off, none⟩ ∧ b < w.heap.size ∧ ∀ t, t < n → w.cell? ⟨b, off + t, none⟩ = some (.int .u32 (xs.getD t 0 : Nat)) := by
  cases hao : ao with
  | none => have := h.nil hao; have := h.le; omega
  | some ad =>
    obtain ⟨b, off, s⟩ := ad
    have h0 := h.cells _ hao 0 hn
    have hs : s = none := by simpa [Addr.add] using World.cell?_spot h0
    subst hs
    refine ⟨b, off, rfl, ?_, fun t ht => ?_⟩
    · simpa [Addr.add] using World.block_lt_of_cell? w _ h0
    · have := h.cells _ hao t ht
      rwa [Addr.add_lit] at this
theorem Sl.of_cells {w : World} {b off n cap : Nat} {xs : List Nat} (h1 : xs.length = n) (h2 : n ≤ cap) (h3 : n ≤ 35184372088832) (h4 : ∀ x ∈ xs, x < 4294967296)
    (hc : ∀ t, t < n → w.cell? ⟨b, off + t, none⟩ = some (.int .u32 (xs.getD t 0 : Nat))) : Sl w (some ⟨b, off, none⟩) n cap xs :=
  ⟨h1, h2, h3, h4, (fun h => by cases h), fun ad had t ht => by cases had; rw [Addr.add_lit]; exact hc t ht⟩
theorem Sl.none (w : World) : Sl w Option.none 0 0 [] :=
  ⟨rfl, Nat.le_refl _, by omega, (fun _ h => by cases h), (fun _ => rfl), fun _ h => by cases h⟩
theorem Sl.below {w w' : World} {ao : Option Addr} {n cap : Nat} {xs : List Nat} (h : Sl w ao n cap xs) (hb : Below w.heap.size w w') : Sl w' ao n cap xs :=
  ⟨h.len, h.le, h.big, h.wf, h.nil, fun ad had t ht => by
    have h0 := h.cells ad had t ht
    rw [hb.cell (World.block_lt_of_cell? w _ h0)]
    exact h0⟩
theorem Sl.getD_lt {w : World} {ao : Option Addr} {n cap : Nat} {xs : List Nat} (h : Sl w ao n cap xs) (t : Nat) : xs.getD t 0 < 4294967296 := by
  by_cases ht : t < xs.length
  · simp only [List.getD, List.getElem?_eq_getElem ht, Option.getD_some]
    exact h.wf _ (List.getElem_mem ht)
  · simp [List.getD, List.getElem?_eq_none (by omega : xs.length ≤ t)]
end Go.Proofs.Ythllkgjgakeinaa

/- Slices of limbs that the call itself made: what it owns. -/
namespace Go.Proofs.Ythllkgjgakeinaa
open Go.RowKit
def cellsOf (ys : List Nat) : List Value := ys.map fun x => Value.int .u32 ((x : Nat) : Int)
theorem cellsOf_length (ys : List Nat) : (cellsOf ys).length = ys.length := by simp [cellsOf]
theorem cellsOf_get (ys : List Nat) (j : Nat) (h : j < ys.length) : (cellsOf ys)[j]? = some (.int .u32 (ys.getD j 0 : Nat)) := by
  simp [cellsOf, h, List.getD]
theorem cellsOf_append (xs ys : List Nat) : cellsOf (xs ++ ys) = cellsOf xs ++ cellsOf ys := by simp [cellsOf]
theorem cellsOf_take (xs : List Nat) (k : Nat) : cellsOf (xs.take k) = (cellsOf xs).take k := by simp [cellsOf]
theorem cellsOf_drop (xs : List Nat) (k : Nat) : cellsOf (xs.drop k) = (cellsOf xs).drop k := by simp [cellsOf]
theorem cellsOf_set (xs : List Nat) (k x : Nat) : cellsOf (xs.set k x) = (cellsOf xs).set k (.int .u32 ((x : Nat) : Int)) := by simp [cellsOf, List.map_set]
theorem cellsOf_replicate (k : Nat) : cellsOf (List.replicate k 0) = List.replicate k (.int .u32 0) := by simp [cellsOf]
theorem cellsOf_one (ys : List Nat) : ∀ v ∈ cellsOf ys, v.oneCell' = true := by
  intro v hv
  obtain ⟨_, _, rfl⟩ := List.mem_map.1 hv
  rfl
structure Own (B : Nat) (w : World) (ao : Option Addr) (n cap : Nat) (ys : List Nat) : Prop where
  row : w.ownsRow B 56 1 (.slice ao n cap) n (cellsOf ys)
  big : n ≤ 35184372088832
  wf : ∀ x ∈ ys, x < 4294967296
theorem Own.nil (B : Nat) (w : World) : Own B w none 0 0 [] :=
  ⟨World.ownsRow_nil _ _ _ _, by omega, fun _ h => by cases h⟩
theorem Own.len {B : Nat} {w : World} {ao : Option Addr} {n cap : Nat} {ys : List Nat} (h : Own B w ao n cap ys) : ys.length = n := by
  have := h.row.1
  rw [cellsOf_length] at this
  omega
theorem Own.parts {B : Nat} {w : World} {ao : Option Addr} {n cap : Nat} {ys : List Nat} (h : Own B w ao n cap ys) :
    (ao = none ∧ n = 0 ∧ cap = 0 ∧ ys = []) ∨ ∃ g, ao = some ⟨g, 0, none⟩ ∧ B ≤ g ∧ g < w.heap.size ∧ n ≤ cap := by
  rcases h.row.2 with ⟨hv, h0⟩ | ⟨g, cap', cur, hv, hg, hh, hn, _⟩
  · simp only [Value.slice.injEq] at hv
    exact .inl ⟨hv.1, hv.2.1, hv.2.2, List.eq_nil_of_length_eq_zero (by rw [h.len, h0])⟩
  · simp only [Value.slice.injEq, true_and] at hv
    obtain ⟨rfl, rfl⟩ := hv
    exact .inr ⟨g, rfl, hg, lt_of_block hh, hn⟩
theorem Own.sl {B : Nat} {w : World} {ao : Option Addr} {n cap : Nat} {ys : List Nat} (h : Own B w ao n cap ys) : Sl w ao n cap ys := by
  rcases h.parts with ⟨rfl, rfl, rfl, rfl⟩ | ⟨g, rfl, hg, hlt, hn⟩
  · exact Sl.none w
  · refine Sl.of_cells h.len hn h.big h.wf fun t ht => ?_
    rw [Nat.zero_add, h.row.cellAt t (by omega), cellsOf_get ys t (by rw [h.len]; exact ht)]
theorem Own.frozen {B : Nat} {w : World} {g n cap : Nat} {ys : List Nat} (h : Own B w (some ⟨g, 0, none⟩) n cap ys) (j : Nat) : w.frozen? ⟨g, j, none⟩ = false := h.row.frozenAt j
theorem Own.below {B : Nat} {w w' : World} {ao : Option Addr} {n cap : Nat} {ys : List Nat} (h : Own B w ao n cap ys) (hb : Below w.heap.size w w') : Own B w' ao n cap ys := by
  refine ⟨⟨h.row.1, ?_⟩, h.big, h.wf⟩
  rcases h.row.2 with h2 | ⟨g, cap', cur, hv, hg, hh, r⟩
  · exact .inl h2
  · exact .inr ⟨g, cap', cur, hv, hg, by rw [hb.block g (lt_of_block hh)]; exact hh, r⟩
theorem Own.mono {B B' : Nat} {w : World} {ao : Option Addr} {n cap : Nat} {ys : List Nat} (h : Own B w ao n cap ys) (hB : B' ≤ B) : Own B' w ao n cap ys := by
  refine ⟨⟨h.row.1, ?_⟩, h.big, h.wf⟩
  rcases h.row.2 with h2 | ⟨g, cap', cur, hv, hg, r⟩
  · exact .inl h2
  · exact .inr ⟨g, cap', cur, hv, by omega, r⟩
theorem Own.set {B : Nat} {w : World} {g n cap : Nat} {ys : List Nat} (h : Own B w (some ⟨g, 0, none⟩) n cap ys) (j x : Nat) (hx : x < 4294967296) :
    Own B (w.setCell ⟨g, j, none⟩ (.int .u32 ((x : Nat) : Int))) (some ⟨g, 0, none⟩) n cap (ys.set j x) := by
  refine ⟨?_, h.big, fun y hy => ?_⟩
  · rw [cellsOf_set]
    exact (h.row.stored j _).1
  · rcases List.mem_or_eq_of_mem_set hy with hy | rfl
    · exact h.wf y hy
    · exact hx
theorem Own.take {B : Nat} {w : World} {ao : Option Addr} {n cap : Nat} {ys : List Nat} (h : Own B w ao n cap ys) (k : Nat) (hk : k ≤ n) (h0 : 0 < k) : Own B w ao k cap (ys.take k) := by
  refine ⟨⟨by rw [cellsOf_length, List.length_take, h.len]; omega, ?_⟩, Nat.le_trans hk h.big, fun y hy => h.wf y (List.mem_of_mem_take hy)⟩
  rcases h.row.2 with ⟨hv, h2⟩ | ⟨g, cap', cur, hv, hg, hh, hn, hm, hs, ht⟩
  · omega
  · simp only [Value.slice.injEq, true_and] at hv
    obtain ⟨rfl, rfl⟩ := hv
    refine .inr ⟨g, cap, cur, rfl, hg, hh, by omega, hm, hs, ?_⟩
    rw [cellsOf_take, ← ht, List.take_take]
    congr 1
    omega
theorem row_full {B : Nat} {w : World} {e : TypeId} {g n : Nat} {xs : List Value} (h : w.ownsRow B e 1 (.slice (some ⟨g, 0, none⟩) n n) n xs) : w.heap[g]? = some (.cells xs.toArray e (0, 0)) := by
  rcases h.2 with ⟨hv, _⟩ | ⟨g', cap', cur, hv, hg, hh, hn, hm, hs, ht⟩
  · cases hv
  · simp only [Value.slice.injEq, Option.some.injEq, Addr.mk.injEq, true_and, and_true] at hv
    obtain ⟨rfl, rfl⟩ := hv
    rw [hh, ← ht, List.take_of_length_le (by simp; omega)]
theorem full_row {B : Nat} {w : World} {e : TypeId} {g n : Nat} {xs : List Value} (hB : B ≤ g) (hn : xs.length = n) (hm : n ≤ maxLen) (h : w.heap[g]? = some (.cells xs.toArray e (0, 0))) :
    w.ownsRow B e 1 (.slice (some ⟨g, 0, none⟩) n n) n xs :=
  ⟨by omega, .inr ⟨g, n, xs.toArray, rfl, hB, h, Nat.le_refl _, hm, by simp; omega, List.take_of_length_le (by simp; omega)⟩⟩
def NewSl (w : World) (ys : List Nat) (e : Ending) (w' : World) : Prop :=
  ∃ ao n cap, e = .returned (.slice ao n cap) ∧ Own w.heap.size w' ao n cap ys ∧ Below w.heap.size w w'
def NewSlE (w : World) (ys : List Nat) (er : Int) (e : Ending) (w' : World) : Prop :=
  ∃ ao n cap, e = .returned (.tuple #[.slice ao n cap, .int .i64 er]) ∧ Own w.heap.size w' ao n cap ys ∧ Below w.heap.size w w'
theorem Try.info_u32 : (Try.prog.info? 56).map (fun i => (i.zero, i.size, i.bytes)) = some (some (.int .u32 0), 1, 4) := by kernel_rfl
theorem Try.size_u32 : (Try.prog.info? 56).map (·.size) = some 1 := by kernel_rfl
theorem made_u32 (n : Nat) : (madeCells #[Value.int .u32 0] n).toList = cellsOf (List.replicate n 0) := by
  rw [cellsOf_replicate]
  exact toList_madeCells_one _ n
theorem Own.lit (w : World) (ys : List Nat) (hw : ∀ x ∈ ys, x < 4294967296) (hl : ys.length ≤ 35184372088832) :
    Own w.heap.size (w.alloc (.cells (cellsOf ys).toArray 56)) (some ⟨w.heap.size, 0, none⟩) ys.length ys.length ys :=
  ⟨by simpa using World.ownsRow_lit (base := w.heap.size) w (cellsOf ys).toArray ys.length (size := 1) (e := 56) (Nat.le_refl _) (by unfold maxLen; omega) (by simp [cellsOf]), hl, hw⟩
theorem Own.drew {B : Nat} {w : World} {ao : Option Addr} {n cap : Nat} {ys : List Nat} (h : Own B w ao n cap ys) : Own B w.drew ao n cap ys :=
  ⟨h.row.drew, h.big, h.wf⟩
theorem Own.cell {B : Nat} {w : World} {g n cap : Nat} {ys : List Nat} (h : Own B w (some ⟨g, 0, none⟩) n cap ys) (t : Nat) (ht : t < n) : w.cell? ⟨g, t, none⟩ = some (.int .u32 (ys.getD t 0 : Nat)) := by
  rw [h.row.cellAt t (by omega), cellsOf_get _ _ (by rw [h.len]; exact ht)]
theorem Own.getD_lt {B : Nat} {w : World} {ao : Option Addr} {n cap : Nat} {ys : List Nat} (h : Own B w ao n cap ys) (t : Nat) : ys.getD t 0 < 4294967296 := h.sl.getD_lt t
theorem Own.at_row {B : Nat} {w : World} {g n : Nat} {ys : List Nat} (hB : B ≤ g) (hl : ys.length = n) (hn : n ≤ 35184372088832) (hw : Wf ys) (h : w.heap[g]? = some (.cells (cellsOf ys).toArray 56 (0, 0))) :
    Own B w (some ⟨g, 0, none⟩) n n ys :=
  ⟨full_row hB (by rw [cellsOf_length, hl]) (by unfold maxLen; omega) h, hn, hw⟩
theorem Sl.src {w : World} {ao : Option Addr} {n cap : Nat} {xs : List Nat} (h : Sl w ao n cap xs) (k : Nat) (hk : k ≤ n) (h0 : 0 < k) :
    ∃ ad, ao = some ad ∧ ∀ j v, (cellsOf (xs.take k))[j]? = some v → w.cell? (ad.add j) = some v := by
  obtain ⟨b, off, rfl, _, hc⟩ := h.at (by omega)
  refine ⟨_, rfl, fun j v hv => ?_⟩
  have hj : j < (cellsOf (xs.take k)).length := (List.getElem?_eq_some_iff.1 hv).1
  rw [cellsOf_length, List.length_take, h.len] at hj
  rw [Addr.add_lit, hc j (by omega), ← hv, cellsOf_get _ _ (by rw [List.length_take, h.len]; omega)]
  simp [List.getD, show j < k by omega]
theorem splice_front (xs : List Nat) (n : Nat) (h : n ≤ xs.length) : splice (cellsOf (List.replicate (n + 1) 0)) 0 (cellsOf (xs.take n)) = cellsOf (xs.take n ++ [0]) := by
  have hl : (cellsOf (xs.take n)).length = n := by rw [cellsOf_length, List.length_take]; omega
  unfold splice
  rw [hl, cellsOf_append]
  simp [cellsOf]
theorem Sl.drewN {w : World} {ao : Option Addr} {n cap : Nat} {xs : List Nat} (h : Sl w ao n cap xs) (q : Nat) : Sl (w.drewN q) ao n cap xs := ⟨h.len, h.le, h.big, h.wf, h.nil, h.cells⟩
theorem Own.drewN {B : Nat} {w : World} {ao : Option Addr} {n cap : Nat} {xs : List Nat} (h : Own B w ao n cap xs) (q : Nat) : Own B (w.drewN q) ao n cap xs := ⟨h.row, h.big, h.wf⟩
theorem below_drewN (B : Nat) (w : World) (q : Nat) : Below B w (w.drewN q) := ⟨rfl, rfl, rfl, Nat.le_refl _, fun _ _ => rfl⟩
def RetDrew (v : Value) (w : World) (e : Ending) (w' : World) : Prop := e = .returned v ∧ ∃ k, w' = w.drewN k
def RetB (v : Value) (w : World) (e : Ending) (w' : World) : Prop := e = .returned v ∧ Below w.heap.size w w'
theorem RetDrew.b {v : Value} {w : World} {e : Ending} {w' : World} (h : RetDrew v w e w') : RetB v w e w' := by
  obtain ⟨he, q, rfl⟩ := h
  exact ⟨he, below_drewN _ _ _⟩
theorem step_alloc {w w' : World} {o : Obj} (h : Below (w.alloc o).heap.size (w.alloc o) w') : Below w.heap.size w w' :=
  ((Below.refl _ _).alloc (Nat.le_refl _) _).trans (h.mono (by simp))
theorem Below.steps {w w1 w2 : World} (h : Below w.heap.size w w1) (k : Below w1.heap.size w1 w2) : Below w.heap.size w w2 := h.trans (k.mono h.size)
theorem below_alloc (w : World) (o : Obj) : Below w.heap.size w (w.alloc o) := (Below.refl _ _).alloc (Nat.le_refl _) o
theorem Sl.alloc {w : World} {ao : Option Addr} {n cap : Nat} {xs : List Nat} (h : Sl w ao n cap xs) (o : Obj) : Sl (w.alloc o) ao n cap xs := h.below (below_alloc w o)
end Go.Proofs.Ythllkgjgakeinaa

