/-
  Arrays of exponents: whole, by value; a cell of one.
-/
import Derived.Test.YtgalcdfleljliaaMSame
import Derived.Test.YtgalcdfleljliaaMEn
import Derived.Deep.WholeRow
import Derived.Deep.MidRow
set_option maxRecDepth 8192
namespace Go.Proofs.Ytgalcdfleljliaa
open Go.RowKit

/-- the cells of an array of exponents -/
def rowL (f : Int → Int) : List Value := (List.range 201).map fun (i : Nat) => Value.int .i64 (f (i : Int))
/-- f, but x at v -/
def upd (f : Int → Int) (v x : Int) (u : Int) : Int := if u = v then x else f u

theorem rowL_length (f : Int → Int) : (rowL f).length = 201 := by simp [rowL]
theorem rowL_get (f : Int → Int) (i : Nat) (h : i < 201) : (rowL f)[i]? = some (.int .i64 (f (i : Int))) := by simp [rowL, h]
theorem rowL_one (f : Int → Int) : ∀ v ∈ rowL f, v.oneCell' = true := by
  intro v hv
  obtain ⟨i, _, rfl⟩ := List.mem_map.1 hv
  rfl
theorem rowL_congr {f g : Int → Int} (h : ∀ v, 0 ≤ v → v ≤ 200 → f v = g v) : rowL f = rowL g := by
  unfold rowL
  refine List.map_congr_left fun i hi => ?_
  have := List.mem_range.1 hi
  rw [h i (by omega) (by omega)]
theorem rowL_set (f : Int → Int) (v : Nat) (h : v < 201) (x : Int) : (rowL f).set v (.int .i64 x) = rowL (upd f v x) := by
  refine List.ext_getElem? fun j => ?_
  rw [List.getElem?_set]
  by_cases hj : v = j
  · subst hj
    rw [if_pos rfl, if_pos (by rw [rowL_length]; exact h), rowL_get _ _ h]
    simp [upd]
  · rw [if_neg hj]
    by_cases h2 : j < 201
    · rw [rowL_get _ _ h2, rowL_get _ _ h2]
      unfold upd
      rw [if_neg (by omega)]
    · rw [List.getElem?_eq_none (by rw [rowL_length]; omega), List.getElem?_eq_none (by rw [rowL_length]; omega)]

set_option maxRecDepth 100000 in
theorem Try.info_row : (Try.prog.info? 44).map (fun i => (i.zero, i.size)) = some (some (.agg (rowL fun _ => 0).toArray), 201) := by kernel_rfl
theorem zero_row : ∀ w, (zeroValue 44).run Try.prog w = .ok (.agg (rowL fun _ => 0).toArray) w := (zero_of_info Try.info_row).1
theorem size_row : (Try.prog.info? 44).map (·.size) = some 201 := (zero_of_info Try.info_row).2

/-- a variable that is an array of exponents -/
def Row (w : World) (b : Nat) (f : Int → Int) : Prop := w.heap[b]? = some (.cells (rowL f).toArray 44 (0, 0))

theorem Row.lt {w : World} {b : Nat} {f : Int → Int} (h : Row w b f) : b < w.heap.size := lt_of_block h
theorem Row.cell {w : World} {b : Nat} {f : Int → Int} (h : Row w b f) (i : Nat) (hi : i < 201) : w.cell? ⟨b, i, none⟩ = some (.int .i64 (f i)) := by
  unfold Row at h
  rw [← rowL_get f i hi]
  simp [World.cell?, h]
theorem Row.fz {w : World} {b : Nat} {f : Int → Int} (h : Row w b f) (i : Nat) : w.frozen? ⟨b, i, none⟩ = false := by
  unfold Row at h
  simp [World.frozen?, h]
theorem Row.keep {w w' : World} {b : Nat} {f : Int → Int} (h : Row w b f) (e : w'.heap[b]? = w.heap[b]?) : Row w' b f := e.trans h
theorem Row.below {w w' : World} {b : Nat} {f : Int → Int} (h : Row w b f) (hb : Below w.heap.size w w') : Row w' b f := h.keep (hb.block b h.lt)
theorem Row.new (w : World) (f : Int → Int) : Row (w.alloc (.cells (rowL f).toArray 44)) w.heap.size f := by
  show (w.heap.push _)[w.heap.size]? = _
  rw [Array.getElem?_push_size]
theorem Row.new2 (w : World) (f : Int → Int) (b : Nat) (hb : b = w.heap.size) : Row (w.alloc (.cells (rowL f).toArray 44)) b f := by subst hb; exact Row.new w f
theorem Row.set {w : World} {b : Nat} {f : Int → Int} (h : Row w b f) (v : Nat) (hv : v < 201) (x : Int) : Row (w.setCell ⟨b, v, none⟩ (.int .i64 x)) b (upd f v x) := by
  unfold Row at h ⊢
  rw [← rowL_set f v hv x]
  simp [World.setCell, Array.getElem?_modify, h]
theorem Row.far {w : World} {b c : Nat} {f : Int → Int} (h : Row w b f) (hc : c ≠ b) (o : Nat) (u : Value) : Row (w.setCell ⟨c, o, none⟩ u) b f :=
  h.keep (Below.heap_setCell _ _ _ _ (fun e => hc e.symm))
theorem Row.congr {w : World} {b : Nat} {f g : Int → Int} (h : Row w b f) (e : ∀ v, 0 ≤ v → v ≤ 200 → f v = g v) : Row w b g := by
  unfold Row at h ⊢
  rw [← rowL_congr e]; exact h
theorem Row.put {w : World} {b : Nat} {f : Int → Int} (h : Row w b f) (g : Int → Int) : Row (w.setRow b (rowL g).toArray) b g := setRow_heap w b _ _ _ _ h
theorem Row.putFar {w : World} {b c : Nat} {f : Int → Int} (h : Row w b f) (hc : b ≠ c) (cs : Array Value) : Row (w.setRow c cs) b f := h.keep (setRow_other w c b cs hc)
theorem below_setRow {B : Nat} {a w : World} (h : Below B a w) {g : Nat} (hg : B ≤ g) (cs : Array Value) : Below B a (w.setRow g cs) :=
  h.trans ⟨rfl, rfl, rfl, by simp [World.setRow], fun k hk => setRow_other w g k cs (by omega)⟩

theorem Row.load {w : World} {b : Nat} {f : Int → Int} (h : Row w b f) : (loadVar 44 ⟨b, 0, none⟩).run Try.prog w = .ok (.agg (rowL f).toArray) w :=
  run_loadVar_row w b _ 44 _ (0, 0) _ h Try.underlying44 rfl (by rw [size_row]; simp [rowL_length])

/-- a whole array out of a variable, as the walk takes it -/
theorem wpList_loadRow {w : World} {ops : Array Oper} {rest : List Oper} {op : Oper} {a : Act} {Q : Exit → Act → World → Prop} (hgd : op.guard = none) (x : Operand) (ho : op.op = .load 44 x)
    (b : Nat) (hx : a.eval x = .pointer (some ⟨b, 0, none⟩)) (f : Int → Int) (h : Row w b f)
    (hK : wpList Try.prog ops Q rest (a.put op.dst (.agg (rowL f).toArray)) w) : wpList Try.prog ops Q (op :: rest) a w :=
  wpList_load_mid hgd 44 x ho b 0 hx (rowL f) _ (fun j v hv => by
      rw [Nat.zero_add]
      have hj : j < 201 := by have := (List.getElem?_eq_some_iff.1 hv).1; rwa [rowL_length] at this
      rw [h.cell j hj, ← rowL_get f j hj, hv])
    Try.underlying44 rfl (by rw [size_row, rowL_length]) hK
/-- a whole array into a variable, as the walk takes it -/
theorem wpList_storeRow {w : World} {ops : Array Oper} {rest : List Oper} {op : Oper} {a : Act} {Q : Exit → Act → World → Prop} (hgd : op.guard = none) (x y : Operand) (ho : op.op = .store 44 x y)
    (b : Nat) (hx : a.eval x = .pointer (some ⟨b, 0, none⟩)) (f g : Int → Int) (hy : a.eval y = .agg (rowL g).toArray) (h : Row w b f)
    (hK : wpList Try.prog ops Q rest (a.put op.dst undef) (w.setRow b (rowL g).toArray)) : wpList Try.prog ops Q (op :: rest) a w := by
  refine wpList_plain hgd fun K hK' => ?_
  have hr := run_storeVar_row (P := Try.prog) w b _ 44 _ (rowL g).toArray h (by rw [size_row]; simp [rowL_length]) (by simp [rowL_length]) (all_oneCell_toArray (rowL_one g))
  unfold Oper.wp execOp
  simp only [ho, hx, hy, Instr.storeAt, Instr.sureAddr, Sem.run_bind, Sem.run_pure, Result.andThen_ok, hr]
  exact hK' _ _ hK

theorem results_row {fn : Func} {p : Tmp} (h : fn.results = #[.cell p 44]) (tmps : Array Value) {w : World} {b : Nat} {f : Int → Int} (hr : Row w b f) (hp : tmps.getD p undef = .pointer (some ⟨b, 0, none⟩)) : (results fn tmps).run Try.prog w = .ok (.agg (rowL f).toArray) w :=
  results_cell_row h tmps w b _ _ (0, 0) _ hp hr Try.underlying44 rfl (by rw [size_row]; simp [rowL_length])

/-- What a call that tells exponents leaves. -/
def NewA (w : World) (f : Int → Int) (e : Ending) (w' : World) : Prop := e = .returned (.agg (rowL f).toArray) ∧ Below w.heap.size w w'

end Go.Proofs.Ytgalcdfleljliaa
