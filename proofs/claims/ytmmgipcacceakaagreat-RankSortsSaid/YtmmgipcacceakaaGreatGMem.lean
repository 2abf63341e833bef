/- Sl, Own, Kp, Push, Dig, Lit -/
import Derived.Test.YtmmgipcacceakaaGreatGBase
import Derived.Test.YtmmgipcacceakaaGreatRows
import Derived.WalkSpells
import Derived.WalkLawsBesides
import Derived.Laws.CopyOwn
set_option maxHeartbeats 40000000
set_option maxRecDepth 100000
/- Slices of limbs as lists of numbers: what a slice reads, and that it goes on reading so while memory below stays. -/
namespace Go.Proofs.YtmmgipcacceakaaGreat
open Go.RowKit
theorem ret_int {k : IntKind} {a b : Int} (h : a = b) : Ending.returned (.int k a) = .returned (.int k b) := by rw [h]
theorem ret_int2 {k l : IntKind} {a b c d : Int} (h : a = b) (h2 : c = d) : Ending.returned (.tuple #[.int k a, .int l c]) = .returned (.tuple #[.int k b, .int l d]) := by rw [h, h2]
theorem ret_bool {a b : Bool} (h : a = b) : Ending.returned (.bool a) = .returned (.bool b) := by rw [h]
structure Sl (w : World) (ao : Option Addr) (n cap : Nat) (xs : List Nat) : Prop where
 len : xs.length = n
 le : n ≤ cap
 big : n ≤ 35184372088832
 wf : ∀ x ∈ xs, x < 4294967296
 nil : ao = none → cap = 0
 cells : ∀ ad, ao = some ad → ∀ t, t < n → w.cell? (ad.add t) = some (.int .u32 (xs.getD t 0 : Nat))
theorem Sl.at {w : World} {ao : Option Addr} {n cap : Nat} {xs : List Nat} (h : Sl w ao n cap xs) (hn : 0 < n) :
  ∃ b off, ao = some ⟨b, off, none⟩ ∧ b < w.heap.size ∧ ∀ t, t < n → w.cell? ⟨b, off + t, none⟩ = some (.int .u32 (xs.getD t 0 : Nat)) := by
 cases hao : ao with
 | none => have := h.nil hao; have := h.le; omega
 | some ad =>
  obtain ⟨b, off, s⟩ := ad; have h0 := h.cells _ hao 0 hn
  have hs : s = none := by simpa [Addr.add] using World.cell?_spot h0
  subst hs
  refine ⟨b, off, rfl, ?_, fun t ht => ?_⟩
  ·simpa [Addr.add] using World.block_lt_of_cell? w _ h0
  ·have := h.cells _ hao t ht
   rwa [Addr.add_lit] at this
theorem Sl.of_cells {w : World} {b off n cap : Nat} {xs : List Nat} (h1 : xs.length = n) (h2 : n ≤ cap) (h3 : n ≤ 35184372088832) (h4 : ∀ x ∈ xs, x < 4294967296)
  (hc : ∀ t, t < n → w.cell? ⟨b, off + t, none⟩ = some (.int .u32 (xs.getD t 0 : Nat))) : Sl w (some ⟨b, off, none⟩) n cap xs :=
 ⟨h1, h2, h3, h4, (fun h => by cases h), fun ad had t ht => by cases had; rw [Addr.add_lit]; exact hc t ht⟩
theorem Sl.none (w : World) : Sl w Option.none 0 0 [] :=
 ⟨rfl, Nat.le_refl _, by omega, (fun _ h => by cases h), (fun _ => rfl), fun _ h => by cases h⟩
theorem Sl.below {w w' : World} {ao : Option Addr} {n cap : Nat} {xs : List Nat} (h : Sl w ao n cap xs) (hb : Below w.heap.size w w') : Sl w' ao n cap xs :=
 ⟨h.len, h.le, h.big, h.wf, h.nil, fun ad had t ht => by
  have h0 := h.cells ad had t ht; rw [hb.cell (World.block_lt_of_cell? w _ h0)]
  exact h0⟩
theorem Sl.getD_lt {w : World} {ao : Option Addr} {n cap : Nat} {xs : List Nat} (h : Sl w ao n cap xs) (t : Nat) : xs.getD t 0 < 4294967296 := by
 by_cases ht : t < xs.length
 ·simp only [List.getD, List.getElem?_eq_getElem ht, Option.getD_some]
  exact h.wf _ (List.getElem_mem ht)
 ·simp [List.getD, List.getElem?_eq_none (by omega : xs.length ≤ t)]
end Go.Proofs.YtmmgipcacceakaaGreat

/- Slices of limbs that the call itself made: what it owns. -/
namespace Go.Proofs.YtmmgipcacceakaaGreat
open Go.RowKit
def cellsOf (ys : List Nat) : List Value := ys.map fun x => Value.int .u32 ((x : Nat) : Int)
theorem cellsOf_length (ys : List Nat) : (cellsOf ys).length = ys.length := by simp [cellsOf]
theorem cellsOf_get (ys : List Nat) (j : Nat) (h : j < ys.length) : (cellsOf ys)[j]? = some (.int .u32 (ys.getD j 0 : Nat)) := by
 simp [cellsOf, h, List.getD]
theorem cellsOf_append (xs ys : List Nat) : cellsOf (xs ++ ys) = cellsOf xs ++ cellsOf ys := by simp [cellsOf]
theorem cellsOf_take (xs : List Nat) (k : Nat) : cellsOf (xs.take k) = (cellsOf xs).take k := by simp [cellsOf]
theorem cellsOf_drop (xs : List Nat) (k : Nat) : cellsOf (xs.drop k) = (cellsOf xs).drop k := by simp [cellsOf]
theorem cellsOf_set (xs : List Nat) (k x : Nat) : cellsOf (xs.set k x) = (cellsOf xs).set k (.int .u32 ((x : Nat) : Int)) := by simp [cellsOf, List.map_set]
theorem cellsOf_replicate (k : Nat) : cellsOf (List.replicate k 0) = List.replicate k (.int .u32 0) := by simp [cellsOf]
theorem cellsOf_one (ys : List Nat) : ∀ v ∈ cellsOf ys, v.oneCell' = true := by
 intro v hv
 obtain ⟨_, _, rfl⟩ := List.mem_map.1 hv
 rfl
structure Own (B : Nat) (w : World) (ao : Option Addr) (n cap : Nat) (ys : List Nat) : Prop where
 row : w.ownsRow B 118 1 (.slice ao n cap) n (cellsOf ys)
 big : n ≤ 35184372088832
 wf : ∀ x ∈ ys, x < 4294967296
theorem Own.nil (B : Nat) (w : World) : Own B w none 0 0 [] :=
 ⟨World.ownsRow_nil _ _ _ _, by omega, fun _ h => by cases h⟩
theorem Own.len {B : Nat} {w : World} {ao : Option Addr} {n cap : Nat} {ys : List Nat} (h : Own B w ao n cap ys) : ys.length = n := by
 have := h.row.1
 rw [cellsOf_length] at this
 omega
theorem Own.parts {B : Nat} {w : World} {ao : Option Addr} {n cap : Nat} {ys : List Nat} (h : Own B w ao n cap ys) :
  (ao = none ∧ n = 0 ∧ cap = 0 ∧ ys = []) ∨ ∃ g, ao = some ⟨g, 0, none⟩ ∧ B ≤ g ∧ g < w.heap.size ∧ n ≤ cap := by
 rcases h.row.2 with ⟨hv, h0⟩ | ⟨g, cap', cur, hv, hg, hh, hn, _⟩
 ·simp only [Value.slice.injEq] at hv
  exact .inl ⟨hv.1, hv.2.1, hv.2.2, List.eq_nil_of_length_eq_zero (by rw [h.len, h0])⟩
 ·simp only [Value.slice.injEq, true_and] at hv
  obtain ⟨rfl, rfl⟩ := hv
  exact .inr ⟨g, rfl, hg, lt_of_block hh, hn⟩
theorem Own.sl {B : Nat} {w : World} {ao : Option Addr} {n cap : Nat} {ys : List Nat} (h : Own B w ao n cap ys) : Sl w ao n cap ys := by
 rcases h.parts with ⟨rfl, rfl, rfl, rfl⟩ | ⟨g, rfl, hg, hlt, hn⟩
 ·exact Sl.none w
 ·refine Sl.of_cells h.len hn h.big h.wf fun t ht => ?_
  rw [Nat.zero_add, h.row.cellAt t (by omega), cellsOf_get ys t (by rw [h.len]; exact ht)]
theorem Own.frozen {B : Nat} {w : World} {g n cap : Nat} {ys : List Nat} (h : Own B w (some ⟨g, 0, none⟩) n cap ys) (j : Nat) : w.frozen? ⟨g, j, none⟩ = false := h.row.frozenAt j
theorem Own.below {B : Nat} {w w' : World} {ao : Option Addr} {n cap : Nat} {ys : List Nat} (h : Own B w ao n cap ys) (hb : Below w.heap.size w w') : Own B w' ao n cap ys := by
 refine ⟨⟨h.row.1, ?_⟩, h.big, h.wf⟩
 rcases h.row.2 with h2 | ⟨g, cap', cur, hv, hg, hh, r⟩
 ·exact .inl h2
 ·exact .inr ⟨g, cap', cur, hv, hg, by rw [hb.block g (lt_of_block hh)]; exact hh, r⟩
theorem Own.mono {B B' : Nat} {w : World} {ao : Option Addr} {n cap : Nat} {ys : List Nat} (h : Own B w ao n cap ys) (hB : B' ≤ B) : Own B' w ao n cap ys := by
 refine ⟨⟨h.row.1, ?_⟩, h.big, h.wf⟩
 rcases h.row.2 with h2 | ⟨g, cap', cur, hv, hg, r⟩
 ·exact .inl h2
 ·exact .inr ⟨g, cap', cur, hv, by omega, r⟩
theorem Own.set {B : Nat} {w : World} {g n cap : Nat} {ys : List Nat} (h : Own B w (some ⟨g, 0, none⟩) n cap ys) (j x : Nat) (hx : x < 4294967296) :
  Own B (w.setCell ⟨g, j, none⟩ (.int .u32 ((x : Nat) : Int))) (some ⟨g, 0, none⟩) n cap (ys.set j x) := by
 refine ⟨?_, h.big, fun y hy => ?_⟩
 ·rw [cellsOf_set]
  exact (h.row.stored j _).1
 ·rcases List.mem_or_eq_of_mem_set hy with hy | rfl
  ·exact h.wf y hy
  ·exact hx
theorem Own.take {B : Nat} {w : World} {ao : Option Addr} {n cap : Nat} {ys : List Nat} (h : Own B w ao n cap ys) (k : Nat) (hk : k ≤ n) (h0 : 0 < k) : Own B w ao k cap (ys.take k) := by
 refine ⟨⟨by rw [cellsOf_length, List.length_take, h.len]; omega, ?_⟩, Nat.le_trans hk h.big, fun y hy => h.wf y (List.mem_of_mem_take hy)⟩
 rcases h.row.2 with ⟨hv, h2⟩ | ⟨g, cap', cur, hv, hg, hh, hn, hm, hs, ht⟩
 ·omega
 ·simp only [Value.slice.injEq, true_and] at hv
  obtain ⟨rfl, rfl⟩ := hv
  refine .inr ⟨g, cap, cur, rfl, hg, hh, by omega, hm, hs, ?_⟩
  rw [cellsOf_take, ← ht, List.take_take]
  congr 1
  omega
theorem row_full {B : Nat} {w : World} {e : TypeId} {g n : Nat} {xs : List Value} (h : w.ownsRow B e 1 (.slice (some ⟨g, 0, none⟩) n n) n xs) : w.heap[g]? = some (.cells xs.toArray e (0, 0)) := by
 rcases h.2 with ⟨hv, _⟩ | ⟨g', cap', cur, hv, hg, hh, hn, hm, hs, ht⟩
 ·cases hv
 ·simp only [Value.slice.injEq, Option.some.injEq, Addr.mk.injEq, true_and, and_true] at hv
  obtain ⟨rfl, rfl⟩ := hv
  rw [hh, ← ht, List.take_of_length_le (by simp; omega)]
theorem full_row {B : Nat} {w : World} {e : TypeId} {g n : Nat} {xs : List Value} (hB : B ≤ g) (hn : xs.length = n) (hm : n ≤ maxLen) (h : w.heap[g]? = some (.cells xs.toArray e (0, 0))) :
  w.ownsRow B e 1 (.slice (some ⟨g, 0, none⟩) n n) n xs :=
 ⟨by omega, .inr ⟨g, n, xs.toArray, rfl, hB, h, Nat.le_refl _, hm, by simp; omega, List.take_of_length_le (by simp; omega)⟩⟩
def NewSl (w : World) (ys : List Nat) (e : Ending) (w' : World) : Prop :=
 ∃ ao n cap, e = .returned (.slice ao n cap) ∧ Own w.heap.size w' ao n cap ys ∧ Below w.heap.size w w'
def NewSlE (w : World) (ys : List Nat) (er : Int) (e : Ending) (w' : World) : Prop :=
 ∃ ao n cap, e = .returned (.tuple #[.slice ao n cap, .int .i64 er]) ∧ Own w.heap.size w' ao n cap ys ∧ Below w.heap.size w w'
theorem Tryz.info_u32 : (Tryz.prog.info? 118).map (fun i => (i.zero, i.size, i.bytes)) = some (some (.int .u32 0), 1, 4) := by kernel_rfl
theorem Tryz.size_u32 : (Tryz.prog.info? 118).map (·.size) = some 1 := by kernel_rfl
theorem made_u32 (n : Nat) : (madeCells #[Value.int .u32 0] n).toList = cellsOf (List.replicate n 0) := by
 rw [cellsOf_replicate]
 exact toList_madeCells_one _ n
theorem Own.lit (w : World) (ys : List Nat) (hw : ∀ x ∈ ys, x < 4294967296) (hl : ys.length ≤ 35184372088832) :
  Own w.heap.size (w.alloc (.cells (cellsOf ys).toArray 118)) (some ⟨w.heap.size, 0, none⟩) ys.length ys.length ys :=
 ⟨by simpa using World.ownsRow_lit (base := w.heap.size) w (cellsOf ys).toArray ys.length (size := 1) (e := 118) (Nat.le_refl _) (by unfold maxLen; omega) (by simp [cellsOf]), hl, hw⟩
theorem Own.drew {B : Nat} {w : World} {ao : Option Addr} {n cap : Nat} {ys : List Nat} (h : Own B w ao n cap ys) : Own B w.drew ao n cap ys :=
 ⟨h.row.drew, h.big, h.wf⟩
theorem Own.cell {B : Nat} {w : World} {g n cap : Nat} {ys : List Nat} (h : Own B w (some ⟨g, 0, none⟩) n cap ys) (t : Nat) (ht : t < n) : w.cell? ⟨g, t, none⟩ = some (.int .u32 (ys.getD t 0 : Nat)) := by
 rw [h.row.cellAt t (by omega), cellsOf_get _ _ (by rw [h.len]; exact ht)]
theorem Own.getD_lt {B : Nat} {w : World} {ao : Option Addr} {n cap : Nat} {ys : List Nat} (h : Own B w ao n cap ys) (t : Nat) : ys.getD t 0 < 4294967296 := h.sl.getD_lt t
theorem Own.at_row {B : Nat} {w : World} {g n : Nat} {ys : List Nat} (hB : B ≤ g) (hl : ys.length = n) (hn : n ≤ 35184372088832) (hw : Wf ys) (h : w.heap[g]? = some (.cells (cellsOf ys).toArray 118 (0, 0))) :
  Own B w (some ⟨g, 0, none⟩) n n ys :=
 ⟨full_row hB (by rw [cellsOf_length, hl]) (by unfold maxLen; omega) h, hn, hw⟩
theorem Sl.src {w : World} {ao : Option Addr} {n cap : Nat} {xs : List Nat} (h : Sl w ao n cap xs) (k : Nat) (hk : k ≤ n) (h0 : 0 < k) :
  ∃ ad, ao = some ad ∧ ∀ j v, (cellsOf (xs.take k))[j]? = some v → w.cell? (ad.add j) = some v := by
 obtain ⟨b, off, rfl, _, hc⟩ := h.at (by omega)
 refine ⟨_, rfl, fun j v hv => ?_⟩
 have hj : j < (cellsOf (xs.take k)).length := (List.getElem?_eq_some_iff.1 hv).1
 rw [cellsOf_length, List.length_take, h.len] at hj
 rw [Addr.add_lit, hc j (by omega), ← hv, cellsOf_get _ _ (by rw [List.length_take, h.len]; omega)]
 simp [List.getD, show j < k by omega]
theorem splice_front (xs : List Nat) (n : Nat) (h : n ≤ xs.length) : splice (cellsOf (List.replicate (n + 1) 0)) 0 (cellsOf (xs.take n)) = cellsOf (xs.take n ++ [0]) := by
 have hl : (cellsOf (xs.take n)).length = n := by rw [cellsOf_length, List.length_take]; omega
 unfold splice
 rw [hl, cellsOf_append]
 simp [cellsOf]
theorem Sl.drewN {w : World} {ao : Option Addr} {n cap : Nat} {xs : List Nat} (h : Sl w ao n cap xs) (q : Nat) : Sl (w.drewN q) ao n cap xs := ⟨h.len, h.le, h.big, h.wf, h.nil, h.cells⟩
theorem Own.drewN {B : Nat} {w : World} {ao : Option Addr} {n cap : Nat} {xs : List Nat} (h : Own B w ao n cap xs) (q : Nat) : Own B (w.drewN q) ao n cap xs := ⟨h.row, h.big, h.wf⟩
theorem below_drewN (B : Nat) (w : World) (q : Nat) : Below B w (w.drewN q) := ⟨rfl, rfl, rfl, Nat.le_refl _, fun _ _ => rfl⟩
def RetDrew (v : Value) (w : World) (e : Ending) (w' : World) : Prop := e = .returned v ∧ ∃ k, w' = w.drewN k
def RetB (v : Value) (w : World) (e : Ending) (w' : World) : Prop := e = .returned v ∧ Below w.heap.size w w'
theorem RetDrew.b {v : Value} {w : World} {e : Ending} {w' : World} (h : RetDrew v w e w') : RetB v w e w' := by
 obtain ⟨he, q, rfl⟩ := h
 exact ⟨he, below_drewN _ _ _⟩
theorem step_alloc {w w' : World} {o : Obj} (h : Below (w.alloc o).heap.size (w.alloc o) w') : Below w.heap.size w w' :=
 ((Below.refl _ _).alloc (Nat.le_refl _) _).trans (h.mono (by simp))
theorem Below.steps {w w1 w2 : World} (h : Below w.heap.size w w1) (k : Below w1.heap.size w1 w2) : Below w.heap.size w w2 := h.trans (k.mono h.size)
theorem below_alloc (w : World) (o : Obj) : Below w.heap.size w (w.alloc o) := (Below.refl _ _).alloc (Nat.le_refl _) o
theorem Sl.alloc {w : World} {ao : Option Addr} {n cap : Nat} {xs : List Nat} (h : Sl w ao n cap xs) (o : Obj) : Sl (w.alloc o) ao n cap xs := h.below (below_alloc w o)
end Go.Proofs.YtmmgipcacceakaaGreat

/- Which blocks a row may lie in: those that were there at a law's start, or such as hold no variable that is written to. -/
namespace Go.Proofs.YtmmgipcacceakaaGreat
open Go.RowKit
def notInt : Value → Bool
 | .int _ _ => false
 | _ => true
def CleanB (w : World) (g : Nat) : Prop := ∀ cur T fr, w.heap[g]? = some (.cells cur T fr) → ∀ u ∈ cur.toList, notInt u = true
theorem CleanB.far {w : World} {g : Nat} (h : CleanB w g) {k : IntKind} {x : Int} {ad : Addr} (hc : w.cell? ad = some (.int k x)) : ad.block ≠ g := by
 intro e
 obtain ⟨b', o, s⟩ := ad; obtain rfl : b' = g := e
 have hs : s = none := World.cell?_spot hc
 subst hs
 unfold World.cell? at hc
 simp only at hc
 cases hh : w.heap[b']? with
 | none => simp [hh] at hc
 | some ob =>
  rw [hh] at hc
  cases ob with
  | cells cur T fr =>
   have hc2 : cur[o]? = some (.int k x) := by simpa using hc
   exact absurd (h cur T fr hh _ (Array.mem_toList_iff.2 (Array.mem_of_getElem? hc2))) (by simp [notInt])
  | _ => simp at hc
theorem CleanB.keep {w w' : World} {g : Nat} (h : CleanB w g) (e : w'.heap[g]? = w.heap[g]?) : CleanB w' g := fun cur T fr hh => h cur T fr (e ▸ hh)
theorem CleanB.alloc (w : World) (cs : Array Value) (T : TypeId) (h : ∀ u ∈ cs.toList, notInt u = true) : CleanB (w.alloc (.cells cs T)) w.heap.size := by
 intro cur T' fr hh
 have e : (w.alloc (.cells cs T)).heap[w.heap.size]? = some (.cells cs T (0, 0)) := by
  show (w.heap.push _)[w.heap.size]? = _
  rw [Array.getElem?_push_size]
 rw [e] at hh
 cases hh
 exact h
class Ol where
 lo : Nat
def badT : List TypeId := [
 62,
 1000000007]
def Kp [Ol] (w : World) (c : Nat) : Prop := c < Ol.lo ∨ CleanB w c ∨ ∃ cur T fr, w.heap[c]? = some (.cells cur T fr) ∧ badT.contains T = false
theorem Kp.keep [Ol] {w w' : World} {c : Nat} (h : Kp w c) (e : w'.heap[c]? = w.heap[c]?) : Kp w' c := by
 rcases h with h | h | ⟨cur, T, fr, h, hT⟩
 ·exact .inl h
 ·exact .inr (.inl (h.keep e))
 ·exact .inr (.inr ⟨cur, T, fr, e.trans h, hT⟩)
theorem Kp.mk [Ol] {w : World} {c : Nat} {cur : Array Value} {T : TypeId} {fr : Nat × Nat} (h : w.heap[c]? = some (.cells cur T fr)) (hT : badT.contains T = false) : Kp w c := .inr (.inr ⟨cur, T, fr, h, hT⟩)
theorem Kp.cln [Ol] {w : World} {c : Nat} (h : CleanB w c) : Kp w c := .inr (.inl h)
theorem Kp.grown [Ol] {w w' : World} {row : Option Nat} {c : Nat} (h : Kp w c) (hc : c < w.heap.size) (hG : w.grownBy w' row) (hne : some c ≠ row) : Kp w' c := h.keep (hG.block c hc hne)
theorem Kp.far [Ol] {w : World} {b c : Nat} {cur : Array Value} {T : TypeId} {fr : Nat × Nat} (h : Kp w c) (hlo : Ol.lo ≤ b) (hb : w.heap[b]? = some (.cells cur T fr)) (hT : badT.contains T = true) (hI : ∃ u ∈ cur.toList, notInt u = false) : c ≠ b := by
 rintro rfl
 rcases h with h | h | ⟨cur', T', fr', h, hT'⟩
 ·omega
 ·obtain ⟨u, hu, hn⟩ := hI
  rw [h cur T fr hb u hu] at hn
  cases hn
 ·rw [hb] at h
  cases h
  rw [hT] at hT'
  cases hT'
theorem Kp.new [Ol] (w : World) (cs : Array Value) (T : TypeId) (hT : badT.contains T = false) : Kp (w.alloc (.cells cs T)) w.heap.size :=
 .inr (.inr ⟨cs, T, (0, 0), by show (w.heap.push _)[w.heap.size]? = _; rw [Array.getElem?_push_size], hT⟩)
end Go.Proofs.YtmmgipcacceakaaGreat

/- 'append(s, x)' of one element of one cell to a slice that the call owns: as the walk takes it. -/
namespace Go.Proofs.YtmmgipcacceakaaGreat
open Go.RowKit
theorem owns_shape {w : World} {base : Nat} {e : TypeId} {v : Value} {n : Nat} {xs : List Value} (h : w.ownsRow base e 1 v n xs) : ∃ ao cap, v = .slice ao n cap := by
 rcases h.2 with ⟨hv, h0⟩ | ⟨g, cap, cur, hv, _⟩
 ·exact ⟨none, 0, by rw [hv, h0]⟩
 ·exact ⟨_, _, hv⟩
theorem wpList_push {P : Program} (w w0 : World) {ops : Array Oper} {rest : List Oper} {o : Oper} {a : Act} {Q : Exit → Act → World → Prop}
  (hg : o.guard = none) (s x : Operand) (t : TypeId) (hop : o.op = Op.call { callee := Callee.builtin Builtin.append, args := #[s, x], argTypes := #[t, t] })
  (base : Nat) (e : TypeId) (i : TypeInfo) (z : Value) (bytes : Nat) (h1 : P.underlying t = some (.slice e)) (h2 : P.info? e = some i) (h3 : i.zero = some z) (h4 : i.size = 1) (h5 : i.bytes = bytes) (h6 : z.cells.size = 1)
  (ao : Option Addr) (n cap : Nat) (xs : List Value) (hs : a.eval s = .slice ao n cap) (hown : w.ownsRow base e 1 (.slice ao n cap) n xs)
  (v : Value) (hv : v.oneCell' = true) (tt : TypeId) (hx : a.eval x = .slice (some ⟨w.heap.size, 0, none⟩) 1 1) (hb : Below base w0 w) (hbase : base ≤ w.heap.size)
  (b1 : n + 1 ≤ maxLen) (b2 : (n + 1) * bytes ≤ 140737488355328)
  (hK : ∀ ao' cap' w', w'.ownsRow base e 1 (.slice ao' (n + 1) cap') (n + 1) (xs ++ [v]) → Below base w0 w' → (w.alloc (.cells #[v] tt)).grownBy w' (Value.slice ao n cap).ownBlock → wpList P ops Q rest (a.put o.dst (.slice ao' (n + 1) cap')) w') :
  wpList P ops Q (o :: rest) a (w.alloc (.cells #[v] tt)) := by
 have ho1 := hown.alloc (.cells #[v] tt)
 refine wpList_append_own _ hg s x t hop base e i z 1 bytes h1 h2 h3 h4 h5 h6 (by decide) _ n xs hs ho1 ⟨w.heap.size, 0, none⟩ 1 1 [v] hx rfl ?_ ?_ b1 b2 (by simp; omega) ?_
 ·intro j u hj
  match j, hj with
  | 0, hj =>
   simp at hj
   subst hj
   simp [Addr.add]
 ·intro u hu
  simp at hu
  subst hu
  exact hv
 ·intro v' w' hown' hgrow _
  obtain ⟨ao', cap', rfl⟩ := owns_shape hown'
  refine hK ao' cap' w' hown' ((hb.alloc hbase _).grown hgrow (by simp; omega) fun k hk => ?_) hgrow
  exact (ho1.lt k hk).1
theorem push32 {B : Nat} {w : World} {ao : Option Addr} {n cap : Nat} {ys : List Nat} {v : Value} (x : Nat) (h : w.ownsRow B 118 1 (.slice ao (n + 1) cap) (n + 1) (cellsOf ys ++ [v])) (hv : v = .int .u32 ((x : Nat) : Int)) (hx : x < 4294967296) (hw : ∀ y ∈ ys, y < 4294967296) (hn : n + 1 ≤ 35184372088832) :
  Own B w ao (n + 1) cap (ys ++ [x]) := by
 refine ⟨?_, hn, fun y hy => ?_⟩
 ·rw [cellsOf_append]
  subst hv
  exact h
 ·rcases List.mem_append.1 hy with hy | hy
  ·exact hw y hy
  ·simp at hy; omega
end Go.Proofs.YtmmgipcacceakaaGreat

/- Slices of decimal digits: what they read, what the call itself owns of them. -/
namespace Go.Proofs.YtmmgipcacceakaaGreat.Dg
open Go.RowKit
structure Sl [Ol] (w : World) (ao : Option Addr) (n cap : Nat) (xs : List Nat) : Prop where
 len : xs.length = n
 le : n ≤ cap
 big : n ≤ 17592186044416
 wf : ∀ x ∈ xs, x < 10
 nil : ao = none → cap = 0
 cells : ∀ ad, ao = some ad → ∀ t, t < n → w.cell? (ad.add t) = some (.int .i64 (xs.getD t 0 : Nat))
 kp : 0 < n → ∀ ad, ao = some ad → Kp w ad.block
theorem Sl.at [Ol] {w : World} {ao : Option Addr} {n cap : Nat} {xs : List Nat} (h : Sl w ao n cap xs) (hn : 0 < n) :
  ∃ b off, ao = some ⟨b, off, none⟩ ∧ b < w.heap.size ∧ ∀ t, t < n → w.cell? ⟨b, off + t, none⟩ = some (.int .i64 (xs.getD t 0 : Nat)) := by
 cases hao : ao with
 | none => have := h.nil hao; have := h.le; omega
 | some ad =>
  obtain ⟨b, off, s⟩ := ad; have h0 := h.cells _ hao 0 hn
  have hs : s = none := by simpa [Addr.add] using World.cell?_spot h0
  subst hs
  refine ⟨b, off, rfl, ?_, fun t ht => ?_⟩
  ·simpa [Addr.add] using World.block_lt_of_cell? w _ h0
  ·have := h.cells _ hao t ht
   rwa [Addr.add_lit] at this
theorem Sl.of_cells [Ol] {w : World} {b off n cap : Nat} {xs : List Nat} (h1 : xs.length = n) (h2 : n ≤ cap) (h3 : n ≤ 17592186044416) (h4 : ∀ x ∈ xs, x < 10) (h5 : 0 < n → Kp w b)
  (hc : ∀ t, t < n → w.cell? ⟨b, off + t, none⟩ = some (.int .i64 (xs.getD t 0 : Nat))) : Sl w (some ⟨b, off, none⟩) n cap xs :=
 ⟨h1, h2, h3, h4, (fun h => by cases h), fun ad had t ht => by cases had; rw [Addr.add_lit]; exact hc t ht, fun h0 ad had => by cases had; exact h5 h0⟩
theorem Sl.none [Ol] (w : World) : Sl w Option.none 0 0 [] :=
 ⟨rfl, Nat.le_refl _, by omega, (fun _ h => by cases h), (fun _ => rfl), (fun _ h => by cases h), fun _ _ h => by cases h⟩
theorem Sl.blt [Ol] {w : World} {ao : Option Addr} {n cap : Nat} {xs : List Nat} (h : Sl w ao n cap xs) (h0 : 0 < n) {ad : Addr} (had : ao = some ad) : ad.block < w.heap.size := by
 obtain ⟨b, off, e, hb, _⟩ := h.at h0; rw [e] at had
 cases had
 exact hb
theorem Sl.int [Ol] {w : World} {ao : Option Addr} {n cap : Nat} {xs : List Nat} (h : Sl w ao n cap xs) (h0 : 0 < n) {ad : Addr} (had : ao = some ad) : ∃ x, w.cell? ad = some (.int .i64 x) := by
 obtain ⟨b, off, e, hb, hc⟩ := h.at h0; rw [e] at had
 cases had
 exact ⟨_, hc 0 h0⟩
theorem Sl.below [Ol] {w w' : World} {ao : Option Addr} {n cap : Nat} {xs : List Nat} (h : Sl w ao n cap xs) (hb : Below w.heap.size w w') : Sl w' ao n cap xs :=
 ⟨h.len, h.le, h.big, h.wf, h.nil, fun ad had t ht => by
  have h0 := h.cells ad had t ht; rw [hb.cell (World.block_lt_of_cell? w _ h0)]
  exact h0, fun h0 ad had => (h.kp h0 ad had).keep (hb.block _ (h.blt h0 had))⟩
theorem Sl.getD_lt [Ol] {w : World} {ao : Option Addr} {n cap : Nat} {xs : List Nat} (h : Sl w ao n cap xs) (t : Nat) : xs.getD t 0 < 10 := by
 by_cases ht : t < xs.length
 ·simp only [List.getD, List.getElem?_eq_getElem ht, Option.getD_some]
  exact h.wf _ (List.getElem_mem ht)
 ·simp [List.getD, List.getElem?_eq_none (by omega : xs.length ≤ t)]
def cellsOf (ys : List Nat) : List Value := ys.map fun x => Value.int .i64 ((x : Nat) : Int)
theorem cellsOf_length (ys : List Nat) : (cellsOf ys).length = ys.length := by simp [cellsOf]
theorem cellsOf_get (ys : List Nat) (j : Nat) (h : j < ys.length) : (cellsOf ys)[j]? = some (.int .i64 (ys.getD j 0 : Nat)) := by
 simp [cellsOf, h, List.getD]
theorem cellsOf_append (xs ys : List Nat) : cellsOf (xs ++ ys) = cellsOf xs ++ cellsOf ys := by simp [cellsOf]
theorem cellsOf_take (xs : List Nat) (k : Nat) : cellsOf (xs.take k) = (cellsOf xs).take k := by simp [cellsOf]
theorem cellsOf_drop (xs : List Nat) (k : Nat) : cellsOf (xs.drop k) = (cellsOf xs).drop k := by simp [cellsOf]
theorem cellsOf_set (xs : List Nat) (k x : Nat) : cellsOf (xs.set k x) = (cellsOf xs).set k (.int .i64 ((x : Nat) : Int)) := by simp [cellsOf, List.map_set]
theorem cellsOf_replicate (k : Nat) : cellsOf (List.replicate k 0) = List.replicate k (.int .i64 0) := by simp [cellsOf]
theorem cellsOf_one (ys : List Nat) : ∀ v ∈ cellsOf ys, v.oneCell' = true := by
 intro v hv
 obtain ⟨_, _, rfl⟩ := List.mem_map.1 hv
 rfl
structure Own (B : Nat) (w : World) (ao : Option Addr) (n cap : Nat) (ys : List Nat) : Prop where
 row : w.ownsRow B 3 1 (.slice ao n cap) n (cellsOf ys)
 big : n ≤ 17592186044416
 wf : ∀ x ∈ ys, x < 10
theorem Own.nil (B : Nat) (w : World) : Own B w none 0 0 [] :=
 ⟨World.ownsRow_nil _ _ _ _, by omega, fun _ h => by cases h⟩
theorem Own.len {B : Nat} {w : World} {ao : Option Addr} {n cap : Nat} {ys : List Nat} (h : Own B w ao n cap ys) : ys.length = n := by
 have := h.row.1
 rw [cellsOf_length] at this
 omega
theorem Own.parts {B : Nat} {w : World} {ao : Option Addr} {n cap : Nat} {ys : List Nat} (h : Own B w ao n cap ys) :
  (ao = none ∧ n = 0 ∧ cap = 0 ∧ ys = []) ∨ ∃ g, ao = some ⟨g, 0, none⟩ ∧ B ≤ g ∧ g < w.heap.size ∧ n ≤ cap := by
 rcases h.row.2 with ⟨hv, h0⟩ | ⟨g, cap', cur, hv, hg, hh, hn, _⟩
 ·simp only [Value.slice.injEq] at hv
  exact .inl ⟨hv.1, hv.2.1, hv.2.2, List.eq_nil_of_length_eq_zero (by rw [h.len, h0])⟩
 ·simp only [Value.slice.injEq, true_and] at hv
  obtain ⟨rfl, rfl⟩ := hv
  exact .inr ⟨g, rfl, hg, lt_of_block hh, hn⟩
theorem Own.sl [Ol] {B : Nat} {w : World} {ao : Option Addr} {n cap : Nat} {ys : List Nat} (h : Own B w ao n cap ys) : Sl w ao n cap ys := by
 rcases h.parts with ⟨rfl, rfl, rfl, rfl⟩ | ⟨g, rfl, hg, hlt, hn⟩
 ·exact Sl.none w
 ·refine Sl.of_cells h.len hn h.big h.wf (fun _ => ?_) fun t ht => ?_
  ·rcases h.row.2 with ⟨hv, _⟩ | ⟨g', cap', cur, hv, _, hh, _⟩
   ·cases hv
   ·cases hv
    exact Kp.mk hh (by decide)
  rw [Nat.zero_add, h.row.cellAt t (by omega), cellsOf_get ys t (by rw [h.len]; exact ht)]
theorem Own.frozen {B : Nat} {w : World} {g n cap : Nat} {ys : List Nat} (h : Own B w (some ⟨g, 0, none⟩) n cap ys) (j : Nat) : w.frozen? ⟨g, j, none⟩ = false := h.row.frozenAt j
theorem Own.below {B : Nat} {w w' : World} {ao : Option Addr} {n cap : Nat} {ys : List Nat} (h : Own B w ao n cap ys) (hb : Below w.heap.size w w') : Own B w' ao n cap ys := by
 refine ⟨⟨h.row.1, ?_⟩, h.big, h.wf⟩
 rcases h.row.2 with h2 | ⟨g, cap', cur, hv, hg, hh, r⟩
 ·exact .inl h2
 ·exact .inr ⟨g, cap', cur, hv, hg, by rw [hb.block g (lt_of_block hh)]; exact hh, r⟩
theorem Own.mono {B B' : Nat} {w : World} {ao : Option Addr} {n cap : Nat} {ys : List Nat} (h : Own B w ao n cap ys) (hB : B' ≤ B) : Own B' w ao n cap ys := by
 refine ⟨⟨h.row.1, ?_⟩, h.big, h.wf⟩
 rcases h.row.2 with h2 | ⟨g, cap', cur, hv, hg, r⟩
 ·exact .inl h2
 ·exact .inr ⟨g, cap', cur, hv, by omega, r⟩
theorem Own.set {B : Nat} {w : World} {g n cap : Nat} {ys : List Nat} (h : Own B w (some ⟨g, 0, none⟩) n cap ys) (j x : Nat) (hx : x < 10) :
  Own B (w.setCell ⟨g, j, none⟩ (.int .i64 ((x : Nat) : Int))) (some ⟨g, 0, none⟩) n cap (ys.set j x) := by
 refine ⟨?_, h.big, fun y hy => ?_⟩
 ·rw [cellsOf_set]
  exact (h.row.stored j _).1
 ·rcases List.mem_or_eq_of_mem_set hy with hy | rfl
  ·exact h.wf y hy
  ·exact hx
theorem Own.take {B : Nat} {w : World} {ao : Option Addr} {n cap : Nat} {ys : List Nat} (h : Own B w ao n cap ys) (k : Nat) (hk : k ≤ n) (h0 : 0 < k) : Own B w ao k cap (ys.take k) := by
 refine ⟨⟨by rw [cellsOf_length, List.length_take, h.len]; omega, ?_⟩, Nat.le_trans hk h.big, fun y hy => h.wf y (List.mem_of_mem_take hy)⟩
 rcases h.row.2 with ⟨hv, h2⟩ | ⟨g, cap', cur, hv, hg, hh, hn, hm, hs, ht⟩
 ·omega
 ·simp only [Value.slice.injEq, true_and] at hv
  obtain ⟨rfl, rfl⟩ := hv
  refine .inr ⟨g, cap, cur, rfl, hg, hh, by omega, hm, hs, ?_⟩
  rw [cellsOf_take, ← ht, List.take_take]
  congr 1
  omega
def NewSl (w : World) (ys : List Nat) (e : Ending) (w' : World) : Prop :=
 ∃ ao n cap, e = .returned (.slice ao n cap) ∧ Own w.heap.size w' ao n cap ys ∧ Below w.heap.size w w'
theorem Tryz.info_int : (Tryz.prog.info? 3).map (fun i => (i.zero, i.size, i.bytes)) = some (some (.int .i64 0), 1, 8) := by kernel_rfl
theorem made_int (n : Nat) : (madeCells #[Value.int .i64 0] n).toList = cellsOf (List.replicate n 0) := by
 rw [cellsOf_replicate]
 exact toList_madeCells_one _ n
theorem Own.lit (w : World) (ys : List Nat) (hw : ∀ x ∈ ys, x < 10) (hl : ys.length ≤ 17592186044416) :
  Own w.heap.size (w.alloc (.cells (cellsOf ys).toArray 3)) (some ⟨w.heap.size, 0, none⟩) ys.length ys.length ys :=
 ⟨by simpa using World.ownsRow_lit (base := w.heap.size) w (cellsOf ys).toArray ys.length (size := 1) (e := 3) (Nat.le_refl _) (by unfold maxLen; omega) (by simp [cellsOf]), hl, hw⟩
theorem Sl.src [Ol] {w : World} {ao : Option Addr} {n cap : Nat} {xs : List Nat} (h : Sl w ao n cap xs) (k : Nat) (hk : k ≤ n) (h0 : 0 < k) :
  ∃ ad, ao = some ad ∧ ∀ j v, (cellsOf (xs.take k))[j]? = some v → w.cell? (ad.add j) = some v := by
 obtain ⟨b, off, rfl, _, hc⟩ := h.at (by omega)
 refine ⟨_, rfl, fun j v hv => ?_⟩
 have hj : j < (cellsOf (xs.take k)).length := (List.getElem?_eq_some_iff.1 hv).1
 rw [cellsOf_length, List.length_take, h.len] at hj
 rw [Addr.add_lit, hc j (by omega), ← hv, cellsOf_get _ _ (by rw [List.length_take, h.len]; omega)]
 simp [List.getD, show j < k by omega]
theorem Own.drew {B : Nat} {w : World} {ao : Option Addr} {n cap : Nat} {ys : List Nat} (h : Own B w ao n cap ys) : Own B w.drew ao n cap ys :=
 ⟨h.row.drew, h.big, h.wf⟩
theorem Own.cell {B : Nat} {w : World} {g n cap : Nat} {ys : List Nat} (h : Own B w (some ⟨g, 0, none⟩) n cap ys) (t : Nat) (ht : t < n) : w.cell? ⟨g, t, none⟩ = some (.int .i64 (ys.getD t 0 : Nat)) := by
 rw [h.row.cellAt t (by omega), cellsOf_get _ _ (by rw [h.len]; exact ht)]
theorem Own.getD_lt [Ol] {B : Nat} {w : World} {ao : Option Addr} {n cap : Nat} {ys : List Nat} (h : Own B w ao n cap ys) (t : Nat) : ys.getD t 0 < 10 := h.sl.getD_lt t
theorem Own.at_row {B : Nat} {w : World} {g n : Nat} {ys : List Nat} (hB : B ≤ g) (hl : ys.length = n) (hn : n ≤ 17592186044416) (hw : Wf ys) (h : w.heap[g]? = some (.cells (cellsOf ys).toArray 3 (0, 0))) :
  Own B w (some ⟨g, 0, none⟩) n n ys :=
 ⟨full_row hB (by rw [cellsOf_length, hl]) (by unfold maxLen; omega) h, hn, hw⟩
theorem Sl.drewN [Ol] {w : World} {ao : Option Addr} {n cap : Nat} {xs : List Nat} (h : Sl w ao n cap xs) (q : Nat) : Sl (w.drewN q) ao n cap xs := ⟨h.len, h.le, h.big, h.wf, h.nil, h.cells, fun h0 ad had => (h.kp h0 ad had).keep rfl⟩
theorem Own.drewN {B : Nat} {w : World} {ao : Option Addr} {n cap : Nat} {xs : List Nat} (h : Own B w ao n cap xs) (q : Nat) : Own B (w.drewN q) ao n cap xs := ⟨h.row, h.big, h.wf⟩
theorem limbs_len {n k : Nat} (h : n < 10 ^ k) : (limbs n).length ≤ k := by
 rcases Nat.lt_or_ge k (limbs n).length with hl | hl
 ·obtain ⟨j, hj⟩ : ∃ j, nl (limbs n) = j + 1 := ⟨(limbs n).length - 1, by rw [nl_limbs]; omega⟩
  have h1 := pow_le_of_nl j hj; rw [val_limbs] at h1
  have h2 : 10 ^ k ≤ 10 ^ j := Nat.pow_le_pow_right (by omega) (by rw [nl_limbs] at hj; omega)
  omega
 ·exact hl
theorem u64_pow {n : Nat} (h : n ≤ 18446744073709551615) : n < 10 ^ 20 := by
 have e : (10 : Nat) ^ 20 = 100000000000000000000 := by decide
 omega
theorem pow32_le (k : Nat) : 4294967296 ^ k ≤ 10 ^ (10 * k) := by
 rw [Nat.pow_mul]
 exact Nat.pow_le_pow_left (by decide) k
theorem drop_lt {xs : List Nat} (hw : Go.Proofs.YtmmgipcacceakaaGreat.Wf xs) (j n : Nat) (hl : xs.length = n) : Go.Proofs.YtmmgipcacceakaaGreat.val (xs.drop j) < 10 ^ (10 * (n - j)) := by
 have h1 := Go.Proofs.YtmmgipcacceakaaGreat.val_lt (xs.drop j) (fun x hx => hw x (List.mem_of_mem_drop hx))
 rw [List.length_drop, hl] at h1
 exact Nat.lt_of_lt_of_le h1 (pow32_le _)
theorem digits_of_limbs {xs : List Nat} (hw : Go.Proofs.YtmmgipcacceakaaGreat.Wf xs) (j n : Nat) (hl : xs.length = n) : (limbs (Go.Proofs.YtmmgipcacceakaaGreat.val (xs.drop j))).length ≤ 10 * (n - j) := by
 have h1 := Go.Proofs.YtmmgipcacceakaaGreat.val_lt (xs.drop j) (fun x hx => hw x (List.mem_of_mem_drop hx))
 rw [List.length_drop, hl] at h1
 exact limbs_len (Nat.lt_of_lt_of_le h1 (pow32_le _))
theorem Own.take_any {B : Nat} {w : World} {ao : Option Addr} {n cap : Nat} {ys : List Nat} (h : Own B w ao n cap ys) (k : Nat) (hk : k ≤ n) : Own B w ao k cap (ys.take k) := by
 by_cases h0 : 0 < k
 ·exact h.take k hk h0
 ·obtain rfl : k = 0 := by omega
  rw [List.take_zero]
  rcases h.row.2 with ⟨hv, h2⟩ | ⟨g, cap', cur, hv, hg, hh, hn, hm, hs, ht⟩
  ·simp only [Value.slice.injEq] at hv
   obtain ⟨rfl, rfl, rfl⟩ := hv
   exact Own.nil _ _
  ·simp only [Value.slice.injEq, true_and] at hv
   obtain ⟨rfl, rfl⟩ := hv
   exact ⟨⟨rfl, .inr ⟨g, cap, cur, rfl, hg, hh, Nat.zero_le _, hm, hs, by simp [cellsOf]⟩⟩, Nat.zero_le _, fun _ h => by cases h⟩
def CutOf (B : Nat) (w : World) (ys : List Nat) (e : Ending) (w' : World) : Prop :=
 ∃ ao n cap, e = .returned (.slice ao n cap) ∧ Own B w ao n cap ys ∧ w = w'
theorem Own.push {B : Nat} {w : World} {ao : Option Addr} {n cap : Nat} {ys : List Nat} {v : Value} (x : Nat) (h : w.ownsRow B 3 1 (.slice ao (n + 1) cap) (n + 1) (cellsOf ys ++ [v])) (hv : v = .int .i64 ((x : Nat) : Int)) (hx : x < 10) (hw : ∀ y ∈ ys, y < 10) (hn : n + 1 ≤ 17592186044416) :
  Own B w ao (n + 1) cap (ys ++ [x]) := by
 refine ⟨?_, hn, fun y hy => ?_⟩
 ·rw [cellsOf_append]
  subst hv
  exact h
 ·rcases List.mem_append.1 hy with hy | hy
  ·exact hw y hy
  ·simp at hy; omega
theorem CutOf.new {w w1 w2 : World} {ys : List Nat} {e : Ending} (h : CutOf w.heap.size w1 ys e w2) (hb : Below w.heap.size w w1) : NewSl w ys e w2 := by
 obtain ⟨ao, n, cap, he, ho, rfl⟩ := h
 exact ⟨ao, n, cap, he, ho, hb⟩
theorem Tryz.underD : Tryz.prog.underlying 75 = some (.slice 3) := Tryz.underlying75
theorem getD_out (xs : List Nat) (k : Nat) (h : xs.length ≤ k) : xs.getD k 0 = 0 := by
 simp [List.getD, List.getElem?_eq_none h]
theorem val_take_any (xs : List Nat) (k : Nat) : val (xs.take k) + 10 ^ k * xs.getD k 0 = val (xs.take (k + 1)) := by
 by_cases h : k < xs.length
 ·rw [val_take_succ xs k h]
 ·rw [getD_out xs k (by omega), List.take_of_length_le (by omega), List.take_of_length_le (by omega)]
  omega
theorem limbs_shorter {v : Nat} (h : 0 < v) : (limbs (v / 4294967296)).length < (limbs v).length := by
 have h1 := val_lt (limbs v) (wf_limbs v); rw [val_limbs] at h1
 obtain ⟨l, hl⟩ : ∃ l, (limbs v).length = l + 1 := by
  rw [limbs_pos h]; exact ⟨_, rfl⟩
 rw [hl] at h1 ⊢
 have h2 : v / 4294967296 < 10 ^ l := by
  rw [Nat.pow_succ] at h1
  have hp : 0 < 10 ^ l := Nat.pow_pos (by omega)
  omega
 have := limbs_len h2
 omega
theorem len_pos {v L : Nat} (h : (limbs v).length = L) : 0 < L ↔ 0 < v := by
 rcases Nat.eq_zero_or_pos v with rfl | hv
 ·rw [limbs_zero] at h; simp at h; omega
 ·rw [limbs_pos hv] at h; simp at h; omega
theorem Sl.grown [Ol] {w w' : World} {o : Obj} {row : Option Nat} {ao : Option Addr} {n cap : Nat} {xs : List Nat} (h : Sl w ao n cap xs) (hg : (w.alloc o).grownBy w' row) (hne : ∀ ad, ao = some ad → some ad.block ≠ row) : Sl w' ao n cap xs :=
 ⟨h.len, h.le, h.big, h.wf, h.nil, fun ad had t ht => by
  have h0 := (h.below ((Below.refl w.heap.size w).alloc (Nat.le_refl _) o)).cells ad had t ht
  exact hg.cell h0 (by
   have := hne ad had
   unfold Addr.add
   split <;> simpa using this), fun h0 ad had => by
  have h1 := h.below ((Below.refl w.heap.size w).alloc (Nat.le_refl _) o)
  exact (h1.kp h0 ad had).grown (h1.blt h0 had) hg (hne ad had)⟩
theorem apart_own {B : Nat} {w1 w2 : World} {ao ao' : Option Addr} {n cap n' cap' : Nat} {ys ys' : List Nat} (h : Go.Proofs.YtmmgipcacceakaaGreat.Own B w1 ao n cap ys) (h' : Own w1.heap.size w2 ao' n' cap' ys') :
  ∀ ad, ao' = some ad → some ad.block ≠ (Value.slice ao n cap).ownBlock := by
 intro ad had e
 have h1 := (h.row.lt _ e.symm).2
 rcases h'.parts with ⟨h2, _⟩ | ⟨g, h2, h3, _⟩
 ·rw [h2] at had; cases had
 ·rw [h2] at had
  obtain rfl := Option.some.inj had
  exact absurd h1 (by simp; omega)
end Go.Proofs.YtmmgipcacceakaaGreat.Dg

/- Lists of limbs written out. -/
namespace Go.Proofs.YtmmgipcacceakaaGreat
open Go.RowKit
end Go.Proofs.YtmmgipcacceakaaGreat

