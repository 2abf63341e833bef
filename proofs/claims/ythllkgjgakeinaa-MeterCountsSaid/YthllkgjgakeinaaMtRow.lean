/-
  Arguments of the meter's laws opened: limits; a polynomial as a meter looks at it; a list of calls.
-/
import Derived.Test.YthllkgjgakeinaaMtP
import Derived.Test.YthllkgjgakeinaaRwGen
import Derived.Test.YthllkgjgakeinaaIntAt
import Derived.Deep.Slices
import Derived.Deep.Strs
set_option maxRecDepth 8192
namespace Go.Proofs.Ythllkgjgakeinaa
open Go.ChangeShapes Go.WideShapes Go.ChangeAt Go.RowKit Go.Deep Go.Joins
theorem Try.own11 : ownKnob Try.prog.godebug = none := by kernel_rfl
theorem Try.laidOut11 : laidOutB Try.prog = true := by kernel_rfl
theorem Try.bytes_term11 : Try.prog.bytesOf 75 = 56 := by kernel_rfl
theorem Try.cells_term11 : Try.prog.cellsOf 75 = 3 := by kernel_rfl
theorem slice_cell {T e : TypeId} (hT : Try.prog.underlying T = some (.slice e)) {H : Type} {enc : TypeId × Value → H} {W : World} {fuel : Nat} {c : Value} {y : DataW H × List MemPlace}
    (hf : DataW.trod enc Try.prog W 0 (fun _ => true) true fuel T [c] = some y) : ∃ ao n cap, c = .slice ao n cap := by
  rcases open_slice hT hf with ⟨hcs, _⟩ | ⟨a, len', cap', _, _, _, _, hcs, _⟩
  · exact ⟨none, 0, 0, by simpa using hcs⟩
  · exact ⟨some a, len', cap', by simpa using hcs⟩
theorem view_lterm_at {H : Type} {enc : TypeId × Value → H} {W : World} {fuel : Nat} {c0 c1 c2 : Value} {y : DataW H × List MemPlace}
    (hf : DataW.trod enc Try.prog W 0 (fun _ => true) true fuel 75 [c0, c1, c2] = some y) (hsz : ∀ n ∈ y.1.weights Try.prog 75, n ≤ reachBytes) :
    ∃ xs : List Nat, TmL W [c0, c1, c2] xs := by
  obtain ⟨y0, y1, f, hx, _, g0, g1⟩ := trod_struct2 Try.underlying75 hf
  have hc : Try.prog.cellsOf 71 = 2 := by kernel_rfl
  have hc1 : Try.prog.cellsOf 73 = 1 := by kernel_rfl
  simp only [hc, hc1] at g0 g1
  have h0 : DataW.trod enc Try.prog W 0 (fun _ => true) true f 71 [c0, c1] = some y0 := g0
  have h1 : DataW.trod enc Try.prog W 0 (fun _ => true) true f 73 [c2] = some y1 := g1
  clear g0 g1
  obtain ⟨d, p⟩ := y
  simp only [Prod.mk.injEq] at hx
  obtain ⟨rfl, rfl⟩ := hx
  obtain ⟨m, ao, n, cap, xs, rfl, rfl, hs⟩ := view_int_at h0 (fun n hn => hsz n (by
    simp [DataW.weights, Try.underlying75, DataW.weightsEach]; exact Or.inl hn))
  obtain ⟨bo, k, cb, rfl⟩ := slice_cell Try.underlying73 h1
  exact ⟨xs, _, ao, n, cap, _, _, _, rfl, hs⟩
theorem gl_of_each {sz : Nat} {W : World} {a : Addr} {len m : Nat} (h1 : len ≤ m) (h2 : len ≤ 4398046511104) (h0 : 0 < sz) {q : Nat → List Value} (hq : ∀ i, i < len → (q i).length = sz ∧ (∀ v ∈ q i, v.oneCell' = true) ∧ ∀ j, j < sz → W.cell? (a.add (i * sz + j)) = (q i)[j]?)
    (hsp : 0 < m → a.spot = none) : Gl sz W (some a) len m ((List.range len).map q) := by
  have hg : ∀ t, t < len → ((List.range len).map q).getD t [] = q t := fun t ht => by simp [List.getD, ht]
  refine ⟨by simp, h1, h2, fun vs hv => ?_, (fun h => by cases h), fun ad had hc => ?_, fun ad had h3 => ?_, fun ad had t ht j hj => ?_⟩
  · obtain ⟨i, hil, rfl⟩ := List.mem_map.1 hv
    have := hq i (List.mem_range.1 hil)
    exact ⟨this.1, this.2.1⟩
  · cases had
    exact hsp hc
  · cases had
    have h4 := (hq 0 h3).2.2 0 h0
    rw [List.getElem?_eq_getElem (by rw [(hq 0 h3).1]; exact h0)] at h4
    have h5 := cell_lt h4
    rwa [add_block3] at h5
  · cases had
    rw [hg t ht]
    exact (hq t ht).2.2 j hj
theorem view_lterms {T : TypeId} (hT : Try.prog.underlying T = some (.slice 75)) {H : Type} {enc : TypeId × Value → H} {W : World} {a0 : Option Addr} {len cap : Nat} {d : DataW H} {p : List MemPlace}
    (hd : DataW.Trod enc Try.prog W 0 (fun _ => true) true T (.slice a0 len cap) d p) (hsz : ∀ n ∈ d.weights Try.prog T, n ≤ reachBytes) :
    ∃ ps : List (List Nat), Lp W a0 len cap ps := by
  obtain ⟨fuel, hf⟩ := hd
  rcases open_slice hT hf with ⟨hcs, hx⟩ | ⟨a, len', cap', m, n, D, Pl, hcs, _, hl, hm, hmm, hx, hi⟩
  · simp [Value.cells] at hcs
    obtain ⟨rfl, rfl, rfl⟩ := hcs
    exact ⟨[], ⟨[], Gl.zero 3 W, trivial⟩⟩
  · simp [Value.cells] at hcs
    obtain ⟨rfl, rfl, rfl⟩ := hcs
    simp only [Prod.mk.injEq] at hx
    obtain ⟨rfl, rfl⟩ := hx
    obtain rfl : m = cap := by simpa using hmm
    rw [Try.cells_term11] at hi
    have hs := hsz ((((List.range len).map D).length + ((List.range (m - len)).map fun j => D (len + j)).length) * Try.prog.bytesOf 75) (by simp [DataW.weights, hT])
    rw [Try.bytes_term11] at hs
    simp [reachBytes] at hs
    have each : ∀ i, i < len → ∃ q : List Value × List Nat, q.1.length = 3 ∧ (∀ j, j < 3 → W.cell? (a.add (i * 3 + j)) = q.1[j]?) ∧ TmL W q.1 q.2 := by
      intro i hil
      obtain ⟨cs', h1, h2⟩ := hi i (by omega)
      obtain ⟨_, hlen, hcell⟩ := World.cells?_some h1
      match cs', hlen with
      | [c0, c1, c2], _ =>
        obtain ⟨t, ht⟩ := view_lterm_at h2 (fun n hn => hsz n (by
          simp only [DataW.weights, hT, List.mem_cons, List.mem_append]
          exact .inr (.inl (weights_mem_all (List.mem_map.2 ⟨i, List.mem_range.2 hil, rfl⟩) n hn))))
        refine ⟨([c0, c1, c2], t), rfl, fun j hj => ?_, ht⟩
        have := hcell j hj
        rwa [add_add] at this
    obtain ⟨q, hq⟩ := choose_lt each
    refine ⟨(List.range len).map fun i => (q i).2, ⟨(List.range len).map fun i => (q i).1, gl_of_each hl (by omega) (by omega) (fun i hil => ⟨(hq i hil).1, fun v hv => ?_, (hq i hil).2.1⟩) fun hc => ?_, tms_of _ _ len fun i hil => (hq i hil).2.2⟩⟩
    · obtain ⟨m', ao, n, cap, bo, k, cb, e, _⟩ := (hq i hil).2.2
      rw [e] at hv
      simp at hv
      rcases hv with rfl | rfl | rfl <;> rfl
    · obtain ⟨cs', h1, _⟩ := hi 0 hc
      obtain ⟨_, hlen, hcell⟩ := World.cells?_some h1
      have h3 := hcell 0 (by omega)
      rw [List.getElem?_eq_getElem (by omega)] at h3
      have h4 := World.cell?_spot h3
      simpa [Addr.add] using h4
theorem view_limits {H : Type} {enc : TypeId × Value → H} {W : World} {r : Reach} {b0 : Nat} {v : Value} {d : DataW H} {p : List MemPlace}
    (hv : Value.okWide Try.prog W r b0 23 v) (hd : DataW.Trod enc Try.prog W 0 (fun _ => true) true 23 v d p) :
    ∃ a b c e : Int, v = .agg #[.int .i64 a, .int .i64 b, .int .i64 c, .int .i64 e] ∧ (Lit.int .i64 a).wf = true ∧ (Lit.int .i64 b).wf = true ∧ (Lit.int .i64 c).wf = true ∧ (Lit.int .i64 e).wf = true := by
  obtain ⟨v0, v1, v2, v3, y0, y1, y2, y3, f, rfl, rfl, _, h0, h1, h2, h3⟩ := open_agg4 Try.underlying23 (by kernel_rfl) (by kernel_rfl) hv hd
  obtain ⟨a, ha, _, wa⟩ := DataW.trod_int Try.underlying3 h0
  obtain ⟨b, hb, _, wb⟩ := DataW.trod_int Try.underlying3 h1
  obtain ⟨c, hc, _, wc⟩ := DataW.trod_int Try.underlying3 h2
  obtain ⟨e, he, _, we⟩ := DataW.trod_int Try.underlying3 h3
  simp at ha hb hc he
  subst ha; subst hb; subst hc; subst he
  exact ⟨a, b, c, e, rfl, wa, wb, wc, we⟩
abbrev MOp := Int × List (List Nat) × Int
def OpR (w : World) (vs : List Value) (o : MOp) : Prop := ∃ ao n cap, vs = [.int .i64 o.1, .slice ao n cap, .int .i64 o.2.2] ∧ Lp w ao n cap o.2.1
theorem OpR.below {w w' : World} {vs : List Value} {o : MOp} (h : OpR w vs o) (hb : Below w.heap.size w w') : OpR w' vs o := by
  obtain ⟨ao, n, cap, h1, h2⟩ := h
  exact ⟨ao, n, cap, h1, h2.below hb⟩
structure Lo (w : World) (ao : Option Addr) (n cap : Nat) (l : List MOp) : Prop where
  ex : ∃ vss, Gl 3 w ao n cap vss ∧ Tms (OpR w) vss l
theorem Lo.len {w : World} {ao : Option Addr} {n cap : Nat} {p : List MOp} (h : Lo w ao n cap p) : p.length = n := by
  obtain ⟨vss, h1, h2⟩ := h.ex
  rw [← h2.len, h1.len]
theorem Lo.big {w : World} {ao : Option Addr} {n cap : Nat} {p : List MOp} (h : Lo w ao n cap p) : n ≤ 4398046511104 := by
  obtain ⟨vss, h1, h2⟩ := h.ex
  exact h1.big
theorem Lo.below {w w' : World} {ao : Option Addr} {n cap : Nat} {p : List MOp} (h : Lo w ao n cap p) (hb : Below w.heap.size w w') : Lo w' ao n cap p := by
  obtain ⟨vss, h1, h2⟩ := h.ex
  exact ⟨vss, h1.below hb, h2.imp fun v a h => h.below hb⟩
def opZ : MOp := (0, [], 0)
theorem Lo.at {w : World} {ao : Option Addr} {n cap : Nat} {p : List MOp} (h : Lo w ao n cap p) {k : Nat} (hk : k < n) :
    ∃ b off bo l c, ao = some ⟨b, off, none⟩ ∧ b < w.heap.size ∧ Lp w bo l c (p.getD k opZ).2.1 ∧
      ∀ V : World, Below w.heap.size w V → V.cell? ⟨b, off + k * 3, none⟩ = some (.int .i64 (p.getD k opZ).1) ∧ V.cell? ⟨b, off + k * 3 + 1, none⟩ = some (.slice bo l c) ∧ V.cell? ⟨b, off + k * 3 + 2, none⟩ = some (.int .i64 (p.getD k opZ).2.2) := by
  have hl := h.len
  obtain ⟨vss, h1, h2⟩ := h.ex
  obtain ⟨b, off, rfl, hb, hc⟩ := h1.at (by omega)
  obtain ⟨bo, l, c, hv, hs⟩ := Tms.get opZ h2 k (by omega)
  refine ⟨b, off, bo, l, c, rfl, hb, hs, fun V hV => ?_⟩
  have a0 := hc V hV k hk 0 (by omega)
  have a1 := hc V hV k hk 1 (by omega)
  have a2 := hc V hV k hk 2 (by omega)
  rw [hv] at a0 a1 a2
  exact ⟨a0, a1, a2⟩
theorem Try.bytes_op : Try.prog.bytesOf 41 = 40 := by kernel_rfl
theorem Try.cells_op : Try.prog.cellsOf 41 = 3 := by kernel_rfl
theorem view_op_at {H : Type} {enc : TypeId × Value → H} {W : World} {fuel : Nat} {c0 c1 c2 : Value} {y : DataW H × List MemPlace}
    (hf : DataW.trod enc Try.prog W 0 (fun _ => true) true fuel 41 [c0, c1, c2] = some y) (hsz : ∀ n ∈ y.1.weights Try.prog 41, n ≤ reachBytes) :
    ∃ o : MOp, OpR W [c0, c1, c2] o := by
  obtain ⟨y0, y1, y2, f, hx, _, g0, g1, g2⟩ := trod_struct3 Try.underlying41 hf
  have e0 : Try.prog.cellsOf 3 = 1 := by kernel_rfl
  have e1 : Try.prog.cellsOf 39 = 1 := by kernel_rfl
  have e2 : Try.prog.cellsOf 28 = 1 := by kernel_rfl
  simp only [e0, e1, e2] at g0 g1 g2
  have h0 : DataW.trod enc Try.prog W 0 (fun _ => true) true f 3 [c0] = some y0 := g0
  have h1 : DataW.trod enc Try.prog W 0 (fun _ => true) true f 39 [c1] = some y1 := g1
  have h2 : DataW.trod enc Try.prog W 0 (fun _ => true) true f 28 [c2] = some y2 := g2
  clear g0 g1 g2
  obtain ⟨d, p⟩ := y
  simp only [Prod.mk.injEq] at hx
  obtain ⟨rfl, rfl⟩ := hx
  obtain ⟨k, hk, _, _⟩ := DataW.trod_int Try.underlying3 h0
  obtain ⟨e, he, _, _⟩ := DataW.trod_int Try.underlying28 h2
  simp at hk he
  subst hk; subst he
  obtain ⟨ao, n, cap, rfl⟩ := slice_cell Try.underlying39 h1
  obtain ⟨ps, hps⟩ := view_lterms (d := y1.1) (p := y1.2) Try.underlying39 ⟨f, by simpa [Value.cells] using h1⟩ (fun n hn => hsz n (by
    simp [DataW.weights, Try.underlying41, DataW.weightsEach]; exact Or.inr (Or.inl hn)))
  exact ⟨(k, ps, e), ao, n, cap, rfl, hps⟩
theorem view_ops {H : Type} {enc : TypeId × Value → H} {W : World} {a0 : Option Addr} {len cap : Nat} {d : DataW H} {p : List MemPlace}
    (hd : DataW.Trod enc Try.prog W 0 (fun _ => true) true 24 (.slice a0 len cap) d p) (hsz : ∀ n ∈ d.weights Try.prog 24, n ≤ reachBytes) :
    ∃ l : List MOp, Lo W a0 len cap l := by
  have hT := Try.underlying24
  obtain ⟨fuel, hf⟩ := hd
  rcases open_slice hT hf with ⟨hcs, hx⟩ | ⟨a, len', cap', m, n, D, Pl, hcs, _, hl, hm, hmm, hx, hi⟩
  · simp [Value.cells] at hcs
    obtain ⟨rfl, rfl, rfl⟩ := hcs
    exact ⟨[], ⟨[], Gl.zero 3 W, trivial⟩⟩
  · simp [Value.cells] at hcs
    obtain ⟨rfl, rfl, rfl⟩ := hcs
    simp only [Prod.mk.injEq] at hx
    obtain ⟨rfl, rfl⟩ := hx
    obtain rfl : m = cap := by simpa using hmm
    rw [Try.cells_op] at hi
    have hs := hsz ((((List.range len).map D).length + ((List.range (m - len)).map fun j => D (len + j)).length) * Try.prog.bytesOf 41) (by simp [DataW.weights, hT])
    rw [Try.bytes_op] at hs
    simp [reachBytes] at hs
    have each : ∀ i, i < len → ∃ q : List Value × MOp, q.1.length = 3 ∧ (∀ j, j < 3 → W.cell? (a.add (i * 3 + j)) = q.1[j]?) ∧ OpR W q.1 q.2 := by
      intro i hil
      obtain ⟨cs', h1, h2⟩ := hi i (by omega)
      obtain ⟨_, hlen, hcell⟩ := World.cells?_some h1
      match cs', hlen with
      | [c0, c1, c2], _ =>
        obtain ⟨t, ht⟩ := view_op_at h2 (fun n hn => hsz n (by
          simp only [DataW.weights, hT, List.mem_cons, List.mem_append]
          exact .inr (.inl (weights_mem_all (List.mem_map.2 ⟨i, List.mem_range.2 hil, rfl⟩) n hn))))
        refine ⟨([c0, c1, c2], t), rfl, fun j hj => ?_, ht⟩
        have := hcell j hj
        rwa [add_add] at this
    obtain ⟨q, hq⟩ := choose_lt each
    refine ⟨(List.range len).map fun i => (q i).2, ⟨(List.range len).map fun i => (q i).1, gl_of_each hl (by omega) (by omega) (fun i hil => ⟨(hq i hil).1, fun v hv => ?_, (hq i hil).2.1⟩) fun hc => ?_, tms_of _ _ len fun i hil => (hq i hil).2.2⟩⟩
    · obtain ⟨ao, n, cap, e, _⟩ := (hq i hil).2.2
      rw [e] at hv
      simp at hv
      rcases hv with rfl | rfl | rfl <;> rfl
    · obtain ⟨cs', h1, _⟩ := hi 0 hc
      obtain ⟨_, hlen, hcell⟩ := World.cells?_some h1
      have h3 := hcell 0 (by omega)
      rw [List.getElem?_eq_getElem (by omega)] at h3
      have h4 := World.cell?_spot h3
      simpa [Addr.add] using h4
end Go.Proofs.Ythllkgjgakeinaa