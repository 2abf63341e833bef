/-
  Lists of powers: what a slice of pairs of ints reads; such a slice in memory of the call's own.
-/
import Derived.Test.YtgalcdfleljliaaMPlain
import Derived.Test.YtgalcdfleljliaaGMem
import Derived.Laws.AppendOwnNone
set_option maxRecDepth 8192
namespace Go.Proofs.Ytgalcdfleljliaa
open Go.RowKit

/-- is it an int? -/
def in64 (z : Int) : Prop := -9223372036854775808 ≤ z ∧ z ≤ 9223372036854775807

/-- The slice value '.slice ao n cap' of type []api.Power reads as the pairs ps. -/
structure Ml (w : World) (ao : Option Addr) (n cap : Nat) (ps : List (Int × Int)) : Prop where
  len : ps.length = n
  le : n ≤ cap
  big : n ≤ 8796093022208
  wf : ∀ p ∈ ps, in64 p.1 ∧ in64 p.2
  nil : ao = none → cap = 0
  cells : ∀ ad, ao = some ad → ∀ t, t < n → w.cell? (ad.add (t * 2)) = some (.int .i64 (ps.getD t (0, 0)).1) ∧ w.cell? (ad.add (t * 2 + 1)) = some (.int .i64 (ps.getD t (0, 0)).2)

theorem Ml.at {w : World} {ao : Option Addr} {n cap : Nat} {ps : List (Int × Int)} (h : Ml w ao n cap ps) (hn : 0 < n) :
    ∃ b off, ao = some ⟨b, off, none⟩ ∧ b < w.heap.size ∧ ∀ t, t < n → w.cell? ⟨b, off + t * 2, none⟩ = some (.int .i64 (ps.getD t (0, 0)).1) ∧ w.cell? ⟨b, off + t * 2 + 1, none⟩ = some (.int .i64 (ps.getD t (0, 0)).2) := by
  cases hao : ao with
  | none => have := h.nil hao; have := h.le; omega
  | some ad =>
    obtain ⟨b, off, s⟩ := ad
    have h0 := (h.cells _ hao 0 hn).1
    have hs : s = none := by simpa [Addr.add] using World.cell?_spot h0
    subst hs
    refine ⟨b, off, rfl, ?_, fun t ht => ?_⟩
    · simpa [Addr.add] using World.block_lt_of_cell? w _ h0
    · have := h.cells _ hao t ht
      rw [Addr.add_lit, Addr.add_lit, ← Nat.add_assoc] at this
      exact this

theorem Ml.of_cells {w : World} {b off n cap : Nat} {ps : List (Int × Int)} (h1 : ps.length = n) (h2 : n ≤ cap) (h3 : n ≤ 8796093022208) (h4 : ∀ p ∈ ps, in64 p.1 ∧ in64 p.2)
    (hc : ∀ t, t < n → w.cell? ⟨b, off + t * 2, none⟩ = some (.int .i64 (ps.getD t (0, 0)).1) ∧ w.cell? ⟨b, off + t * 2 + 1, none⟩ = some (.int .i64 (ps.getD t (0, 0)).2)) : Ml w (some ⟨b, off, none⟩) n cap ps :=
  ⟨h1, h2, h3, h4, (fun h => by cases h), fun ad had t ht => by cases had; rw [Addr.add_lit, Addr.add_lit, ← Nat.add_assoc]; exact hc t ht⟩

theorem Ml.zero (w : World) : Ml w none 0 0 [] :=
  ⟨rfl, Nat.le_refl _, by omega, (fun _ h => by cases h), (fun _ => rfl), fun _ h => by cases h⟩

theorem Ml.below {w w' : World} {ao : Option Addr} {n cap : Nat} {ps : List (Int × Int)} (h : Ml w ao n cap ps) (hb : Below w.heap.size w w') : Ml w' ao n cap ps :=
  ⟨h.len, h.le, h.big, h.wf, h.nil, fun ad had t ht => by
    have h0 := h.cells ad had t ht
    rw [hb.cell (World.block_lt_of_cell? w _ h0.1), hb.cell (World.block_lt_of_cell? w _ h0.2)]
    exact h0⟩

theorem Ml.empty {w : World} {ao : Option Addr} {n cap : Nat} {ps : List (Int × Int)} (h : Ml w ao n cap ps) (hn : n = 0) : ps = [] := List.eq_nil_of_length_eq_zero (by rw [h.len, hn])

theorem Ml.getD_mem {ps : List (Int × Int)} {t : Nat} (h : t < ps.length) : ps.getD t (0, 0) ∈ ps := by
  simp only [List.getD, List.getElem?_eq_getElem h, Option.getD_some]
  exact List.getElem_mem h

/-- The rest of such a list: behind its first power. -/
theorem ml_tail {w : World} {b off n cap : Nat} {p : Int × Int} {r : List (Int × Int)} (h : Ml w (some ⟨b, off, none⟩) (n + 1) cap (p :: r)) : Ml w (some ⟨b, off + 2, none⟩) n (cap - 1) r := by
  have hle := h.le
  have hlen := h.len
  have hbig := h.big
  simp at hlen
  refine Ml.of_cells hlen (by omega) (by omega) (fun q hq => h.wf q (by simp [hq])) fun t ht => ?_
  have := h.cells _ rfl (t + 1) (by omega)
  rw [Addr.add_lit, Addr.add_lit] at this
  rw [show off + 2 + t * 2 = off + (t + 1) * 2 by omega, show off + (t + 1) * 2 + 1 = off + ((t + 1) * 2 + 1) by omega]
  simpa using this
theorem ml_tail0 {w : World} {ao : Option Addr} {n cap : Nat} {p : Int × Int} {r : List (Int × Int)} (h : Ml w ao (n + 1) cap (p :: r)) (hc : cap = 1) : Ml w ao 0 0 r ∧ n = 0 := by
  have hle := h.le
  have hlen := h.len
  simp at hlen
  have hn : n = 0 := by omega
  have hr : r = [] := List.eq_nil_of_length_eq_zero (by omega)
  subst hr
  exact ⟨⟨rfl, Nat.le_refl _, by omega, (fun _ h => by cases h), fun _ => rfl, fun _ _ t ht => by omega⟩, hn⟩

/-! ### memory of the call's own -/
/-- the cells of a list of powers -/
def pcells : List (Int × Int) → List Value
  | [] => []
  | p :: r => .int .i64 p.1 :: .int .i64 p.2 :: pcells r

theorem pcells_length : ∀ ps : List (Int × Int), (pcells ps).length = ps.length * 2
  | [] => rfl
  | p :: r => by simp [pcells, pcells_length r]; omega
theorem pcells_append : ∀ xs ys : List (Int × Int), pcells (xs ++ ys) = pcells xs ++ pcells ys
  | [], _ => rfl
  | p :: r, ys => by simp [pcells, pcells_append r ys]
theorem pcells_get : ∀ (ps : List (Int × Int)) (t : Nat), t < ps.length → (pcells ps)[t * 2]? = some (.int .i64 (ps.getD t (0, 0)).1) ∧ (pcells ps)[t * 2 + 1]? = some (.int .i64 (ps.getD t (0, 0)).2)
  | [], _, h => by simp at h
  | p :: r, 0, _ => by simp [pcells]
  | p :: r, t + 1, h => by
    have ih := pcells_get r t (by simpa using h)
    rw [show (t + 1) * 2 = t * 2 + 1 + 1 by omega]
    simpa [pcells] using ih
theorem pcells_one : ∀ (ps : List (Int × Int)), ∀ v ∈ pcells ps, v.oneCell' = true
  | [], _, h => by cases h
  | p :: r, v, h => by
    simp only [pcells, List.mem_cons] at h
    rcases h with rfl | rfl | h
    · rfl
    · rfl
    · exact pcells_one r v h
theorem pcells_take : ∀ (ps : List (Int × Int)) (k : Nat), (pcells ps).take (k * 2) = pcells (ps.take k)
  | [], k => by simp [pcells]
  | p :: r, 0 => by simp [pcells]
  | p :: r, k + 1 => by
    rw [show (k + 1) * 2 = k * 2 + 1 + 1 by omega]
    simp [pcells, pcells_take r k]

/-- The slice '.slice ao n cap' is the call's own (blocks from B on) and reads as ps. -/
structure Mo (B : Nat) (w : World) (ao : Option Addr) (n cap : Nat) (ps : List (Int × Int)) : Prop where
  row : w.ownsRow B 48 2 (.slice ao n cap) n (pcells ps)
  big : n ≤ 8796093022208
  wf : ∀ p ∈ ps, in64 p.1 ∧ in64 p.2

theorem Mo.nil (B : Nat) (w : World) : Mo B w none 0 0 [] :=
  ⟨World.ownsRow_nil _ _ _ _, by omega, fun _ h => by cases h⟩

theorem Mo.len {B : Nat} {w : World} {ao : Option Addr} {n cap : Nat} {ps : List (Int × Int)} (h : Mo B w ao n cap ps) : ps.length = n := by
  have := h.row.1
  rw [pcells_length] at this
  omega

theorem Mo.parts {B : Nat} {w : World} {ao : Option Addr} {n cap : Nat} {ps : List (Int × Int)} (h : Mo B w ao n cap ps) :
    (ao = none ∧ n = 0 ∧ cap = 0 ∧ ps = []) ∨ ∃ g cur, ao = some ⟨g, 0, none⟩ ∧ B ≤ g ∧ g < w.heap.size ∧ n ≤ cap ∧ w.heap[g]? = some (.cells cur 48 (0, 0)) := by
  rcases h.row.2 with ⟨hv, h0⟩ | ⟨g, cap', cur, hv, hg, hh, hn, _⟩
  · simp only [Value.slice.injEq] at hv
    exact .inl ⟨hv.1, hv.2.1, hv.2.2, List.eq_nil_of_length_eq_zero (by rw [h.len, h0])⟩
  · simp only [Value.slice.injEq, true_and] at hv
    obtain ⟨rfl, rfl⟩ := hv
    exact .inr ⟨g, cur, rfl, hg, lt_of_block hh, hn, hh⟩

theorem Mo.ml {B : Nat} {w : World} {ao : Option Addr} {n cap : Nat} {ps : List (Int × Int)} (h : Mo B w ao n cap ps) : Ml w ao n cap ps := by
  rcases h.parts with ⟨rfl, rfl, rfl, rfl⟩ | ⟨g, cur, rfl, hg, hlt, hn, _⟩
  · exact Ml.zero w
  · refine Ml.of_cells h.len hn h.big h.wf fun t ht => ?_
    have h2 := pcells_get ps t (by rw [h.len]; exact ht)
    rw [Nat.zero_add, h.row.cellAt (t * 2) (by omega), h.row.cellAt (t * 2 + 1) (by omega)]
    exact h2

theorem Mo.below {B : Nat} {w w' : World} {ao : Option Addr} {n cap : Nat} {ps : List (Int × Int)} (h : Mo B w ao n cap ps) (hb : Below w.heap.size w w') : Mo B w' ao n cap ps := by
  refine ⟨⟨h.row.1, ?_⟩, h.big, h.wf⟩
  rcases h.row.2 with h2 | ⟨g, cap', cur, hv, hg, hh, r⟩
  · exact .inl h2
  · exact .inr ⟨g, cap', cur, hv, hg, by rw [hb.block g (lt_of_block hh)]; exact hh, r⟩

/-- What is owned stays owned where its block stays. -/
theorem Mo.keep {B : Nat} {w w' : World} {ao : Option Addr} {n cap : Nat} {ps : List (Int × Int)} (h : Mo B w ao n cap ps) (hb : ∀ a, ao = some a → w'.heap[a.block]? = w.heap[a.block]?) : Mo B w' ao n cap ps := by
  refine ⟨⟨h.row.1, ?_⟩, h.big, h.wf⟩
  rcases h.row.2 with h2 | ⟨g, cap', cur, hv, hg, hh, r⟩
  · exact .inl h2
  · simp only [Value.slice.injEq, true_and] at hv
    obtain ⟨rfl, rfl⟩ := hv
    exact .inr ⟨g, cap, cur, rfl, hg, by rw [hb _ rfl]; exact hh, r⟩

theorem Mo.mono {B B' : Nat} {w : World} {ao : Option Addr} {n cap : Nat} {ps : List (Int × Int)} (h : Mo B w ao n cap ps) (hB : B' ≤ B) : Mo B' w ao n cap ps := by
  refine ⟨⟨h.row.1, ?_⟩, h.big, h.wf⟩
  rcases h.row.2 with h2 | ⟨g, cap', cur, hv, hg, r⟩
  · exact .inl h2
  · exact .inr ⟨g, cap', cur, hv, by omega, r⟩

/-- What a call that makes a list of powers leaves. -/
def NewM (w : World) (ps : List (Int × Int)) (e : Ending) (w' : World) : Prop :=
  ∃ ao n cap, e = .returned (.slice ao n cap) ∧ Ml w' ao n cap ps ∧ Below w.heap.size w w'

/-- The same beside an error's number. -/
def NewME (w : World) (ps : List (Int × Int)) (er : Int) (e : Ending) (w' : World) : Prop :=
  ∃ ao n cap, e = .returned (.tuple #[.slice ao n cap, .int .i64 er]) ∧ Ml w' ao n cap ps ∧ Below w.heap.size w w'

theorem Try.info_pow : (Try.prog.info? 48).map (fun i => (i.zero, i.size, i.bytes)) = some (some (.agg #[.int .i64 0, .int .i64 0]), 2, 16) := by kernel_rfl

theorem owns_shape2 {w : World} {base : Nat} {e : TypeId} {v : Value} {n s : Nat} {xs : List Value} (h : w.ownsRow base e s v n xs) : ∃ ao cap, v = .slice ao n cap := by
  rcases h.2 with ⟨hv, h0⟩ | ⟨g, cap, cur, hv, _⟩
  · exact ⟨none, 0, by rw [hv, h0]⟩
  · exact ⟨_, _, hv⟩

/-- 'append(s, power)' to a slice of the call's own, as the walk takes it. -/
theorem wpList_push2 {P : Program} (w w0 : World) {ops : Array Oper} {rest : List Oper} {o : Oper} {a : Act} {Q : Exit → Act → World → Prop}
    (hg : o.guard = none) (s x : Operand) (t : TypeId) (hop : o.op = Op.call { callee := Callee.builtin Builtin.append, args := #[s, x], argTypes := #[t, t] })
    (base : Nat) (i : TypeInfo) (z : Value) (h1 : P.underlying t = some (.slice 48)) (h2 : P.info? 48 = some i) (h3 : i.zero = some z) (h4 : i.size = 2) (h5 : i.bytes = 16) (h6 : z.cells.size = 2)
    (ao : Option Addr) (n cap : Nat) (ps : List (Int × Int)) (hs : a.eval s = .slice ao n cap) (hown : Mo base w ao n cap ps)
    (u v : Int) (hu : in64 u) (hv : in64 v) (tt : TypeId) (hx : a.eval x = .slice (some ⟨w.heap.size, 0, none⟩) 1 1) (hb : Below base w0 w) (hbase : base ≤ w.heap.size) (b1 : n + 1 ≤ 8796093022208)
    (hK : ∀ ao' cap' w', Mo base w' ao' (n + 1) cap' (ps ++ [(u, v)]) → Below base w0 w' → (w.alloc (.cells #[.int .i64 u, .int .i64 v] tt)).grownBy w' (Value.slice ao n cap).ownBlock → wpList P ops Q rest (a.put o.dst (.slice ao' (n + 1) cap')) w') :
    wpList P ops Q (o :: rest) a (w.alloc (.cells #[.int .i64 u, .int .i64 v] tt)) := by
  have ho1 := hown.row.alloc (.cells #[.int .i64 u, .int .i64 v] tt)
  refine wpList_append_own _ hg s x t hop base 48 i z 2 16 h1 h2 h3 h4 h5 h6 (by decide) _ n (pcells ps) hs ho1 ⟨w.heap.size, 0, none⟩ 1 1 (pcells [(u, v)]) hx rfl ?_ (pcells_one _) (by unfold maxLen; omega) (by omega) (by simp; omega) ?_
  · intro j q hj
    match j, hj with
    | 0, hj =>
      simp [pcells] at hj
      subst hj
      simp [Addr.add]
    | 1, hj =>
      simp [pcells] at hj
      subst hj
      simp [Addr.add]
    | j + 2, hj => simp [pcells] at hj
  · intro v' w' hown' hgrow _
    obtain ⟨ao', cap', rfl⟩ := owns_shape2 hown'
    refine hK ao' cap' w' ⟨by rw [pcells_append]; exact hown', b1, fun p hp => ?_⟩ ((hb.alloc hbase _).grown hgrow (by simp; omega) fun k hk => (ho1.lt k hk).1) hgrow
    rcases List.mem_append.1 hp with hp | hp
    · exact hown.wf p hp
    · simp at hp
      subst hp
      exact ⟨hu, hv⟩

/-- 'append(api.Mono{}, a...)': a copy of a, in new memory. -/
theorem wpList_dup2 {P : Program} (w w0 : World) {ops : Array Oper} {rest : List Oper} {o : Oper} {a : Act} {Q : Exit → Act → World → Prop}
    (hg : o.guard = none) (s x : Operand) (t : TypeId) (hop : o.op = Op.call { callee := Callee.builtin Builtin.append, args := #[s, x], argTypes := #[t, t] })
    (base : Nat) (i : TypeInfo) (z : Value) (h1 : P.underlying t = some (.slice 48)) (h2 : P.info? 48 = some i) (h3 : i.zero = some z) (h4 : i.size = 2) (h5 : i.bytes = 16) (h6 : z.cells.size = 2)
    (hs : a.eval s = .slice (some ⟨w.heap.size, 0, none⟩) 0 0) (ao : Option Addr) (n cap : Nat) (ps : List (Int × Int)) (hx : a.eval x = .slice ao n cap) (hS : Ml w ao n cap ps) (hb : Below base w0 w) (hbase : base ≤ w.heap.size)
    (hK : ∀ ao' cap' w', Mo w.heap.size w' ao' n cap' ps → Below base w0 w' → Below w.heap.size w w' → wpList P ops Q rest (a.put o.dst (.slice ao' n cap')) w') :
    wpList P ops Q (o :: rest) a (w.alloc (.cells #[] 48)) := by
  have hown0 : (w.alloc (.cells #[] 48)).ownsRow w.heap.size 48 2 (.slice (some ⟨w.heap.size, 0, none⟩) 0 0) 0 [] :=
    World.ownsRow_made w #[] 0 (Nat.le_refl _) (Nat.zero_le _) rfl
  have hba : Below base w0 (w.alloc (.cells #[] 48)) := hb.alloc hbase _
  have hbb : Below w.heap.size w (w.alloc (.cells #[] 48)) := (Below.refl _ _).alloc (Nat.le_refl _) _
  have hSa := hS.below hbb
  cases ao with
  | none =>
    have hn : n = 0 := by have := hS.nil rfl; have := hS.le; omega
    have hc : cap = 0 := hS.nil rfl
    subst hn; subst hc
    have hxs : ps = [] := List.eq_nil_of_length_eq_zero hS.len
    subst hxs
    refine wpList_plain hg fun K hK' => ?_
    have hrun := run_append_owned_none (P := P) (w.alloc (.cells #[] 48)) w.heap.size t o.type 48 i 2 h1 h2 _ 0 [] hown0
    unfold Oper.wp
    simp [execOp, hop, resolve, invoke, builtin, hs, hx, hrun, Result.andThen]
    exact hK' _ _ (hK _ _ _ ⟨by simpa [pcells] using hown0, Nat.zero_le _, fun _ h => by cases h⟩ hba hbb)
  | some ad =>
    refine wpList_append_own _ hg s x t hop w.heap.size 48 i z 2 16 h1 h2 h3 h4 h5 h6 (by decide) _ 0 [] hs hown0 ad n cap (pcells ps) hx (by rw [pcells_length, hS.len]) ?_ (pcells_one ps) (by have := hS.big; unfold maxLen; omega) (by have := hS.big; omega) (by simp) ?_
    · intro j u hj
      have hjl : j < n * 2 := by have := (List.getElem?_eq_some_iff.1 hj).1; rwa [pcells_length, hS.len] at this
      have hc := hSa.cells ad rfl (j / 2) (by omega)
      have hp := pcells_get ps (j / 2) (by rw [hS.len]; omega)
      rcases (show j = j / 2 * 2 ∨ j = j / 2 * 2 + 1 by omega) with e | e
      · rw [← e] at hc hp
        rw [hc.1, ← hp.1, hj]
      · rw [← e] at hc hp
        rw [hc.2, ← hp.2, hj]
    · intro v' w' hown' hgrow _
      obtain ⟨ao', cap', rfl⟩ := owns_shape2 hown'
      rw [Nat.zero_add] at hown' ⊢
      refine hK ao' cap' w' ⟨by simpa using hown', hS.big, hS.wf⟩ (hba.grown hgrow (by simp; omega) fun k hk => ?_) (hbb.grown hgrow (by simp) fun k hk => ?_)
      · simp [Value.ownBlock] at hk; omega
      · simp [Value.ownBlock] at hk; omega

end Go.Proofs.Ytgalcdfleljliaa
