/-
  What the laws NatAdds and NatShifts share: great, kept, copies of arguments.
-/
import Derived.Test.YtkopkmbijmofjaaLaw
import Derived.Test.YtkopkmbijmofjaaRLimbs
import Derived.Test.YtkopkmbijmofjaaRCmp
import Derived.Test.YtkopkmbijmofjaaRSub
import Derived.Laws.AppendOwnNone
namespace Go.Proofs.Ytkopkmbijmofjaa
open Go.RowKit

/-- All these slices of digits can be read. -/
def Dg.All (w : World) : List (Option Addr × Nat × Nat × List Nat) → Prop
  | [] => True
  | s :: r => Dg.Sl w s.1 s.2.1 s.2.2.1 s.2.2.2 ∧ Dg.All w r

theorem Dg.All.nil (w : World) : Dg.All w [] := trivial
theorem Dg.All.cons {w : World} {ao : Option Addr} {n cap : Nat} {xs : List Nat} {r : List (Option Addr × Nat × Nat × List Nat)} (h : Dg.Sl w ao n cap xs) (hr : Dg.All w r) : Dg.All w ((ao, n, cap, xs) :: r) := ⟨h, hr⟩
theorem Dg.All.head {w : World} {ao : Option Addr} {n cap : Nat} {xs : List Nat} {r : List (Option Addr × Nat × Nat × List Nat)} (h : Dg.All w ((ao, n, cap, xs) :: r)) : Dg.Sl w ao n cap xs := h.1
theorem Dg.All.tail {w : World} {s : Option Addr × Nat × Nat × List Nat} {r : List (Option Addr × Nat × Nat × List Nat)} (h : Dg.All w (s :: r)) : Dg.All w r := h.2
theorem Dg.All.below {w w' : World} (hb : Below w.heap.size w w') : ∀ {r : List (Option Addr × Nat × Nat × List Nat)}, Dg.All w r → Dg.All w' r
  | [], _ => trivial
  | _ :: _, h => ⟨h.1.below hb, Dg.All.below hb h.2⟩

theorem apart32 {B : Nat} {w1 w2 : World} {ao ao' : Option Addr} {n cap n' cap' : Nat} {ys ys' : List Nat} (h : Own B w1 ao n cap ys) (h' : Own w1.heap.size w2 ao' n' cap' ys') :
    (Value.slice ao' n' cap').ownBlock = none ∨ (Value.slice ao' n' cap').ownBlock ≠ (Value.slice ao n cap).ownBlock := by
  rcases h'.parts with ⟨h2, _⟩ | ⟨g, h2, h3, _⟩
  · left; rw [h2]; rfl
  · right
    intro e
    rw [h2] at e
    have h1 := (h.row.lt g (by rw [← e]; rfl)).2
    omega

/-- how many digits a number of at most 40 limbs has -/
theorem dig_len {xs : List Nat} {n : Nat} (hw : Wf xs) (hl : xs.length = n) (h : n ≤ 40) : (Dg.limbs (val xs)).length ≤ 400 := by
  have := Dg.digits_of_limbs hw 0 n hl
  rw [List.drop_zero] at this
  omega

theorem Dg.cmp_is (c : Int) (a0 b0 : Option Addr) (la ca lb cb a b : Nat) (w : World) (ha : Dg.Sl w a0 la ca (Dg.limbs a)) (hb : Dg.Sl w b0 lb cb (Dg.limbs b)) (hc : Hid (cmpN a b = c)) :
    Calls Try.prog 17 #[.slice a0 la ca, .slice b0 lb cb] w (RetB (.int .i64 c) w) := by
  rw [← hc.out]; exact Dg.cmp_any a0 b0 la ca lb cb a b w ha hb

/-- Two slices of the law's own, in blocks of their own; what was there before both stays. -/
structure TwoOwn (wc : World) (s0 : Option Addr) (sn sc : Nat) (t0 : Option Addr) (tn tc : Nat) (wr : World) : Prop where
  one : ∃ zs, Own wc.heap.size wr s0 sn sc zs
  two : ∃ zs, Own wc.heap.size wr t0 tn tc zs
  below : Below wc.heap.size wc wr

theorem own_other {B : Nat} {w : World} {ao : Option Addr} {n cap : Nat} {ys : List Nat} (h : Own B w ao n cap ys) {a : Addr} (ha : (Value.slice ao n cap).ownBlock ≠ some a.block) (u : Value) : Own B (w.setCell a u) ao n cap ys :=
  ⟨ownsRow_setCell_other h.row ha u, h.big, h.wf⟩

theorem TwoOwn.at_one {wc : World} {s0 : Option Addr} {sn sc : Nat} {t0 : Option Addr} {tn tc : Nat} {wr : World} (h : TwoOwn wc s0 sn sc t0 tn tc wr) (hn : 0 < sn) :
    ∃ g zs, s0 = some ⟨g, 0, none⟩ ∧ wc.heap.size ≤ g ∧ Own wc.heap.size wr (some ⟨g, 0, none⟩) sn sc zs := by
  obtain ⟨zs, hO⟩ := h.one
  rcases hO.parts with ⟨_, h0, _⟩ | ⟨g, rfl, hg, _⟩
  · omega
  · exact ⟨g, zs, rfl, hg, hO⟩

theorem TwoOwn.at_two {wc : World} {s0 : Option Addr} {sn sc : Nat} {t0 : Option Addr} {tn tc : Nat} {wr : World} (h : TwoOwn wc s0 sn sc t0 tn tc wr) (hn : 0 < tn) :
    ∃ g zs, t0 = some ⟨g, 0, none⟩ ∧ wc.heap.size ≤ g ∧ Own wc.heap.size wr (some ⟨g, 0, none⟩) tn tc zs := by
  obtain ⟨zs, hO⟩ := h.two
  rcases hO.parts with ⟨_, h0, _⟩ | ⟨g, rfl, hg, _⟩
  · omega
  · exact ⟨g, zs, rfl, hg, hO⟩

theorem TwoOwn.set_one {wc : World} {g sn sc : Nat} {t0 : Option Addr} {tn tc : Nat} {wr : World} (h : TwoOwn wc (some ⟨g, 0, none⟩) sn sc t0 tn tc wr) (hg : wc.heap.size ≤ g)
    (ha : (Value.slice t0 tn tc).ownBlock = none ∨ (Value.slice t0 tn tc).ownBlock ≠ (Value.slice (some ⟨g, 0, none⟩) sn sc).ownBlock) (k x : Nat) (hx : x < 4294967296) {v : Value} (hv : v = .int .u32 ((x : Nat) : Int)) :
    TwoOwn wc (some ⟨g, 0, none⟩) sn sc t0 tn tc (wr.setCell ⟨g, k, none⟩ v) := by
  subst hv
  obtain ⟨zs, hO⟩ := h.one
  obtain ⟨zt, hT⟩ := h.two
  refine ⟨⟨_, hO.set k x hx⟩, ⟨_, own_other hT ?_ _⟩, h.below.setCell hg _⟩
  rcases ha with ha | ha
  · rw [ha]; exact fun e => by cases e
  · exact ha

theorem TwoOwn.set_two {wc : World} {g : Nat} {s0 : Option Addr} {sn sc tn tc : Nat} {wr : World} (h : TwoOwn wc s0 sn sc (some ⟨g, 0, none⟩) tn tc wr) (hg : wc.heap.size ≤ g)
    (ha : (Value.slice (some ⟨g, 0, none⟩) tn tc).ownBlock = none ∨ (Value.slice (some ⟨g, 0, none⟩) tn tc).ownBlock ≠ (Value.slice s0 sn sc).ownBlock) (k x : Nat) (hx : x < 4294967296) {v : Value} (hv : v = .int .u32 ((x : Nat) : Int)) :
    TwoOwn wc s0 sn sc (some ⟨g, 0, none⟩) tn tc (wr.setCell ⟨g, k, none⟩ v) := by
  subst hv
  obtain ⟨zs, hO⟩ := h.one
  obtain ⟨zt, hT⟩ := h.two
  refine ⟨⟨_, own_other hO ?_ _⟩, ⟨_, hT.set k x hx⟩, h.below.setCell hg _⟩
  rcases ha with ha | ha
  · cases ha
  · exact fun e => ha e.symm

theorem ret_bool {a b : Bool} (h : a = b) : Ending.returned (.bool a) = .returned (.bool b) := by rw [h]

set_option maxHeartbeats 400000 in
theorem great_no (a0 b0 : Option Addr) (la ca lb cb : Nat) (w : World) (h1 : la ≤ 40) (h2 : lb ≤ 40) :
    Calls Try.prog 8 #[.slice a0 la ca, .slice b0 lb cb] w fun e w' => e = .returned (.bool false) ∧ w = w' := by
  have d1 : decide (40 < la) = false := by simp; omega
  have d2 : decide (40 < lb) = false := by simp; omega
  go_enter Try.func8, Try.ntmps8
  go_wp2
  go_ret
  exact ⟨ret_bool (by simp; omega), rfl⟩

set_option maxHeartbeats 400000 in
theorem great_yes (a0 b0 : Option Addr) (la ca lb cb : Nat) (w : World) (h1 : la ≤ 9223372036854775807) (h2 : lb ≤ 9223372036854775807) (h : 40 < la ∨ 40 < lb) :
    Calls Try.prog 8 #[.slice a0 la ca, .slice b0 lb cb] w fun e w' => e = .returned (.bool true) ∧ w = w' := by
  by_cases hl : 40 < la
  · go_enter Try.func8, Try.ntmps8
    go_wp2
    go_ret
    exact ⟨ret_bool (by simp; try omega), rfl⟩
  · have hl2 : 40 < lb := by omega
    have d1 : decide (40 < la) = false := by simp; omega
    go_enter Try.func8, Try.ntmps8
    go_wp2
    go_ret
    exact ⟨ret_bool (by simp; try omega), rfl⟩

set_option maxHeartbeats 400000 in
theorem kept_b (a0 b0 : Option Addr) (la ca lb cb : Nat) (xs ys : List Nat) (w : World) (ha : Sl w a0 la ca xs) (hb : Sl w b0 lb cb ys) (h : xs = ys) :
    Calls Try.prog 19 #[.slice a0 la ca, .slice b0 lb cb] w (RetB (.bool true) w) := by
  go_enter Try.func19, Try.ntmps19
  go_wp2_with fail
  refine (same_b _ _ _ _ _ _ _ _ _ ha hb h).mono ?_
  rintro e w' ⟨rfl, hB⟩
  go_wp2_with fail
  go_ret
  exact ⟨rfl, hB⟩

/-- 'append([]uint32{}, a...)': a copy of a, in new memory. -/
theorem wpList_dup {P : Program} (w w0 : World) {ops : Array Oper} {rest : List Oper} {o : Oper} {a : Act} {Q : Exit → Act → World → Prop}
    (hg : o.guard = none) (s x : Operand) (t : TypeId) (hop : o.op = Op.call { callee := Callee.builtin Builtin.append, args := #[s, x], argTypes := #[t, t] })
    (base : Nat) (i : TypeInfo) (z : Value) (h1 : P.underlying t = some (.slice 38)) (h2 : P.info? 38 = some i) (h3 : i.zero = some z) (h4 : i.size = 1) (h5 : i.bytes = 4) (h6 : z.cells.size = 1)
    (hs : a.eval s = .slice (some ⟨w.heap.size, 0, none⟩) 0 0) (ao : Option Addr) (n cap : Nat) (xs : List Nat) (hx : a.eval x = .slice ao n cap) (hS : Sl w ao n cap xs) (hb : Below base w0 w) (hbase : base ≤ w.heap.size)
    (hK : ∀ ao' cap' w', Own w.heap.size w' ao' n cap' xs → Below base w0 w' → Below w.heap.size w w' → wpList P ops Q rest (a.put o.dst (.slice ao' n cap')) w') :
    wpList P ops Q (o :: rest) a (w.alloc (.cells #[] 38)) := by
  have hown0 : (w.alloc (.cells #[] 38)).ownsRow w.heap.size 38 1 (.slice (some ⟨w.heap.size, 0, none⟩) 0 0) 0 [] :=
    World.ownsRow_made w #[] 0 (Nat.le_refl _) (Nat.zero_le _) rfl
  have hba : Below base w0 (w.alloc (.cells #[] 38)) := hb.alloc hbase _
  have hbb : Below w.heap.size w (w.alloc (.cells #[] 38)) := (Below.refl _ _).alloc (Nat.le_refl _) _
  have hSa := hS.below hbb
  cases ao with
  | none =>
    have hn : n = 0 := by have := hS.nil rfl; have := hS.le; omega
    have hc : cap = 0 := hS.nil rfl
    subst hn; subst hc
    have hxs : xs = [] := List.eq_nil_of_length_eq_zero hS.len
    subst hxs
    refine wpList_plain hg fun K hK' => ?_
    have hrun := run_append_owned_none (P := P) (w.alloc (.cells #[] 38)) w.heap.size t o.type 38 i 1 h1 h2 _ 0 [] hown0
    unfold Oper.wp
    simp [execOp, hop, resolve, invoke, builtin, hs, hx, hrun, Result.andThen]
    exact hK' _ _ (hK _ _ _ ⟨by simpa [cellsOf] using hown0, Nat.zero_le _, fun _ h => by cases h⟩ hba hbb)
  | some ad =>
    refine wpList_append_own _ hg s x t hop w.heap.size 38 i z 1 4 h1 h2 h3 h4 h5 h6 (by decide) _ 0 [] hs hown0 ad n cap (cellsOf xs) hx (by rw [cellsOf_length, hS.len, Nat.mul_one]) ?_ (cellsOf_one xs) (by have := hS.big; unfold maxLen; omega) (by have := hS.big; omega) (by simp) ?_
    · intro j u hj
      have hjl : j < n := by have := (List.getElem?_eq_some_iff.1 hj).1; rwa [cellsOf_length, hS.len] at this
      rw [hSa.cells ad rfl j hjl, ← hj, cellsOf_get xs j (by rw [hS.len]; exact hjl)]
    · intro v' w' hown' hgrow _
      have hsh : ∃ ao' cap', v' = .slice ao' (0 + n) cap' := by
        rcases hown'.2 with ⟨hv, h0⟩ | ⟨g, cap, cur, hv, _⟩
        · exact ⟨none, 0, by rw [hv, h0]⟩
        · exact ⟨_, _, hv⟩
      obtain ⟨ao', cap', rfl⟩ := hsh
      rw [Nat.zero_add] at hown' ⊢
      refine hK ao' cap' w' ⟨by simpa using hown', hS.big, hS.wf⟩ (hba.grown hgrow (by simp; omega) fun k hk => ?_) (hbb.grown hgrow (by simp) fun k hk => ?_)
      · simp [Value.ownBlock] at hk; omega
      · simp [Value.ownBlock] at hk; omega

end Go.Proofs.Ytkopkmbijmofjaa
