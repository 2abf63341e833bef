/- Ml, MMay, MSame, MEn, MRow, MExps, MOf, MRTimes -/
import Derived.Test.YtmmgipcacceakaaGreatMPlain
import Derived.Laws.AppendOwnNone
import Derived.Deep.QuietTactic
import Derived.BigQuiet
import Derived.Test.YtmmgipcacceakaaGreatGSt
import Derived.Deep.WholeRow
import Derived.Deep.MidRow
import Derived.Deep.Cut
import Derived.Deep.CutRange
set_option maxHeartbeats 40000000
set_option maxRecDepth 100000
namespace Go.Proofs.YtmmgipcacceakaaGreat
open Go.RowKit
def in64 (z : Int) : Prop := -9223372036854775808 ≤ z ∧ z ≤ 9223372036854775807
structure Ml [Ol] (w : World) (ao : Option Addr) (n cap : Nat) (ps : List (Int × Int)) : Prop where
 len : ps.length = n
 le : n ≤ cap
 big : n ≤ 8796093022208
 wf : ∀ p ∈ ps, in64 p.1 ∧ in64 p.2
 nil : ao = none → cap = 0
 cells : ∀ ad, ao = some ad → ∀ t, t < n → w.cell? (ad.add (t * 2)) = some (.int .i64 (ps.getD t (0, 0)).1) ∧ w.cell? (ad.add (t * 2 + 1)) = some (.int .i64 (ps.getD t (0, 0)).2)
 kp : 0 < n → ∀ ad, ao = some ad → Kp w ad.block
theorem Ml.at [Ol] {w : World} {ao : Option Addr} {n cap : Nat} {ps : List (Int × Int)} (h : Ml w ao n cap ps) (hn : 0 < n) :
  ∃ b off, ao = some ⟨b, off, none⟩ ∧ b < w.heap.size ∧ ∀ t, t < n → w.cell? ⟨b, off + t * 2, none⟩ = some (.int .i64 (ps.getD t (0, 0)).1) ∧ w.cell? ⟨b, off + t * 2 + 1, none⟩ = some (.int .i64 (ps.getD t (0, 0)).2) := by
 cases hao : ao with
 | none => have := h.nil hao; have := h.le; omega
 | some ad =>
  obtain ⟨b, off, s⟩ := ad; have h0 := (h.cells _ hao 0 hn).1
  have hs : s = none := by simpa [Addr.add] using World.cell?_spot h0
  subst hs
  refine ⟨b, off, rfl, ?_, fun t ht => ?_⟩
  ·simpa [Addr.add] using World.block_lt_of_cell? w _ h0
  ·have := h.cells _ hao t ht
   rw [Addr.add_lit, Addr.add_lit, ← Nat.add_assoc] at this
   exact this
theorem Ml.of_cells [Ol] {w : World} {b off n cap : Nat} {ps : List (Int × Int)} (h1 : ps.length = n) (h2 : n ≤ cap) (h3 : n ≤ 8796093022208) (h4 : ∀ p ∈ ps, in64 p.1 ∧ in64 p.2) (h5 : 0 < n → Kp w b)
  (hc : ∀ t, t < n → w.cell? ⟨b, off + t * 2, none⟩ = some (.int .i64 (ps.getD t (0, 0)).1) ∧ w.cell? ⟨b, off + t * 2 + 1, none⟩ = some (.int .i64 (ps.getD t (0, 0)).2)) : Ml w (some ⟨b, off, none⟩) n cap ps :=
 ⟨h1, h2, h3, h4, (fun h => by cases h), fun ad had t ht => by cases had; rw [Addr.add_lit, Addr.add_lit, ← Nat.add_assoc]; exact hc t ht, fun h0 ad had => by cases had; exact h5 h0⟩
theorem Ml.blt [Ol] {w : World} {ao : Option Addr} {n cap : Nat} {ps : List (Int × Int)} (h : Ml w ao n cap ps) (h0 : 0 < n) {ad : Addr} (had : ao = some ad) : ad.block < w.heap.size := by
 obtain ⟨b, off, e, hb, _⟩ := h.at h0; rw [e] at had
 cases had
 exact hb
theorem Ml.int [Ol] {w : World} {ao : Option Addr} {n cap : Nat} {ps : List (Int × Int)} (h : Ml w ao n cap ps) (h0 : 0 < n) {ad : Addr} (had : ao = some ad) : ∃ x, w.cell? ad = some (.int .i64 x) := by
 obtain ⟨b, off, e, hb, hc⟩ := h.at h0; rw [e] at had
 cases had
 exact ⟨_, (hc 0 h0).1⟩
theorem Ml.zero [Ol] (w : World) : Ml w none 0 0 [] :=
 ⟨rfl, Nat.le_refl _, by omega, (fun _ h => by cases h), (fun _ => rfl), (fun _ h => by cases h), fun _ _ h => by cases h⟩
theorem Ml.below [Ol] {w w' : World} {ao : Option Addr} {n cap : Nat} {ps : List (Int × Int)} (h : Ml w ao n cap ps) (hb : Below w.heap.size w w') : Ml w' ao n cap ps :=
 ⟨h.len, h.le, h.big, h.wf, h.nil, fun ad had t ht => by
  have h0 := h.cells ad had t ht; rw [hb.cell (World.block_lt_of_cell? w _ h0.1), hb.cell (World.block_lt_of_cell? w _ h0.2)]
  exact h0, fun h0 ad had => (h.kp h0 ad had).keep (hb.block _ (h.blt h0 had))⟩
theorem Ml.empty [Ol] {w : World} {ao : Option Addr} {n cap : Nat} {ps : List (Int × Int)} (h : Ml w ao n cap ps) (hn : n = 0) : ps = [] := List.eq_nil_of_length_eq_zero (by rw [h.len, hn])
theorem Ml.getD_mem {ps : List (Int × Int)} {t : Nat} (h : t < ps.length) : ps.getD t (0, 0) ∈ ps := by
 simp only [List.getD, List.getElem?_eq_getElem h, Option.getD_some]
 exact List.getElem_mem h
theorem ml_tail [Ol] {w : World} {b off n cap : Nat} {p : Int × Int} {r : List (Int × Int)} (h : Ml w (some ⟨b, off, none⟩) (n + 1) cap (p :: r)) : Ml w (some ⟨b, off + 2, none⟩) n (cap - 1) r := by
 have hle := h.le; have hlen := h.len; have hbig := h.big
 simp at hlen
 refine Ml.of_cells hlen (by omega) (by omega) (fun q hq => h.wf q (by simp [hq])) (fun _ => h.kp (by omega) _ rfl) fun t ht => ?_
 have := h.cells _ rfl (t + 1) (by omega)
 rw [Addr.add_lit, Addr.add_lit] at this
 rw [show off + 2 + t * 2 = off + (t + 1) * 2 by omega, show off + (t + 1) * 2 + 1 = off + ((t + 1) * 2 + 1) by omega]
 simpa using this
theorem ml_tail0 [Ol] {w : World} {ao : Option Addr} {n cap : Nat} {p : Int × Int} {r : List (Int × Int)} (h : Ml w ao (n + 1) cap (p :: r)) (hc : cap = 1) : Ml w ao 0 0 r ∧ n = 0 := by
 have hle := h.le; have hlen := h.len
 simp at hlen
 have hn : n = 0 := by omega
 have hr : r = [] := List.eq_nil_of_length_eq_zero (by omega)
 subst hr
 exact ⟨⟨rfl, Nat.le_refl _, by omega, (fun _ h => by cases h), (fun _ => rfl), (fun _ _ t ht => by omega), fun h0 => by omega⟩, hn⟩
def pcells : List (Int × Int) → List Value
 | [] => []
 | p :: r => .int .i64 p.1 :: .int .i64 p.2 :: pcells r
theorem pcells_length : ∀ ps : List (Int × Int), (pcells ps).length = ps.length * 2
 | [] => rfl
 | p :: r => by simp [pcells, pcells_length r]; omega
theorem pcells_append : ∀ xs ys : List (Int × Int), pcells (xs ++ ys) = pcells xs ++ pcells ys
 | [], _ => rfl
 | p :: r, ys => by simp [pcells, pcells_append r ys]
theorem pcells_get : ∀ (ps : List (Int × Int)) (t : Nat), t < ps.length → (pcells ps)[t * 2]? = some (.int .i64 (ps.getD t (0, 0)).1) ∧ (pcells ps)[t * 2 + 1]? = some (.int .i64 (ps.getD t (0, 0)).2)
 | [], _, h => by simp at h
 | p :: r, 0, _ => by simp [pcells]
 | p :: r, t + 1, h => by
  have ih := pcells_get r t (by simpa using h)
  rw [show (t + 1) * 2 = t * 2 + 1 + 1 by omega]
  simpa [pcells] using ih
theorem pcells_one : ∀ (ps : List (Int × Int)), ∀ v ∈ pcells ps, v.oneCell' = true
 | [], _, h => by cases h
 | p :: r, v, h => by
  simp only [pcells, List.mem_cons] at h
  rcases h with rfl | rfl | h
  ·rfl
  ·rfl
  ·exact pcells_one r v h
structure Mo (B : Nat) (w : World) (ao : Option Addr) (n cap : Nat) (ps : List (Int × Int)) : Prop where
 row : w.ownsRow B 87 2 (.slice ao n cap) n (pcells ps)
 big : n ≤ 8796093022208
 wf : ∀ p ∈ ps, in64 p.1 ∧ in64 p.2
theorem Mo.nil (B : Nat) (w : World) : Mo B w none 0 0 [] :=
 ⟨World.ownsRow_nil _ _ _ _, by omega, fun _ h => by cases h⟩
theorem Mo.len {B : Nat} {w : World} {ao : Option Addr} {n cap : Nat} {ps : List (Int × Int)} (h : Mo B w ao n cap ps) : ps.length = n := by
 have := h.row.1
 rw [pcells_length] at this
 omega
theorem Mo.parts {B : Nat} {w : World} {ao : Option Addr} {n cap : Nat} {ps : List (Int × Int)} (h : Mo B w ao n cap ps) :
  (ao = none ∧ n = 0 ∧ cap = 0 ∧ ps = []) ∨ ∃ g cur, ao = some ⟨g, 0, none⟩ ∧ B ≤ g ∧ g < w.heap.size ∧ n ≤ cap ∧ w.heap[g]? = some (.cells cur 87 (0, 0)) := by
 rcases h.row.2 with ⟨hv, h0⟩ | ⟨g, cap', cur, hv, hg, hh, hn, _⟩
 ·simp only [Value.slice.injEq] at hv
  exact .inl ⟨hv.1, hv.2.1, hv.2.2, List.eq_nil_of_length_eq_zero (by rw [h.len, h0])⟩
 ·simp only [Value.slice.injEq, true_and] at hv
  obtain ⟨rfl, rfl⟩ := hv
  exact .inr ⟨g, cur, rfl, hg, lt_of_block hh, hn, hh⟩
theorem Mo.ml [Ol] {B : Nat} {w : World} {ao : Option Addr} {n cap : Nat} {ps : List (Int × Int)} (h : Mo B w ao n cap ps) : Ml w ao n cap ps := by
 rcases h.parts with ⟨rfl, rfl, rfl, rfl⟩ | ⟨g, cur, rfl, hg, hlt, hn, hcur⟩
 ·exact Ml.zero w
 ·refine Ml.of_cells h.len hn h.big h.wf (fun _ => Kp.mk hcur (by decide)) fun t ht => ?_
  have h2 := pcells_get ps t (by rw [h.len]; exact ht)
  rw [Nat.zero_add, h.row.cellAt (t * 2) (by omega), h.row.cellAt (t * 2 + 1) (by omega)]
  exact h2
theorem Mo.below {B : Nat} {w w' : World} {ao : Option Addr} {n cap : Nat} {ps : List (Int × Int)} (h : Mo B w ao n cap ps) (hb : Below w.heap.size w w') : Mo B w' ao n cap ps := by
 refine ⟨⟨h.row.1, ?_⟩, h.big, h.wf⟩
 rcases h.row.2 with h2 | ⟨g, cap', cur, hv, hg, hh, r⟩
 ·exact .inl h2
 ·exact .inr ⟨g, cap', cur, hv, hg, by rw [hb.block g (lt_of_block hh)]; exact hh, r⟩
theorem Mo.keep {B : Nat} {w w' : World} {ao : Option Addr} {n cap : Nat} {ps : List (Int × Int)} (h : Mo B w ao n cap ps) (hb : ∀ a, ao = some a → w'.heap[a.block]? = w.heap[a.block]?) : Mo B w' ao n cap ps := by
 refine ⟨⟨h.row.1, ?_⟩, h.big, h.wf⟩
 rcases h.row.2 with h2 | ⟨g, cap', cur, hv, hg, hh, r⟩
 ·exact .inl h2
 ·simp only [Value.slice.injEq, true_and] at hv
  obtain ⟨rfl, rfl⟩ := hv
  exact .inr ⟨g, cap, cur, rfl, hg, by rw [hb _ rfl]; exact hh, r⟩
theorem Mo.mono {B B' : Nat} {w : World} {ao : Option Addr} {n cap : Nat} {ps : List (Int × Int)} (h : Mo B w ao n cap ps) (hB : B' ≤ B) : Mo B' w ao n cap ps := by
 refine ⟨⟨h.row.1, ?_⟩, h.big, h.wf⟩
 rcases h.row.2 with h2 | ⟨g, cap', cur, hv, hg, r⟩
 ·exact .inl h2
 ·exact .inr ⟨g, cap', cur, hv, by omega, r⟩
def NewM [Ol] (w : World) (ps : List (Int × Int)) (e : Ending) (w' : World) : Prop :=
 ∃ ao n cap, e = .returned (.slice ao n cap) ∧ Ml w' ao n cap ps ∧ Below w.heap.size w w'
def NewME [Ol] (w : World) (ps : List (Int × Int)) (er : Int) (e : Ending) (w' : World) : Prop :=
 ∃ ao n cap, e = .returned (.tuple #[.slice ao n cap, .int .i64 er]) ∧ Ml w' ao n cap ps ∧ Below w.heap.size w w'
theorem Tryz.info_pow : (Tryz.prog.info? 87).map (fun i => (i.zero, i.size, i.bytes)) = some (some (.agg #[.int .i64 0, .int .i64 0]), 2, 16) := by kernel_rfl
theorem owns_shape2 {w : World} {base : Nat} {e : TypeId} {v : Value} {n s : Nat} {xs : List Value} (h : w.ownsRow base e s v n xs) : ∃ ao cap, v = .slice ao n cap := by
 rcases h.2 with ⟨hv, h0⟩ | ⟨g, cap, cur, hv, _⟩
 ·exact ⟨none, 0, by rw [hv, h0]⟩
 ·exact ⟨_, _, hv⟩
theorem wpList_push2 {P : Program} (w w0 : World) {ops : Array Oper} {rest : List Oper} {o : Oper} {a : Act} {Q : Exit → Act → World → Prop}
  (hg : o.guard = none) (s x : Operand) (t : TypeId) (hop : o.op = Op.call { callee := Callee.builtin Builtin.append, args := #[s, x], argTypes := #[t, t] })
  (base : Nat) (i : TypeInfo) (z : Value) (h1 : P.underlying t = some (.slice 87)) (h2 : P.info? 87 = some i) (h3 : i.zero = some z) (h4 : i.size = 2) (h5 : i.bytes = 16) (h6 : z.cells.size = 2)
  (ao : Option Addr) (n cap : Nat) (ps : List (Int × Int)) (hs : a.eval s = .slice ao n cap) (hown : Mo base w ao n cap ps)
  (u v : Int) (hu : in64 u) (hv : in64 v) (tt : TypeId) (hx : a.eval x = .slice (some ⟨w.heap.size, 0, none⟩) 1 1) (hb : Below base w0 w) (hbase : base ≤ w.heap.size) (b1 : n + 1 ≤ 8796093022208)
  (hK : ∀ ao' cap' w', Mo base w' ao' (n + 1) cap' (ps ++ [(u, v)]) → Below base w0 w' → (w.alloc (.cells #[.int .i64 u, .int .i64 v] tt)).grownBy w' (Value.slice ao n cap).ownBlock → wpList P ops Q rest (a.put o.dst (.slice ao' (n + 1) cap')) w') :
  wpList P ops Q (o :: rest) a (w.alloc (.cells #[.int .i64 u, .int .i64 v] tt)) := by
 have ho1 := hown.row.alloc (.cells #[.int .i64 u, .int .i64 v] tt)
 refine wpList_append_own _ hg s x t hop base 87 i z 2 16 h1 h2 h3 h4 h5 h6 (by decide) _ n (pcells ps) hs ho1 ⟨w.heap.size, 0, none⟩ 1 1 (pcells [(u, v)]) hx rfl ?_ (pcells_one _) (by unfold maxLen; omega) (by omega) (by simp; omega) ?_
 ·intro j q hj
  match j, hj with
  | 0, hj =>
   simp [pcells] at hj
   subst hj
   simp [Addr.add]
  | 1, hj =>
   simp [pcells] at hj
   subst hj
   simp [Addr.add]
  | j + 2, hj => simp [pcells] at hj
 ·intro v' w' hown' hgrow _
  obtain ⟨ao', cap', rfl⟩ := owns_shape2 hown'
  refine hK ao' cap' w' ⟨by rw [pcells_append]; exact hown', b1, fun p hp => ?_⟩ ((hb.alloc hbase _).grown hgrow (by simp; omega) fun k hk => (ho1.lt k hk).1) hgrow
  rcases List.mem_append.1 hp with hp | hp
  ·exact hown.wf p hp
  ·simp at hp
   subst hp
   exact ⟨hu, hv⟩
theorem wpList_dup2 [Ol] {P : Program} (w w0 : World) {ops : Array Oper} {rest : List Oper} {o : Oper} {a : Act} {Q : Exit → Act → World → Prop}
  (hg : o.guard = none) (s x : Operand) (t : TypeId) (hop : o.op = Op.call { callee := Callee.builtin Builtin.append, args := #[s, x], argTypes := #[t, t] })
  (base : Nat) (i : TypeInfo) (z : Value) (h1 : P.underlying t = some (.slice 87)) (h2 : P.info? 87 = some i) (h3 : i.zero = some z) (h4 : i.size = 2) (h5 : i.bytes = 16) (h6 : z.cells.size = 2)
  (hs : a.eval s = .slice (some ⟨w.heap.size, 0, none⟩) 0 0) (ao : Option Addr) (n cap : Nat) (ps : List (Int × Int)) (hx : a.eval x = .slice ao n cap) (hS : Ml w ao n cap ps) (hb : Below base w0 w) (hbase : base ≤ w.heap.size)
  (hK : ∀ ao' cap' w', Mo w.heap.size w' ao' n cap' ps → Below base w0 w' → Below w.heap.size w w' → wpList P ops Q rest (a.put o.dst (.slice ao' n cap')) w') :
  wpList P ops Q (o :: rest) a (w.alloc (.cells #[] 87)) := by
 have hown0 : (w.alloc (.cells #[] 87)).ownsRow w.heap.size 87 2 (.slice (some ⟨w.heap.size, 0, none⟩) 0 0) 0 [] :=
  World.ownsRow_made w #[] 0 (Nat.le_refl _) (Nat.zero_le _) rfl
 have hba : Below base w0 (w.alloc (.cells #[] 87)) := hb.alloc hbase _
 have hbb : Below w.heap.size w (w.alloc (.cells #[] 87)) := (Below.refl _ _).alloc (Nat.le_refl _) _
 have hSa := hS.below hbb
 cases ao with
 | none =>
  have hn : n = 0 := by have := hS.nil rfl; have := hS.le; omega
  have hc : cap = 0 := hS.nil rfl
  subst hn; subst hc
  have hxs : ps = [] := List.eq_nil_of_length_eq_zero hS.len
  subst hxs
  refine wpList_plain hg fun K hK' => ?_
  have hrun := run_append_owned_none (P := P) (w.alloc (.cells #[] 87)) w.heap.size t o.type 87 i 2 h1 h2 _ 0 [] hown0
  unfold Oper.wp
  simp [execOp, hop, resolve, invoke, builtin, hs, hx, hrun, Result.andThen]
  exact hK' _ _ (hK _ _ _ ⟨by simpa [pcells] using hown0, Nat.zero_le _, fun _ h => by cases h⟩ hba hbb)
 | some ad =>
  refine wpList_append_own _ hg s x t hop w.heap.size 87 i z 2 16 h1 h2 h3 h4 h5 h6 (by decide) _ 0 [] hs hown0 ad n cap (pcells ps) hx (by rw [pcells_length, hS.len]) ?_ (pcells_one ps) (by have := hS.big; unfold maxLen; omega) (by have := hS.big; omega) (by simp) ?_
  ·intro j u hj
   have hjl : j < n * 2 := by have := (List.getElem?_eq_some_iff.1 hj).1; rwa [pcells_length, hS.len] at this
   have hc := hSa.cells ad rfl (j / 2) (by omega)
   have hp := pcells_get ps (j / 2) (by rw [hS.len]; omega)
   rcases (show j = j / 2 * 2 ∨ j = j / 2 * 2 + 1 by omega) with e | e
   ·rw [← e] at hc hp
    rw [hc.1, ← hp.1, hj]
   ·rw [← e] at hc hp
    rw [hc.2, ← hp.2, hj]
  ·intro v' w' hown' hgrow _
   obtain ⟨ao', cap', rfl⟩ := owns_shape2 hown'; rw [Nat.zero_add] at hown' ⊢
   refine hK ao' cap' w' ⟨by simpa using hown', hS.big, hS.wf⟩ (hba.grown hgrow (by simp; omega) fun k hk => ?_) (hbb.grown hgrow (by simp) fun k hk => ?_)
   ·simp [Value.ownBlock] at hk; omega
   ·simp [Value.ownBlock] at hk; omega
open Lib (hid)
theorem ok_yes {lo : Int} {p : Int × Int} (h1 : lo < p.1) (h2 : p.1 ≤ 200) (h3 : 1 ≤ p.2) (h4 : p.2 ≤ 10000) : okP lo p = true := by unfold okP; simp [h1, h2, h3, h4]
theorem may7_any [Ol] (r : Bool) {ao : Option Addr} {n cap : Nat} {ps : List (Int × Int)} {w : World} (h : Ml w ao n cap ps) (hr : mayM 0 ps = r) :
  Calls Tryz.prog 69 #[.slice ao n cap] w (RetB (.bool r) w) := by
 have hle := h.le; have hbig := h.big; have HM := hid h; clear h
 go_enter Tryz.func69, Tryz.ntmps69
 go_wp2
 go_loopw [3] (fun i wr => ∃ k : Nat, k ≤ n ∧ i = .int .i64 k ∧ Hid (0 ≤ loM ps k) ∧ Hid (mayM (loM ps k) (ps.drop k) = r) ∧ Hid (Ml wr ao n cap ps ∧ Below w.heap.size w wr)) (fun i _ => n - (intOf i).toNat)
 case atStart => exact ⟨0, Nat.zero_le _, rfl, Int.le_refl 0, by rw [Hid, List.drop_zero]; exact hr, HM.out, Below.refl _ _⟩
 case round =>
  clear HM; obtain ⟨k, hk, rfl, HL, HR, HS⟩ := hrel; have HM := hid HS.out.1
  by_cases hkn : k < n
  ·obtain ⟨b, off, rfl, hb, hc⟩ := HM.out.at (by omega)
   obtain ⟨c1, c2⟩ := hc k hkn
   have HR2 := hid ((mayM_drop ps k (loM ps k) (by rw [HM.out.len]; exact hkn)).symm.trans HR.out)
   clear HR; obtain ⟨v, hv⟩ : ∃ v, v = (ps.getD k (0, 0)).1 := ⟨_, rfl⟩; obtain ⟨e, he⟩ : ∃ v, v = (ps.getD k (0, 0)).2 := ⟨_, rfl⟩; rw [← hv] at c1; rw [← he] at c2; have HV := hid hv; have HE := hid he; have HC := hid hc; clear hv he hc
   by_cases g0 : v < 1
   ·have f0 : decide (v < 1) = true := decide_eq_true (by omega)
    skip
    go_wp2
    go_ret
    exact ⟨ret_bool (by rw [← HR2.out]; unfold okP; rw [← HV.out, ← HE.out]; have := HL.out; simp; omega), HS.out.2⟩
   ·have f0 : decide (v < 1) = false := decide_eq_false (by omega)
    by_cases g1 : 200 < v
    ·have f1 : decide (200 < v) = true := decide_eq_true (by omega)
     skip
     go_wp2
     go_ret
     exact ⟨ret_bool (by rw [← HR2.out]; unfold okP; rw [← HV.out, ← HE.out]; have := HL.out; simp; omega), HS.out.2⟩
    ·have f1 : decide (200 < v) = false := decide_eq_false (by omega)
     by_cases g2 : e < 1
     ·have f2 : decide (e < 1) = true := decide_eq_true (by omega)
      skip
      go_wp2
      go_ret
      exact ⟨ret_bool (by rw [← HR2.out]; unfold okP; rw [← HV.out, ← HE.out]; have := HL.out; simp; omega), HS.out.2⟩
     ·have f2 : decide (e < 1) = false := decide_eq_false (by omega)
      by_cases g3 : 10000 < e
      ·have f3 : decide (10000 < e) = true := decide_eq_true (by omega)
       skip
       go_wp2
       go_ret
       exact ⟨ret_bool (by rw [← HR2.out]; unfold okP; rw [← HV.out, ← HE.out]; have := HL.out; simp; omega), HS.out.2⟩
      ·have f3 : decide (10000 < e) = false := decide_eq_false (by omega)
       by_cases hk0 : k = 0
       ·subst hk0
        simp only [Nat.zero_mul, Nat.add_zero] at c1 c2
        go_wp2
        go_quiet (fail)
        go_wp2
        go_roundw
        case rel => exact ⟨1, by omega, by go_num, by show 0 ≤ (ps.getD 0 (0, 0)).1; rw [← HV.out]; omega, by rw [Hid, ← HR2.out, ok_yes (show loM ps 0 < _ by rw [← HV.out]; show (0 : Int) < v; omega) (by rw [← HV.out]; omega) (by rw [← HE.out]; omega) (by rw [← HE.out]; omega)]; rfl, HM.out.below (_root_.Go.below_drewN (Below.refl _ _) _), HS.out.2.trans (_root_.Go.below_drewN (Below.refl _ _) _)⟩
        case measure => simp [intOf]; omega
       ·obtain ⟨j, rfl⟩ : ∃ j, k = j + 1 := ⟨k - 1, by omega⟩
        obtain ⟨c3, _⟩ := HC.out j (by omega)
        obtain ⟨u, hu⟩ : ∃ v, v = (ps.getD j (0, 0)).1 := ⟨_, rfl⟩; rw [← hu] at c3
        have HU : Hid (loM ps (j + 1) = u) := hu.symm
        clear hu
        have j1 : ((j + 1 : Nat) : Int) - 1 = (j : Int) := by omega
        have j2 : j < n := by omega
        have j3 : IntKind.i64.wrap (((j + 1 : Nat) : Int) - 1) = (j : Int) := by rw [j1]; exact IntWalk.i64_in _ ⟨by omega, by omega⟩
        by_cases g5 : v ≤ u
        ·have f5 : decide (v ≤ u) = true := decide_eq_true g5
         go_wp2
         go_quiet (fail)
         go_wp2
         go_ret
         exact ⟨ret_bool (by rw [← HR2.out, HU.out]; unfold okP; rw [← HV.out]; simp; omega), HS.out.2.trans (_root_.Go.below_drewN (Below.refl _ _) _)⟩
        ·have f5 : decide (v ≤ u) = false := decide_eq_false g5
         go_wp2
         go_quiet (fail)
         go_wp2
         go_roundw
         case rel => exact ⟨j + 2, by omega, by go_num, by show 0 ≤ (ps.getD (j + 1) (0, 0)).1; rw [← HV.out]; omega, by rw [Hid, ← HR2.out, ok_yes (show loM ps (j + 1) < _ by rw [← HV.out, HU.out]; omega) (by rw [← HV.out]; omega) (by rw [← HE.out]; omega) (by rw [← HE.out]; omega)]; rfl, HM.out.below (_root_.Go.below_drewN (Below.refl _ _) _), HS.out.2.trans (_root_.Go.below_drewN (Below.refl _ _) _)⟩
         case measure => simp [intOf]; omega
  ·obtain rfl : k = n := by omega
   go_wp2
   go_ret
   have e2 := HR.out
   rw [List.drop_eq_nil_of_le (by rw [HM.out.len]; exact Nat.le_refl _)] at e2
   exact ⟨ret_bool (by rw [← e2]; rfl), HS.out.2⟩
open Lib (hid)
theorem same7_yes [Ol] {a0 b0 : Option Addr} {la ca lb cb : Nat} {xs ys : List (Int × Int)} {w : World} (ha : Ml w a0 la ca xs) (hb : Ml w b0 lb cb ys) (h : xs = ys) :
  Calls Tryz.prog 40 #[.slice a0 la ca, .slice b0 lb cb] w (RetB (.bool true) w) := by
 subst h
 obtain rfl : la = lb := by rw [← ha.len, hb.len]
 have hle := ha.le; have hle2 := hb.le; have hbig := ha.big; have HA := hid ha; have HB := hid hb; clear ha hb
 go_enter Tryz.func40, Tryz.ntmps40
 go_wp2
 go_loopw [5] (fun i wr => ∃ k : Nat, k ≤ la ∧ i = .int .i64 k ∧ Hid (Ml wr a0 la ca xs ∧ Ml wr b0 la cb xs ∧ Below w.heap.size w wr)) (fun i _ => la - (intOf i).toNat)
 case atStart => exact ⟨0, Nat.zero_le _, rfl, HA.out, HB.out, Below.refl _ _⟩
 case round =>
  clear HA HB; obtain ⟨k, hk, rfl, HS⟩ := hrel
  by_cases hkn : k < la
  ·obtain ⟨b, off, rfl, hlt, hc⟩ := HS.out.1.at (by omega)
   obtain ⟨c1, c2⟩ := hc k hkn; clear hc
   obtain ⟨b2, off2, rfl, hlt2, hc⟩ := HS.out.2.1.at (by omega)
   obtain ⟨c3, c4⟩ := hc k hkn; clear hc; obtain ⟨v, hv⟩ : ∃ v, v = (xs.getD k (0, 0)).1 := ⟨_, rfl⟩; obtain ⟨e, he⟩ : ∃ v, v = (xs.getD k (0, 0)).2 := ⟨_, rfl⟩; rw [← hv] at c1 c3; rw [← he] at c2 c4; clear hv he
   go_wp2
   go_quiet (fail)
   go_wp2
   go_roundw
   case rel => exact ⟨k + 1, by omega, by go_num, HS.out.1.below (_root_.Go.below_drewN (Below.refl _ _) _), HS.out.2.1.below (_root_.Go.below_drewN (Below.refl _ _) _), HS.out.2.2.trans (_root_.Go.below_drewN (Below.refl _ _) _)⟩
   case measure => simp [intOf]; omega
  ·obtain rfl : k = la := by omega
   go_wp2
   go_ret
   exact ⟨rfl, HS.out.2.2⟩
theorem drop_ne {xs ys : List (Int × Int)} {k : Nat} (h1 : k < xs.length) (h2 : k < ys.length) (h : xs.drop k ≠ ys.drop k) (he : xs.getD k (0, 0) = ys.getD k (0, 0)) : xs.drop (k + 1) ≠ ys.drop (k + 1) := by
 intro hd
 refine h ?_
 rw [List.drop_eq_getElem_cons h1, List.drop_eq_getElem_cons h2, hd]
 congr 1
 simpa [List.getD, List.getElem?_eq_getElem h1, List.getElem?_eq_getElem h2] using he
theorem same7_no [Ol] {a0 b0 : Option Addr} {la ca lb cb : Nat} {xs ys : List (Int × Int)} {w : World} (ha : Ml w a0 la ca xs) (hb : Ml w b0 lb cb ys) (h : xs ≠ ys) :
  Calls Tryz.prog 40 #[.slice a0 la ca, .slice b0 lb cb] w (RetB (.bool false) w) := by
 by_cases hl : la = lb
 ·subst hl
  have hle := ha.le; have hle2 := hb.le; have hbig := ha.big; have HN := hid h; have HA := hid ha; have HB := hid hb; clear ha hb h
  go_enter Tryz.func40, Tryz.ntmps40
  go_wp2
  go_loopw [5] (fun i wr => ∃ k : Nat, k ≤ la ∧ i = .int .i64 k ∧ Hid (xs.drop k ≠ ys.drop k) ∧ Hid (Ml wr a0 la ca xs ∧ Ml wr b0 la cb ys ∧ Below w.heap.size w wr)) (fun i _ => la - (intOf i).toNat)
  case atStart => exact ⟨0, Nat.zero_le _, rfl, by rw [Hid]; simpa using HN.out, HA.out, HB.out, Below.refl _ _⟩
  case round =>
   clear HA HB HN; obtain ⟨k, hk, rfl, HD, HS⟩ := hrel
   have hkn : k < la := by
    rcases Nat.lt_or_ge k la with h | h
    ·exact h
    ·exact absurd (by rw [List.drop_eq_nil_of_le (by rw [HS.out.1.len]; exact h), List.drop_eq_nil_of_le (by rw [HS.out.2.1.len]; exact h)]) HD.out
   obtain ⟨b, off, rfl, hlt, hc⟩ := HS.out.1.at (by omega)
   obtain ⟨c1, c2⟩ := hc k hkn; clear hc
   obtain ⟨b2, off2, rfl, hlt2, hc⟩ := HS.out.2.1.at (by omega)
   obtain ⟨c3, c4⟩ := hc k hkn; clear hc
   have HD2 := hid (drop_ne (by rw [HS.out.1.len]; exact hkn) (by rw [HS.out.2.1.len]; exact hkn) HD.out)
   obtain ⟨v, hv⟩ : ∃ v, v = (xs.getD k (0, 0)).1 := ⟨_, rfl⟩; obtain ⟨e, he⟩ : ∃ v, v = (xs.getD k (0, 0)).2 := ⟨_, rfl⟩; obtain ⟨v2, hv2⟩ : ∃ v, v = (ys.getD k (0, 0)).1 := ⟨_, rfl⟩; obtain ⟨e2, he2⟩ : ∃ v, v = (ys.getD k (0, 0)).2 := ⟨_, rfl⟩; rw [← hv] at c1; rw [← he] at c2; rw [← hv2] at c3; rw [← he2] at c4
   have HQ : Hid (v = v2 → e = e2 → xs.getD k (0, 0) = ys.getD k (0, 0)) := fun h1 h2 => Prod.ext (by rw [← hv, ← hv2, h1]) (by rw [← he, ← he2, h2])
   clear hv he hv2 he2
   by_cases g1 : v = v2
   ·subst g1
    by_cases g2 : e = e2
    ·subst g2
     go_wp2
     go_quiet (fail)
     go_wp2
     go_roundw
     case rel => exact ⟨k + 1, by omega, by go_num, HD2.out (HQ.out (by simp) (by simp)), HS.out.1.below (_root_.Go.below_drewN (Below.refl _ _) _), HS.out.2.1.below (_root_.Go.below_drewN (Below.refl _ _) _), HS.out.2.2.trans (_root_.Go.below_drewN (Below.refl _ _) _)⟩
     case measure => simp [intOf]; omega
    ·clear HD2 HQ
     have f1 : (e == e2) = false := by simpa using g2
     clear g2
     go_wp2
     go_quiet (fail)
     go_wp2
     go_ret
     exact ⟨rfl, HS.out.2.2.trans (_root_.Go.below_drewN (Below.refl _ _) _)⟩
   ·clear HD2 HQ
    have f1 : (v == v2) = false := by simpa using g1
    clear g1
    go_wp2
    go_quiet (fail)
    go_wp2
    go_ret
    exact ⟨rfl, HS.out.2.2.trans (_root_.Go.below_drewN (Below.refl _ _) _)⟩
 ·have f1 : ((la : Int) == (lb : Int)) = false := by simp; omega
  have f2 : ((la : Int) != (lb : Int)) = true := by simp; omega
  go_enter Tryz.func40, Tryz.ntmps40
  go_wp2
  go_ret
  exact ⟨rfl, Below.refl _ _⟩
theorem same7_any [Ol] (r : Bool) {a0 b0 : Option Addr} {la ca lb cb : Nat} {xs ys : List (Int × Int)} {w : World} (ha : Ml w a0 la ca xs) (hb : Ml w b0 lb cb ys) (h : decide (xs = ys) = r) :
  Calls Tryz.prog 40 #[.slice a0 la ca, .slice b0 lb cb] w (RetB (.bool r) w) := by
 subst h
 by_cases h : xs = ys
 ·rw [decide_eq_true h]; exact same7_yes ha hb h
 ·rw [decide_eq_false h]; exact same7_no ha hb h
def mlFoot (ao : Option Addr) (n : Nat) (c : Nat) : Prop := 0 < n ∧ ∃ a, ao = some a ∧ a.block = c
theorem add_block2 (a : Addr) (k : Nat) : (a.add k).block = a.block := by unfold Addr.add; split <;> rfl
theorem ml_dep [Ol] {ao : Option Addr} {n cap : Nat} {ps : List (Int × Int)} (w w' : World) (hh : ∀ c, mlFoot ao n c → w'.heap[c]? = w.heap[c]?) (h : Ml w ao n cap ps) : Ml w' ao n cap ps :=
 ⟨h.len, h.le, h.big, h.wf, h.nil, fun ad had t ht =>
  ⟨(World.cell?_of_block (a := ad.add (t * 2)) (by rw [add_block2]; exact hh _ ⟨by omega, ad, had, rfl⟩)).trans (h.cells ad had t ht).1,
   (World.cell?_of_block (a := ad.add (t * 2 + 1)) (by rw [add_block2]; exact hh _ ⟨by omega, ad, had, rfl⟩)).trans (h.cells ad had t ht).2⟩, fun h0 ad had => (h.kp h0 ad had).keep (hh _ ⟨h0, ad, had, rfl⟩)⟩
theorem ml_lt [Ol] {ao : Option Addr} {n cap : Nat} {ps : List (Int × Int)} (w : World) (h : Ml w ao n cap ps) (c : Nat) (hc : mlFoot ao n c) : c < w.heap.size := by
 obtain ⟨h0, a, ha, rfl⟩ := hc; have h1 := (h.cells a ha 0 h0).1
 have := World.block_lt_of_cell? w _ h1
 rwa [add_block2] at this
def En.ml [Ol] (ao : Option Addr) (n cap : Nat) (ps : List (Int × Int)) : En := ⟨fun w => Ml w ao n cap ps, mlFoot ao n, ml_dep, fun w h => ml_lt w h⟩
theorem Alls.ml [Ol] {w : World} {ao : Option Addr} {n cap : Nat} {ps : List (Int × Int)} {r : List En} (h : Alls w (.ml ao n cap ps :: r)) : Ml w ao n cap ps := h.1
theorem Sx.ml [Ol] {w0 w : World} {N : List En} (s : Sx w0 w [] N) {ao : Option Addr} {n cap : Nat} {ps : List (Int × Int)} (h : Ml w ao n cap ps) : Sx w0 w [] (.ml ao n cap ps :: N) :=
 s.add (.ml ao n cap ps) h (fun v hv => by cases hv)
def rowL (f : Int → Int) : List Value := (List.range 201).map fun (i : Nat) => Value.int .i64 (f (i : Int))
def upd (f : Int → Int) (v x : Int) (u : Int) : Int := if u = v then x else f u
theorem rowL_length (f : Int → Int) : (rowL f).length = 201 := by simp [rowL]
theorem rowL_get (f : Int → Int) (i : Nat) (h : i < 201) : (rowL f)[i]? = some (.int .i64 (f (i : Int))) := by simp [rowL, h]
theorem rowL_one (f : Int → Int) : ∀ v ∈ rowL f, v.oneCell' = true := by
 intro v hv
 obtain ⟨i, _, rfl⟩ := List.mem_map.1 hv
 rfl
theorem rowL_congr {f g : Int → Int} (h : ∀ v, 0 ≤ v → v ≤ 200 → f v = g v) : rowL f = rowL g := by
 unfold rowL
 refine List.map_congr_left fun i hi => ?_
 have := List.mem_range.1 hi
 rw [h i (by omega) (by omega)]
theorem rowL_set (f : Int → Int) (v : Nat) (h : v < 201) (x : Int) : (rowL f).set v (.int .i64 x) = rowL (upd f v x) := by
 refine List.ext_getElem? fun j => ?_
 rw [List.getElem?_set]
 by_cases hj : v = j
 ·subst hj
  rw [if_pos rfl, if_pos (by rw [rowL_length]; exact h), rowL_get _ _ h]
  simp [upd]
 ·rw [if_neg hj]
  by_cases h2 : j < 201
  ·rw [rowL_get _ _ h2, rowL_get _ _ h2]
   unfold upd
   rw [if_neg (by omega)]
  ·rw [List.getElem?_eq_none (by rw [rowL_length]; omega), List.getElem?_eq_none (by rw [rowL_length]; omega)]
theorem Tryz.info_row : (Tryz.prog.info? 134).map (fun i => (i.zero, i.size)) = some (some (.agg (rowL fun _ => 0).toArray), 201) := by kernel_rfl
theorem zero_row : ∀ w, (zeroValue 134).run Tryz.prog w = .ok (.agg (rowL fun _ => 0).toArray) w := (zero_of_info Tryz.info_row).1
theorem size_row : (Tryz.prog.info? 134).map (·.size) = some 201 := (zero_of_info Tryz.info_row).2
def Row (w : World) (b : Nat) (f : Int → Int) : Prop := w.heap[b]? = some (.cells (rowL f).toArray 134 (0, 0))
theorem Row.lt {w : World} {b : Nat} {f : Int → Int} (h : Row w b f) : b < w.heap.size := lt_of_block h
theorem Row.cell {w : World} {b : Nat} {f : Int → Int} (h : Row w b f) (i : Nat) (hi : i < 201) : w.cell? ⟨b, i, none⟩ = some (.int .i64 (f i)) := by
 unfold Row at h
 rw [← rowL_get f i hi]
 simp [World.cell?, h]
theorem Row.fz {w : World} {b : Nat} {f : Int → Int} (h : Row w b f) (i : Nat) : w.frozen? ⟨b, i, none⟩ = false := by
 unfold Row at h
 simp [World.frozen?, h]
theorem Row.keep {w w' : World} {b : Nat} {f : Int → Int} (h : Row w b f) (e : w'.heap[b]? = w.heap[b]?) : Row w' b f := e.trans h
theorem Row.below {w w' : World} {b : Nat} {f : Int → Int} (h : Row w b f) (hb : Below w.heap.size w w') : Row w' b f := h.keep (hb.block b h.lt)
theorem Row.new (w : World) (f : Int → Int) : Row (w.alloc (.cells (rowL f).toArray 134)) w.heap.size f := by
 show (w.heap.push _)[w.heap.size]? = _
 rw [Array.getElem?_push_size]
theorem Row.new2 (w : World) (f : Int → Int) (b : Nat) (hb : b = w.heap.size) : Row (w.alloc (.cells (rowL f).toArray 134)) b f := by subst hb; exact Row.new w f
theorem Row.set {w : World} {b : Nat} {f : Int → Int} (h : Row w b f) (v : Nat) (hv : v < 201) (x : Int) : Row (w.setCell ⟨b, v, none⟩ (.int .i64 x)) b (upd f v x) := by
 unfold Row at h ⊢
 rw [← rowL_set f v hv x]
 simp [World.setCell, Array.getElem?_modify, h]
theorem Row.far {w : World} {b c : Nat} {f : Int → Int} (h : Row w b f) (hc : c ≠ b) (o : Nat) (u : Value) : Row (w.setCell ⟨c, o, none⟩ u) b f :=
 h.keep (Below.heap_setCell _ _ _ _ (fun e => hc e.symm))
theorem Row.congr {w : World} {b : Nat} {f g : Int → Int} (h : Row w b f) (e : ∀ v, 0 ≤ v → v ≤ 200 → f v = g v) : Row w b g := by
 unfold Row at h ⊢
 rw [← rowL_congr e]; exact h
theorem Row.put {w : World} {b : Nat} {f : Int → Int} (h : Row w b f) (g : Int → Int) : Row (w.setRow b (rowL g).toArray) b g := setRow_heap w b _ _ _ _ h
theorem Row.putFar {w : World} {b c : Nat} {f : Int → Int} (h : Row w b f) (hc : b ≠ c) (cs : Array Value) : Row (w.setRow c cs) b f := h.keep (setRow_other w c b cs hc)
theorem below_setRow {B : Nat} {a w : World} (h : Below B a w) {g : Nat} (hg : B ≤ g) (cs : Array Value) : Below B a (w.setRow g cs) :=
 h.trans ⟨rfl, rfl, rfl, by simp [World.setRow], fun k hk => setRow_other w g k cs (by omega)⟩
theorem Row.load {w : World} {b : Nat} {f : Int → Int} (h : Row w b f) : (loadVar 134 ⟨b, 0, none⟩).run Tryz.prog w = .ok (.agg (rowL f).toArray) w :=
 run_loadVar_row w b _ 134 _ (0, 0) _ h Tryz.underlying134 rfl (by rw [size_row]; simp [rowL_length])
theorem wpList_loadRow {w : World} {ops : Array Oper} {rest : List Oper} {op : Oper} {a : Act} {Q : Exit → Act → World → Prop} (hgd : op.guard = none) (x : Operand) (ho : op.op = .load 134 x)
  (b : Nat) (hx : a.eval x = .pointer (some ⟨b, 0, none⟩)) (f : Int → Int) (h : Row w b f)
  (hK : wpList Tryz.prog ops Q rest (a.put op.dst (.agg (rowL f).toArray)) w) : wpList Tryz.prog ops Q (op :: rest) a w :=
 wpList_load_mid hgd 134 x ho b 0 hx (rowL f) _ (fun j v hv => by
   rw [Nat.zero_add]
   have hj : j < 201 := by have := (List.getElem?_eq_some_iff.1 hv).1; rwa [rowL_length] at this
   rw [h.cell j hj, ← rowL_get f j hj, hv])
  Tryz.underlying134 rfl (by rw [size_row, rowL_length]) hK
theorem wpList_storeRow {w : World} {ops : Array Oper} {rest : List Oper} {op : Oper} {a : Act} {Q : Exit → Act → World → Prop} (hgd : op.guard = none) (x y : Operand) (ho : op.op = .store 134 x y)
  (b : Nat) (hx : a.eval x = .pointer (some ⟨b, 0, none⟩)) (f g : Int → Int) (hy : a.eval y = .agg (rowL g).toArray) (h : Row w b f)
  (hK : wpList Tryz.prog ops Q rest (a.put op.dst undef) (w.setRow b (rowL g).toArray)) : wpList Tryz.prog ops Q (op :: rest) a w := by
 refine wpList_plain hgd fun K hK' => ?_
 have hr := run_storeVar_row (P := Tryz.prog) w b _ 134 _ (rowL g).toArray h (by rw [size_row]; simp [rowL_length]) (by simp [rowL_length]) (all_oneCell_toArray (rowL_one g))
 unfold Oper.wp execOp
 simp only [ho, hx, hy, Instr.storeAt, Instr.sureAddr, Sem.run_bind, Sem.run_pure, Result.andThen_ok, hr]
 exact hK' _ _ hK
theorem results_row {fn : Func} {p : Tmp} (h : fn.results = #[.cell p 134]) (tmps : Array Value) {w : World} {b : Nat} {f : Int → Int} (hr : Row w b f) (hp : tmps.getD p undef = .pointer (some ⟨b, 0, none⟩)) : (results fn tmps).run Tryz.prog w = .ok (.agg (rowL f).toArray) w :=
 results_cell_row h tmps w b _ _ (0, 0) _ hp hr Tryz.underlying134 rfl (by rw [size_row]; simp [rowL_length])
def NewA (w : World) (f : Int → Int) (e : Ending) (w' : World) : Prop := e = .returned (.agg (rowL f).toArray) ∧ Below w.heap.size w w'
open Lib (hid)
theorem exE_no {ps : List (Int × Int)} (h : mayM 0 ps = false) (v : Int) : exE ps v = 0 := by unfold exE; rw [orM_no h]; rfl
theorem exE_yes {ps : List (Int × Int)} (h : mayM 0 ps = true) : exE ps = expo ps := by funext v; unfold exE; rw [orM_yes h]
theorem exps_no [Ol] {ao : Option Addr} {n cap : Nat} {ps : List (Int × Int)} {w : World} (h : Ml w ao n cap ps) (hr : mayM 0 ps = false) :
  Calls Tryz.prog 102 #[.slice ao n cap] w (NewA w (exE ps)) := by
 have zr := zero_row; have HM := hid h; have HR := hid hr; clear h hr
 go_enter Tryz.func102, Tryz.ntmps102
 go_upto_region 2 with (fail)
 refine wp_world (fun W hW => ?_)
 have HB : Hid (Below w.heap.size w W) := by rw [hW]; exact Below.steps (below_alloc _ _) (below_alloc _ _)
 have H2 : Hid (Row W w.heap.size (fun _ => 0)) := by rw [hW]; exact (Row.new w _).below (below_alloc _ _)
 have H3 : Hid (Row W (w.heap.size + 1) (fun _ => 0)) := by rw [hW]; exact Row.new2 (w.alloc _) _ _ (by simp)
 clear hW zr; go_wp2_with fail; refine (may7_any false (HM.out.below HB.out) HR.out).mono ?_; rintro e w1 ⟨rfl, hB⟩; have HB1 := hid (Below.steps HB.out hB); have H21 := hid (H2.out.below hB); have H31 := hid (H3.out.below hB); clear hB HB H2 H3 HM
 go_wp2_with (first | (refine wpList_loadRow rfl (.tmp 3) rfl _ rfl _ H31.out ?_) | (refine wpList_storeRow rfl (.tmp 2) (.tmp 8) rfl _ rfl _ _ rfl H21.out ?_))
 refine bodyPost_ret (v := .agg (rowL fun _ => 0).toArray) (results_row rfl _ (H21.out.put (fun _ => 0)) rfl) rfl ⟨?_, below_setRow HB1.out (Nat.le_refl _) _⟩
 rw [rowL_congr (fun v _ _ => exE_no HR.out v)]
theorem expo_take {ps : List (Int × Int)} (hr : mayM 0 ps = true) {k : Nat} (h : k < ps.length) (u : Int) : expo (ps.take (k + 1)) u = upd (expo (ps.take k)) (ps.getD k (0, 0)).1 (ps.getD k (0, 0)).2 u := by
 have hlow : ∀ q ∈ ps.take k, q.1 < (ps.getD k (0, 0)).1 := by
  have H : ∀ (l : List (Int × Int)) (lo : Int) (k : Nat), mayM lo l = true → k < l.length → (lo < (l.getD k (0, 0)).1) ∧ ∀ q ∈ l.take k, q.1 < (l.getD k (0, 0)).1 := by
   intro l
   induction l with
   | nil => intro lo k _ hk; simp at hk
   | cons p r ih =>
    intro lo k hm hk
    unfold mayM okP at hm
    simp only [Bool.and_eq_true, decide_eq_true_eq] at hm
    obtain ⟨⟨h1, h2, h3, h4⟩, h5⟩ := hm
    cases k with
    | zero => simpa using h1
    | succ k =>
     have := ih p.1 k h5 (by simpa using hk)
     refine ⟨by have := this.1; simp at this ⊢; omega, fun q hq => ?_⟩
     simp only [List.take_succ_cons, List.mem_cons] at hq
     rcases hq with rfl | hq
     ·simpa using this.1
     ·simpa using this.2 q hq
  exact (H ps 0 k hr h).2
 rw [List.take_succ_eq_append_getElem h]
 have e : ps[k] = ((ps.getD k (0, 0)).1, (ps.getD k (0, 0)).2) := by simp [List.getD, List.getElem?_eq_getElem h]
 rw [e, expo_snoc hlow]
 rfl
theorem exps_yes [Ol] {ao : Option Addr} {n cap : Nat} {ps : List (Int × Int)} {w : World} (h : Ml w ao n cap ps) (hr : mayM 0 ps = true) :
  Calls Tryz.prog 102 #[.slice ao n cap] w (NewA w (expo ps)) := by
 have zr := zero_row; have hle := h.le; have hbig := h.big; have HM := hid h; have HR := hid hr; clear h hr
 go_enter Tryz.func102, Tryz.ntmps102
 go_upto_region 2 with (fail)
 refine wp_world (fun W hW => ?_)
 have HB : Hid (Below w.heap.size w W) := by rw [hW]; exact Below.steps (below_alloc _ _) (below_alloc _ _)
 have H2 : Hid (Row W w.heap.size (fun _ => 0)) := by rw [hW]; exact (Row.new w _).below (below_alloc _ _)
 have H3 : Hid (Row W (w.heap.size + 1) (fun _ => 0)) := by rw [hW]; exact Row.new2 (w.alloc _) _ _ (by simp)
 clear hW zr; go_wp2_with fail; refine (may7_any true (HM.out.below HB.out) HR.out).mono ?_; rintro e w1 ⟨rfl, hB⟩; have HB1 := hid (Below.steps HB.out hB); have H21 := hid (H2.out.below hB); have H31 := hid (H3.out.below hB); clear hB HB H2 H3; go_wp2_with fail
 go_loopw [4] (fun i wr => ∃ k : Nat, k ≤ n ∧ i = .int .i64 k ∧ Hid (Row wr w.heap.size (fun _ => 0) ∧ Row wr (w.heap.size + 1) (expo (ps.take k)) ∧ Below w.heap.size w wr)) (fun i _ => n - (intOf i).toNat)
 case atStart => exact ⟨0, Nat.zero_le _, rfl, H21.out, by rw [List.take_zero]; exact H31.out, HB1.out⟩
 case round =>
  clear H21 H31 HB1; obtain ⟨k, hk, rfl, HS⟩ := hrel
  by_cases hkn : k < n
  ·obtain ⟨b, off, rfl, hb, _⟩ := HM.out.at (by omega)
   have hl := HM.out.len
   have hmem := may_mem HR.out (Int.le_refl 0) _ (Ml.getD_mem (by rw [hl]; exact hkn))
   have HE := hid (expo_take HR.out (by rw [hl]; exact hkn))
   have hc : ∀ V : World, Below w.heap.size w V → V.cell? ⟨b, off + k * 2, none⟩ = some (.int .i64 (ps.getD k (0, 0)).1) ∧ V.cell? ⟨b, off + k * 2 + 1, none⟩ = some (.int .i64 (ps.getD k (0, 0)).2) := by
    intro V hV
    have h1 := (HM.out.below hV).cells _ rfl k hkn; rw [Addr.add_lit, Addr.add_lit, ← Nat.add_assoc] at h1
    exact h1
   obtain ⟨p, hp⟩ : ∃ p, p = ps.getD k (0, 0) := ⟨_, rfl⟩; rw [← hp] at hc HE hmem; clear hp hl; obtain ⟨u, x⟩ := p
   obtain ⟨v, rfl⟩ : ∃ v : Nat, u = (v : Int) := ⟨u.toNat, by have := hmem.1.1; simp at this; omega⟩
   have hv : v < 201 := by have := hmem.1.2; simp at this; omega
   have hv2 : (v : Int) < 201 := by omega
   have hv3 : (0 : Int) ≤ v := by omega
   have HC := hid hc; clear hmem hc; have c3 := HS.out.2.1.cell v hv; have c4 := HS.out.2.1.fz v; obtain ⟨old, ho⟩ : ∃ o, o = expo (ps.take k) v := ⟨_, rfl⟩; rw [← ho] at c3; clear ho
   go_upto_region 7 with (fail)
   refine wp_region_held_drew (S := fun w' => w'.cell? ⟨b, off + k * 2, none⟩ = some (.int .i64 v) ∧ w'.cell? ⟨b, off + k * 2 + 1, none⟩ = some (.int .i64 x)) (by kernel_rfl) (HC.out _ HS.out.2.2.drew) (fun hH => ?_)
   refine son 0 hH ?_; try simp only [nrm]
   refine son 1 hH ?_; try simp only [nrm]
   refine son 2 hH ?_; try simp only [nrm]
   refine son 3 hH ?_; try simp only [nrm]
   refine son 4 hH ?_; try simp only [nrm]
   refine son 5 hH ?_; try simp only [nrm]
   refine son 6 hH ?_; try simp only [nrm]
   refine son 7 hH ?_; try simp only [nrm]
   refine son 8 hH ?_; try simp only [nrm]
   refine son 9 hH ?_; try simp only [nrm]
   refine son 10 hH ?_; try simp only [nrm]
   refine step_one 11 rfl (by kernel_rfl) (fun K hK => ?_)
   go_simp
   refine hK.out _ _ (HC.out _ (HS.out.2.2.drew.setCell (by simp) _)) (fun h2 => ?_)
   clear hK K hH h2
   try simp only [nrm]
   refine wpAnyH_done (by kernel_rfl) ?_ _
   go_wp2_with fail
   go_roundw
   case rel => exact ⟨k + 1, by omega, by go_num, HS.out.1.far (by omega) _ _, (HS.out.2.1.set v hv x).congr (fun z _ _ => (HE.out z).symm), HS.out.2.2.drew.setCell (by simp) _⟩
   case measure => simp [intOf]; omega
  ·obtain rfl : k = n := by omega
   have H3 : Hid (Row wr (w.heap.size + 1) (expo ps)) := by have := HS.out.2.1; rwa [List.take_of_length_le (by rw [HM.out.len]; exact Nat.le_refl _)] at this
   go_wp2_with (first | (refine wpList_loadRow rfl (.tmp 3) rfl _ rfl _ H3.out ?_) | (refine wpList_storeRow rfl (.tmp 2) (.tmp 26) rfl _ rfl _ _ rfl HS.out.1 ?_))
   exact bodyPost_ret (v := .agg (rowL (expo ps)).toArray) (results_row rfl _ (HS.out.1.put (expo ps)) rfl) rfl ⟨rfl, below_setRow HS.out.2.2 (Nat.le_refl _) _⟩
theorem exps_any [Ol] {ao : Option Addr} {n cap : Nat} {ps : List (Int × Int)} {w : World} (h : Ml w ao n cap ps) :
  Calls Tryz.prog 102 #[.slice ao n cap] w (NewA w (exE ps)) := by
 cases hr : mayM 0 ps with
 | true => rw [exE_yes hr]; exact exps_yes h hr
 | false => exact exps_no h hr
open Lib (hid)
theorem calls_world {P : Program} {f : FuncId} {args : Array Value} {w : World} {Q : Ending → World → Prop} (h : ∀ W, W = w → Calls P f args W Q) : Calls P f args w Q := h w rfl
theorem Row.grown {B : Nat} {w w' : World} {o : Obj} {ao : Option Addr} {n cap : Nat} {ps : List (Int × Int)} {b : Nat} {f : Int → Int} (h : Row w b f) (hM : Mo B w ao n cap ps) (hG : (w.alloc o).grownBy w' (Value.slice ao n cap).ownBlock) : Row w' b f := by
 refine (h.below (below_alloc w o)).keep (hG.block b (by have := h.lt; simp; omega) fun e => ?_)
 rcases hM.parts with ⟨rfl, _⟩ | ⟨g, cur, rfl, _, _, _, hh⟩
 ·cases e
 ·have e' : b = g := Option.some.inj e
  subst e'
  unfold Row at h
  rw [h] at hh
  cases hh
theorem ofUp_succ (g : Int → Int) (k : Nat) : ofUp g (k + 1) = ofUp g k ++ if 0 < g ((k : Int) + 1) then [((k : Int) + 1, g ((k : Int) + 1))] else [] := rfl
theorem of7_any [Ol] (g : Int → Int) (hg : ∀ v, 1 ≤ v → v ≤ 200 → in64 (g v)) (w : World) :
  Calls Tryz.prog 116 #[.agg (rowL g).toArray] w (NewM w (ofE g)) := by
 obtain ⟨i0, hi, hz0, hz1, hz2⟩ := info_parts Tryz.info_pow; have HG := hid hg; obtain ⟨qs, hqs⟩ : ∃ qs, qs = ofE g := ⟨_, rfl⟩
 have HQ : Hid (qs = ofUp g 200) := hqs.trans (by unfold ofE; rw [show lim = 200 from rfl])
 rw [← hqs]; clear hg hqs
 go_enter Tryz.func116, Tryz.ntmps116
 go_upto_region 1 with (fail)
 refine wp_world (fun W hW => ?_)
 have HB : Hid (Below w.heap.size w W) := by rw [hW]; exact below_alloc _ _
 have H1 : Hid (Row W w.heap.size g) := by rw [hW]; exact Row.new w _
 clear hW
 go_wp2
 go_loopw [3, 4] (fun o i wr => ∃ (k m cap : Nat) (ao : Option Addr), k ≤ 200 ∧ i = .int .i64 ((k + 1 : Nat) : Int) ∧ o = .slice ao m cap ∧ Hid (Mo w.heap.size wr ao m cap (ofUp g k)) ∧ Hid (Row wr w.heap.size g ∧ Below w.heap.size w wr)) (fun _ i _ => 201 - (intOf i).toNat)
 case atStart => exact ⟨0, 0, 0, none, by omega, rfl, rfl, Mo.nil _ _, H1.out, HB.out⟩
 case round =>
  clear H1 HB; obtain ⟨k, m, cap, ao, hk, rfl, rfl, HM, HS⟩ := hrel
  by_cases hk2 : k < 200
  ·have c1 := HS.out.1.cell (k + 1) (by omega)
   have hml := HM.out.len; have hul := ofUp_len g k
   have hm4 : m ≤ 200 := by omega
   have HU := hid (ofUp_succ g k)
   have ek : ((k : Int) + 1) = ((k + 1 : Nat) : Int) := by omega
   rw [ek] at HU
   have HI := hid (HG.out ((k + 1 : Nat) : Int) (by omega) (by omega))
   obtain ⟨z, hz⟩ : ∃ z, z = g ((k + 1 : Nat) : Int) := ⟨_, rfl⟩; rw [← hz] at c1 HU HI; clear hml hul ek hz; obtain ⟨j, hj⟩ : ∃ j, j = k + 1 := ⟨_, rfl⟩; rw [← hj] at c1 HU ⊢; have HJ := hid hj
   have hj1 : 1 ≤ j := by omega
   have hj2 : j ≤ 200 := by omega
   clear hj hk hk2
   by_cases hp : 0 < z
   ·have f1 : decide (0 < z) = true := decide_eq_true hp
    have HV : Hid (in64 (j : Int)) := by unfold in64; show _ ∧ _; omega
    have HP := hid hp; clear hp
    go_wp2_with (at_builtin; refine wpList_push2 wr w rfl (.tmp 13) (.tmp 19) 54 rfl w.heap.size i0 (.agg #[.int .i64 0, .int .i64 0]) Tryz.underlying54 hi hz0 hz1 hz2 rfl ao m cap (ofUp g k) rfl HM.out (j : Int) z HV.out HI.out _ rfl HS.out.2 HS.out.2.size (by omega) ?_; intro ao2 cap2 w2 hM2 hB2 hG2; have HM2 := hid hM2; have HB2 := hid hB2; have HR2 := hid (HS.out.1.grown HM.out hG2); clear hM2 hB2 hG2 c1)
    go_roundw
    case rel => exact ⟨k + 1, m + 1, cap2, ao2, by have := HJ.out; omega, by rw [HJ.out]; go_num, rfl, by rw [Hid, ← HJ.out, HU.out, if_pos HP.out]; exact HM2.out, HR2.out, HB2.out⟩
    case measure => simp [intOf]; omega
   ·have f1 : decide (0 < z) = false := decide_eq_false hp
    have HP := hid hp; clear hp
    go_wp2
    go_roundw
    case rel => exact ⟨k + 1, m, cap, ao, by have := HJ.out; omega, by rw [HJ.out]; go_num, rfl, by rw [Hid, ← HJ.out, HU.out, if_neg HP.out, List.append_nil]; exact HM.out, HS.out⟩
    case measure => simp [intOf]; omega
  ·obtain rfl : k = 200 := by omega
   go_wp2
   go_ret
   exact ⟨_, _, _, rfl, by rw [HQ.out]; exact HM.out.ml, HS.out.2⟩
open Lib (hid)
theorem joinR_ok {f : Int → Int → Int} (f0 : f 0 0 = 0) {er : Int} {xs ys : List (Int × Int)} (hx : mayM 0 xs = true) (hy : mayM 0 ys = true) {G : Int → Int} (h : ∀ v, 1 ≤ v → v ≤ 200 → 0 ≤ f (expo xs v) (expo ys v) ∧ f (expo xs v) (expo ys v) ≤ 10000) (hG : ∀ v, 1 ≤ v → v ≤ 200 → G v = f (expo xs v) (expo ys v)) :
  joinR f er xs ys = (ofE G, 0) := by
 have hm : mayM 0 (joinL f xs ys) = true := (join_may f0 hx hy).2 fun v => by
  by_cases hv : 1 ≤ v ∧ v ≤ 200
  ·exact h v hv.1 hv.2
  ·rw [may_out hx (by omega), may_out hy (by omega), f0]; omega
 unfold joinR
 rw [if_pos ⟨hx, hy⟩, if_pos hm]
 have e : ofE G = joinL f xs ys := ofE_eq (join_ris f0 hx hy) (fun v h1 h2 => by rw [join_expo f0 hx hy, hG v h1 h2]) (fun v h1 h2 => by rw [hG v h1 h2]; exact (h v h1 h2).1)
 rw [e]
theorem joinR_bad {f : Int → Int → Int} (f0 : f 0 0 = 0) {er : Int} {xs ys : List (Int × Int)} (hx : mayM 0 xs = true) (hy : mayM 0 ys = true) (v : Int) (h : ¬ (0 ≤ f (expo xs v) (expo ys v) ∧ f (expo xs v) (expo ys v) ≤ 10000)) :
  joinR f er xs ys = ([], er) := by
 unfold joinR
 rw [if_pos ⟨hx, hy⟩, if_neg (fun hm => h ((join_may f0 hx hy).1 hm v))]
theorem times7_bad1 [Ol] {a0 b0 : Option Addr} {la ca lc cc : Nat} {xs : List (Int × Int)} {w : World} (ha : Ml w a0 la ca xs) (hx : mayM 0 xs = false) :
  Calls Tryz.prog 88 #[.slice a0 la ca, .slice b0 lc cc] w (NewME w [] 2) := by
 go_enter Tryz.func88, Tryz.ntmps88
 go_wp2_with fail; refine (may7_any false ha hx).mono ?_
 rintro e w1 ⟨rfl, hB⟩; go_wp2_with fail
 go_ret2
 exact ⟨none, 0, 0, rfl, Ml.zero _, hB⟩
theorem times7_bad2 [Ol] {a0 b0 : Option Addr} {la ca lc cc : Nat} {xs ys : List (Int × Int)} {w : World} (ha : Ml w a0 la ca xs) (hb : Ml w b0 lc cc ys) (hx : mayM 0 xs = true) (hy : mayM 0 ys = false) :
  Calls Tryz.prog 88 #[.slice a0 la ca, .slice b0 lc cc] w (NewME w [] 2) := by
 have HBB := hid hb; clear hb
 go_enter Tryz.func88, Tryz.ntmps88
 go_wp2_with fail; refine (may7_any true ha hx).mono ?_
 rintro e w1 ⟨rfl, hB⟩; have HB := hid hB; have HY := hid (HBB.out.below hB); clear hB ha hx HBB; go_wp2_with fail; refine (may7_any false HY.out hy).mono ?_; rintro e w2 ⟨rfl, hB⟩; go_wp2_with fail
 go_ret2
 exact ⟨none, 0, 0, rfl, Ml.zero _, Below.steps HB.out hB⟩
theorem times7_some [Ol] {a0 b0 : Option Addr} {la ca lc cc : Nat} {xs ys : List (Int × Int)} {w : World} (ha : Ml w a0 la ca xs) (hb : Ml w b0 lc cc ys) (hx : mayM 0 xs = true) (hy : mayM 0 ys = true) (R : List (Int × Int) × Int) (hR : joinR (fun x y => x + y) 8 xs ys = R) :
  Calls Tryz.prog 88 #[.slice a0 la ca, .slice b0 lc cc] w (NewME w R.1 R.2) := by
 have zr := zero_row; have HX := hid hx; have HY := hid hy; have HR := hid hR; have HA0 := hid ha; have HB0 := hid hb; clear hx hy hR ha hb
 go_enter Tryz.func88, Tryz.ntmps88
 go_wp2_with fail; refine (may7_any true HA0.out HX.out).mono ?_
 rintro e v1 ⟨rfl, hB⟩; have HBa := hid hB; have HA1 := hid (HA0.out.below hB); have HY1 := hid (HB0.out.below hB); clear hB HA0 HB0; go_wp2_with fail; refine (may7_any true HY1.out HY.out).mono ?_; rintro e v2 ⟨rfl, hB⟩; have HB := hid (Below.steps HBa.out hB); have HA := hid (HA1.out.below hB); have HBB := hid (HY1.out.below hB); clear hB HBa HA1 HY1; go_wp2_with fail; refine (exps_any HA.out).mono ?_; rintro e w1 ⟨rfl, hB⟩; have HB1 := hid (Below.steps HB.out hB); have HY1 := hid (HBB.out.below hB)
 clear hB HA HBB HB
 go_wp2_with (refine wpList_storeRow rfl (.tmp 6) (.tmp 18) rfl _ rfl _ _ rfl (Row.new w1 _) ?_)
 refine calls_world (fun W1 hW => ?_)
 have HX2 : Hid (Row W1 w1.heap.size (exE xs)) := by rw [hW]; exact (Row.new w1 _).put _
 have HB2 : Hid (Below w.heap.size w W1) := by rw [hW]; exact below_setRow (Below.steps HB1.out (below_alloc _ _)) HB1.out.size _
 have HY2 : Hid (Ml W1 b0 lc cc ys) := by rw [hW]; exact (HY1.out.below (below_setRow (below_alloc w1 _) (Nat.le_refl _) _))
 have hx2 := HB1.out.size; clear hW HB1 HY1; refine (exps_any HY2.out).mono ?_; rintro e w2 ⟨rfl, hB⟩; have HB3 := hid (Below.steps HB2.out hB); have HX3 := hid (HX2.out.below hB); clear hB HX2 HB2 HY2
 go_wp2_with (refine wpList_storeRow rfl (.tmp 7) (.tmp 20) rfl _ rfl _ _ rfl (Row.new w2 _) ?_)
 have hy2 := HB3.out.size; have hxy := HX3.out.lt
 refine wp_world (fun W2 hW => ?_)
 have HX4 : Hid (Row W2 w1.heap.size (exE xs)) := by rw [hW]; exact (HX3.out.below (below_alloc _ _)).putFar (by omega) _
 have HY4 : Hid (Row W2 w2.heap.size (exE ys)) := by rw [hW]; exact (Row.new w2 _).put _
 have HB4 : Hid (Below w.heap.size w W2) := by rw [hW]; exact below_setRow (Below.steps HB3.out (below_alloc _ _)) hy2 _
 obtain ⟨by', hby⟩ : ∃ b, b = w2.heap.size := ⟨_, rfl⟩
 rw [← hby] at HY4 hy2 hxy
 try rw [← hby]
 clear hW HX3 HB3 hby zr
 go_wp2
 go_loopw [8] (fun i wr => ∃ k : Nat, 1 ≤ k ∧ k ≤ 201 ∧ i = .int .i64 k ∧ Hid (∀ u : Int, 1 ≤ u → u < k → 0 ≤ expo xs u + expo ys u ∧ expo xs u + expo ys u ≤ 10000) ∧ Hid (Row wr w1.heap.size (fun u => if 1 ≤ u ∧ u < k then expo xs u + expo ys u else expo xs u) ∧ Row wr by' (expo ys) ∧ Below w.heap.size w wr)) (fun i _ => 201 - (intOf i).toNat)
 case atStart => exact ⟨1, by omega, by omega, rfl, fun u h1 h2 => by omega, HX4.out.congr (fun u _ _ => by rw [exE_yes HX.out, if_neg (by omega)]), by have := HY4.out; rwa [exE_yes HY.out] at this, HB4.out⟩
 case round =>
  clear HX4 HY4 HB4; obtain ⟨k, h1, hk, rfl, HT, HS⟩ := hrel
  by_cases hk2 : k ≤ 200
  ·have hk3 : (k : Int) ≤ 200 := by omega
   have hk4 : (k : Int) < 201 := by omega
   have hk5 : (0 : Int) ≤ k := by omega
   have c1 := HS.out.1.cell k (by omega)
   have c2 := HS.out.2.1.cell k (by omega)
   have f1 := HS.out.1.fz k
   rw [if_neg (by omega)] at c1
   have b1 := may_bd HX.out (k : Int); have b2 := may_bd HY.out (k : Int)
   have HK : Hid (∀ (u : Int), 0 ≤ u → u ≤ 200 → upd (fun u => if 1 ≤ u ∧ u < (k : Int) then expo xs u + expo ys u else expo xs u) k (expo xs k + expo ys k) u = (fun u => if 1 ≤ u ∧ u < ((k + 1 : Nat) : Int) then expo xs u + expo ys u else expo xs u) u) := by
    intro u _ _
    unfold upd
    by_cases hu : u = (k : Int)
    ·subst hu; rw [if_pos rfl]; show _ = if _ then _ else _; rw [if_pos ⟨by omega, by omega⟩]
    ·rw [if_neg hu]
     show (if _ then _ else _) = if _ then _ else _
     by_cases hc : 1 ≤ u ∧ u < (k : Int)
     ·rw [if_pos hc, if_pos ⟨hc.1, by omega⟩]
     ·rw [if_neg hc, if_neg (fun hd => hc ⟨hd.1, by omega⟩)]
   have HY9 : Hid (∀ z, (wr.drew.setCell ⟨w1.heap.size, k, none⟩ z).cell? ⟨by', k, none⟩ = some (.int .i64 (expo ys k))) := fun z => ((show Row wr.drew by' _ from HS.out.2.1).far (by omega) _ _).cell k (by omega)
   have HP : Hid (∀ (u : Int), 1 ≤ u → u < ((k + 1 : Nat) : Int) → (0 ≤ expo xs k + expo ys k ∧ expo xs k + expo ys k ≤ 10000) → 0 ≤ expo xs u + expo ys u ∧ expo xs u + expo ys u ≤ 10000) := by
    intro u h2 h3 h4
    by_cases hu : u = (k : Int)
    ·subst hu; exact h4
    ·exact HT.out u h2 (by omega)
   have HN : Hid (¬ (0 ≤ expo xs k + expo ys k ∧ expo xs k + expo ys k ≤ 10000) → R = ([], 8)) := fun h => by rw [← HR.out]; exact joinR_bad (f := (fun x y => x + y)) rfl HX.out HY.out k h
   obtain ⟨p, hp⟩ : ∃ p, p = expo xs k := ⟨_, rfl⟩; obtain ⟨q, hq⟩ : ∃ q, q = expo ys k := ⟨_, rfl⟩; rw [← hp] at c1 b1 HK HP HN; rw [← hq] at c2 b2 HK HP HN HY9; obtain ⟨b1, b3⟩ := b1; obtain ⟨b2, b4⟩ := b2
   have ws : IntKind.i64.wrap (p + q) = p + q := IntWalk.i64_in _ ⟨by omega, by omega⟩
   clear hp hq hk2
   go_upto_region 8 with (fail)
   refine wp_region_held_drew (S := fun w' => w'.cell? ⟨by', k, none⟩ = some (.int .i64 q)) (by kernel_rfl) c2 (fun hH => ?_)
   refine son 0 hH ?_; try simp only [nrm]
   refine son 1 hH ?_; try simp only [nrm]
   refine son 2 hH ?_; try simp only [nrm]
   refine son 4 hH ?_; try simp only [nrm]
   refine son 5 hH ?_; try simp only [nrm]
   refine son 6 hH ?_; try simp only [nrm]
   refine step_one 3 rfl (by kernel_rfl) (fun K hK => ?_)
   go_simp
   refine hK.out _ _ c2 (fun h2 => ?_)
   clear hK K hH; have hH := h2; clear h2
   try simp only [nrm]
   refine son 7 hH ?_; try simp only [nrm]
   refine son 8 hH ?_; try simp only [nrm]
   refine step_one 9 rfl (by kernel_rfl) (fun K hK => ?_)
   go_simp
   refine hK.out _ _ (HY9.out _) (fun h2 => ?_)
   clear hK K hH h2
   try simp only [nrm]
   refine wpAnyH_done (by kernel_rfl) ?_ _
   clear c2 f1
   have HB9 : Hid (Below w.heap.size w (wr.drew.setCell ⟨w1.heap.size, k, none⟩ (.int .i64 (p + q)))) := HS.out.2.2.drew.setCell hx2 _
   by_cases g : 10000 < p + q
   ·have g1 : decide (10000 < p + q) = true := decide_eq_true g
    have HR2 : Hid (R = ([], 8)) := HN.out (by omega)
    clear HN HP HT HK g ws
    go_wp2
    go_ret2
    exact ⟨none, 0, 0, by rw [HR2.out]; rfl, by rw [HR2.out]; exact Ml.zero _, HB9.out⟩
   ·have g1 : decide (10000 < p + q) = false := decide_eq_false g
    have HG : Hid (0 ≤ p + q ∧ p + q ≤ 10000) := by show _ ∧ _; omega
    clear g; go_wp2_with fail
    go_roundw
    case rel => exact ⟨k + 1, by omega, by omega, by go_num, fun u h2 h3 => HP.out u h2 h3 HG.out, ((show Row wr.drew w1.heap.size _ from HS.out.1).set k (by omega) (p + q)).congr HK.out, (show Row wr.drew by' _ from HS.out.2.1).far (by omega) _ _, HB9.out⟩
    case measure => simp [intOf]; omega
  ·obtain rfl : k = 201 := by omega
   obtain ⟨G, hG⟩ : ∃ G : Int → Int, G = fun u => if 1 ≤ u ∧ u < ((201 : Nat) : Int) then expo xs u + expo ys u else expo xs u := ⟨_, rfl⟩
   have hG1 : ∀ v, 1 ≤ v → v ≤ 200 → G v = expo xs v + expo ys v := fun v h1 h2 => by rw [hG]; show (if _ then _ else _) = _; rw [if_pos ⟨h1, by omega⟩]
   have HQ : Hid (R = (ofE G, 0)) := by
    rw [Hid, ← HR.out]
    exact joinR_ok (f := (fun x y => x + y)) rfl HX.out HY.out (fun v h1 h2 => HT.out v h1 (by omega)) hG1
   have HI : Hid (∀ v, 1 ≤ v → v ≤ 200 → in64 (G v)) := fun v h1 h2 => by
    rw [hG1 v h1 h2]
    have := HT.out v h1 (by omega)
    unfold in64; omega
   have H1 : Hid (Row wr w1.heap.size G) := by rw [hG]; exact HS.out.1
   have HB5 := hid HS.out.2.2; clear hG hG1 HT HS HX HY HR hk2
   go_wp2_with (refine wpList_loadRow rfl (.tmp 6) rfl _ rfl _ H1.out ?_)
   refine (of7_any G HI.out _).mono ?_; rintro e w9 ⟨qo, n, cap, rfl, hM, hB⟩
   have HM := hid hM; have HB6 := hid (Below.steps HB5.out hB); clear hM hB HB5; go_wp2_with fail
   go_ret2
   exact ⟨_, _, _, by rw [HQ.out]; rfl, by rw [HQ.out]; exact HM.out, HB6.out⟩
theorem times7_any [Ol] {a0 b0 : Option Addr} {la ca lc cc : Nat} {xs ys : List (Int × Int)} {w : World} (ha : Ml w a0 la ca xs) (hb : Ml w b0 lc cc ys) :
  Calls Tryz.prog 88 #[.slice a0 la ca, .slice b0 lc cc] w (NewME w (joinR (fun x y => x + y) 8 xs ys).1 (joinR (fun x y => x + y) 8 xs ys).2) := by
 cases hx : mayM 0 xs with
 | false => rw [show joinR (fun x y => x + y) 8 xs ys = ([], 2) from if_neg (by simp [hx])]; exact times7_bad1 ha hx
 | true =>
  cases hy : mayM 0 ys with
  | false => rw [show joinR (fun x y => x + y) 8 xs ys = ([], 2) from if_neg (by simp [hy])]; exact times7_bad2 ha hb hx hy
  | true => exact times7_some ha hb hx hy _ rfl
end Go.Proofs.YtmmgipcacceakaaGreat
