/-
  The contracts of mono.Without and of what it calls: slices.Clone, slices.IndexFunc, slices.DeleteFunc.
-/
import Derived.Test.YtgalcdfleljliaaMCmp
import Derived.Lib.SliceRun
import Derived.Laws.IdiomCopy
set_option maxRecDepth 8192
namespace Go.Proofs.Ytgalcdfleljliaa
open Go.RowKit

/-! ### plain -/
/-- without the power of v -/
def outM (v : Int) (ps : List (Int × Int)) : List (Int × Int) := ps.filter fun p => decide (p.1 ≠ v)
theorem outM_expo (v u : Int) : ∀ ps : List (Int × Int), expo (outM v ps) u = if u = v then 0 else expo ps u
  | [] => by simp [outM, expo]
  | p :: r => by
    have ih := outM_expo v u r
    unfold outM at ih ⊢
    by_cases h : p.1 = v
    · rw [List.filter_cons_of_neg (by simp [h]), ih]
      by_cases hu : u = v
      · rw [if_pos hu, if_pos hu]
      · rw [if_neg hu, if_neg hu]
        simp only [expo]
        rw [if_neg (by omega)]
    · rw [List.filter_cons_of_pos (by simp [h])]
      simp only [expo, ih]
      by_cases hu : u = v
      · rw [if_pos hu, if_pos hu, if_neg (by omega)]
      · rw [if_neg hu, if_neg hu]
theorem outM_ris (v : Int) : ∀ {ps : List (Int × Int)} {lo : Int}, risM lo ps → risM lo (outM v ps)
  | [], _, _ => trivial
  | p :: r, lo, h => by
    have ih := outM_ris v h.2.2.2
    unfold outM at ih ⊢
    by_cases hp : p.1 = v
    · rw [List.filter_cons_of_neg (by simp [hp])]
      exact ris_mono (by have := h.1; omega) ih
    · rw [List.filter_cons_of_pos (by simp [hp])]
      exact ⟨h.1, h.2.1, h.2.2.1, ih⟩
theorem outM_all {v : Int} {ps : List (Int × Int)} (h : ∀ t, t < ps.length → (ps.getD t (0, 0)).1 ≠ v) : outM v ps = ps := by
  unfold outM
  rw [List.filter_eq_self]
  intro p hp
  obtain ⟨t, ht, rfl⟩ := List.getElem_of_mem hp
  have := h t ht
  simpa [List.getD, List.getElem?_eq_getElem ht] using this
theorem take_snoc2 (ps : List (Int × Int)) (k : Nat) (h : k < ps.length) : ps.take (k + 1) = ps.take k ++ [ps.getD k (0, 0)] := by
  rw [List.take_succ_eq_append_getElem h]
  simp [List.getD, List.getElem?_eq_getElem h]
theorem outM_snoc_no {v : Int} {ps : List (Int × Int)} {k : Nat} (h : k < ps.length) (hp : (ps.getD k (0, 0)).1 = v) : outM v (ps.take (k + 1)) = outM v (ps.take k) := by
  rw [take_snoc2 ps k h]; unfold outM; rw [List.filter_append]; simp only [List.filter_cons, List.filter_nil, hp]; simp
theorem outM_snoc_yes {v : Int} {ps : List (Int × Int)} {k : Nat} (h : k < ps.length) (hp : (ps.getD k (0, 0)).1 ≠ v) : outM v (ps.take (k + 1)) = outM v (ps.take k) ++ [ps.getD k (0, 0)] := by
  rw [take_snoc2 ps k h]; unfold outM; rw [List.filter_append]; simp only [List.filter_cons, List.filter_nil]; rw [if_pos (by simpa using hp)]
theorem drop_get {zs ps : List (Int × Int)} {k : Nat} (hz : k < zs.length) (hp : k < ps.length) (h : zs.drop k = ps.drop k) : zs.getD k (0, 0) = ps.getD k (0, 0) ∧ zs.drop (k + 1) = ps.drop (k + 1) := by
  rw [List.drop_eq_getElem_cons hz, List.drop_eq_getElem_cons hp] at h
  simp only [List.cons.injEq] at h
  exact ⟨by simpa [List.getD, List.getElem?_eq_getElem hz, List.getElem?_eq_getElem hp] using h.1, h.2⟩
theorem take_set {zs : List (Int × Int)} {i : Nat} (h : i < zs.length) (p : Int × Int) : (zs.set i p).take (i + 1) = zs.take i ++ [p] := by
  have e : (zs.set i p).take i = zs.take i := by
    refine List.ext_getElem? fun j => ?_
    rw [List.getElem?_take, List.getElem?_take]
    by_cases hj : j < i
    · rw [if_pos hj, if_pos hj, List.getElem?_set_ne (by omega)]
    · rw [if_neg hj, if_neg hj]
  rw [List.take_succ_eq_append_getElem (by simpa using h), e]
  simp
theorem drop_set {zs : List (Int × Int)} {i k : Nat} (h : i < k) (p : Int × Int) : (zs.set i p).drop k = zs.drop k := by
  rw [List.drop_set, if_pos h]

/-! ### memory -/
theorem pcells_set : ∀ (ps : List (Int × Int)) (i : Nat) (p : Int × Int), ((pcells ps).set (i * 2) (.int .i64 p.1)).set (i * 2 + 1) (.int .i64 p.2) = pcells (ps.set i p)
  | [], _, _ => rfl
  | q :: r, 0, p => rfl
  | q :: r, i + 1, p => by
    rw [show (i + 1) * 2 = i * 2 + 1 + 1 by omega]
    simp only [pcells, List.set_cons_succ]
    rw [pcells_set r i p]

theorem Mo.set {B : Nat} {w : World} {g n cap : Nat} {ps : List (Int × Int)} (h : Mo B w (some ⟨g, 0, none⟩) n cap ps) (i : Nat) (p : Int × Int) (h1 : in64 p.1) (h2 : in64 p.2) :
    Mo B ((w.setCell ⟨g, i * 2, none⟩ (.int .i64 p.1)).setCell ⟨g, i * 2 + 1, none⟩ (.int .i64 p.2)) (some ⟨g, 0, none⟩) n cap (ps.set i p) := by
  refine ⟨?_, h.big, fun q hq => ?_⟩
  · rw [← pcells_set]
    exact ((h.row.stored (i * 2) _).1.stored (i * 2 + 1) _).1
  · rcases List.mem_or_eq_of_mem_set hq with hq | rfl
    · exact h.wf q hq
    · exact ⟨h1, h2⟩

theorem below_setCells {B : Nat} {a : World} {g : Nat} (hg : B ≤ g) : ∀ (vs : List Value) (o : Nat) (w : World), Below B a w → Below B a (w.setCells g o vs)
  | [], _, _, h => h
  | v :: r, o, _, h => below_setCells hg r (o + 1) _ (h.setCell (p := ⟨g, o, none⟩) hg v)

theorem Mo.cell {B : Nat} {w : World} {g n cap : Nat} {ps : List (Int × Int)} (h : Mo B w (some ⟨g, 0, none⟩) n cap ps) (t : Nat) (ht : t < n) :
    w.cell? ⟨g, t * 2, none⟩ = some (.int .i64 (ps.getD t (0, 0)).1) ∧ w.cell? ⟨g, t * 2 + 1, none⟩ = some (.int .i64 (ps.getD t (0, 0)).2) := by
  have := h.ml.cells _ rfl t ht
  rw [Addr.add_lit, Addr.add_lit, Nat.zero_add, Nat.zero_add] at this
  exact this
theorem Mo.fz {B : Nat} {w : World} {g n cap : Nat} {ps : List (Int × Int)} (h : Mo B w (some ⟨g, 0, none⟩) n cap ps) (j : Nat) : w.frozen? ⟨g, j, none⟩ = false := h.row.frozenAt j

/-- 'clear(s)' on a slice of powers. -/
theorem run_clear2 (w : World) (ty : TypeId) (b o n c : Nat) (hn : 0 < n) (hc : ∀ j, j < n * 2 → (w.cell? ⟨b, o + j, none⟩).isSome = true) (hf : ∀ j, j < n * 2 → w.frozen? ⟨b, o + j, none⟩ = false) (hz : ∀ w, (zeroValue 48).run Try.prog w = .ok (.agg #[.int .i64 0, .int .i64 0]) w) :
    ∃ zs : List Value, zs.length = n * 2 ∧ (Builtin.clear_ #[23] ty #[.slice (some ⟨b, o, none⟩) n c]).run Try.prog w = .ok (.tuple #[]) (w.setCells b o zs) := by
  have hlen : (Builtin.zeroCells (Value.agg #[.int .i64 0, .int .i64 0]).cells n).toList.length = n * 2 := by simp [Builtin.zeroCells, Value.cells]
  have hone : ∀ v ∈ (Builtin.zeroCells (Value.agg #[.int .i64 0, .int .i64 0]).cells n).toList, v.oneCell' = true := by
    intro v hv
    simp only [Builtin.zeroCells, Array.toList_map, List.mem_map, Value.cells] at hv
    obtain ⟨i, _, rfl⟩ := hv
    have : i % 2 = 0 ∨ i % 2 = 1 := by omega
    rcases this with h | h <;> simp [h] <;> rfl
  have hst := run_storeCells_cells (P := Try.prog) b o (Builtin.zeroCells (Value.agg #[.int .i64 0, .int .i64 0]).cells n).toList 0 w (by rw [hlen]; simpa using hc) (by rw [hlen]; simpa using hf) hone
  simp only [Nat.add_zero] at hst
  refine ⟨_, hlen, ?_⟩
  obtain ⟨m, rfl⟩ : ∃ m, n = m + 1 := ⟨n - 1, by omega⟩
  simp [Builtin.clear_, run_underlying Try.underlying23, hz, hst]

theorem zero_pow : ∀ w, (zeroValue 48).run Try.prog w = .ok (.agg #[.int .i64 0, .int .i64 0]) w := by
  obtain ⟨i, hi, hz, _, _⟩ := info_parts Try.info_pow
  intro w
  simp [zeroValue, typeInfo, hi, hz]

/-! ### contracts -/
theorem clone_any {ao : Option Addr} {n cap : Nat} {ps : List (Int × Int)} {w : World} (h : Ml w ao n cap ps) :
    Calls Try.prog 44 #[.slice ao n cap] w (fun e w' => ∃ mo m cm, e = .returned (.slice mo m cm) ∧ Mo w.heap.size w' mo m cm ps ∧ Below w.heap.size w w') := by
  have q1 : ∀ (w : World) (a : Option Addr) (n c n' c' : Nat), (binOp .eql 23 (.slice a n c) (.slice none n' c')).run Try.prog w = .ok (.bool a.isNone) w := fun w a n c n' c' => Lib.run_eql_slice_nil w _ _ a n c n' c' Try.underlying23
  obtain ⟨i0, hi, hz0, hz1, hz2⟩ := info_parts Try.info_pow
  cases ao with
  | none =>
    have h1 := h.nil rfl
    have h2 := h.le
    obtain rfl : n = 0 := by omega
    have hp := h.empty rfl
    have HP : Hid (ps = []) := hp
    clear h h1 h2 hp
    go_enter Try.func44, Try.ntmps44
    go_wp2
    go_ret
    exact ⟨none, 0, 0, rfl, by rw [HP.out]; exact Mo.nil _ _, Below.refl _ _⟩
  | some ad =>
    have HS := Lib.hid h
    clear h
    go_enter Try.func44, Try.ntmps44
    go_wp2_with (at_builtin; refine wpList_dup2 w w rfl (.tmp 5) (.tmp 6) 23 rfl w.heap.size i0 (.agg #[.int .i64 0, .int .i64 0]) Try.underlying23 hi hz0 hz1 hz2 rfl rfl _ _ _ _ rfl HS.out (Below.refl _ _) (Nat.le_refl _) ?_; intro mo cm w1 hM hB _; have HM := Lib.hid hM; have HB := Lib.hid hB; clear hM hB HS hi hz0 hz1 hz2)
    go_ret
    exact ⟨_, _, _, rfl, HM.out, HB.out⟩

theorem outFn_any (a b v : Int) (r : Bool) {x : Nat} {w : World} (hx : At1 w x (.int .i64 v) 3) (hr : (a == v) = r) :
    Calls Try.prog 45 #[.agg #[.int .i64 a, .int .i64 b], .pointer (some ⟨x, 0, none⟩)] w (RetB (.bool r) w) := by
  have cx := hx.cell
  have lx := hx.lt
  clear hx
  go_enter Try.func45, Try.ntmps45
  go_wp2
  go_ret
  exact ⟨ret_bool (by first | exact hr | simp), below_alloc _ _⟩

section
variable {G : Nat} {lb : Array Value} {v : Int}
/-- a function that tells whether a power is one of v, in all worlds behind w0's -/
def IsV (G : Nat) (lb : Array Value) (v : Int) (S : World → Prop) : Prop := ∀ (a b : Int) (w : World), S w → Calls Try.prog G (#[.agg #[.int .i64 a, .int .i64 b]] ++ lb) w (RetB (.bool (a == v)) w)

set_option maxHeartbeats 1000000 in
theorem indexFn_any (eg : ∀ args w, (callFunc G args).run Try.prog w = .ok (.enter G args) w) {S : World → Prop} (hS : ∀ w w', S w → Below w.heap.size w w' → S w') (hV : IsV G lb v S)
    {ao : Option Addr} {n cap : Nat} {ps : List (Int × Int)} {w : World} (h : Ml w ao n cap ps) (h0 : S w) :
    Calls Try.prog 48 #[.slice ao n cap, .func (.func G) #[] lb] w (fun e w' => ∃ z : Int, e = .returned (.int .i64 z) ∧ Below w.heap.size w w' ∧
      ((z = -1 ∧ ∀ t, t < n → (ps.getD t (0, 0)).1 ≠ v) ∨ ∃ k : Nat, z = k ∧ k < n ∧ (ps.getD k (0, 0)).1 = v ∧ ∀ t, t < k → (ps.getD t (0, 0)).1 ≠ v)) := by
  have hle := h.le
  have hbig := h.big
  have HM := Lib.hid h
  have HS := Lib.hid hS
  have HV := Lib.hid hV
  have H0 := Lib.hid h0
  clear h hS hV h0
  go_enter Try.func48, Try.ntmps48
  go_wp2
  go_loopw [8] (fun i wr => ∃ k : Nat, k ≤ n ∧ i = .int .i64 k ∧ Hid (∀ t, t < k → (ps.getD t (0, 0)).1 ≠ v) ∧ Hid (Ml wr ao n cap ps ∧ S wr ∧ Below w.heap.size w wr)) (fun i _ => n - (intOf i).toNat)
  case atStart => exact ⟨0, Nat.zero_le _, rfl, fun t ht => by omega, HM.out, H0.out, Below.refl _ _⟩
  case round =>
    clear HM H0
    obtain ⟨k, hk, rfl, HT, HW⟩ := hrel
    by_cases hkn : k < n
    · obtain ⟨b, off, rfl, hb, hc⟩ := HW.out.1.at (by omega)
      obtain ⟨c1, c2⟩ := hc k hkn
      clear hc
      obtain ⟨p, hp⟩ : ∃ p, p = ps.getD k (0, 0) := ⟨_, rfl⟩
      rw [← hp] at c1 c2
      have HP := Lib.hid hp
      clear hp
      obtain ⟨a, x⟩ := p
      have hcall := HV.out a x _ HW.out.2.1
      cases hq : (a == v) with
      | true =>
        rw [hq] at hcall
        have HC := Lib.hid hcall
        have HQ := Lib.hid hq
        clear hcall hq
        go_wp2_with (go_at_fn G; refine HC.out.mono ?_; rintro e w2 ⟨rfl, hB⟩; have HB2 := Lib.hid hB; clear hB)
        go_ret
        exact ⟨k, rfl, Below.steps HW.out.2.2 HB2.out, .inr ⟨k, rfl, hkn, by rw [← HP.out]; simpa using HQ.out, HT.out⟩⟩
      | false =>
        rw [hq] at hcall
        have HC := Lib.hid hcall
        have HQ := Lib.hid hq
        clear hcall hq
        go_wp2_with (go_at_fn G; refine HC.out.mono ?_; rintro e w2 ⟨rfl, hB⟩; have HB2 := Lib.hid hB; clear hB)
        go_roundw
        case rel =>
          refine ⟨k + 1, by omega, by go_num, fun t ht => ?_, HW.out.1.below HB2.out, HS.out _ _ HW.out.2.1 HB2.out, Below.steps HW.out.2.2 HB2.out⟩
          by_cases htk : t < k
          · exact HT.out t htk
          · obtain rfl : t = k := by omega
            rw [← HP.out]
            simpa using HQ.out
        case measure => simp [intOf]; omega
    · obtain rfl : k = n := by omega
      go_wp2
      go_ret
      exact ⟨-1, rfl, HW.out.2.2, .inl ⟨rfl, HT.out⟩⟩

set_option maxHeartbeats 2000000 in
theorem deleteFn_any (eg : ∀ args w, (callFunc G args).run Try.prog w = .ok (.enter G args) w) {S : World → Prop} (hS : ∀ w w', S w → Below w.heap.size w w' → S w')
    (hS2 : ∀ (B : Nat) (w : World) (g n cap : Nat) (ps : List (Int × Int)) (i : Nat) (p : Int × Int), S w → Mo B w (some ⟨g, 0, none⟩) n cap ps → S ((w.setCell ⟨g, i * 2, none⟩ (.int .i64 p.1)).setCell ⟨g, i * 2 + 1, none⟩ (.int .i64 p.2))) (hV : IsV G lb v S)
    {ao : Option Addr} {n cap : Nat} {ps : List (Int × Int)} {w0 w : World} (h : Mo w0.heap.size w ao n cap ps) (h0 : S w) (hb : Below w0.heap.size w0 w) :
    Calls Try.prog 43 #[.slice ao n cap, .func (.func G) #[] lb] w (fun e w' => ∃ mo m cm, e = .returned (.slice mo m cm) ∧ Ml w' mo m cm (outM v ps) ∧ Below w0.heap.size w0 w') := by
  have hML := h.ml
  have hle := hML.le
  have hbig := hML.big
  have HI := Lib.hid (indexFn_any eg hS hV hML h0)
  have HM := Lib.hid h
  have HS := Lib.hid hS
  have HS2 := Lib.hid hS2
  have HV := Lib.hid hV
  have H0 := Lib.hid h0
  have HB := Lib.hid hb
  clear h hS hS2 hV h0 hb hML
  go_enter Try.func43, Try.ntmps43
  go_wp2_with fail
  refine HI.out.mono ?_
  rintro e w1 ⟨z, rfl, hB, hz⟩
  have HM1 := Lib.hid (HM.out.below hB)
  have H1 := Lib.hid (HS.out _ _ H0.out hB)
  have HB1 := Lib.hid (Below.steps HB.out hB)
  have HZ := Lib.hid hz
  clear HI HM H0 HB hB hz
  rcases HZ.out with ⟨rfl, hz⟩ | ⟨k, rfl, hk, hkv, hkl⟩
  · have HO : Hid (outM v ps = ps) := outM_all (by rw [HM1.out.len]; exact hz)
    clear HZ hz
    go_wp2
    go_ret
    exact ⟨_, _, _, rfl, by rw [HO.out]; exact HM1.out.ml, HB1.out⟩
  · have f0 : ((k : Int) == -1) = false := beq_eq_false_iff_ne.2 (by omega)
    have hl := HM1.out.len
    have HT : Hid (ps.take k = outM v (ps.take (k + 1)) ∧ ps.drop (k + 1) = ps.drop (k + 1)) := ⟨by
      rw [outM_snoc_no (by omega) hkv, outM_all]
      intro t ht
      have htk : t < k := by simp at ht; omega
      have := hkl t htk
      simpa [List.getD, List.getElem?_take, htk] using this, rfl⟩
    have HPL : Hid (ps.length = n) := hl
    clear HZ hkv hkl hl
    rcases HM1.out.parts with ⟨_, hn0, _⟩ | ⟨g, cur, rfl, hg, hgl, _, _⟩
    · exfalso; omega
    · go_wp2
      go_loopw [5, 6, 7] (fun i j _ wr => ∃ (a b : Nat) (zs : List (Int × Int)), i = .int .i64 a ∧ j = .int .i64 b ∧ a < b ∧ b ≤ n ∧ Hid (zs.take a = outM v (ps.take b) ∧ zs.drop b = ps.drop b) ∧ Hid (Mo w0.heap.size wr (some ⟨g, 0, none⟩) n cap zs) ∧ Hid (S wr ∧ Below w0.heap.size w0 wr)) (fun _ j _ _ => n - (intOf j).toNat)
      case atStart => exact ⟨k, k + 1, ps, rfl, by go_num, by omega, by omega, ⟨HT.out.1, rfl⟩, HM1.out, H1.out, HB1.out⟩
      case round =>
        clear HM1 H1 HB1 HT hgl
        obtain ⟨a, b, zs, rfl, rfl, hab, hbn, HT, HM, HW⟩ := hrel
        have hgl := HM.out.ml.at (by omega)
        obtain ⟨_, _, hge, hgl, _⟩ := hgl
        cases hge
        by_cases hlt : b < n
        · obtain ⟨c1, c2⟩ := HM.out.cell b hlt
          obtain ⟨e1, e2⟩ := drop_get (by rw [HM.out.len]; exact hlt) (by have := HM.out.len; have h3 := congrArg List.length HT.out.2; simp at h3; omega) HT.out.2
          obtain ⟨p, hp⟩ : ∃ p, p = zs.getD b (0, 0) := ⟨_, rfl⟩
          rw [← hp] at c1 c2 e1
          have HE := Lib.hid (And.intro e1 e2)
          have HP : Hid (in64 p.1 ∧ in64 p.2) := by rw [hp]; exact HM.out.wf _ (Ml.getD_mem (by rw [HM.out.len]; exact hlt))
          have HLP : Hid (b < ps.length) := by
            have := HM.out.len; have h3 := congrArg List.length HT.out.2; simp at h3; show b < ps.length; omega
          clear hp e1 e2
          obtain ⟨u, x⟩ := p
          have hcall := HV.out u x _ (HS.out _ _ HW.out.1 (below_alloc wr (.cells #[.int .i64 u, .int .i64 x] 48)))
          cases hq : (u == v) with
          | true =>
            rw [hq] at hcall
            have HC := Lib.hid hcall
            have HQ := Lib.hid hq
            clear hcall hq
            go_wp2_with (go_at_fn G; refine HC.out.mono ?_; rintro e w2 ⟨rfl, hB⟩; have HB2 := Lib.hid hB; clear hB)
            go_roundw
            case rel =>
              refine ⟨a, b + 1, zs, rfl, by go_num, by omega, by omega, ⟨?_, HE.out.2⟩, HM.out.below (step_alloc HB2.out), HS.out _ _ HW.out.1 (step_alloc HB2.out), Below.steps HW.out.2 (step_alloc HB2.out)⟩
              rw [outM_snoc_no HLP.out (by rw [← HE.out.1]; simpa using HQ.out)]
              exact HT.out.1
            case measure => simp [intOf]; omega
          | false =>
            rw [hq] at hcall
            have HC := Lib.hid hcall
            have HQ := Lib.hid hq
            clear hcall hq
            go_wp2_with (go_at_fn G; refine HC.out.mono ?_; rintro e w2 ⟨rfl, hB⟩; have HB2 := Lib.hid hB; have HM2 := Lib.hid (HM.out.below (step_alloc hB)); obtain ⟨d1, d2⟩ := HM2.out.cell a (by omega); have d3 := HM2.out.fz (a * 2); have d4 := HM2.out.fz (a * 2 + 1); have d5 := hB.cell (p := ⟨wr.heap.size, 0, none⟩) (by simp); have d6 := hB.cell (p := ⟨wr.heap.size, 1, none⟩) (by simp); simp at d5 d6; clear hB)
            go_roundw
            case rel =>
              refine ⟨a + 1, b + 1, zs.set a (u, x), by go_num, by go_num, by omega, by omega, ⟨?_, ?_⟩, HM2.out.set a (u, x) HP.out.1 HP.out.2, HS2.out _ _ _ _ _ _ a (u, x) (HS.out _ _ HW.out.1 (step_alloc HB2.out)) HM2.out, ?_⟩
              · rw [outM_snoc_yes HLP.out (by rw [← HE.out.1]; simpa using HQ.out), take_set (by rw [HM.out.len]; omega), HT.out.1, ← HE.out.1]
              · rw [drop_set (by omega)]; exact HE.out.2
              · exact ((Below.steps HW.out.2 (step_alloc HB2.out)).setCell hg _).setCell hg _
            case measure => simp [intOf]; omega
        · obtain rfl : b = n := by omega
          have hc0 : ∀ j, j < (b - a) * 2 → (wr.cell? ⟨g, a * 2 + j, none⟩).isSome = true := by
            intro j hj
            have h1 := HM.out.cell (a + j / 2) (by omega)
            rcases (show j = j / 2 * 2 ∨ j = j / 2 * 2 + 1 by omega) with e | e
            · rw [show a * 2 + j = (a + j / 2) * 2 by omega, h1.1]; rfl
            · rw [show a * 2 + j = (a + j / 2) * 2 + 1 by omega, h1.2]; rfl
          have hcl : ∃ W : World, (∀ ty, (Builtin.clear_ #[23] ty #[.slice (some ⟨g, a * 2, none⟩) (b - a) (cap - a)]).run Try.prog wr = .ok (.tuple #[]) W) ∧ Below w0.heap.size w0 W ∧ Ml W (some ⟨g, 0, none⟩) a cap (zs.take a) := by
            obtain ⟨qs, hq1, hq2⟩ := run_clear2 wr 0 g (a * 2) (b - a) (cap - a) (by omega) hc0 (fun j _ => HM.out.fz _) zero_pow
            refine ⟨_, fun ty => hq2, below_setCells hg qs _ _ HW.out.2, ?_⟩
            refine Ml.of_cells (by rw [List.length_take, HM.out.len]; omega) (by omega) (by omega) (fun q hq => HM.out.wf q (List.mem_of_mem_take hq)) fun t ht => ?_
            have h1 := HM.out.cell t (by omega)
            rw [Nat.zero_add, World.cell?_setCells_out _ _ _ _ _ (fun _ _ => Or.inl (by show t * 2 < a * 2; omega)), World.cell?_setCells_out _ _ _ _ _ (fun _ _ => Or.inl (by show t * 2 + 1 < a * 2; omega))]
            simpa [List.getD, List.getElem?_take, ht] using h1
          obtain ⟨W, hcl, hBW, hMW⟩ := hcl
          have HR : Hid (Ml W (some ⟨g, 0, none⟩) a cap (outM v ps)) := by
            have h1 : zs.take a = outM v ps := HT.out.1.trans (by rw [List.take_of_length_le (by rw [HPL.out]; exact Nat.le_refl _)])
            rw [Hid, ← h1]; exact hMW
          have HBW := Lib.hid hBW
          clear hc0 hBW hMW
          go_wp2
          go_ret
          exact ⟨_, _, _, rfl, HR.out, HBW.out⟩
end

set_option maxHeartbeats 1000000 in
theorem without_any {ao : Option Addr} {n cap : Nat} {ps : List (Int × Int)} {w : World} (h : Ml w ao n cap ps) (v : Int) :
    Calls Try.prog 28 #[.slice ao n cap, .int .i64 v] w (NewM w (outM v (orM ps))) := by
  have eg : ∀ args w, (callFunc 45 args).run Try.prog w = .ok (.enter 45 args) w := enters_of Try.func45 (by kernel_rfl) rfl
  have hV : ∀ x : Nat, IsV 45 #[.pointer (some ⟨x, 0, none⟩)] v (fun W => At1 W x (.int .i64 v) 3) := fun x a b W hW => by exact outFn_any a b v _ hW rfl
  have hS2 : ∀ (x B : Nat) (w : World) (g n cap : Nat) (ps : List (Int × Int)) (i : Nat) (p : Int × Int), At1 w x (.int .i64 v) 3 → Mo B w (some ⟨g, 0, none⟩) n cap ps → At1 ((w.setCell ⟨g, i * 2, none⟩ (.int .i64 p.1)).setCell ⟨g, i * 2 + 1, none⟩ (.int .i64 p.2)) x (.int .i64 v) 3 := by
    intro x B w g n cap ps i p h1 h2
    have hne : g ≠ x := by
      intro e
      subst e
      rcases h2.parts with ⟨hn, _⟩ | ⟨g', cur, hg, _, _, _, hh⟩
      · cases hn
      · cases hg
        unfold At1 at h1
        rw [h1] at hh
        cases hh
    exact (h1.far hne _ _).far hne _ _
  have HV := Lib.hid hV
  have HS2 := Lib.hid hS2
  have HM := Lib.hid (h.below (below_alloc w (.cells #[.int .i64 v] 3)))
  have HX := Lib.hid (At1.new w (.int .i64 v) 3)
  clear h hV hS2
  go_enter Try.func28, Try.ntmps28
  go_wp2_with fail
  refine (orOne_any HM.out).mono ?_
  rintro e w1 ⟨mo, m, cm, rfl, hM, hB⟩
  have HM1 := Lib.hid hM
  have HX1 := Lib.hid (HX.out.below hB)
  have HB1 := Lib.hid (step_alloc hB)
  clear hM hB HM HX
  go_wp2_with fail
  refine (clone_any HM1.out).mono ?_
  rintro e w2 ⟨no, l, cl, rfl, hM, hB⟩
  have HM2 := Lib.hid (hM.mono HB1.out.size)
  have HX2 := Lib.hid (HX1.out.below hB)
  have HB2 := Lib.hid (Below.steps HB1.out hB)
  clear hM hB HM1 HX1 HB1
  go_wp2_with fail
  refine (deleteFn_any eg (fun _ _ h hb => h.below hb) (HS2.out _) (HV.out _) HM2.out HX2.out HB2.out).mono ?_
  rintro e w3 ⟨oo, k, ck, rfl, hM, hB⟩
  have HM3 := Lib.hid hM
  have HB3 := Lib.hid hB
  clear hM hB HM2 HX2 HB2
  go_wp2_with fail
  go_ret
  exact ⟨_, _, _, rfl, HM3.out, HB3.out⟩

end Go.Proofs.Ytgalcdfleljliaa
