/-
  The contracts of mono.joined and of the function that it hands on.
-/
import Derived.Test.YtgalcdfleljliaaMSide
import Derived.Test.YtgalcdfleljliaaMMayP
import Derived.Deep.DeepMust
set_option maxRecDepth 8192
namespace Go.Proofs.Ytgalcdfleljliaa
open Go.RowKit

/-- a block of one cell -/
def At1 (w : World) (b : Nat) (v : Value) (T : TypeId) : Prop := w.heap[b]? = some (.cells #[v] T (0, 0))
theorem At1.lt {w : World} {b : Nat} {v : Value} {T : TypeId} (h : At1 w b v T) : b < w.heap.size := lt_of_block h
theorem At1.new (w : World) (v : Value) (T : TypeId) : At1 (w.alloc (.cells #[v] T)) w.heap.size v T := by
  show (w.heap.push _)[w.heap.size]? = _
  rw [Array.getElem?_push_size]
theorem At1.cell {w : World} {b : Nat} {v : Value} {T : TypeId} (h : At1 w b v T) : w.cell? ⟨b, 0, none⟩ = some v := by
  unfold At1 at h
  simp [World.cell?, h]
theorem At1.fz {w : World} {b : Nat} {v : Value} {T : TypeId} (h : At1 w b v T) : w.frozen? ⟨b, 0, none⟩ = false := by
  unfold At1 at h
  simp [World.frozen?, h]
theorem At1.keep {w w' : World} {b : Nat} {v : Value} {T : TypeId} (h : At1 w b v T) (e : w'.heap[b]? = w.heap[b]?) : At1 w' b v T := e.trans h
theorem At1.below {w w' : World} {b : Nat} {v : Value} {T : TypeId} (h : At1 w b v T) (hb : Below w.heap.size w w') : At1 w' b v T := h.keep (hb.block b h.lt)
theorem At1.set {w : World} {b : Nat} {v : Value} {T : TypeId} (h : At1 w b v T) (u : Value) : At1 (w.setCell ⟨b, 0, none⟩ u) b u T := by
  unfold At1 at h ⊢
  simp [World.setCell, Array.getElem?_modify, h]
theorem At1.far {w : World} {b c : Nat} {v : Value} {T : TypeId} (h : At1 w b v T) (hc : c ≠ b) (o : Nat) (u : Value) : At1 (w.setCell ⟨c, o, none⟩ u) b v T :=
  h.keep (Below.heap_setCell _ _ _ _ (fun e => hc e.symm))
theorem Mo.far {B : Nat} {w : World} {ao : Option Addr} {n cap : Nat} {ps : List (Int × Int)} (h : Mo B w ao n cap ps) {b : Nat} {v : Value} {T : TypeId} (hc : At1 w b v T) (hT : T ≠ 48) (o : Nat) (u : Value) : Mo B (w.setCell ⟨b, o, none⟩ u) ao n cap ps := by
  refine h.keep fun a ha => Below.heap_setCell _ _ _ _ fun e => ?_
  rcases h.parts with ⟨h1, _⟩ | ⟨g, cur, h1, _, _, _, hh⟩
  · rw [h1] at ha; cases ha
  · rw [h1] at ha
    cases ha
    have e' : g = b := e
    subst e'
    unfold At1 at hc
    rw [hc] at hh
    cases hh
    exact hT rfl

theorem At1.grown {B : Nat} {w w' : World} {o : Obj} {ao : Option Addr} {n cap : Nat} {ps : List (Int × Int)} {b : Nat} {v : Value} {T : TypeId} (h : At1 w b v T) (hM : Mo B w ao n cap ps) (hT : T ≠ 48) (hG : (w.alloc o).grownBy w' (Value.slice ao n cap).ownBlock) : At1 w' b v T := by
  refine (h.below (below_alloc w o)).keep (hG.block b (by have := h.lt; simp; omega) fun e => ?_)
  rcases hM.parts with ⟨rfl, _⟩ | ⟨g, cur, rfl, _, _, _, hh⟩
  · cases e
  · have e' : b = g := Option.some.inj e
    subst e'
    unfold At1 at h
    rw [h] at hh
    cases hh
    exact hT rfl

/-- what the function that is handed on keeps: the list so far in the variable m, the function that joins -/
structure JInv (w0 : World) (c k J : Nat) (f : Int → Int → Int) (done : List (Int × Int × Int)) (w : World) : Prop where
  m : ∃ ao cap, Mo w0.heap.size w ao (keepL f done).length cap (keepL f done) ∧ At1 w c (.slice ao (keepL f done).length cap) 23
  fn : At1 w k (.func (.func J) #[] #[]) 43
  below : Below w0.heap.size w0 w
  hc : w0.heap.size ≤ c

theorem JInv.stable {w0 : World} {c k J : Nat} {f : Int → Int → Int} {done : List (Int × Int × Int)} {w w' : World} (h : JInv w0 c k J f done w) (hb : Below w.heap.size w w') : JInv w0 c k J f done w' := by
  obtain ⟨ao, cap, h1, h2⟩ := h.m
  exact ⟨⟨ao, cap, h1.below hb, h2.below hb⟩, h.fn.below hb, Below.steps h.below hb, h.hc⟩

/-- a function of two ints -/
def Fn2 (J : Nat) (f : Int → Int → Int) : Prop := ∀ (x y : Int) (w : World), (0 ≤ x ∧ x ≤ 10000) → (0 ≤ y ∧ y ≤ 10000) → Calls Try.prog J #[.int .i64 x, .int .i64 y] w (fun e w' => e = .returned (.int .i64 (f x y)) ∧ w = w')

set_option maxHeartbeats 2000000 in
set_option maxRecDepth 100000 in
theorem joinedFn_any {J : Nat} {f : Int → Int → Int} (eJ : ∀ args w, (callFunc J args).run Try.prog w = .ok (.enter J args) w) (hJ : Fn2 J f) {w0 w : World} {c k : Nat} {done : List (Int × Int × Int)} {v x y : Int}
    (hv : in64 v) (hf : in64 (f x y)) (hx : 0 ≤ x ∧ x ≤ 10000) (hy : 0 ≤ y ∧ y ≤ 10000) (hn : done.length ≤ 400) (h : JInv w0 c k J f done w) :
    Calls Try.prog 47 #[.int .i64 v, .int .i64 x, .int .i64 y, .pointer (some ⟨k, 0, none⟩), .pointer (some ⟨c, 0, none⟩)] w (fun e w' => e = .returned (.tuple #[]) ∧ JInv w0 c k J f (done ++ [(v, x, y)]) w') := by
  obtain ⟨i0, hi, hz0, hz1, hz2⟩ := info_parts Try.info_pow
  obtain ⟨ao, cap, hM, hC⟩ := h.m
  have ck := h.fn.cell
  have cc := hC.cell
  have fc := hC.fz
  have lc := hC.lt
  have lk := h.fn.lt
  have hln := keepL_len f done
  obtain ⟨n, hnn⟩ : ∃ n, (keepL f done).length = n := ⟨_, rfl⟩
  obtain ⟨z, hz⟩ : ∃ z, f x y = z := ⟨_, rfl⟩
  have HJ := Lib.hid (hJ x y w hx hy)
  rw [hz] at HJ hf
  rw [hnn] at hM hC cc
  have hn4 : n ≤ 400 := by omega
  have HI := Lib.hid h
  have HM := Lib.hid hM
  have HC := Lib.hid hC
  have HN := Lib.hid hnn
  have HZ := Lib.hid hz
  have HV := Lib.hid hv
  have HF := Lib.hid hf
  clear h hM hC hnn hz hJ hx hy hn hln hv hf
  by_cases g : z = 0
  · subst g
    go_enter Try.func47, Try.ntmps47
    go_wp2_with (go_at_fn J; (refine HJ.out.mono ?_); rintro e w' ⟨rfl, rfl⟩)
    go_end0
    exact ⟨rfl, ⟨by rw [keepL_snoc_zero _ HZ.out, HN.out]; exact ⟨ao, cap, HM.out, HC.out⟩, HI.out.fn, HI.out.below, HI.out.hc⟩⟩
  · have g1 : (z == 0) = false := by simpa using g
    have g2 : (z != 0) = true := by simpa using g
    have HG := Lib.hid g
    clear g
    go_enter Try.func47, Try.ntmps47
    go_wp2_with (first
      | (go_at_fn J; (refine HJ.out.mono ?_); rintro e w' ⟨rfl, rfl⟩)
      | (at_builtin; refine wpList_push2 w w0 rfl (.tmp 15) (.tmp 19) 23 rfl w0.heap.size i0 (.agg #[.int .i64 0, .int .i64 0]) Try.underlying23 hi hz0 hz1 hz2 rfl ao n cap (keepL f done) rfl HM.out v z HV.out HF.out _ rfl HI.out.below HI.out.below.size (by omega) ?_; intro ao2 cap2 w2 hM2 hB2 hG2; have HM2 := Lib.hid hM2; have HB2 := Lib.hid hB2; have HC2 := Lib.hid (HC.out.grown HM.out (by decide) hG2); have HK2 := Lib.hid (HI.out.fn.grown HM.out (by decide) hG2); clear hM2 hB2 hG2 cc fc ck lc lk; have cc := HC2.out.cell; have fc := HC2.out.fz))
    go_end0
    have e2 := HN.out
    refine ⟨rfl, ⟨?_, HK2.out.far ?_ _ _, HB2.out.setCell HI.out.hc _, HI.out.hc⟩⟩
    · rw [keepL_snoc _ (by rw [HZ.out]; exact HG.out), HZ.out]
      simp only [List.length_append, List.length_cons, List.length_nil, e2]
      exact ⟨ao2, cap2, HM2.out.far HC2.out (by decide) _ _, HC2.out.set _⟩
    · intro e
      subst e
      have h1 := HC2.out
      have h2 := HK2.out
      unfold At1 at h1 h2
      rw [h1] at h2
      cases h2

set_option maxHeartbeats 2000000 in
set_option maxRecDepth 100000 in
theorem joined_any {J : Nat} {f : Int → Int → Int} (eJ : ∀ args w, (callFunc J args).run Try.prog w = .ok (.enter J args) w) (hJ : Fn2 J f) (hf : ∀ x y : Int, (0 ≤ x ∧ x ≤ 10000) → (0 ≤ y ∧ y ≤ 10000) → in64 (f x y))
    {a0 b0 : Option Addr} {la ca lc cc : Nat} {xs ys : List (Int × Int)} {w : World} (ha : Ml w a0 la ca xs) (hb : Ml w b0 lc cc ys) (hx : mayM 0 xs = true) (hy : mayM 0 ys = true) :
    Calls Try.prog 40 #[.slice a0 la ca, .slice b0 lc cc, .func (.func J) #[] #[]] w (NewM w (joinL f xs ys)) := by
  have eg : ∀ args w, (callFunc 47 args).run Try.prog w = .ok (.enter 47 args) w := enters_of Try.func47 (by kernel_rfl) rfl
  have h1 := may_len hx
  have h2 := may_len hy
  have h3 := ha.len
  have h4 := hb.len
  have hla : la ≤ 200 := by omega
  have hlc : lc ≤ 200 := by omega
  have htl := tri_len _ xs ys (Nat.le_refl _)
  have hmem : ∀ t ∈ tri xs ys, in64 t.1 ∧ (0 ≤ t.2.1 ∧ t.2.1 ≤ 10000) ∧ (0 ≤ t.2.2 ∧ t.2.2 ≤ 10000) :=
    tri_mem (P := in64) (Q := fun z => 0 ≤ z ∧ z ≤ 10000) (by omega) _ xs ys (Nat.le_refl _) (fun p hp => ⟨by have := (may_mem hx (by omega) p hp).1; unfold in64; omega, (may_mem hx (by omega) p hp).2⟩) (fun p hp => ⟨by have := (may_mem hy (by omega) p hp).1; unfold in64; omega, (may_mem hy (by omega) p hp).2⟩)
  have hF : ∀ (c k : Nat) done t rest W, tri xs ys = done ++ t :: rest → JInv w c k J f done W → Calls Try.prog 47 (#[.int .i64 t.1, .int .i64 t.2.1, .int .i64 t.2.2] ++ #[.pointer (some ⟨k, 0, none⟩), .pointer (some ⟨c, 0, none⟩)]) W (fun e w' => e = .returned (.tuple #[]) ∧ JInv w c k J f (done ++ [t]) w') := by
    intro c k done t rest W ht hI
    have hm := hmem t (by rw [ht]; simp)
    have hl : done.length ≤ 400 := by rw [ht] at htl; simp at htl; omega
    exact joinedFn_any eJ hJ hm.1 (hf _ _ hm.2.1 hm.2.2) hm.2.1 hm.2.2 hl hI
  have HF := Lib.hid hF
  have HA := Lib.hid ha
  have HB := Lib.hid hb
  clear hF hmem htl h1 h2 h3 h4 ha hb hx hy hf hJ eJ
  obtain ⟨i0, hi, hz0, hz1, hz2⟩ := info_parts Try.info_pow
  go_enter Try.func40, Try.ntmps40
  go_wp2_with (at_make; refine wpList_make_own _ rfl _ _ 23 rfl w.heap.size 48 i0 (.agg #[.int .i64 0, .int .i64 0]) 2 Try.underlying23 hi hz0 hz1 _ _ _ (la + lc) rfl rfl (by omega) ?b2 ?b3 (by simp) ?_)
  case b2 => rw [hz2]; omega
  case b3 => unfold maxLen; omega
  intro w1 hO hG
  have HM1 : Hid (Mo w.heap.size w1 _ 0 _ []) := Lib.hid ⟨hO, by omega, fun _ h => by cases h⟩
  have HK1 : Hid (At1 w1 w.heap.size (.func (.func J) #[] #[]) 43) := Lib.hid ((At1.new w _ _).keep (hG.block w.heap.size (by simp) (by simp)))
  have HB1 := Lib.hid ((below_alloc w _).grown hG (by simp) (by intro k hk; cases hk))
  clear hO hG hi hz0 hz1 hz2
  go_wp2_with fail
  refine (side_any eg (JInv w w1.heap.size w.heap.size J f) (w0 := w) HA.out HB.out (fun _ _ _ h hb => h.stable hb) (fun _ _ h => h.below) (HF.out _ _) ⟨⟨_, _, HM1.out.below (below_alloc _ _), At1.new _ _ _⟩, HK1.out.below (below_alloc _ _), Below.steps HB1.out (below_alloc _ _), HB1.out.size⟩).mono ?_
  rintro e w3 ⟨rfl, hI⟩
  obtain ⟨ao, cap, hM, hC⟩ := hI.m
  have HM := Lib.hid hM
  have HB3 := Lib.hid hI.below
  have cc := hC.cell
  obtain ⟨n, hn⟩ : ∃ n, n = (keepL f (tri xs ys)).length := ⟨_, rfl⟩
  rw [← hn] at HM cc
  clear hM hC hI hn HM1 HK1 HF HA HB HB1
  go_wp2_with fail
  go_ret
  exact ⟨_, _, _, rfl, HM.out.ml, HB3.out⟩

end Go.Proofs.Ytgalcdfleljliaa
