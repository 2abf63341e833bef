/- Rnd, PlBack, PlJoinM -/
import Derived.RangeFuncNested
import Derived.RangeFuncLeaves
import Derived.TacticsInMore
import Derived.OwnWalkIn
import Derived.LoopIn
import Derived.LoopNIn
import Derived.Test.YtmmgipcacceakaaGreatGP2
set_option maxHeartbeats 40000000
set_option maxRecDepth 100000
namespace Go.Proofs.YtmmgipcacceakaaGreat
open Go.RowKit
section
variable {P : Program} {Q : Exit → Act → World → Prop} {l n : Nat}
end
def Fast (Fx : Nat → Prop) (A B : World) : Prop := ∀ k, Fx k → B.heap[k]? = A.heap[k]?
theorem Fast.refl (Fx : Nat → Prop) (A : World) : Fast Fx A A := fun _ _ => rfl
theorem Fast.trans {Fx : Nat → Prop} {A B C : World} (h : Fast Fx A B) (k : Fast Fx B C) : Fast Fx A C := fun i hi => (k i hi).trans (h i hi)
theorem Fast.below {Fx : Nat → Prop} {n : Nat} {A B : World} (h : Below n A B) (hF : ∀ k, Fx k → k < n) : Fast Fx A B := fun i hi => h.block i (hF i hi)
theorem Fast.putObj {Fx : Nat → Prop} {A : World} {l : Nat} {o : Obj} (h : ¬ Fx l) : Fast Fx A (A.putObj l o) := fun _ hi => World.putObj_heap_other (fun e => h (e ▸ hi))
theorem Fast.put {Fx : Nat → Prop} {A B : World} {l : Nat} {o : Obj} (hA : Fast Fx A B) (h : ¬ Fx l) : Fast Fx A (B.putObj l o) := hA.trans (Fast.putObj h)
theorem cell_of_heap {A B : World} {a : Addr} (h : B.heap[a.block]? = A.heap[a.block]?) : B.cell? a = A.cell? a := by unfold World.cell?; rw [h]
theorem Fast.cell {Fx : Nat → Prop} {A B : World} (h : Fast Fx A B) {a : Addr} (hF : Fx a.block) {v : Value} (hc : A.cell? a = some v) : B.cell? a = some v := (cell_of_heap (h _ hF)).trans hc
def NoInt (V : World) (r : Nat) : Prop := ∀ (ad : Addr) (k : IntKind) (x : Int), V.cell? ad = some (.int k x) → ad.block ≠ r
theorem CleanB.noInt {V : World} {r : Nat} (h : CleanB V r) : NoInt V r := fun _ _ _ hc => h.far hc
theorem noInt_obj {V : World} {r : Nat} {o : Obj} (h : V.heap[r]? = some o) (ho : o.isCells = false) : NoInt V r := fun ad k x hc e => by
 obtain ⟨b, off, s⟩ := ad; obtain rfl : b = r := e
 unfold World.cell? at hc
 simp only [h] at hc
 cases o <;> simp [Obj.isCells] at ho <;> simp at hc
theorem Cn.stepG {V V' : World} {row : Option Nat} (hg : V.grownBy V' row) (hn : ∀ r, row = some r → NoInt V r) {m : Bool} {ao : Option Addr} {n cap : Nat} {z : Int} (h : Cn V m ao n cap z) : Cn V' m ao n cap z :=
 ⟨h.neg, h.sl.len, h.sl.le, h.sl.big, h.sl.wf, h.sl.nil, fun ad had t ht => hg.cell (h.sl.cells ad had t ht) fun eq => hn _ eq.symm _ _ _ (h.sl.cells ad had t ht) rfl⟩
theorem Ml.stepG [Ol] {V V' : World} {row : Option Nat} (hg : V.grownBy V' row) (hn : ∀ r, row = some r → NoInt V r) {ao : Option Addr} {n cap : Nat} {ps : List (Int × Int)} (h : Ml V ao n cap ps) : Ml V' ao n cap ps :=
 ⟨h.len, h.le, h.big, h.wf, h.nil, fun ad had t ht => ⟨hg.cell (h.cells ad had t ht).1 fun eq => hn _ eq.symm _ _ _ (h.cells ad had t ht).1 rfl, hg.cell (h.cells ad had t ht).2 fun eq => hn _ eq.symm _ _ _ (h.cells ad had t ht).2 rfl⟩, fun h0 ad had => by
  obtain ⟨x, hx⟩ := h.int h0 had
  exact (h.kp h0 ad had).grown (h.blt h0 had) hg fun eq => hn _ eq.symm _ _ _ hx rfl⟩
theorem TmC.stepG [Ol] {V V' : World} {row : Option Nat} (hg : V.grownBy V' row) (hn : ∀ r, row = some r → NoInt V r) {K : Nat} {vs : List Value} {t : Term} (h : TmC K V vs t) : TmC K V' vs t := by
 obtain ⟨m, ao, n, cap, bo, k, cb, h1, h2, h3, h4⟩ := h
 exact ⟨m, ao, n, cap, bo, k, cb, h1, h2.stepG hg hn, h3, h4.stepG hg hn⟩
theorem tms_stepG [Ol] {V V' : World} {row : Option Nat} (hg : V.grownBy V' row) (hn : ∀ r, row = some r → NoInt V r) {K : Nat} {X : List (List Value)} {p : List Term} (h : Tms (TmC K V) X p) : Tms (TmC K V') X p := h.imp fun _ _ h => h.stepG hg hn
theorem AtN.ne {V : World} {a b : Nat} {L M : List Value} {S T : TypeId} (h : AtN V a L S) (k : AtN V b M T) (hST : S ≠ T) : a ≠ b := fun e => by
 subst e
 unfold AtN at h k
 rw [h] at k
 cases k
 exact hST rfl
theorem AtN.stepG {V V' : World} {row : Option Nat} (hg : V.grownBy V' row) {b : Nat} {L : List Value} {T : TypeId} (h : AtN V b L T) (hne : ∀ r, row = some r → r ≠ b) : AtN V' b L T := h.keep (hg.block b h.lt fun e => hne b e.symm rfl)
theorem Rm.stepG {V V' : World} {row : Option Nat} (hg : V.grownBy V' row) {g off cap : Nat} {L : List Value} (h : Rm g off cap L V) (hne : ∀ r, row = some r → r ≠ g) : Rm g off cap L V' := ⟨h.at1.stepG hg hne, h.cln, h.room, h.big⟩
structure JSt [Ol] (w : World) (g off cap N b7 b8 ba b5 : Nat) (fv : Value) (X Q : List (List Value)) (K : Nat) (p q S : List Term) (left : Nat) (lf pl : Int) (V : World) : Prop where
 ex : ∃ L Y, Rm g off cap L V ∧ Seg 3 L off (X.take left) ∧ Seg 3 L (off + (N - S.length) * 3) Y ∧ Each 3 Y ∧ Tms (TmC (K + 1) V) Y S
 px : Tms (TmC K V) X p
 qx : Tms (TmC K V) Q q
 e7 : AtN V b7 [.int .i64 lf] 3
 e8 : AtN V b8 [.int .i64 pl] 3
 ea : AtN V ba [.slice (some ⟨g, off, none⟩) N cap] 26
 e5 : AtN V b5 [fv] 104
 gr : w.grownBy V (some g)
 fit : S.length + left ≤ N
 ll : left ≤ X.length
 nc : N ≤ cap
 h7 : w.heap.size ≤ b7
 h8 : w.heap.size ≤ b8
 h78 : b7 ≠ b8
 hx : Each 3 X
section
variable {w : World} {g off cap N b7 b8 ba b5 : Nat} {fv : Value} {X Q : List (List Value)} {K : Nat} {p q S : List Term} {left : Nat} {lf pl : Int} {V V' : World}
theorem JSt.step [Ol] (h : JSt w g off cap N b7 b8 ba b5 fv X Q K p q S left lf pl V) {row : Option Nat} (hg : V.grownBy V' row) (hn : ∀ r, row = some r → NoInt V r) (hne : ∀ r, row = some r → r ≠ g ∧ r ≠ b7 ∧ r ≠ b8 ∧ r ≠ ba ∧ r ≠ b5 ∧ w.heap.size ≤ r) :
  JSt w g off cap N b7 b8 ba b5 fv X Q K p q S left lf pl V' := by
 obtain ⟨L, Y, h1, h2, h3, h4, h5⟩ := h.ex
 refine { h with ex := ⟨L, Y, h1.stepG hg (fun r e => (hne r e).1), h2, h3, h4, tms_stepG hg hn h5⟩, px := tms_stepG hg hn h.px, qx := tms_stepG hg hn h.qx, e7 := h.e7.stepG hg (fun r e => (hne r e).2.1), e8 := h.e8.stepG hg (fun r e => (hne r e).2.2.1), ea := h.ea.stepG hg (fun r e => (hne r e).2.2.2.1), e5 := h.e5.stepG hg (fun r e => (hne r e).2.2.2.2.1), gr := ?_ }
 exact ⟨hg.os.trans h.gr.os, hg.tape.trans h.gr.tape, hg.output.trans h.gr.output, Nat.le_trans h.gr.size hg.size, fun k hk hkg => (hg.block k (Nat.lt_of_lt_of_le hk h.gr.size) (fun e => by have := (hne k e.symm).2.2.2.2.2; omega)).trans (h.gr.block k hk hkg)⟩
theorem JSt.below [Ol] (h : JSt w g off cap N b7 b8 ba b5 fv X Q K p q S left lf pl V) (hb : Below V.heap.size V V') : JSt w g off cap N b7 b8 ba b5 fv X Q K p q S left lf pl V' :=
 h.step (grown_below none hb) (fun _ e => by cases e) (fun _ e => by cases e)
theorem JSt.g7 [Ol] (h : JSt w g off cap N b7 b8 ba b5 fv X Q K p q S left lf pl V) : g ≠ b7 ∧ g ≠ b8 ∧ g ≠ ba ∧ g ≠ b5 := by
 obtain ⟨L, Y, h1, _⟩ := h.ex
 exact ⟨h1.at1.ne h.e7 (by decide), h1.at1.ne h.e8 (by decide), h1.at1.ne h.ea (by decide), h1.at1.ne h.e5 (by decide)⟩
theorem JSt.far [Ol] (h : JSt w g off cap N b7 b8 ba b5 fv X Q K p q S left lf pl V) {c : Nat} {L : List Value} {T : TypeId} (hA : AtN V c L T) (hc : Clean L) (hcg : c ≠ g) (hT : T ≠ 3 ∧ T ≠ 26 ∧ T ≠ 104) (hw : w.heap.size ≤ c) (hg : V.grownBy V' (some c)) :
  JSt w g off cap N b7 b8 ba b5 fv X Q K p q S left lf pl V' :=
 h.step hg (fun r e => by cases e; exact (hA.cleanB hc).noInt) (fun r e => by cases e; exact ⟨hcg, hA.ne h.e7 hT.1, hA.ne h.e8 hT.1, hA.ne h.ea hT.2.1, hA.ne h.e5 hT.2.2, hw⟩)
theorem JSt.get [Ol] (h : JSt w g off cap N b7 b8 ba b5 fv X Q K p q S left lf pl V) {k : Nat} (hk : k < left) :
  ∃ xm xa xn xc xp xq xr, X.getD k [] = [.bool xm, .slice xa xn xc, .slice xp xq xr] ∧ (V.cell? ⟨g, off + k * 3, none⟩ = some (.bool xm) ∧ V.cell? ⟨g, off + k * 3 + 1, none⟩ = some (.slice xa xn xc) ∧ V.cell? ⟨g, off + k * 3 + 2, none⟩ = some (.slice xp xq xr)) ∧ Cn V xm xa xn xc (p.getD k (0, [])).1 ∧ Bd (p.getD k (0, [])).1 K ∧ Ml V xp xq xr (p.getD k (0, [])).2 := by
 obtain ⟨L, Y, h1, h2, _⟩ := h.ex
 have hkX : k < X.length := Nat.lt_of_lt_of_le hk h.ll
 have hkp : k < p.length := by rw [← h.px.len]; exact hkX
 obtain ⟨xm, xa, xn, xc, xp, xq, xr, hv, c1, c2, c3⟩ := Tms.get (0, []) h.px k hkp
 have hg := h2 k (by rw [List.length_take]; omega)
 have ht : (X.take left).getD k [] = X.getD k [] := by simp [List.getD, hk]
 rw [ht, hv] at hg
 refine ⟨xm, xa, xn, xc, xp, xq, xr, hv, ⟨?_, ?_, ?_⟩, c1, c2, c3⟩
 ·rw [h1.at1.cell]; exact hg 0 (by omega)
 ·rw [h1.at1.cell]; exact hg 1 (by omega)
 ·rw [h1.at1.cell]; exact hg 2 (by omega)
theorem JSt.spot [Ol] (h : JSt w g off cap N b7 b8 ba b5 fv X Q K p q S left lf pl V) {k : Nat} (hk : k < N) :
  (∃ a b c, V.cell? ⟨g, off + k * 3, none⟩ = some a ∧ V.cell? ⟨g, off + k * 3 + 1, none⟩ = some b ∧ V.cell? ⟨g, off + k * 3 + 2, none⟩ = some c) ∧ V.frozen? ⟨g, off + k * 3, none⟩ = false ∧ V.frozen? ⟨g, off + k * 3 + 1, none⟩ = false ∧ V.frozen? ⟨g, off + k * 3 + 2, none⟩ = false := by
 obtain ⟨L, Y, h1, _⟩ := h.ex; have hr := h1.room
 have hl : (k + 1) * 3 ≤ cap * 3 := Nat.mul_le_mul_right _ (Nat.le_trans hk h.nc)
 exact ⟨⟨_, _, _, (h1.at1.cell _).trans (List.getElem?_eq_getElem (by omega)), (h1.at1.cell _).trans (List.getElem?_eq_getElem (by omega)), (h1.at1.cell _).trans (List.getElem?_eq_getElem (by omega))⟩, h1.at1.fz _, h1.at1.fz _, h1.at1.fz _⟩
theorem JSt.drop [Ol] (h : JSt w g off cap N b7 b8 ba b5 fv X Q K p q S left lf pl V) {l2 : Nat} (hl : l2 ≤ left) : JSt w g off cap N b7 b8 ba b5 fv X Q K p q S l2 lf pl V := by
 obtain ⟨L, Y, h1, h2, h3⟩ := h.ex
 refine { h with ex := ⟨L, Y, h1, ?_, h3⟩, fit := by have := h.fit; omega, ll := Nat.le_trans hl h.ll }
 have := h2.take l2
 rwa [List.take_take, Nat.min_eq_left hl] at this
theorem JSt.put [Ol] (h : JSt w g off cap N b7 b8 ba b5 fv X Q K p q S left lf pl V) (hf : S.length + left < N) {t : Term} {m : Bool} {ao : Option Addr} {n c : Nat} {bo : Option Addr} {l cb : Nat} (hC : Cn V m ao n c t.1) (hB : Bd t.1 (K + 1)) (hM : Ml V bo l cb t.2) :
  JSt w g off cap N b7 b8 ba b5 fv X Q K p q (t :: S) left lf pl (((V.setCell ⟨g, off + (N - S.length - 1) * 3, none⟩ (.bool m)).setCell ⟨g, off + (N - S.length - 1) * 3 + 1, none⟩ (.slice ao n c)).setCell ⟨g, off + (N - S.length - 1) * 3 + 2, none⟩ (.slice bo l cb)) := by
 obtain ⟨L, Y, h1, h2, h3, h4, h5⟩ := h.ex; have hg := grown_put3 V g (off + (N - S.length - 1) * 3) (.bool m) (.slice ao n c) (.slice bo l cb)
 have hn : ∀ r, some g = some r → NoInt V r := fun r e => by cases e; exact (h1.at1.cleanB h1.cln).noInt
 have d := h.g7; have hYl := h5.len; have hroom := h1.room; have hnc := h.nc
 have hNN : (N - S.length) * 3 ≤ cap * 3 := Nat.mul_le_mul_right _ (by omega)
 have e1 : N - (t :: S).length = N - S.length - 1 := by rw [List.length_cons]; omega
 have e2 : (N - S.length - 1 + 1) * 3 = (N - S.length) * 3 := by congr 1; omega
 exact { h with
  ex := ⟨putL L (off + (N - S.length - 1) * 3) [.bool m, .slice ao n c, .slice bo l cb], [.bool m, .slice ao n c, .slice bo l cb] :: Y, ⟨h1.at1.put3 _ _ _ _, clean_put _ _ _ h1.cln (clean3 _ _ _ _ _ _ _), by rw [putL_length]; exact h1.room, h1.big⟩,
   h2.far (.inr (by rw [List.length_take, Nat.min_eq_left h.ll]; have : left * 3 ≤ (N - S.length - 1) * 3 := Nat.mul_le_mul_right _ (by omega); omega)),
   by
    rw [e1]
    refine Seg.cons (Seg.one (by omega)) ?_
    refine Seg.cast (h3.far (.inl ?_)) (by omega)
    simp only [List.length_cons, List.length_nil]
    omega,
   fun vs hv => by
    rcases List.mem_cons.1 hv with rfl | hv
    ·exact ⟨rfl, fun u hu => by simp at hu; rcases hu with rfl | rfl | rfl <;> rfl⟩
    ·exact h4 vs hv,
   ⟨⟨m, ao, n, c, bo, l, cb, rfl, hC.stepG hg hn, hB, hM.stepG hg hn⟩, tms_stepG hg hn h5⟩⟩
  px := tms_stepG hg hn h.px, qx := tms_stepG hg hn h.qx
  e7 := h.e7.stepG hg (fun r e => by cases e; exact d.1), e8 := h.e8.stepG hg (fun r e => by cases e; exact d.2.1), ea := h.ea.stepG hg (fun r e => by cases e; exact d.2.2.1), e5 := h.e5.stepG hg (fun r e => by cases e; exact d.2.2.2)
  gr := grown_trans h.gr hg, fit := by rw [List.length_cons]; omega }
end
end Go.Proofs.YtmmgipcacceakaaGreat
