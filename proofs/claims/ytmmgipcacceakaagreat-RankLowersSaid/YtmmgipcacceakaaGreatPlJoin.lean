/-
  The contract of poly.joined.
-/
import Derived.Test.YtmmgipcacceakaaGreatGP3
set_option maxHeartbeats 40000000
set_option maxRecDepth 100000
namespace Go.Proofs.YtmmgipcacceakaaGreat
open Go.RowKit
structure GrSt [Ol] (w : World) (g off cp N n b7 b8 b5 : Nat) (fv : Value) (X Q : List (List Value)) (K : Nat) (p q : List Term) (V : World) : Prop where
 ex : ∃ L, Rm g off cp L V ∧ Seg 3 L off X
 hx : Each 3 X
 px : Tms (TmC K V) X p
 qx : Tms (TmC K V) Q q
 e7 : AtN V b7 [.int .i64 (n : Int)] 3
 e8 : AtN V b8 [.int .i64 (N : Int)] 3
 e5 : AtN V b5 [fv] 104
 bw : Below w.heap.size w V
 nn : p.length = n
 le : n ≤ N
 nc : N ≤ cp
 h7 : w.heap.size ≤ b7
 h8 : w.heap.size ≤ b8
 h78 : b7 ≠ b8
theorem GrSt.step [Ol] {w : World} {g off cp N n b7 b8 b5 : Nat} {fv : Value} {X Q : List (List Value)} {K : Nat} {p q : List Term} {V V' : World} (h : GrSt w g off cp N n b7 b8 b5 fv X Q K p q V) {row : Option Nat} (hg : V.grownBy V' row) (hn : ∀ r, row = some r → NoInt V r)
  (hne : ∀ r, row = some r → r ≠ g ∧ r ≠ b7 ∧ r ≠ b8 ∧ r ≠ b5 ∧ w.heap.size ≤ r) : GrSt w g off cp N n b7 b8 b5 fv X Q K p q V' := by
 obtain ⟨L, h1, h2⟩ := h.ex
 exact { h with
  ex := ⟨L, h1.stepG hg (fun r e => (hne r e).1), h2⟩, px := tms_stepG hg hn h.px, qx := tms_stepG hg hn h.qx
  e7 := h.e7.stepG hg (fun r e => (hne r e).2.1), e8 := h.e8.stepG hg (fun r e => (hne r e).2.2.1), e5 := h.e5.stepG hg (fun r e => (hne r e).2.2.2.1)
  bw := h.bw.grown hg h.bw.size (fun r e => (hne r e).2.2.2.2) }
theorem GrSt.below [Ol] {w : World} {g off cp N n b7 b8 b5 : Nat} {fv : Value} {X Q : List (List Value)} {K : Nat} {p q : List Term} {V V' : World} (h : GrSt w g off cp N n b7 b8 b5 fv X Q K p q V) (hb : Below V.heap.size V V') : GrSt w g off cp N n b7 b8 b5 fv X Q K p q V' :=
 h.step (grown_below none hb) (fun _ e => by cases e) (fun _ e => by cases e)
theorem GrSt.far [Ol] {w : World} {g off cp N n b7 b8 b5 : Nat} {fv : Value} {X Q : List (List Value)} {K : Nat} {p q : List Term} {V V' : World} (h : GrSt w g off cp N n b7 b8 b5 fv X Q K p q V) {c : Nat} {L : List Value} (hA : AtN V c L 26) (hc : Clean L) (hw : w.heap.size ≤ c) (hg : V.grownBy V' (some c)) : GrSt w g off cp N n b7 b8 b5 fv X Q K p q V' := by
 obtain ⟨M, h1, _⟩ := h.ex
 exact h.step hg (fun r e => by cases e; exact (hA.cleanB hc).noInt) (fun r e => by cases e; exact ⟨hA.ne h1.at1 (by decide), hA.ne h.e7 (by decide), hA.ne h.e8 (by decide), hA.ne h.e5 (by decide), hw⟩)
theorem AtN.obj_ne {V : World} {b r : Nat} {L : List Value} {T : TypeId} (h : AtN V b L T) {o : Obj} (hr : V.heap[r]? = some o) (ho : o.isCells = false) : r ≠ b := fun e => by
 subst e
 unfold AtN at h
 rw [h] at hr
 cases hr
 cases ho
theorem JSt.own [Ol] {w : World} {g off cap N b7 b8 ba b5 : Nat} {fv : Value} {X Q : List (List Value)} {K : Nat} {p q S : List Term} {left : Nat} {lf pl : Int} {V V' : World} (h : JSt w g off cap N b7 b8 ba b5 fv X Q K p q S left lf pl V) {B : Nat} {row : Option Nat} (hg : V.grownBy V' row)
  (hr : ∀ r, row = some r → B ≤ r ∧ ∃ o : Obj, V.heap[r]? = some o ∧ o.isCells = false) (hB : w.heap.size ≤ B) : JSt w g off cap N b7 b8 ba b5 fv X Q K p q S left lf pl V' := by
 obtain ⟨L, Y, h1, _⟩ := h.ex
 refine h.step hg (fun r e => ?_) (fun r e => ?_)
 ·obtain ⟨_, o, h2, h3⟩ := hr r e
  exact noInt_obj h2 h3
 ·obtain ⟨h4, o, h2, h3⟩ := hr r e
  exact ⟨h1.at1.obj_ne h2 h3, h.e7.obj_ne h2 h3, h.e8.obj_ne h2 h3, h.ea.obj_ne h2 h3, h.e5.obj_ne h2 h3, by omega⟩
structure Trk (B : Nat) (Fx : Nat → Prop) (Y V : World) : Prop where
 kf : KeepsFrom B Y V
 ft : Fast Fx Y V
theorem Trk.refl (B : Nat) (Fx : Nat → Prop) (Y : World) : Trk B Fx Y Y := ⟨KeepsFrom.refl _ _, Fast.refl _ _⟩
theorem Trk.below {B : Nat} {Fx : Nat → Prop} {Y V V' : World} (h : Trk B Fx Y V) (hF : ∀ k, Fx k → k < B) (hB : B ≤ Y.heap.size) (hb : Below V.heap.size V V') : Trk B Fx Y V' :=
 ⟨h.kf.trans ((KeepsOthers.of_grownBy (grown_below none hb) (fun _ _ e => by cases e)).from _), h.ft.trans (Fast.below hb fun k hk => Nat.lt_of_lt_of_le (hF k hk) (Nat.le_trans hB h.kf.size))⟩
theorem Trk.far {B : Nat} {Fx : Nat → Prop} {Y V V' : World} (h : Trk B Fx Y V) (hF : ∀ k, Fx k → k < B) (hB : B ≤ Y.heap.size) {r : Nat} {L : List Value} {T : TypeId} (hA : AtN V r L T) (hr : ¬ Fx r) (hg : V.grownBy V' (some r)) : Trk B Fx Y V' :=
 ⟨h.kf.trans ((KeepsOthers.of_grownBy hg (fun j o e ho => by cases e; unfold AtN at hA; rw [hA] at ho; cases ho; rfl)).from _), h.ft.trans fun k hk => hg.block k (Nat.lt_of_lt_of_le (hF k hk) (Nat.le_trans hB h.kf.size)) (fun e => hr (by cases e; exact hk))⟩
structure TSt [Ol] (bt : Nat) (tm : Bool) (ta : Option Addr) (tn tc : Nat) (tp : Option Addr) (tq tr : Nat) (z : Int) (ps : List (Int × Int)) (V : World) : Prop where
 at1 : AtN V bt [.bool tm, .slice ta tn tc, .slice tp tq tr] 56
 cn : Cn V tm ta tn tc z
 ml : Ml V tp tq tr ps
theorem TSt.step [Ol] {bt : Nat} {tm : Bool} {ta : Option Addr} {tn tc : Nat} {tp : Option Addr} {tq tr : Nat} {z : Int} {ps : List (Int × Int)} {V V' : World} (h : TSt bt tm ta tn tc tp tq tr z ps V) {row : Option Nat} (hg : V.grownBy V' row) (hn : ∀ r, row = some r → NoInt V r) (hne : ∀ r, row = some r → r ≠ bt) : TSt bt tm ta tn tc tp tq tr z ps V' :=
 ⟨h.at1.stepG hg hne, h.cn.stepG hg hn, h.ml.stepG hg hn⟩
theorem TSt.below [Ol] {bt : Nat} {tm : Bool} {ta : Option Addr} {tn tc : Nat} {tp : Option Addr} {tq tr : Nat} {z : Int} {ps : List (Int × Int)} {V V' : World} (h : TSt bt tm ta tn tc tp tq tr z ps V) (hb : Below V.heap.size V V') : TSt bt tm ta tn tc tp tq tr z ps V' := h.step (grown_below none hb) (fun _ e => by cases e) (fun _ e => by cases e)
end Go.Proofs.YtmmgipcacceakaaGreat
