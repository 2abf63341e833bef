/-
  The contract of poly.joined.
-/
import Derived.Test.YtmenbpmciblnlaaGreatDoorGP3
set_option maxHeartbeats 0
set_option maxRecDepth 100000
namespace Go.Proofs.YtmenbpmciblnlaaGreatDoor
open Go.RowKit
structure FQ [Ol] (w:World) (g off cp N n b7 b8 b5:Nat) (fv:Value) (X Q:List (List Value)) (K:Nat) (p q:List Term) (V:World):Prop where
 ex:∃L,Rm g off cp L V/\ Seg 3 L off X
 hx:Each 3 X
 px:cB (kD K V) X p
 qx:cB (kD K V) Q q
 e7:bD V b7 [.int .i64 (n:Int)] 3
 e8:bD V b8 [.int .i64 (N:Int)] 3
 e5:bD V b5 [fv] 121
 bw:Below w.heap.size w V
 nn:p.length=n
 le:n<=N
 nc:N<=cp
 h7:w.heap.size<=b7
 h8:w.heap.size<=b8
 h78:b7≠b8
theorem FQ.step [Ol] {w:World} {g off cp N n b7 b8 b5:Nat} {fv:Value} {X Q:List (List Value)} {K:Nat} {p q:List Term} {V V':World} (h:FQ w g off cp N n b7 b8 b5 fv X Q K p q V) {row:Option Nat} (hg:V.grownBy V' row) (hn:∀r,row=some r->lY V r)
  (hne:∀r,row=some r->r≠g/\ r≠b7/\ r≠b8/\ r≠b5/\ w.heap.size<=r):FQ w g off cp N n b7 b8 b5 fv X Q K p q V':=by
 obtain⟨L,h1,h2⟩:=h.ex
 exact{ h with
  ex:=⟨L,h1.stepG hg (λr e=>(hne r e).1),h2⟩,px:=jH hg hn h.px,qx:=jH hg hn h.qx
  e7:=h.e7.stepG hg (λr e=>(hne r e).2.1),e8:=h.e8.stepG hg (λr e=>(hne r e).2.2.1),e5:=h.e5.stepG hg (λr e=>(hne r e).2.2.2.1)
  bw:=h.bw.grown hg h.bw.size (λr e=>(hne r e).2.2.2.2) }
theorem FQ.below [Ol] {w:World} {g off cp N n b7 b8 b5:Nat} {fv:Value} {X Q:List (List Value)} {K:Nat} {p q:List Term} {V V':World} (h:FQ w g off cp N n b7 b8 b5 fv X Q K p q V) (hb:Below V.heap.size V V'):FQ w g off cp N n b7 b8 b5 fv X Q K p q V':=
 h.step (eU none hb) (λ_ e=>by cases e) (λ_ e=>by cases e)
theorem FQ.far [Ol] {w:World} {g off cp N n b7 b8 b5:Nat} {fv:Value} {X Q:List (List Value)} {K:Nat} {p q:List Term} {V V':World} (h:FQ w g off cp N n b7 b8 b5 fv X Q K p q V) {c:Nat} {L:List Value} (hA:bD V c L 23) (hc:Clean L) (hw:w.heap.size<=c) (hg:V.grownBy V' (some c)):FQ w g off cp N n b7 b8 b5 fv X Q K p q V':=by
 obtain⟨M,h1,_⟩:=h.ex;exact h.step hg (λr e=>by cases e;exact(hA.fT hc).uF) (λr e=>by cases e;exact⟨hA.ne h1.iW (by decide),hA.ne h.e7 (by decide),hA.ne h.e8 (by decide),hA.ne h.e5 (by decide),hw⟩)
theorem bD.xV {V:World} {b r:Nat} {L:List Value} {T:TypeId} (h:bD V b L T) {o:Obj} (hr:V.heap[r]? =some o) (ho:o.isCells=false):r≠b:=λe=>by
 subst e;unfold bD at h;rw[h]at hr;cases hr;cases ho
theorem zQ.own [Ol] {w:World} {g off cap N b7 b8 ba b5:Nat} {fv:Value} {X Q:List (List Value)} {K:Nat} {p q S:List Term} {left:Nat} {lf pl:Int} {V V':World} (h:zQ w g off cap N b7 b8 ba b5 fv X Q K p q S left lf pl V) {B:Nat} {row:Option Nat} (hg:V.grownBy V' row)
  (hr:∀r,row=some r->B<=r/\∃o:Obj,V.heap[r]? =some o/\ o.isCells=false) (hB:w.heap.size<=B):zQ w g off cap N b7 b8 ba b5 fv X Q K p q S left lf pl V':=by
 obtain⟨L,Y,h1,_⟩:=h.ex;refine h.step hg (λr e=>?_) (λr e=>?_)
 ·obtain⟨_,o,h2,h3⟩:=hr r e;exact D6 h2 h3
 ·obtain⟨h4,o,h2,h3⟩:=hr r e;exact⟨h1.iW.xV h2 h3,h.e7.xV h2 h3,h.e8.xV h2 h3,h.ea.xV h2 h3,h.e5.xV h2 h3,by omega⟩
structure Xq (B:Nat) (Fx:Nat->Prop) (Y V:World):Prop where
 kf:KeepsFrom B Y V
 ft:Fast Fx Y V
theorem Xq.refl (B:Nat) (Fx:Nat->Prop) (Y:World):Xq B Fx Y Y:=⟨KeepsFrom.refl _ _,Fast.refl _ _⟩
theorem Xq.below {B:Nat} {Fx:Nat->Prop} {Y V V':World} (h:Xq B Fx Y V) (hF:∀k,Fx k->k<B) (hB:B<=Y.heap.size) (hb:Below V.heap.size V V'):Xq B Fx Y V':=
 ⟨h.kf.trans ((KeepsOthers.of_grownBy (eU none hb) (λ_ _ e=>by cases e)).from _),h.ft.trans (Fast.below hb λk hk=>Nat.lt_of_lt_of_le (hF k hk) (Nat.le_trans hB h.kf.size))⟩
theorem Xq.far {B:Nat} {Fx:Nat->Prop} {Y V V':World} (h:Xq B Fx Y V) (hF:∀k,Fx k->k<B) (hB:B<=Y.heap.size) {r:Nat} {L:List Value} {T:TypeId} (hA:bD V r L T) (hr:¬Fx r) (hg:V.grownBy V' (some r)):Xq B Fx Y V':=
 ⟨h.kf.trans ((KeepsOthers.of_grownBy hg (λj o e ho=>by cases e;unfold bD at hA;rw[hA]at ho;cases ho;rfl)).from _),h.ft.trans λk hk=>hg.block k (Nat.lt_of_lt_of_le (hF k hk) (Nat.le_trans hB h.kf.size)) (λe=>hr (by cases e;exact hk))⟩
structure Z8 [Ol] (bt:Nat) (tm:Bool) (ta:Option Addr) (tn tc:Nat) (tp:Option Addr) (tq tr:Nat) (z:Int) (ps:List (Int×Int)) (V:World):Prop where
 iW:bD V bt [.bool tm,.slice ta tn tc,.slice tp tq tr] 70
 cn:Cn V tm ta tn tc z
 ml:Ml V tp tq tr ps
theorem Z8.step [Ol] {bt:Nat} {tm:Bool} {ta:Option Addr} {tn tc:Nat} {tp:Option Addr} {tq tr:Nat} {z:Int} {ps:List (Int×Int)} {V V':World} (h:Z8 bt tm ta tn tc tp tq tr z ps V) {row:Option Nat} (hg:V.grownBy V' row) (hn:∀r,row=some r->lY V r) (hne:∀r,row=some r->r≠bt):Z8 bt tm ta tn tc tp tq tr z ps V':=
 ⟨h.iW.stepG hg hne,h.cn.stepG hg hn,h.ml.stepG hg hn⟩
theorem Z8.below [Ol] {bt:Nat} {tm:Bool} {ta:Option Addr} {tn tc:Nat} {tp:Option Addr} {tq tr:Nat} {z:Int} {ps:List (Int×Int)} {V V':World} (h:Z8 bt tm ta tn tc tp tq tr z ps V) (hb:Below V.heap.size V V'):Z8 bt tm ta tn tc tp tq tr z ps V':=h.step (eU none hb) (λ_ e=>by cases e) (λ_ e=>by cases e)
end Go.Proofs.YtmenbpmciblnlaaGreatDoor
