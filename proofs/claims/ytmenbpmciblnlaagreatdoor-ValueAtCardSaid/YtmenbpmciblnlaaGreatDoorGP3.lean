/- Rnd, PlBack, PlJoinM -/
import Derived.RangeFuncNested
import Derived.TacticsInMore
import Derived.OwnWalkIn
import Derived.LoopIn
import Derived.LoopNIn
import Derived.Test.YtmenbpmciblnlaaGreatDoorGP2
set_option maxHeartbeats 0
set_option maxRecDepth 100000
open Go.Value renaming slice->a0a
open List renaming getElem?_eq_getElem->a0c,length_cons->a0d,length_take->a0b
open Nat renaming le_trans->a0e,lt_of_lt_of_le->a0f,min_eq_left->a0h,mul_le_mul_right->a0g
namespace Go.Proofs.YtmenbpmciblnlaaGreatDoor
open Go.RowKit
section
variable {P:Program} {Q:Exit->Act->World->Prop} {l n:Nat}
end
def Fast (Fx:Nat->Prop) (A B:World):Prop:=∀k,Fx k->B.heap[k]? =A.heap[k]?
theorem Fast.refl (Fx:Nat->Prop) (A:World):Fast Fx A A:=λ_ _=>rfl
theorem Fast.trans {Fx:Nat->Prop} {A B C:World} (h:Fast Fx A B) (k:Fast Fx B C):Fast Fx A C:=λi hi=>(k i hi).trans (h i hi)
theorem Fast.below {Fx:Nat->Prop} {n:Nat} {A B:World} (h:Below n A B) (hF:∀k,Fx k->k<n):Fast Fx A B:=λi hi=>h.block i (hF i hi)
theorem Fast.putObj {Fx:Nat->Prop} {A:World} {l:Nat} {o:Obj} (h:¬Fx l):Fast Fx A (A.putObj l o):=λ_ hi=>World.putObj_heap_other (λe=>h (e▸hi))
theorem Fast.put {Fx:Nat->Prop} {A B:World} {l:Nat} {o:Obj} (hA:Fast Fx A B) (h:¬Fx l):Fast Fx A (B.putObj l o):=hA.trans (Fast.putObj h)
theorem cell_of_heap {A B:World} {a:Addr} (h:B.heap[a.block]? =A.heap[a.block]?):B.cell? a=A.cell? a:=by unfold World.cell?;rw[h]
theorem Fast.cell {Fx:Nat->Prop} {A B:World} (h:Fast Fx A B) {a:Addr} (hF:Fx a.block) {v:Value} (hc:A.cell? a=some v):B.cell? a=some v:=(cell_of_heap (h _ hF)).trans hc
def lY (V:World) (r:Nat):Prop:=∀(ad:Addr) (k:IntKind) (x:Int),V.cell? ad=some (.int k x)->ad.block≠r
theorem eO.uF {V:World} {r:Nat} (h:eO V r):lY V r:=λ_ _ _ hc=>h.far hc
theorem D6 {V:World} {r:Nat} {o:Obj} (h:V.heap[r]? =some o) (ho:o.isCells=false):lY V r:=λad k x hc e=>by
 obtain⟨b,off,s⟩:=ad;obtain rfl:b=r:=e;unfold World.cell? at hc;simp only[h]at hc;cases o<;>simp[Obj.isCells]at ho<;>simp at hc
theorem Cn.stepG {V V':World} {row:Option Nat} (hg:V.grownBy V' row) (hn:∀r,row=some r->lY V r) {m:Bool} {ao:Option Addr} {n cap:Nat} {z:Int} (h:Cn V m ao n cap z):Cn V' m ao n cap z:=
 ⟨h.neg,h.sl.len,h.sl.le,h.sl.big,h.sl.wf,h.sl.nil,λad had t ht=>hg.cell (h.sl.cells ad had t ht) λeq=>hn _ eq.symm _ _ _ (h.sl.cells ad had t ht) rfl⟩
theorem Ml.stepG [Ol] {V V':World} {row:Option Nat} (hg:V.grownBy V' row) (hn:∀r,row=some r->lY V r) {ao:Option Addr} {n cap:Nat} {ps:List (Int×Int)} (h:Ml V ao n cap ps):Ml V' ao n cap ps:=
 ⟨h.len,h.le,h.big,h.wf,h.nil,λad had t ht=>⟨hg.cell (h.cells ad had t ht).1 λeq=>hn _ eq.symm _ _ _ (h.cells ad had t ht).1 rfl,hg.cell (h.cells ad had t ht).2 λeq=>hn _ eq.symm _ _ _ (h.cells ad had t ht).2 rfl⟩,λh0 ad had=>by
  obtain⟨x,hx⟩:=h.int h0 had;exact(h.kp h0 ad had).grown (h.blt h0 had) hg λeq=>hn _ eq.symm _ _ _ hx rfl⟩
theorem kD.stepG [Ol] {V V':World} {row:Option Nat} (hg:V.grownBy V' row) (hn:∀r,row=some r->lY V r) {K:Nat} {vs:List Value} {t:Term} (h:kD K V vs t):kD K V' vs t:=by
 obtain⟨m,ao,n,cap,bo,k,cb,h1,h2,h3,h4⟩:=h;exact⟨m,ao,n,cap,bo,k,cb,h1,h2.stepG hg hn,h3,h4.stepG hg hn⟩
theorem jH [Ol] {V V':World} {row:Option Nat} (hg:V.grownBy V' row) (hn:∀r,row=some r->lY V r) {K:Nat} {X:List (List Value)} {p:List Term} (h:cB (kD K V) X p):cB (kD K V') X p:=h.imp λ_ _ h=>h.stepG hg hn
theorem bD.ne {V:World} {a b:Nat} {L M:List Value} {S T:TypeId} (h:bD V a L S) (k:bD V b M T) (hST:S≠T):a≠b:=λe=>by
 subst e;unfold bD at h k;rw[h]at k;cases k;exact hST rfl
theorem bD.stepG {V V':World} {row:Option Nat} (hg:V.grownBy V' row) {b:Nat} {L:List Value} {T:TypeId} (h:bD V b L T) (hne:∀r,row=some r->r≠b):bD V' b L T:=h.keep (hg.block b h.lt λe=>hne b e.symm rfl)
theorem Rm.stepG {V V':World} {row:Option Nat} (hg:V.grownBy V' row) {g off cap:Nat} {L:List Value} (h:Rm g off cap L V) (hne:∀r,row=some r->r≠g):Rm g off cap L V':=⟨h.iW.stepG hg hne,h.C9,h.room,h.big⟩
structure zQ [Ol] (w:World) (g off cap N b7 b8 ba b5:Nat) (fv:Value) (X Q:List (List Value)) (K:Nat) (p q S:List Term) (left:Nat) (lf pl:Int) (V:World):Prop where
 ex:∃L Y,Rm g off cap L V/\ Seg 3 L off (X.take left)/\ Seg 3 L (off+(N-S.length)*3) Y/\ Each 3 Y/\ cB (kD (K+1) V) Y S
 px:cB (kD K V) X p
 qx:cB (kD K V) Q q
 e7:bD V b7 [.int .i64 lf] 3
 e8:bD V b8 [.int .i64 pl] 3
 ea:bD V ba [a0a (some ⟨g,off,none⟩) N cap] 23
 e5:bD V b5 [fv] 121
 gr:w.grownBy V (some g)
 fit:S.length+left<=N
 ll:left<=X.length
 nc:N<=cap
 h7:w.heap.size<=b7
 h8:w.heap.size<=b8
 h78:b7≠b8
 hx:Each 3 X
section
variable {w:World} {g off cap N b7 b8 ba b5:Nat} {fv:Value} {X Q:List (List Value)} {K:Nat} {p q S:List Term} {left:Nat} {lf pl:Int} {V V':World}
theorem zQ.step [Ol] (h:zQ w g off cap N b7 b8 ba b5 fv X Q K p q S left lf pl V) {row:Option Nat} (hg:V.grownBy V' row) (hn:∀r,row=some r->lY V r) (hne:∀r,row=some r->r≠g/\ r≠b7/\ r≠b8/\ r≠ba/\ r≠b5/\ w.heap.size<=r):
  zQ w g off cap N b7 b8 ba b5 fv X Q K p q S left lf pl V':=by
 obtain⟨L,Y,h1,h2,h3,h4,h5⟩:=h.ex;refine{ h with ex:=⟨L,Y,h1.stepG hg (λr e=>(hne r e).1),h2,h3,h4,jH hg hn h5⟩,px:=jH hg hn h.px,qx:=jH hg hn h.qx,e7:=h.e7.stepG hg (λr e=>(hne r e).2.1),e8:=h.e8.stepG hg (λr e=>(hne r e).2.2.1),ea:=h.ea.stepG hg (λr e=>(hne r e).2.2.2.1),e5:=h.e5.stepG hg (λr e=>(hne r e).2.2.2.2.1),gr:=?_ };exact⟨hg.os.trans h.gr.os,hg.tape.trans h.gr.tape,hg.output.trans h.gr.output,a0e h.gr.size hg.size,λk hk hkg=>(hg.block k (a0f hk h.gr.size) (λe=>by have:=(hne k e.symm).2.2.2.2.2;omega)).trans (h.gr.block k hk hkg)⟩
theorem zQ.below [Ol] (h:zQ w g off cap N b7 b8 ba b5 fv X Q K p q S left lf pl V) (hb:Below V.heap.size V V'):zQ w g off cap N b7 b8 ba b5 fv X Q K p q S left lf pl V':=
 h.step (eU none hb) (λ_ e=>by cases e) (λ_ e=>by cases e)
theorem zQ.g7 [Ol] (h:zQ w g off cap N b7 b8 ba b5 fv X Q K p q S left lf pl V):g≠b7/\ g≠b8/\ g≠ba/\ g≠b5:=by
 obtain⟨L,Y,h1,_⟩:=h.ex;exact⟨h1.iW.ne h.e7 (by decide),h1.iW.ne h.e8 (by decide),h1.iW.ne h.ea (by decide),h1.iW.ne h.e5 (by decide)⟩
theorem zQ.far [Ol] (h:zQ w g off cap N b7 b8 ba b5 fv X Q K p q S left lf pl V) {c:Nat} {L:List Value} {T:TypeId} (hA:bD V c L T) (hc:Clean L) (hcg:c≠g) (hT:T≠3/\ T≠23/\ T≠121) (hw:w.heap.size<=c) (hg:V.grownBy V' (some c)):
  zQ w g off cap N b7 b8 ba b5 fv X Q K p q S left lf pl V':=
 h.step hg (λr e=>by cases e;exact(hA.fT hc).uF) (λr e=>by cases e;exact⟨hcg,hA.ne h.e7 hT.1,hA.ne h.e8 hT.1,hA.ne h.ea hT.2.1,hA.ne h.e5 hT.2.2,hw⟩)
theorem zQ.get [Ol] (h:zQ w g off cap N b7 b8 ba b5 fv X Q K p q S left lf pl V) {k:Nat} (hk:k<left):
  ∃xm xa xn xc xp xq xr,X.getD k []=[.bool xm,a0a xa xn xc,a0a xp xq xr]/\ (V.cell? ⟨g,off+k*3,none⟩=some (.bool xm)/\ V.cell? ⟨g,off+k*3+1,none⟩=some (a0a xa xn xc)/\ V.cell? ⟨g,off+k*3+2,none⟩=some (a0a xp xq xr))/\ Cn V xm xa xn xc (p.getD k (0,[])).1/\ Bd (p.getD k (0,[])).1 K/\ Ml V xp xq xr (p.getD k (0,[])).2:=by
 obtain⟨L,Y,h1,h2,_⟩:=h.ex;have hkX:k<X.length:=a0f hk h.ll;have hkp:k<p.length:=by rw[<-h.px.len];exact hkX
 obtain⟨xm,xa,xn,xc,xp,xq,xr,hv,c1,c2,c3⟩:=cB.get (0,[]) h.px k hkp;have hg:=h2 k (by rw[a0b];omega);have ht:(X.take left).getD k []=X.getD k []:=by simp[List.getD,hk]
 rw[ht,hv]at hg;refine⟨xm,xa,xn,xc,xp,xq,xr,hv,⟨?_,?_,?_⟩,c1,c2,c3⟩
 ·rw[h1.iW.cell];exact hg 0 (by omega)
 ·rw[h1.iW.cell];exact hg 1 (by omega)
 ·rw[h1.iW.cell];exact hg 2 (by omega)
theorem zQ.spot [Ol] (h:zQ w g off cap N b7 b8 ba b5 fv X Q K p q S left lf pl V) {k:Nat} (hk:k<N):
  (∃a b c,V.cell? ⟨g,off+k*3,none⟩=some a/\ V.cell? ⟨g,off+k*3+1,none⟩=some b/\ V.cell? ⟨g,off+k*3+2,none⟩=some c)/\ V.frozen? ⟨g,off+k*3,none⟩=false/\ V.frozen? ⟨g,off+k*3+1,none⟩=false/\ V.frozen? ⟨g,off+k*3+2,none⟩=false:=by
 obtain⟨L,Y,h1,_⟩:=h.ex;have hr:=h1.room;have hl:(k+1)*3<=cap*3:=a0g _ (a0e hk h.nc);exact⟨⟨_,_,_,(h1.iW.cell _).trans (a0c (by omega)),(h1.iW.cell _).trans (a0c (by omega)),(h1.iW.cell _).trans (a0c (by omega))⟩,h1.iW.fz _,h1.iW.fz _,h1.iW.fz _⟩
theorem zQ.drop [Ol] (h:zQ w g off cap N b7 b8 ba b5 fv X Q K p q S left lf pl V) {l2:Nat} (hl:l2<=left):zQ w g off cap N b7 b8 ba b5 fv X Q K p q S l2 lf pl V:=by
 obtain⟨L,Y,h1,h2,h3⟩:=h.ex;refine{ h with ex:=⟨L,Y,h1,?_,h3⟩,fit:=by have:=h.fit;omega,ll:=a0e hl h.ll };have:=h2.take l2;rwa[List.take_take,a0h hl]at this
theorem zQ.put [Ol] (h:zQ w g off cap N b7 b8 ba b5 fv X Q K p q S left lf pl V) (hf:S.length+left<N) {t:Term} {m:Bool} {ao:Option Addr} {n c:Nat} {bo:Option Addr} {l cb:Nat} (hC:Cn V m ao n c t.1) (hB:Bd t.1 (K+1)) (hM:Ml V bo l cb t.2):
  zQ w g off cap N b7 b8 ba b5 fv X Q K p q (t::S) left lf pl (((V.setCell ⟨g,off+(N-S.length-1)*3,none⟩ (.bool m)).setCell ⟨g,off+(N-S.length-1)*3+1,none⟩ (a0a ao n c)).setCell ⟨g,off+(N-S.length-1)*3+2,none⟩ (a0a bo l cb)):=by
 obtain⟨L,Y,h1,h2,h3,h4,h5⟩:=h.ex;have hg:=uR V g (off+(N-S.length-1)*3) (.bool m) (a0a ao n c) (a0a bo l cb);have hn:∀r,some g=some r->lY V r:=λr e=>by cases e;exact(h1.iW.fT h1.C9).uF
 have d:=h.g7;have hYl:=h5.len;have hroom:=h1.room;have hnc:=h.nc;have hNN:(N-S.length)*3<=cap*3:=a0g _ (by omega);have e1:N-(t::S).length=N-S.length-1:=by rw[a0d];omega
 have e2:(N-S.length-1+1)*3=(N-S.length)*3:=by congr 1;omega
 exact{ h with
  ex:=⟨pF L (off+(N-S.length-1)*3) [.bool m,a0a ao n c,a0a bo l cb],[.bool m,a0a ao n c,a0a bo l cb]::Y,⟨h1.iW.ad9 _ _ _ _,tJ _ _ _ h1.C9 (xE _ _ _ _ _ _ _),by rw[iO];exact h1.room,h1.big⟩,
   h2.far (.inr (by rw[a0b,a0h h.ll];have:left*3<=(N-S.length-1)*3:=a0g _ (by omega);omega)),
   by
    rw[e1];refine Seg.cons (Seg.one (by omega)) ?_;refine Seg.cast (h3.far (.inl ?_)) (by omega);simp only[a0d,List.length_nil];omega,
   λvs hv=>by
    rcases List.mem_cons.1 hv with rfl|hv
    ·exact⟨rfl,λu hu=>by simp at hu;rcases hu with rfl|rfl|rfl<;>rfl⟩
    ·exact h4 vs hv,
   ⟨⟨m,ao,n,c,bo,l,cb,rfl,hC.stepG hg hn,hB,hM.stepG hg hn⟩,jH hg hn h5⟩⟩
  px:=jH hg hn h.px,qx:=jH hg hn h.qx
  e7:=h.e7.stepG hg (λr e=>by cases e;exact d.1),e8:=h.e8.stepG hg (λr e=>by cases e;exact d.2.1),ea:=h.ea.stepG hg (λr e=>by cases e;exact d.2.2.1),e5:=h.e5.stepG hg (λr e=>by cases e;exact d.2.2.2)
  gr:=dS h.gr hg,fit:=by rw[a0d];omega }
end
end Go.Proofs.YtmenbpmciblnlaaGreatDoor
