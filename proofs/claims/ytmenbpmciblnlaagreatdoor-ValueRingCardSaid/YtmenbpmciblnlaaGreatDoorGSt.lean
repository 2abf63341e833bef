import Derived.Test.YtmenbpmciblnlaaGreatDoorGMem
import Derived.Deep.RegionHeld3
set_option maxHeartbeats 0
set_option maxRecDepth 100000
open Bool renaming and_eq_true->ah5
open Go renaming Value->ah7,World->ah6
open Go.Region renaming Mode->ah8,ready->ah9,wanted->ai0
open Go.RowKit.Below renaming heap_setCell->ai1,refl->ai2
open List renaming getElem?_toArray->ai3,mem_cons->ai4
namespace Go.Proofs.YtmenbpmciblnlaaGreatDoor
open Go.RowKit
theorem aj {P:Program} {c:Code} {Q:Exit->Act->ah6->Prop} {a:Act} {w:ah6} (h:∀W,W=w->Code.wp P c Q a W):Code.wp P c Q a w:=h w rfl
def tU (md:ah8) (ops:Array Oper) (cB:Array Bool) (i:Nat):Bool:=Region.noSelect ops&&(Region.free md ops cB i&&(ah9 md ops cB).contains i)
theorem cw {P:Program} {l:List Oper} {Q:Exit->Act->ah6->Prop} {md:ah8} {S:ah6->Prop} (i:Nat) {oi:Oper} {v:ah7} {fuel:Nat} {cB:Array Bool} {a:Act} {w:ah6} (hi:l[i]? =some oi)
  (hk:tU md l.toArray cB i=true) (hQ:∀c a w,Q (.panic c) (a.put oi.dst v) w->Q (.panic c) a w) (hw:ai0 oi (yielded l.toArray a.tmps)=true) (hS:S w) (hv:∀w,S w->(execOp a.eval oi).run P w= .ok (.value v) w)
  (h:wpAnyH P md l.toArray Q S fuel (cB.setIfInBounds i true) (a.put oi.dst v) w):wpAnyH P md l.toArray Q S (fuel+1) cB a w:=by
 unfold tU at hk;rw[ah5,ah5]at hk;exact wpAnyH_take (by rw[ai3];exact hi) hk.1 hk.2.1 hk.2.2 hQ (.inl ⟨hw,hv⟩) hS h
theorem py {P:Program} {l:List Oper} {Q:Exit->Act->ah6->Prop} {md:ah8} {S:ah6->Prop} (i:Nat) {oi:Oper} {fuel:Nat} {cB:Array Bool} {a:Act} {w:ah6} (hi:l[i]? =some oi)
  (hk:tU md l.toArray cB i=true) (hQ:∀c a w,Q (.panic c) (a.put oi.dst undef) w->Q (.panic c) a w) (hw:ai0 oi (yielded l.toArray a.tmps)=false) (hS:S w)
  (h:wpAnyH P md l.toArray Q S fuel (cB.setIfInBounds i true) (a.put oi.dst undef) w):wpAnyH P md l.toArray Q S (fuel+1) cB a w:=by
 unfold tU at hk;rw[ah5,ah5]at hk;exact wpAnyH_take (by rw[ai3];exact hi) hk.1 hk.2.1 hk.2.2 hQ (.inr ⟨hw,rfl⟩) hS h
theorem aT {P:Program} {l:List Oper} {Q:Exit->Act->ah6->Prop} {md:ah8} {S:ah6->Prop} (i:Nat) {oi:Oper} {v:ah7} {fuel:Nat} {cB:Array Bool} {a:Act} {w:ah6} (hS:S w)
  (h:wpAnyH P md l.toArray Q S fuel (cB.setIfInBounds i true) (a.put oi.dst v) w) (hi:l[i]? =some oi:=by exact rfl) (hk:tU md l.toArray cB i=true:=by kernel_rfl)
  (hQ:∀c a w,Q (.panic c) (a.put oi.dst v) w->Q (.panic c) a w:=by exact λ_ _ _ h=>h) (hw:ai0 oi (yielded l.toArray a.tmps)=true:=by rfl)
  (hv:∀w,S w->(execOp a.eval oi).run P w= .ok (.value v) w:=by intro w hS;go_simp<;>with_reducible rfl):wpAnyH P md l.toArray Q S (fuel+1) cB a w:=
 cw i hi hk hQ hw hS hv h
theorem yY {P:Program} {l:List Oper} {Q:Exit->Act->ah6->Prop} {md:ah8} {S:ah6->Prop} (i:Nat) {oi:Oper} {fuel:Nat} {cB:Array Bool} {a:Act} {w:ah6} (hS:S w)
  (h:wpAnyH P md l.toArray Q S fuel (cB.setIfInBounds i true) (a.put oi.dst undef) w) (hi:l[i]? =some oi:=by exact rfl) (hk:tU md l.toArray cB i=true:=by kernel_rfl)
  (hQ:∀c a w,Q (.panic c) (a.put oi.dst undef) w->Q (.panic c) a w:=by exact λ_ _ _ h=>h) (hw:ai0 oi (yielded l.toArray a.tmps)=false:=by rfl):wpAnyH P md l.toArray Q S (fuel+1) cB a w:=
 py i hi hk hQ hw hS h
theorem ag {P:Program} {l:List Oper} {Q:Exit->Act->ah6->Prop} {md:ah8} {S:ah6->Prop} (i:Nat) {oi:Oper} {fuel:Nat} {cB:Array Bool} {a:Act} {w:ah6} (hi:l[i]? =some oi)
  (hr:ah9 md l.toArray cB=[i])
  (h:∀K':Act->ah6->Prop,Shut (∀a w,S w->(S w->wpAnyH P md l.toArray Q S fuel (cB.setIfInBounds i true) a w)->K' a w)->if ai0 oi (yielded l.toArray a.tmps)=true then Oper.wp P oi a w K' Q else K' (a.put oi.dst undef) w):
  wpAnyH P md l.toArray Q S (fuel+1) cB a w:=
 wpAnyH_ready hr (by simp) (AllReadyH.cons (by rw[ai3];exact hi) h AllReadyH.nil)
theorem aM {P:Program} {l:List Oper} {Q:Exit->Act->ah6->Prop} {md:ah8} {S:ah6->Prop} {fuel:Nat} {cB:Array Bool} {a:Act} {w:ah6} {i:Nat} {oi:Oper} {rs:List Nat} (hi:l[i]? =some oi)
  (h:∀K':Act->ah6->Prop,Shut (∀a w,S w->(S w->wpAnyH P md l.toArray Q S fuel (cB.setIfInBounds i true) a w)->K' a w)->if ai0 oi (yielded l.toArray a.tmps)=true then Oper.wp P oi a w K' Q else K' (a.put oi.dst undef) w)
  (hs:AllReadyH P md l.toArray Q S fuel cB a w rs):AllReadyH P md l.toArray Q S fuel cB a w (i::rs):=AllReadyH.cons (by rw[ai3];exact hi) h hs
theorem ah {P:Program} {ops:Array Oper} {Q:Exit->Act->ah6->Prop} {md:ah8} {S:ah6->Prop} {fuel:Nat} {cB:Array Bool} {a:Act} {w:ah6} (h:∀W,W=w->wpAnyH P md ops Q S fuel cB a W):wpAnyH P md ops Q S fuel cB a w:=h w rfl
theorem ax:(∀(t:List ah7) (d:List Deferred) (j:Nat) (v:ah7),Act.put ⟨t.toArray,d⟩ (some j) v=⟨(t.set j v).toArray,d⟩)/\ (∀(a:Act) (v:ah7),a.put none v=a)/\
  (∀(x y:ah7) (l:List ah7),(x::l).set 0 y=y::l)/\ (∀(x y:ah7) (l:List ah7) (j:Nat),(x::l).set (j+1) y=x::l.set j y):=
 ⟨λt d j v=>by simp[Act.put],λa v=>rfl,λx y l=>rfl,λx y l j=>rfl⟩
structure En where
 P:ah6->Prop
 foot:Nat->Prop
 dep:∀w w':ah6,(∀c,foot c->w'.heap[c]? =w.heap[c]?)->P w->P w'
 lt:∀w:ah6,P w->∀c,foot c->c<w.heap.size
theorem En.below (e:En) {w w':ah6} (hb:Below w.heap.size w w') (h:e.P w):e.P w':=e.dep w w' (λc hc=>hb.block c (e.lt w h c hc)) h
def iD (w:ah6):List En->Prop
 |[]=>True
 |e::r=>e.P w/\ iD w r
theorem iD.below {w w':ah6} (hb:Below w.heap.size w w'):∀{l:List En},iD w l->iD w' l
 |[],_=>trivial
 |e::_,h=>⟨e.below hb h.1,iD.below hb h.2⟩
structure qy where
 b:Nat
 vs:List ah7
def Bq (vs:List ah7) (T:TypeId):Prop:=(vs.length=11∨vs.length=8)->NP.contains T=true
def dw (w:ah6) (b:Nat) (vs:List ah7):Prop:=∃T,Bq vs T/\ w.heap[b]? =some (.cells vs.toArray T (0,0))
theorem dw.lt {w:ah6} {b:Nat} {vs:List ah7} (h:dw w b vs):b<w.heap.size:=by
 obtain⟨T,_,h⟩:=h;rcases Nat.lt_or_ge b w.heap.size with h1|h1
 ·exact h1
 ·rw[Array.getElem?_eq_none h1]at h;cases h
theorem dw.cell {w:ah6} {b:Nat} {vs:List ah7} (h:dw w b vs) (o:Nat):w.cell? ⟨b,o,none⟩=vs[o]? :=by
 obtain⟨T,_,h⟩:=h;simp[World.cell?,h]
theorem dw.fz {w:ah6} {b:Nat} {vs:List ah7} (h:dw w b vs) (o:Nat):w.frozen? ⟨b,o,none⟩=false:=by
 obtain⟨T,_,h⟩:=h;simp[World.frozen?,h]
theorem dw.ct {w w':ah6} {b:Nat} {vs:List ah7} (h:dw w b vs) (e:w'.heap[b]? =w.heap[b]?):dw w' b vs:=by
 obtain⟨T,hq,h⟩:=h;exact⟨T,hq,e.trans h⟩
theorem dw.cS (w:ah6) (b:Nat) (vs:List ah7) (T:TypeId) (hb:b=w.heap.size) (hq:Bq vs T:=by first|(intro h;simp at h;done)|(intro _;decide)):dw (w.alloc (.cells vs.toArray T)) b vs:=by
 subst hb;exact⟨T,hq,by show(w.heap.push _)[w.heap.size]? =_;rw[Array.getElem?_push_size]⟩
theorem dw.set {w:ah6} {b:Nat} {vs:List ah7} (h:dw w b vs) (o:Nat) (u:ah7):dw (w.setCell ⟨b,o,none⟩ u) b (vs.set o u):=by
 obtain⟨T,hq,h⟩:=h;refine⟨T,λhl=>hq (by simpa using hl),?_⟩;simp[World.setCell,Array.getElem?_modify,h]
theorem dw.dy {w:ah6} {b c:Nat} {vs:List ah7} (h:dw w b vs) (hc:c≠b) (o:Nat) (u:ah7):dw (w.setCell ⟨c,o,none⟩ u) b vs:=
 h.ct (ai1 _ _ _ _ (λe=>hc e.symm))
theorem dw.c2 {w:ah6} {b:Nat} {v0 v1:ah7} (h:dw w b [v0,v1]):w.cell? ⟨b,0,none⟩=some v0/\ w.cell? ⟨b,1,none⟩=some v1:=⟨h.cell 0,h.cell 1⟩
theorem dw.c4 {w:ah6} {b:Nat} {v0 v1 v2 v3:ah7} (h:dw w b [v0,v1,v2,v3]):w.cell? ⟨b,0,none⟩=some v0/\ w.cell? ⟨b,1,none⟩=some v1/\ w.cell? ⟨b,2,none⟩=some v2/\ w.cell? ⟨b,3,none⟩=some v3:=⟨h.cell 0,h.cell 1,h.cell 2,h.cell 3⟩
theorem dw.f2 {w:ah6} {b:Nat} {v0 v1:ah7} (h:dw w b [v0,v1]):w.frozen? ⟨b,0,none⟩=false/\ w.frozen? ⟨b,1,none⟩=false:=⟨h.fz 0,h.fz 1⟩
theorem dw.f4 {w:ah6} {b:Nat} {v0 v1 v2 v3:ah7} (h:dw w b [v0,v1,v2,v3]):w.frozen? ⟨b,0,none⟩=false/\ w.frozen? ⟨b,1,none⟩=false/\ w.frozen? ⟨b,2,none⟩=false/\ w.frozen? ⟨b,3,none⟩=false:=⟨h.fz 0,h.fz 1,h.fz 2,h.fz 3⟩
def R6 (b:Nat):List qy->Prop
 |[]=>True
 |v::r=>v.b<b/\ R6 b r
def WT (b:Nat):List qy->Prop
 |[]=>True
 |v::r=>v.b≠b/\ WT b r
def jh (w:ah6) (B:Nat):List qy->Prop
 |[]=>True
 |v::r=>dw w v.b v.vs/\ B<=v.b/\ WT v.b r/\ jh w B r
theorem R6.apt {b:Nat}:∀{l:List qy},R6 b l->WT b l
 |[],_=>trivial
 | _::_,h=>⟨Nat.ne_of_lt h.1,R6.apt h.2⟩
theorem WT.mem {b:Nat}:∀{l:List qy},WT b l->∀v∈l,v.b≠b
 | _::_,h,v,hv=>by
  rcases ai4.1 hv with rfl|h1
  ·exact h.1
  ·exact WT.mem h.2 v h1
theorem jh.und {w:ah6} {B:Nat}:∀{l:List qy},jh w B l->R6 w.heap.size l
 |[],_=>trivial
 | _::_,h=>⟨h.1.lt,jh.und h.2.2.2⟩
theorem jh.ct {w w':ah6} {B:Nat}:∀{l:List qy},(∀v∈l,w'.heap[v.b]? =w.heap[v.b]?)->jh w B l->jh w' B l
 |[],_,_=>trivial
 |v::_,hh,h=>⟨h.1.ct (hh v (by simp)),h.2.1,h.2.2.1,jh.ct (λu hu=>hh u (by simp[hu])) h.2.2.2⟩
theorem R6.mem {b:Nat}:∀{l:List qy},R6 b l->∀v∈l,v.b<b
 | _::_,h,v,hv=>by
  rcases ai4.1 hv with rfl|h1
  ·exact h.1
  ·exact R6.mem h.2 v h1
def Dis (B:List qy) (N:List En):Prop:=∀e∈N,∀v∈B,¬e.foot v.b
structure Sx (w0 w:ah6) (B:List qy) (N:List En):Prop where
 b:jh w w0.heap.size B
 n:iD w N
 h:Below w0.heap.size w0 w
 d:Dis B N
theorem Sx.start {w:ah6} {N:List En} (h:iD w N):Sx w w [] N:=⟨trivial,h,ai2 _ _,λ_ _ v hv=>by cases hv⟩
theorem Sx.step {w0 w w':ah6} {B:List qy} {N:List En} (s:Sx w0 w B N) (hb:Below w.heap.size w w'):Sx w0 w' B N:=
 ⟨s.b.ct (λv hv=>hb.block _ (s.b.und.mem v hv)),s.n.below hb,Below.ar s.h hb,s.d⟩
theorem Sx.drew {w0 w:ah6} {B:List qy} {N:List En} (s:Sx w0 w B N):Sx w0 w.drew B N:=s.step (ai2 _ _).drew
theorem iD.mem {w:ah6}:∀{l:List En},iD w l->∀e∈l,e.P w
 | _::_,h,e,he=>by
  rcases ai4.1 he with rfl|h1
  ·exact h.1
  ·exact iD.mem h.2 e h1
theorem Sx.var {w0 w:ah6} {B:List qy} {N:List En} (s:Sx w0 w B N) (b:Nat) (vs:List ah7) (T:TypeId) (hb:b=w.heap.size) (hq:Bq vs T:=by first|(intro h;simp at h;done)|(intro _;decide)):Sx w0 (w.alloc (.cells vs.toArray T)) (⟨b,vs⟩::B) N:=by
 have h1:=s.step (af w (.cells vs.toArray T));refine⟨⟨dw.cS w b vs T hb hq,by rw[hb];exact s.h.size,(hb▸s.b.und:R6 b B).apt,h1.b⟩,h1.n,h1.h,λe he v hv hf=>?_⟩;rcases ai4.1 hv with rfl|hv
 ·have:=e.lt w (s.n.mem e he) _ hf;have e2:b<w.heap.size:=this;omega
 ·exact s.d e he v hv hf
theorem Sx.add {w0 w:ah6} {B:List qy} {N:List En} (s:Sx w0 w B N) (e:En) (hP:e.P w) (hd:∀v∈B,¬e.foot v.b):Sx w0 w B (e::N):=
 ⟨s.b,⟨hP,s.n⟩,s.h,λf hfm v hv hc=>by
  rcases ai4.1 hfm with rfl|h2
  ·exact hd v hv hc
  ·exact s.d f h2 v hv hc⟩
theorem Sx.set {w0 w:ah6} (pre post:List qy) {b:Nat} {vs:List ah7} {N:List En} (s:Sx w0 w (pre++⟨b,vs⟩::post) N) (o:Nat) (u:ah7):
  Sx w0 (w.setCell ⟨b,o,none⟩ u) (pre++⟨b,vs.set o u⟩::post) N:=by
 have hB:∀{l:List qy},jh w w0.heap.size l->∀v∈l,w0.heap.size<=v.b:=by
  intro l;induction l with
  |nil=>intro _ v hv;cases hv
  |cons a r ih=>
   intro h v hv;rcases ai4.1 hv with rfl|h1
   ·exact h.2.1
   ·exact ih h.2.2.2 v h1
 have hb0:w0.heap.size<=b:=hB s.b ⟨b,vs⟩ (by simp)
 have key:∀{l:List qy},jh w w0.heap.size (l++⟨b,vs⟩::post)->jh (w.setCell ⟨b,o,none⟩ u) w0.heap.size (l++⟨b,vs.set o u⟩::post):=by
  intro l;induction l with
  |nil=>
   intro h;refine⟨h.1.set o u,h.2.1,h.2.2.1,h.2.2.2.ct λv hv=>ai1 _ _ _ _ ?_⟩;exact h.2.2.1.mem v hv
  |cons a r ih=>
   intro h
   have hne:b≠a.b:=by
    exact h.2.2.1.mem ⟨b,vs⟩ (by simp)
   refine⟨h.1.dy hne o u,h.2.1,?_,ih h.2.2.2⟩;have hu:=h.2.2.1;clear ih h;induction r with
   |nil=>exact⟨hu.1,hu.2⟩
   |cons a' r' ih'=>exact⟨hu.1,ih' hu.2⟩
 refine⟨key s.b,?_,s.h.setCell hb0 u,?_⟩
 ·have hd:∀e∈N,¬e.foot b:=λe he=>s.d e he ⟨b,vs⟩ (by simp)
  have hn:=s.n;clear key hB s;induction N with
  |nil=>trivial
  |cons e r ih=>
   refine⟨e.dep w _ (λc hc=>ai1 _ _ _ _ ?_) hn.1,ih (λf hf=>hd f (by simp[hf])) hn.2⟩;intro e2;have e3:c=b:=e2;subst e3;exact hd e (by simp) hc
 ·intro e he v hv;simp only[List.mem_append,ai4]at hv;rcases hv with h1|rfl|h1
  ·exact s.d e he v (by simp[h1])
  ·exact s.d e he ⟨b,vs⟩ (by simp)
  ·exact s.d e he v (by simp[h1])
theorem Sx.Cf {w0 w:ah6} {u v:qy} {B:List qy} {N:List En} (s:Sx w0 w (u::v::B) N):Sx w0 w (v::u::B) N:=
 ⟨⟨s.b.2.2.2.1,s.b.2.2.2.2.1,⟨λe=>s.b.2.2.1.1 e.symm,s.b.2.2.2.2.2.1⟩,s.b.1,s.b.2.1,s.b.2.2.1.2,s.b.2.2.2.2.2.2⟩,s.n,s.h,λe he x hx=>s.d e he x (by
  rcases ai4.1 hx with rfl|h1
  ·simp
  ·rcases ai4.1 h1 with rfl|h2
   ·simp
   ·simp[h2])⟩
theorem jh.c2 {w:ah6} {B b:Nat} {v0 v1:ah7} {r:List qy} (h:jh w B (⟨b,[v0,v1]⟩::r)):w.cell? ⟨b,0,none⟩=some v0/\ w.cell? ⟨b,1,none⟩=some v1:=h.1.c2
theorem jh.c4 {w:ah6} {B b:Nat} {v0 v1 v2 v3:ah7} {r:List qy} (h:jh w B (⟨b,[v0,v1,v2,v3]⟩::r)):w.cell? ⟨b,0,none⟩=some v0/\ w.cell? ⟨b,1,none⟩=some v1/\ w.cell? ⟨b,2,none⟩=some v2/\ w.cell? ⟨b,3,none⟩=some v3:=h.1.c4
theorem jh.f2 {w:ah6} {B b:Nat} {v0 v1:ah7} {r:List qy} (h:jh w B (⟨b,[v0,v1]⟩::r)):w.frozen? ⟨b,0,none⟩=false/\ w.frozen? ⟨b,1,none⟩=false:=h.1.f2
theorem jh.f4 {w:ah6} {B b:Nat} {v0 v1 v2 v3:ah7} {r:List qy} (h:jh w B (⟨b,[v0,v1,v2,v3]⟩::r)):w.frozen? ⟨b,0,none⟩=false/\ w.frozen? ⟨b,1,none⟩=false/\ w.frozen? ⟨b,2,none⟩=false/\ w.frozen? ⟨b,3,none⟩=false:=h.1.f4
theorem jh.t {w:ah6} {B:Nat} {v:qy} {r:List qy} (h:jh w B (v::r)):jh w B r:=h.2.2.2
theorem iD.t {w:ah6} {e:En} {r:List En} (h:iD w (e::r)):iD w r:=h.2
end Go.Proofs.YtmenbpmciblnlaaGreatDoor
