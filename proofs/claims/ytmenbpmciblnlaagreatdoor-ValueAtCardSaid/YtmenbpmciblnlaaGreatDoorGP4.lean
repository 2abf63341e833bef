/- PlJoin0, PlPile, PlWith, PlSum -/
import Derived.Test.YtmenbpmciblnlaaGreatDoorPlJoin
set_option maxHeartbeats 0
set_option maxRecDepth 100000
open Go.Value renaming slice->a0a
namespace Go.Proofs.YtmenbpmciblnlaaGreatDoor
open Go.RowKit
section
variable {B K:Nat} {ao bo:Option Addr} {n cap m cb:Nat} {p q r:List Term} {w:World}
end
theorem Rw.stepG {B:Nat} {T:TypeId} {sz:Nat} {V V':World} {ao:Option Addr} {n cap:Nat} {X:List (List Value)} (h:Rw B T sz V ao n cap X) {row:Option Nat} (hg:V.grownBy V' row) (hne:∀r,row=some r->blk ao≠some r):Rw B T sz V' ao n cap X:=by
 rcases h.ex with h1|⟨g,off,L,rfl,hB,hA,q⟩
 ·exact⟨.inl h1⟩
 ·exact⟨.inr ⟨g,off,L,rfl,hB,hA.stepG hg (λr e h=>hne r e (by rw[h];rfl)),q⟩⟩
theorem Pw.stepG [Ol] {B K:Nat} {V V':World} {ao:Option Addr} {n cap:Nat} {p:List Term} (h:Pw B K V ao n cap p) {row:Option Nat} (hg:V.grownBy V' row) (hn:∀r,row=some r->lY V r) (hne:∀r,row=some r->blk ao≠some r):Pw B K V' ao n cap p:=by
 obtain⟨X,h1,h2⟩:=h;exact⟨X,h1.stepG hg hne,jH hg hn h2⟩
theorem Pw.lt [Ol] {B K:Nat} {V:World} {ao:Option Addr} {n cap:Nat} {p:List Term} (h:Pw B K V ao n cap p):∀g,blk ao=some g->B<=g/\ g<V.heap.size:=by
 obtain⟨X,h1,_⟩:=h;exact h1.lt
theorem Pw.uF [Ol] {B K:Nat} {V:World} {ao:Option Addr} {n cap:Nat} {p:List Term} (h:Pw B K V ao n cap p):∀g,blk ao=some g->lY V g:=by
 obtain⟨X,h1,_⟩:=h;exact λg hg=>(h1.fT g hg).uF
theorem Pw.iW [Ol] {B K:Nat} {V:World} {ao:Option Addr} {n cap:Nat} {p:List Term} (h:Pw B K V ao n cap p):∀g,blk ao=some g->∃L,bD V g L 70:=by
 obtain⟨X,h1,_⟩:=h;intro g hg;rcases h1.ex with⟨rfl,_⟩|⟨g',off,L,rfl,hB,hA,q⟩
 ·cases hg
 ·cases hg;exact⟨L,hA⟩
def Td:List Value->Option Nat
 |[a0a ao _ _]=>blk ao
 | _=>none
def PD [Ol] (B K:Nat) (w:World) (vs:List Value) (p:List Term):Prop:=∃ao n cap,vs=[a0a ao n cap]/\ Pw B K w ao n cap p/\ fall p
def Y7 (X:List (List Value)):Prop:=X.Pairwise λa b=>∀g,Td a=some g->Td b≠some g
def Off (X:List (List Value)) (o:Option Nat):Prop:=∀g,o=some g->∀vs∈X,Td vs≠some g
def evs:List (List Term)->(Nat->Int)->Int
 |[],_=>0
 |p::ps,ρ=>ev p ρ+evs ps ρ
def lens:List (List Term)->Nat
 |[]=>0
 |p::ps=>p.length+lens ps
theorem BI (ρ:Nat->Int):∀a b:List (List Term),evs (a++b) ρ=evs a ρ+evs b ρ
 |[],b=>by simp[evs]
 |p::a,b=>by simp only[List.cons_append,evs];rw[BI ρ a b];omega
theorem yT:∀a b:List (List Term),lens (a++b)=lens a+lens b
 |[],b=>by simp[lens]
 |p::a,b=>by simp only[List.cons_append,lens];rw[yT a b];omega
theorem PD.stepG [Ol] {B K:Nat} {V V':World} {vs:List Value} {p:List Term} (h:PD B K V vs p) {row:Option Nat} (hg:V.grownBy V' row) (hn:∀r,row=some r->lY V r) (hne:∀r,row=some r->Td vs≠some r):PD B K V' vs p:=by
 obtain⟨ao,n,cap,rfl,h1,h2⟩:=h;exact⟨ao,n,cap,rfl,h1.stepG hg hn hne,h2⟩
theorem PD.mono [Ol] {B K K':Nat} {V:World} {vs:List Value} {p:List Term} (h:PD B K V vs p) (hk:K<=K'):PD B K' V vs p:=by
 obtain⟨ao,n,cap,rfl,h1,h2⟩:=h;exact⟨ao,n,cap,rfl,h1.mono (Nat.le_refl _) hk,h2⟩
theorem nO [Ol] {B K:Nat} {V V':World} {row:Option Nat} (hg:V.grownBy V' row) (hn:∀r,row=some r->lY V r):∀{X:List (List Value)} {ps:List (List Term)},cB (PD B K V) X ps->Off X row->cB (PD B K V') X ps
 |[],[],_,_=>trivial
 |x::X,p::ps,h,hne=>⟨h.1.stepG hg hn (λr e=>hne r e x (by simp)),nO hg hn h.2 (λr e v hv=>hne r e v (by simp[hv]))⟩
 |[],_::_,h,_=>h.elim
 | _::_,[],h,_=>h.elim
theorem jb.take {B:Nat} {e:TypeId} {sz:Nat} {w:World} {ao:Option Addr} {n cap:Nat} {bS:List (List Value)} (h:jb B e sz w ao n cap bS) (k:Nat) (hk:k<=n):jb B e sz w ao k cap (bS.take k):=by
 have hE:Each sz (bS.take k):=λvs hv=>h.each vs (List.mem_of_mem_take hv)
 have hl:(bS.take k).length=k:=by rw[List.length_take,h.len];omega
 have hfl:(bS.take k).flatten=bS.flatten.take (k*sz):=by
  have e1:bS.flatten=(bS.take k).flatten++(bS.drop k).flatten:=by rw[<-List.flatten_append,List.take_append_drop]
  have e2:(bS.take k).flatten.length=k*sz:=by rw[pG hE,hl]
  rw[e1,<-e2,List.take_left]
 refine⟨⟨by rw[pG hE,hl],?_⟩,hl,Nat.le_trans hk h.big,hE,λg hg=>h.C9 g (by cases ao<;>exact hg)⟩;rcases h.row.2 with⟨hv,h0⟩|⟨g,cap',cur,hv,hg,hh,hn,hm,hs,ht⟩
 ·simp only[a0a.injEq]at hv;obtain⟨rfl,rfl,rfl⟩:=hv;obtain rfl:k=0:=by omega
  exact .inl ⟨rfl,rfl⟩
 ·simp only[a0a.injEq,true_and]at hv;obtain⟨rfl,rfl⟩:=hv;refine .inr ⟨g,cap,cur,rfl,hg,hh,by omega,hm,hs,?_⟩;rw[hfl,<-ht,List.take_take,Nat.min_eq_left (Nat.mul_le_mul_right _ hk)]
structure lg [Ol] (B K:Nat) (w:World) (ao:Option Addr) (n cap:Nat) (X:List (List Value)) (ps:List (List Term)):Prop where
 row:jb B 23 1 w ao n cap X
 mem:cB (PD B K w) X ps
 apart:Y7 X
section
variable {B K:Nat} {w V:World} {ao:Option Addr} {n cap:Nat} {X:List (List Value)} {ps:List (List Term)}
theorem lg.nil [Ol] (B K:Nat) (w:World):lg B K w none 0 0 [] []:=⟨jb.nil _ _ _ _,trivial,List.Pairwise.nil⟩
theorem lg.len [Ol] (h:lg B K w ao n cap X ps):X.length=n/\ ps.length=n:=⟨h.row.len,by rw[<-h.mem.len,h.row.len]⟩
theorem lg.below [Ol] (h:lg B K w ao n cap X ps) (hb:Below w.heap.size w V):lg B K V ao n cap X ps:=⟨h.row.below hb,nO (eU none hb) (λ_ e=>by cases e) h.mem (λ_ e=>by cases e),h.apart⟩
theorem lg.mono [Ol] {K':Nat} (h:lg B K w ao n cap X ps) (hk:K<=K'):lg B K' w ao n cap X ps:=⟨h.row,h.mem.imp λ_ _ h=>h.mono hk,h.apart⟩
theorem lg.take [Ol] (h:lg B K w ao n cap X ps) (k:Nat) (hk:k<=n):lg B K w ao k cap (X.take k) (ps.take k):=⟨h.row.take k hk,h.mem.take k,h.apart.sublist (List.take_sublist k X)⟩
theorem lg.far [Ol] (h:lg B K w ao n cap X ps) {g:Nat} {L:List Value} (hA:bD w g L 70) (hn:lY w g) (hoff:Off X (some g)) (hg:w.grownBy V (some g)):lg B K V ao n cap X ps:=by
 refine⟨h.row.keep λa ha=>hg.block a.block ?_ ?_,nO hg (λr e=>by cases e;exact hn) h.mem hoff,h.apart⟩
 ·rcases h.row.parts with⟨h1,_⟩|⟨g',cur,h1,_,hlt,_⟩
  ·rw[h1]at ha;cases ha
  ·rw[h1]at ha;cases ha;exact hlt
 ·intro eq;rcases h.row.parts with⟨h1,_⟩|⟨g',cur,h1,_,hlt,_,hh⟩
  ·rw[h1]at ha;cases ha
  ·rw[h1]at ha;cases ha;have e':g'=g:=Option.some.inj eq;subst e';unfold bD at hA;rw[hh]at hA;cases hA
theorem lg.get [Ol] (h:lg B K w ao n cap X ps) {k:Nat} (hk:k<n):∃g,ao=some ⟨g,0,none⟩/\ g<w.heap.size/\∃po pn pc,X.getD k []=[a0a po pn pc]/\ w.cell? ⟨g,k,none⟩=some (a0a po pn pc)/\ Pw B K w po pn pc (ps.getD k [])/\ fall (ps.getD k []):=by
 have hl:=h.len;obtain⟨po,pn,pc,hv,h1,h2⟩:=cB.get [] h.mem k (by omega);rcases h.row.parts with⟨_,rfl,_⟩|⟨g,cur,rfl,_,hlt,_⟩
 ·omega
 ·refine⟨g,rfl,hlt,po,pn,pc,hv,?_,h1,h2⟩;have:=h.row.gl.cells _ rfl k hk 0 (by omega);rw[Addr.add_lit,hv]at this;simpa using this
end
theorem lg.Te [Ol] {B K:Nat} {w:World} {ao:Option Addr} {n cap:Nat} {X:List (List Value)} {ps:List (List Term)} (h:lg B K w ao n cap X ps):∀{Y:List (List Value)} {qs:List (List Term)},cB (PD B K w) Y qs->Off Y (blk ao)
 |[],[],_=>λ_ _ _ hv=>by cases hv
 |y::Y,q::qs,hY=>λg hg vs hv=>by
  rcases List.mem_cons.1 hv with rfl|hv
  ·obtain⟨po,pn,pc,rfl,h1,_⟩:=hY.1;intro e;obtain⟨L,hL⟩:=h1.iW g e;rcases h.row.parts with⟨h2,_⟩|⟨g',cur,h2,_,_,_,hh⟩
   ·rw[h2]at hg;cases hg
   ·rw[h2]at hg;have e':g'=g:=Option.some.inj hg;subst e';unfold bD at hL;rw[hh]at hL;cases hL
  ·exact lg.Te h hY.2 g hg vs hv
 |[],_::_,hY=>hY.elim
 | _::_,[],hY=>hY.elim
theorem lg.uF [Ol] {B K:Nat} {w:World} {ao:Option Addr} {n cap:Nat} {X:List (List Value)} {ps:List (List Term)} (h:lg B K w ao n cap X ps):∀r,blk ao=some r->lY w r:=λr hr=>(h.row.C9 r (by cases ao with
 |none=>cases hr
 |some a=>exact hr)).uF
def RI [Ol] (B K n:Nat) (w:World) (ps:List (List Term)) (p:List Term) (e:Ending) (V:World):Prop:=
 ∃so n' cap' X' ps' K',e= .returned (a0a so n' cap')/\ lg B K' V so n' cap' X' ps'/\ K'+n'<=K+n+1/\ n'<=n+1/\ (∀ρ,evs ps' ρ=evs ps ρ+ev p ρ)/\ lens ps'<=lens ps+p.length/\ Below B w V
structure Tf [Ol] (B K0 n0:Nat) (w:World) (ps0:List (List Term)) (p0:List Term) (K:Nat) (so:Option Addr) (n cap:Nat) (po:Option Addr) (pn pc:Nat) (X:List (List Value)) (ps:List (List Term)) (p:List Term) (V:World):Prop where
 pl:lg B K V so n cap X ps
 pw:Pw B K V po pn pc p
 fl:fall p
 off:Off X (blk po)
 vs:∀ρ,evs ps ρ+ev p ρ=evs ps0 ρ+ev p0 ρ
 ln:lens ps+p.length<=lens ps0+p0.length
 kn:K+n<=K0+n0
 nn:n<=n0
 bw:Below B w V
 bz:B<=V.heap.size
theorem Tf.fin [Ol] {B K0 n0:Nat} {w:World} {ps0:List (List Term)} {p0:List Term} {K:Nat} {so:Option Addr} {n cap:Nat} {po:Option Addr} {pn pc:Nat} {X:List (List Value)} {ps:List (List Term)} {p:List Term} {V:World} (h:Tf B K0 n0 w ps0 p0 K so n cap po pn pc X ps p V) {ao:Option Addr} {c:Nat} {V3:World} {T:TypeId}
  (hO:jb B 23 1 V3 ao (n+1) c (X++[[a0a po pn pc]])) (hB:Below B w V3) (hG:(V.alloc (.cells [a0a po pn pc].toArray T)).grownBy V3 (a0a so n cap).ownBlock):RI B K0 n0 w ps0 p0 (.returned (a0a ao (n+1) c)) V3:=by
 have hA:=af V (.cells [a0a po pn pc].toArray T);have h1:=h.pl.below hA;have h2:=h.pw.below hA;have e:(a0a so n cap).ownBlock=blk so:=LB so n cap;rw[e]at hG;have hn:=h1.uF;have hm:cB (PD B K (V.alloc (.cells [a0a po pn pc].toArray T))) (X++[[a0a po pn pc]]) (ps++[p]):=cB.append h1.mem ⟨⟨po,pn,pc,rfl,h2,h.fl⟩,trivial⟩;refine⟨ao,n+1,c,X++[[a0a po pn pc]],ps++[p],K,rfl,⟨hO,nO hG hn hm (h1.Te hm),?_⟩,by have:=h.kn;omega,by have:=h.nn;omega,λρ=>?_,?_,hB⟩
 ·refine List.pairwise_append.2 ⟨h.pl.apart,List.pairwise_singleton _ _,λa ha b hb=>?_⟩;simp at hb;subst hb;intro g hg hg2;exact h.off g hg2 a ha hg
 ·rw[BI,<-h.vs];simp[evs]
 ·rw[yT];have:=h.ln;simp only[lens];omega
theorem at_mem [Ol] {B K:Nat} {V:World}:∀{Y:List (List Value)} {qs:List (List Term)},cB (PD B K V) Y qs->∀vs∈Y,∀g,Td vs=some g->∃L,bD V g L 70
 |[],[],_,_,h,_,_=>by cases h
 |y::Y,q::qs,hq,vs,hvs,g,hg=>by
  rcases List.mem_cons.1 hvs with rfl|hvs
  ·obtain⟨a,b,c,rfl,h1,_⟩:=hq.1;exact h1.iW g hg
  ·exact at_mem hq.2 vs hvs g hg
 |[],_::_,hq,_,_,_,_=>hq.elim
 | _::_,[],hq,_,_,_,_=>hq.elim
theorem Tf.step [Ol] {B K0 n0:Nat} {w:World} {ps0:List (List Term)} {p0:List Term} {K:Nat} {so:Option Addr} {n cap:Nat} {po:Option Addr} {pn pc:Nat} {X:List (List Value)} {ps:List (List Term)} {p:List Term} {V V':World} (h:Tf B K0 n0 w ps0 p0 K so n cap po pn pc X ps p V) {row:Option Nat} (hg:V.grownBy V' row) (hn:∀r,row=some r->lY V r)
  (hne:∀r,row=some r->(∀L,¬bD V r L 70)/\ blk so≠some r/\ B<=r):Tf B K0 n0 w ps0 p0 K so n cap po pn pc X ps p V':=by
 refine{ h with pl:=⟨h.pl.row.keep λa ha=>hg.block a.block ?_ (λe=>(hne _ e.symm).2.1 (by rw[ha];rfl)),nO hg hn h.pl.mem (λr e vs hv e2=>?_),h.pl.apart⟩,pw:=h.pw.stepG hg hn (λr e e2=>?_),bw:=h.bw.grown hg h.bz (λr e=>(hne r e).2.2),bz:=Nat.le_trans h.bz hg.size }
 ·rcases h.pl.row.parts with⟨h1,_⟩|⟨g',cur,h1,_,hlt,_⟩
  ·rw[h1]at ha;cases ha
  ·rw[h1]at ha;cases ha;exact hlt
 ·obtain⟨L,hL⟩:=at_mem h.pl.mem vs hv r e2;exact(hne r e).1 L hL
 ·obtain⟨L,hL⟩:=h.pw.iW r e2;exact(hne r e).1 L hL
theorem Tf.own [Ol] {B K0 n0:Nat} {w:World} {ps0:List (List Term)} {p0:List Term} {K:Nat} {so:Option Addr} {n cap:Nat} {po:Option Addr} {pn pc:Nat} {X:List (List Value)} {ps:List (List Term)} {p:List Term} {V V':World} (h:Tf B K0 n0 w ps0 p0 K so n cap po pn pc X ps p V) {D:Nat} {row:Option Nat} (hg:V.grownBy V' row) (hr:∀r,row=some r->D<=r/\∃o:Obj,V.heap[r]? =some o/\ o.isCells=false) (hB:B<=D):Tf B K0 n0 w ps0 p0 K so n cap po pn pc X ps p V':=
 h.step hg (λr e=>by obtain⟨_,o,h1,h2⟩:=hr r e;exact D6 h1 h2) (λr e=>by
  obtain⟨h0,o,h1,h2⟩:=hr r e;refine⟨λL hA=>hA.xV h1 h2 rfl,λe2=>?_,by omega⟩;rcases h.pl.row.parts with⟨h3,_⟩|⟨g',cur,h3,_,_,_,hh⟩
  ·rw[h3]at e2;cases e2
  ·rw[h3]at e2;have e':g'=r:=Option.some.inj e2;subst e';rw[hh]at h1;cases h1;cases h2)
theorem Tf.below [Ol] {B K0 n0:Nat} {w:World} {ps0:List (List Term)} {p0:List Term} {K:Nat} {so:Option Addr} {n cap:Nat} {po:Option Addr} {pn pc:Nat} {X:List (List Value)} {ps:List (List Term)} {p:List Term} {V V':World} (h:Tf B K0 n0 w ps0 p0 K so n cap po pn pc X ps p V) (hb:Below V.heap.size V V'):Tf B K0 n0 w ps0 p0 K so n cap po pn pc X ps p V':=
 h.step (eU none hb) (λ_ e=>by cases e) (λ_ e=>by cases e)
end Go.Proofs.YtmenbpmciblnlaaGreatDoor
