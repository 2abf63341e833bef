import Derived.Test.YtmenbpmciblnlaaGreatDoorGP1
set_option maxHeartbeats 0
set_option maxRecDepth 100000
open And renaming intro->ah5
open Array renaming toList_append->ah7,toList_map->ah6
open Bool renaming and_eq_true->ah8
open Go renaming Value->ai0,World->ah9
open Go.Addr renaming add_lit->ai1
open Go.Builtin renaming append->ai5,append_->ai4,clear_->ai6,nextslicecap->ai3,zeroCells->ai2
open Go.RowKit renaming Below->ai7
open Go.RowKit.Below renaming heap_setCell->ai9,refl->ai8
open Go.Value renaming agg->aj2,bool->aj1,cells->aj3,slice->aj0
open Int renaming natCast_mul->aj5,sign_eq_zero_iff_zero->aj4
open List renaming eq_nil_of_length_eq_zero->aj8,getD->aj6,getElem?_append_left->ak3,getElem?_eq_getElem->aj7,getElem?_eq_some_iff->ak6,getElem_mem->ak1,length_append->ak4,length_map->ak0,length_set->ak2,length_take->ak5,mem_map->aj9
open Nat renaming add_assoc->ak8,add_mul->al0,add_zero->al6,le_refl->ak7,le_trans->al1,lt_of_lt_of_le->al2,mod_lt->al3,mul_le_mul_right->ak9,mul_ne_zero->al5,zero_add->al4
open Option.some renaming inj->al7
namespace Go.Proofs.YtmenbpmciblnlaaGreatDoor
open Go.RowKit
def wS (t:kr):Bool:=tO t.1.1 t.1.2.length t.1.2&& !(t.1.2.length==0)&&aQ 0 t.2
def ri (ps:List kr) (t:Nat):Bool:=wS (ps.getD t gO)&&(t==0||iq (ps.getD (t-1) gO).2 (ps.getD t gO).2==1)
def jZ (ps:List kr):Bool:=decide (∀t,t<ps.length->ri ps t=true)
theorem vB {ps:List kr} (t:Nat) (ht:t<ps.length) (h:ri ps t=false):jZ ps=false:=decide_eq_false λg=>by rw[g t ht]at h;cases h
theorem RX {ps:List kr} {t:Nat} (h:t<ps.length):ps.getD t gO=ps[t]:=by simp[aj6,aj7 h]
theorem uO:∀p:List ai,(∀t∈p,t.1≠0/\ aQ 0 t.2=true)->(∀i,i+1<p.length->ni (p.getD i (0,[])).2 (p.getD (i+1) (0,[])).2)->bD p
 |[],_,_=>trivial
 |[t],h,_=>by
  refine⟨(h t (by simp)).1,(h t (by simp)).2,?_,trivial⟩;intro s hs;cases hs
 |t::s::r,h,ha=>by
  have ih:=uO (s::r) (λu hu=>h u (by simp[hu])) (λi hi=>by
   have:=ha (i+1) (by simpa using hi);simpa using this)
  have h0:ni t.2 s.2:=by
   have:=ha 0 (by simp);simpa using this
  refine⟨(h t (by simp)).1,(h t (by simp)).2,λu hu=>?_,ih⟩;rcases List.mem_cons.1 hu with rfl|hu
  ·exact h0
  ·exact kv h0 (ih.2.2.1 u hu)
theorem Er:∀{p:List ai},bD p->∀i,i+1<p.length->ni (p.getD i (0,[])).2 (p.getD (i+1) (0,[])).2
 |t::s::r,h,0,_=>by
  have:=h.2.2.1 s (by simp);simpa using this
 |t::r,h,i+1,hi=>by
  have:=Er h.2.2.2 i (by simpa using hi);simpa using this
 |[t],_,0,hi=>by simp at hi
theorem xM {t:kr} (hw:Wf t.1.2) (h:wS t=true):t=ir (iP t)/\ (iP t).1≠0/\ aQ 0 t.2=true:=by
 unfold wS at h;rw[ah8,ah8,xe hw]at h;obtain⟨⟨h1,h2⟩,h3⟩:=h;have h1:=of_decide_eq_true h1;refine⟨?_,λh0=>?_,h3⟩
 ·obtain⟨⟨m,xs⟩,ps⟩:=t;exact Prod.ext (Prod.ext h1.1 h1.2) rfl
 ·have h4:cV t.1.1 (au t.1.2)=0:=h0;rw[h4]at h1;rw[h1.2]at h2;simp[fE]at h2
theorem Lr {t:ai} (h0:t.1≠0) (hm:aQ 0 t.2=true):wS (ir t)=true:=by
 unfold wS;rw[ah8,ah8];refine⟨⟨?_,?_⟩,hm⟩
 ·show tO (decide (t.1<0)) (aq t.1.natAbs).length (aq t.1.natAbs)=true;rw[xe (dv _)];simp only[av,vr];simp
 ·have hl:(aq t.1.natAbs).length≠0:=λe=>by
   have h:=av t.1.natAbs;rw[aj8 e,di]at h;omega
  unfold ir;simpa using hl
theorem sW {α β:Type} (f:α->β) (d:α) (e:β) (l:List α) (i:Nat) (hi:i<l.length):(l.map f).getD i e=f (l.getD i d):=by
 simp[aj6,aj7 hi]
theorem rQ {ps:List kr} (hw:∀t∈ps,Wf t.1.2) (h:jZ ps=true):bD (ps.map iP)/\ ps=(ps.map iP).map ir:=by
 have h:=of_decide_eq_true h
 have hT:∀i,i<ps.length->wS (ps.getD i gO)=true:=λi hi=>by
  have:=h i hi;unfold ri at this;rw[ah8]at this;exact this.1
 have hM:∀t∈ps,wS t=true:=λt ht=>by
  obtain⟨i,hi,rfl⟩:=List.getElem_of_mem ht;rw[<-RX hi];exact hT i hi
 refine⟨uO _ (λt ht=>?_) (λi hi=>?_),?_⟩
 ·obtain⟨s,hs,rfl⟩:=aj9.1 ht;exact(xM (hw s hs) (hM s hs)).2
 ·rw[ak0]at hi;rw[sW iP gO (0,[]) ps i (by omega),sW iP gO (0,[]) ps (i+1) hi];have h1:=h (i+1) hi;unfold ri at h1;rw[ah8,show i+1-1=i from rfl]at h1;have h2:iq (ps.getD i gO).2 (ps.getD (i+1) gO).2=1:=by simpa using h1.2
  have hm:∀j,j<ps.length->aQ 0 (ps.getD j gO).2=true:=λj hj=>by
   rw[RX hj];exact(xM (hw _ (ak1 _)) (hM _ (ak1 hj))).2.2
  exact FI (hm i (by omega)) (hm (i+1) hi) h2
 ·rw[List.map_map]
  conv=>lhs;rw[<-List.map_id ps]
  exact List.map_congr_left λt ht=>(xM (hw t ht) (hM t ht)).1
theorem zH {p:List ai} (h:bD p):jZ (p.map ir)=true:=by
 refine decide_eq_true λi hi=>?_
 rw[ak0]at hi
 have hm:∀j,j<p.length->(p.getD j (0,[])).1≠0/\ aQ 0 (p.getD j (0,[])).2=true:=λj hj=>by
  have e:p.getD j (0,[])=p[j]:=by simp[aj6,aj7 hj]
  rw[e];exact⟨lG h _ (ak1 _),cC h _ (ak1 _)⟩
 unfold ri;rw[sW ir (0,[]) gO p i hi,Lr (hm i hi).1 (hm i hi).2];cases i with
 |zero=>rfl
 |succ j=>
  rw[show j+1-1=j from rfl,sW ir (0,[]) gO p j (by omega)];have:=Uw (hm j (by omega)).2 (hm (j+1) hi).2 (Er h j hi);simp[ir]at this ⊢;exact this
theorem gp (w:ah9) (u:List ai0) (S:TypeId):aS (w.alloc (.cells u.toArray S)) w.heap.size u S/\ ai7 w.heap.size w (w.alloc (.cells u.toArray S)):=
 ⟨aS.cS w u S,af w _⟩
theorem Je (w:ah9) (u v:List ai0) (S T:TypeId):
  aS ((w.alloc (.cells u.toArray S)).alloc (.cells v.toArray T)) w.heap.size u S/\ aS ((w.alloc (.cells u.toArray S)).alloc (.cells v.toArray T)) (w.heap.size+1) v T/\ ai7 w.heap.size w ((w.alloc (.cells u.toArray S)).alloc (.cells v.toArray T)):=by
 have h1:=aS.cS (w.alloc (.cells u.toArray S)) v T;rw[World.size_alloc]at h1;exact⟨(aS.cS w u S).below (af _ _),h1,((ai8 _ w).alloc (ak7 _) _).alloc (by simp) _⟩
theorem zG [Ol] (z:Int) {xm ym:Bool} {xa ya xp yp:Z'} {xn xc xq xr yn yc yq yr:Nat} {ps qs:List (Int×Int)} {w:ah9} (hx:Ml w xp xq xr ps) (hy:Ml w yp yq yr qs) (h1:aQ 0 ps=true) (h2:aQ 0 qs=true) (hz:iq ps qs=z):
  Calls Tryz.prog 91 #[.agg #[aj1 xm,aj0 xa xn xc,aj0 xp xq xr],.agg #[aj1 ym,aj0 ya yn yc,aj0 yp yq yr]] w (cr (.int .i64 z) w):=by
 have HX:=Lib.hid hx;have HY:=Lib.hid hy;have HZ:Hid (JM ps qs=(z,0)):=by unfold JM;rw[Hid,if_pos ⟨h1,h2⟩,hz]
 clear hx hy h1 h2 hz;go_enter Tryz.func91,Tryz.ntmps91;go_upto_region 1 with(fail)
 refine aj (λW hW=>?_);obtain⟨a1,a2,hB⟩:=Je w [aj1 xm,aj0 xa xn xc,aj0 xp xq xr] [aj1 ym,aj0 ya yn yc,aj0 yp yq yr] 70 70;rw[<-hW]at a1 a2 hB;clear hW;have c1:=a1.cell 2;have c2:=a2.cell 2;simp only[List.getElem?_cons_succ,List.getElem?_cons_zero]at c1 c2;have HB:=Lib.hid hB;clear a1 a2 hB;go_wp2_with fail;refine(FN z 0 (HX.o.below HB.o) (HY.o.below HB.o) HZ.o).mono ?_;rintro e w' ⟨rfl,hB⟩;have HB2:=Lib.hid (Below.ar HB.o hB);clear hB HB c1 c2;go_wp2_with fail;go_ret;exact⟨rfl,HB2.o⟩
def O6 (w:ah9) (b o:Nat) (u0 u1 u2:ai0):Prop:=∀V:ah9,ai7 w.heap.size w V->V.cell? ⟨b,o,none⟩=some u0/\ V.cell? ⟨b,o+1,none⟩=some u1/\ V.cell? ⟨b,o+2,none⟩=some u2
theorem Gl.O7 [Ol] {w:ah9} {b off n ae:Nat} {bF:List (List ai0)} (h:Gl 3 w (some ⟨b,off,none⟩) n ae bF) {k:Nat} (hk:k<n) {u0 u1 u2:ai0} (e:bF.getD k []=[u0,u1,u2]):O6 w b (off+k*3) u0 u1 u2:=by
 intro V hV;have hc:=λj hj=>(h.below hV).cells _ rfl k hk j hj
 have h0:=hc 0 (by omega);have h1:=hc 1 (by omega);have h2:=hc 2 (by omega);rw[e]at h0 h1 h2;rw[ai1]at h0 h1 h2;rw[<-ak8]at h0 h1 h2;exact⟨h0,h1,h2⟩
theorem Gl.I7 [Ol] {sz:Nat} {w:ah9} {ao:Z'} {n ae:Nat} {bF:List (List ai0)} (h:Gl sz w ao n ae bF) (hn:0<n):∃b off,ao=some ⟨b,off,none⟩/\ b<w.heap.size:=by
 obtain⟨b,off,h1,h2,_⟩:=h.at hn;exact⟨b,off,h1,h2⟩
theorem Pr.at [Ol] {w:ah9} {ao:Z'} {n ae:Nat} {ps:List kr} (h:Pr w ao n ae ps) {k:Nat} (hk:k<n):
  ∃b off xa xn xc xp xq xr,ao=some ⟨b,off,none⟩/\ b<w.heap.size/\ O6 w b (off+k*3) (aj1 (ps.getD k gO).1.1) (aj0 xa xn xc) (aj0 xp xq xr)/\ Sl w xa xn xc (ps.getD k gO).1.2/\ Ml w xp xq xr (ps.getD k gO).2:=by
 have hl:=h.len;obtain⟨bF,hG,hT⟩:=h.ex;obtain⟨b,off,rfl,hb⟩:=hG.I7 (by omega);obtain⟨xa,xn,xc,xp,xq,xr,hv,h1,h2⟩:=bV.get gO hT k (by omega);exact⟨b,off,xa,xn,xc,xp,xq,xr,rfl,hb,hG.O7 hk hv,h1,h2⟩
theorem Pc.at [Ol] {K:Nat} {w:ah9} {ao:Z'} {n ae:Nat} {p:List ai} (h:Pc K w ao n ae p) {k:Nat} (hk:k<n):
  ∃b off xm xa xn xc xp xq xr,ao=some ⟨b,off,none⟩/\ b<w.heap.size/\ O6 w b (off+k*3) (aj1 xm) (aj0 xa xn xc) (aj0 xp xq xr)/\ Cn w xm xa xn xc (p.getD k (0,[])).1/\ Bd (p.getD k (0,[])).1 K/\ Ml w xp xq xr (p.getD k (0,[])).2:=by
 have hl:=h.len;obtain⟨bF,hG,hT⟩:=h.ex;obtain⟨b,off,rfl,hb⟩:=hG.I7 (by omega);obtain⟨xm,xa,xn,xc,xp,xq,xr,hv,h1,h2,h3⟩:=bV.get (0,[]) hT k (by omega);exact⟨b,off,xm,xa,xn,xc,xp,xq,xr,rfl,hb,hG.O7 hk hv,h1,h2,h3⟩
theorem gI {α:Type} {l:List α} {k:Nat} (d:α) (h:k<l.length):l.getD k d=l[k]:=by simp[aj6,aj7 h]
theorem gK {α:Type} {l:List α} {k:Nat} (d:α) (h:k<l.length):l.getD k d∈l:=by rw[gI d h];exact ak1 _
theorem aS.c3 {w:ah9} {b:Nat} {u0 u1 u2:ai0} {T:TypeId} (h:aS w b [u0,u1,u2] T):w.cell? ⟨b,0,none⟩=some u0/\ w.cell? ⟨b,1,none⟩=some u1/\ w.cell? ⟨b,2,none⟩=some u2:=⟨h.cell 0,h.cell 1,h.cell 2⟩
theorem aS.f3 {w:ah9} {b:Nat} {u0 u1 u2:ai0} {T:TypeId} (h:aS w b [u0,u1,u2] T):w.frozen? ⟨b,0,none⟩=false/\ w.frozen? ⟨b,1,none⟩=false/\ w.frozen? ⟨b,2,none⟩=false:=⟨h.fz 0,h.fz 1,h.fz 2⟩
theorem aS.c1 {w:ah9} {b:Nat} {u0:ai0} {T:TypeId} (h:aS w b [u0] T):w.cell? ⟨b,0,none⟩=some u0:=h.cell 0
theorem aS.f1 {w:ah9} {b:Nat} {u0:ai0} {T:TypeId} (h:aS w b [u0] T):w.frozen? ⟨b,0,none⟩=false:=h.fz 0
theorem aS.c2 {w:ah9} {b:Nat} {u0 u1:ai0} {T:TypeId} (h:aS w b [u0,u1] T):w.cell? ⟨b,0,none⟩=some u0/\ w.cell? ⟨b,1,none⟩=some u1:=⟨h.cell 0,h.cell 1⟩
theorem Kk {xm:Bool} {xs:List Nat} {Ts:List (Int×Int)} (hw:Wf xs):wS ((xm,xs),Ts)=(tO xm xs.length xs&& !((cV xm (au xs)).sign==0)&&aQ 0 Ts):=by
 unfold wS;show(tO xm xs.length xs&& !(xs.length==0)&&aQ 0 Ts)=_;cases hA:tO xm xs.length xs with
 |false=>rfl
 |true=>
  rw[xe hw]at hA;have h2:=(of_decide_eq_true hA).2
  congr 2
  congr 1
  by_cases h0:cV xm (au xs)=0
  ·rw[h0]at h2 ⊢;rw[h2];rfl
  ·have h3:(cV xm (au xs)).sign≠0:=λe=>h0 (aj4.1 e)
   have h4:xs.length≠0:=λe=>by
    have e2:xs=[]:=aj8 e;rw[e2]at h0;exact h0 (by cases xm<;>rfl)
   rw[show(xs.length==0)=false from by simpa using h4,show((cV xm (au xs)).sign==0)=false from by simpa using h3]
def et (L:List ai0):Prop:=∀u∈L,bB u=true
def lV:List ai0->Nat->List ai0->List ai0
 |L,_,[]=>L
 |L,o,v::r=>lV (L.set o v) (o+1) r
theorem dJ:∀(vs L:List ai0) (o:Nat),(lV L o vs).length=L.length
 |[],_,_=>rfl
 |v::r,L,o=>by rw[lV,dJ r,ak2]
theorem iw:∀(vs L:List ai0) (o i:Nat),i<o∨o+vs.length<=i->(lV L o vs)[i]? =L[i]?
 |[],_,_,_,_=>rfl
 |v::r,L,o,i,h=>by
  rw[lV,iw r _ _ i (by simp at h;omega),List.getElem?_set_ne (by simp at h;omega)]
theorem iz:∀(vs L:List ai0) (o i:Nat),o<=i->i<o+vs.length->i<L.length->(lV L o vs)[i]? =vs[i-o]?
 |[],_,_,_,h,h2,_=>by simp at h2;omega
 |v::r,L,o,i,h,h2,h3=>by
  rw[lV];by_cases e:i=o
  ·subst e;rw[iw r _ _ _ (by omega),Nat.sub_self,List.getElem?_set_self (by omega)];rfl
  ·rw[iz r _ _ i (by omega) (by simp at h2;omega) (by rw[ak2];exact h3),show i-o=(i-(o+1))+1 by omega];rfl
theorem Ls {L:List ai0} (h:et L) (o:Nat) {v:ai0} (hv:bB v=true):et (L.set o v):=λu hu=>by
 rcases List.mem_or_eq_of_mem_set hu with h1|h1
 ·exact h u h1
 ·rw[h1];exact hv
theorem jw:∀(vs L:List ai0) (o:Nat),et L->et vs->et (lV L o vs)
 |[],_,_,h,_=>h
 |v::r,L,o,h,hv=>jw r _ _ (Ls h o (hv v (by simp))) λu hu=>hv u (by simp[hu])
def jo (sz:Nat) (L:List ai0) (off:Nat) (X:List (List ai0)):Prop:=∀t,t<X.length->∀j,j<sz->L[off+t*sz+j]? =(X.getD t [])[j]?
theorem jo.nil (sz:Nat) (L:List ai0) (off:Nat):jo sz L off []:=λt ht=>by simp at ht
theorem jo.dy {sz:Nat} {L:List ai0} {off:Nat} {X:List (List ai0)} (h:jo sz L off X) {o:Nat} {vs:List ai0} (hf:o+vs.length<=off∨off+X.length*sz<=o):jo sz (lV L o vs) off X:=λt ht j hj=>by
 rw[iw _ _ _ _ ?_]
 ·exact h t ht j hj
 ·have:(t+1)*sz<=X.length*sz:=ak9 _ ht;rw[al0]at this;omega
theorem jo.here {sz:Nat} {L:List ai0} {o:Nat} {X:List (List ai0)} (hE:Each sz X) (hl:o+X.length*sz<=L.length):jo sz (lV L o X.flatten) o X:=λt ht j hj=>by
 have:(t+1)*sz<=X.length*sz:=ak9 _ ht;rw[al0]at this;rw[iz _ _ _ _ (by omega) (by rw[kO hE];omega) (by omega),show o+t*sz+j-o=t*sz+j by omega];exact oM hE t j ht hj
theorem jo.append {sz:Nat} {L:List ai0} {off:Nat} {X Y:List (List ai0)} (h:jo sz L off X) (h2:jo sz L (off+X.length*sz) Y):jo sz L off (X++Y):=λt ht j hj=>by
 by_cases ht2:t<X.length
 ·rw[h t ht2 j hj];simp[aj6,ak3 ht2]
 ·rw[ak4]at ht;obtain⟨s,rfl⟩:∃s,t=X.length+s:=⟨t-X.length,by omega⟩;have:=h2 s (by omega) j hj;rw[show off+(X.length+s)*sz+j=off+X.length*sz+s*sz+j by rw[al0];omega,this];simp[aj6,List.getElem?_append_right]
theorem jo.take {sz:Nat} {L:List ai0} {off:Nat} {X:List (List ai0)} (h:jo sz L off X) (k:Nat):jo sz L off (X.take k):=λt ht j hj=>by
 rw[ak5]at ht;rw[h t (by omega) j hj];simp[aj6,show t<k by omega]
theorem jo.one {L:List ai0} {o:Nat} {a b c:ai0} (h:o+2<L.length):jo 3 (lV L o [a,b,c]) o [[a,b,c]]:=λt ht j hj=>by
 simp at ht;subst ht;rw[iz _ _ _ _ (by omega) (by simp;omega) (by omega),show o+0*3+j-o=j by omega];rfl
theorem jo.cons {sz:Nat} {L:List ai0} {off:Nat} {x:List ai0} {X:List (List ai0)} (h:jo sz L off [x]) (h2:jo sz L (off+sz) X):jo sz L off (x::X):=by
 have:=jo.append h (Y:=X) (by simpa using h2);simpa using this
theorem jo.cast {sz:Nat} {L:List ai0} {off off':Nat} {X:List (List ai0)} (h:jo sz L off X) (e:off=off'):jo sz L off' X:=e▸h
theorem aS.dD {w:ah9} {g:Nat} {L:List ai0} {T:TypeId} (h:aS w g L T) (hc:et L):dV w g:=λcur T' fr hh u hu=>by
 unfold aS at h;rw[h]at hh;cases hh;simp at hu;exact hc u hu
theorem aS.put {w:ah9} {g:Nat} {L:List ai0} {T:TypeId} (h:aS w g L T):∀(vs:List ai0) (o:Nat),aS (w.setCells g o vs) g (lV L o vs) T:=by
 intro vs;induction vs generalizing w L with
 |nil=>intro o;exact h
 |cons v r ih=>intro o;exact ih (h.set o v) (o+1)
theorem aS.Zw {w:ah9} {g:Nat} {L:List ai0} {T:TypeId} (h:aS w g L T) (o:Nat) (a b c:ai0):aS (((w.setCell ⟨g,o,none⟩ a).setCell ⟨g,o+1,none⟩ b).setCell ⟨g,o+2,none⟩ c) g (lV L o [a,b,c]) T:=((h.set o a).set (o+1) b).set (o+2) c
theorem eD (w:ah9) (g o:Nat) (a b c:ai0):w.grownBy (((w.setCell ⟨g,o,none⟩ a).setCell ⟨g,o+1,none⟩ b).setCell ⟨g,o+2,none⟩ c) (some g):=
 ⟨rfl,rfl,rfl,by simp,λk _ hk=>by
  have hk2:k≠g:=λe=>hk (by rw[e])
  rw[ai9 _ _ _ _ hk2,ai9 _ _ _ _ hk2,ai9 _ _ _ _ hk2]⟩
theorem br (w:ah9) (g o:Nat) (a:ai0):w.grownBy (w.setCell ⟨g,o,none⟩ a) (some g):=
 ⟨rfl,rfl,rfl,by simp,λk _ hk=>ai9 _ _ _ _ (λe=>hk (by rw[e]))⟩
theorem ju (g:Nat):∀(vs:List ai0) (w:ah9) (o:Nat),w.grownBy (w.setCells g o vs) (some g)
 |[],w,_=>⟨rfl,rfl,rfl,ak7 _,λ_ _ _=>rfl⟩
 |v::r,w,o=>by
  have h1:=br w g o v;have h2:=ju g r (w.setCell ⟨g,o,none⟩ v) (o+1);exact⟨h2.os.trans h1.os,h2.tape.trans h1.tape,h2.output.trans h1.output,al1 h1.size h2.size,λk hk hne=>(h2.block k (al2 hk h1.size) hne).trans (h1.block k hk hne)⟩
theorem cD {w w1 w2:ah9} {r:Option Nat} (h1:w.grownBy w1 r) (h2:w1.grownBy w2 r):w.grownBy w2 r:=
 ⟨h2.os.trans h1.os,h2.tape.trans h1.tape,h2.output.trans h1.output,al1 h1.size h2.size,λk hk hne=>(h2.block k (al2 hk h1.size) hne).trans (h1.block k hk hne)⟩
theorem cu {w w1:ah9} (r:Option Nat) (h:ai7 w.heap.size w w1):w.grownBy w1 r:=⟨h.os,h.tape,h.output,h.size,λk hk _=>h.block k hk⟩
theorem aS.apart {w w1:ah9} {b:Nat} {L:List ai0} {T:TypeId} (h:aS w b L T) {r:Option Nat} (hg:w.grownBy w1 r) (hne:some b≠r):aS w1 b L T:=h.ct (hg.block b h.lt hne)
theorem gS {B:Nat} {w w1:ah9} {g:Nat} (h:w.grownBy w1 (some g)) (hB:B<=g) (hs:B<=w.heap.size):ai7 B w w1:=
 ⟨h.os,h.tape,h.output,h.size,λk hk=>h.block k (by omega) (λe=>by cases e;omega)⟩
structure Rw (B:Nat) (T:TypeId) (sz:Nat) (w:ah9) (ao:Option Addr) (n ae:Nat) (X:List (List ai0)):Prop where
 ex:(ao=none/\ n=0/\ ae=0/\ X=[])∨ ∃g off L,ao=some ⟨g,off,none⟩/\ B<=g/\ aS w g L T/\ et L/\ off+ae*sz<=L.length/\ n<=ae/\ ae<=maxLen/\ n<=4398046511104/\ X.length=n/\ Each sz X/\ jo sz L off X
theorem Rw.zero (B:Nat) (T:TypeId) (sz:Nat) (w:ah9):Rw B T sz w none 0 0 []:=⟨.inl ⟨rfl,rfl,rfl,rfl⟩⟩
theorem Rw.gl [Ol] {B:Nat} {T:TypeId} {sz:Nat} {w:ah9} {ao:Z'} {n ae:Nat} {X:List (List ai0)} (h:Rw B T sz w ao n ae X):Gl sz w ao n ae X:=by
 rcases h.ex with⟨rfl,rfl,rfl,rfl⟩|⟨g,off,L,rfl,_,hA,hcl,hl,hn,_,hb,hX,hE,hS⟩
 ·exact Gl.zero sz w
 ·refine Gl.eK hX hn hb hE (λ_=>hA.lt) (λ_=>Kp.vk (hA.dD hcl)) λt ht j hj=>?_
  rw[hA.cell];exact hS t (by omega) j hj
theorem Rw.below {B:Nat} {T:TypeId} {sz:Nat} {w w':ah9} {ao:Z'} {n ae:Nat} {X:List (List ai0)} (h:Rw B T sz w ao n ae X) (hb:ai7 w.heap.size w w'):Rw B T sz w' ao n ae X:=by
 rcases h.ex with h1|⟨g,off,L,rfl,hB,hA,r⟩
 ·exact⟨.inl h1⟩
 ·exact⟨.inr ⟨g,off,L,rfl,hB,hA.below hb,r⟩⟩
theorem Rw.mono {B B':Nat} {T:TypeId} {sz:Nat} {w:ah9} {ao:Z'} {n ae:Nat} {X:List (List ai0)} (h:Rw B T sz w ao n ae X) (hB:B'<=B):Rw B' T sz w ao n ae X:=by
 rcases h.ex with h1|⟨g,off,L,rfl,hb,r⟩
 ·exact⟨.inl h1⟩
 ·exact⟨.inr ⟨g,off,L,rfl,by omega,r⟩⟩
def eQ (ao:Z'):Option Nat:=ao.map (·.block)
theorem H' (ao:Z') (n ae:Nat):(aj0 ao n ae).ownBlock=eQ ao:=by cases ao<;>rfl
theorem Rw.apart {B:Nat} {T:TypeId} {sz:Nat} {w w':ah9} {ao:Z'} {n ae:Nat} {X:List (List ai0)} (h:Rw B T sz w ao n ae X) {r:Option Nat} (hg:w.grownBy w' r) (hne:eQ ao=none∨eQ ao≠r):Rw B T sz w' ao n ae X:=by
 rcases h.ex with h1|⟨g,off,L,rfl,hB,hA,q⟩
 ·exact⟨.inl h1⟩
 ·refine⟨.inr ⟨g,off,L,rfl,hB,hA.apart hg ?_,q⟩⟩;rcases hne with h2|h2
  ·cases h2
  ·exact h2
theorem Rw.lt {B:Nat} {T:TypeId} {sz:Nat} {w:ah9} {ao:Z'} {n ae:Nat} {X:List (List ai0)} (h:Rw B T sz w ao n ae X):∀g,eQ ao=some g->B<=g/\ g<w.heap.size:=by
 intro g hg;rcases h.ex with⟨rfl,_⟩|⟨g',off,L,rfl,hB,hA,q⟩
 ·cases hg
 ·cases hg;exact⟨hB,hA.lt⟩
theorem Rw.dD {B:Nat} {T:TypeId} {sz:Nat} {w:ah9} {ao:Z'} {n ae:Nat} {X:List (List ai0)} (h:Rw B T sz w ao n ae X):∀g,eQ ao=some g->dV w g:=by
 intro g hg;rcases h.ex with⟨rfl,_⟩|⟨g',off,L,rfl,hB,hA,hc,q⟩
 ·cases hg
 ·cases hg;exact hA.dD hc
theorem G7 [Ol] {K:Nat} {w:ah9} {vs:List ai0} {t:ai} (h:gL K w vs t):∀u∈vs,bB u=true:=by
 obtain⟨m,ao,n,ae,bo,k,cb,rfl,_⟩:=h;intro u hu;simp at hu;rcases hu with rfl|rfl|rfl<;>rfl
theorem fF [Ol] {K:Nat} {w w':ah9} {X:List (List ai0)} {p:List ai} (h:bV (gL K w) X p) (hb:ai7 w.heap.size w w'):bV (gL K w') X p:=h.imp λ_ _ h=>h.below hb
theorem qP [Ol] {K:Nat} {w w':ah9} {g:Nat} {X:List (List ai0)} {p:List ai} (h:bV (gL K w) X p) (hc:dV w g) (hg:w.grownBy w' (some g)):bV (gL K w') X p:=h.imp λ_ _ h=>h.fM hc hg
theorem Aj [Ol] {K L:Nat} {w:ah9} {X:List (List ai0)} {p:List ai} (h:bV (gL K w) X p) (hk:K<=L):bV (gL L w) X p:=h.imp λ_ _ h=>h.mono hk
def Pw [Ol] (B K:Nat) (w:ah9) (ao:Z') (n ae:Nat) (p:List ai):Prop:=∃X,Rw B 70 3 w ao n ae X/\ bV (gL K w) X p
theorem Pw.pc [Ol] {B K:Nat} {w:ah9} {ao:Z'} {n ae:Nat} {p:List ai} (h:Pw B K w ao n ae p):Pc K w ao n ae p:=by
 obtain⟨X,h1,h2⟩:=h;exact⟨X,h1.gl,h2⟩
theorem Pw.len [Ol] {B K:Nat} {w:ah9} {ao:Z'} {n ae:Nat} {p:List ai} (h:Pw B K w ao n ae p):p.length=n:=h.pc.len
theorem Pw.below [Ol] {B K:Nat} {w w':ah9} {ao:Z'} {n ae:Nat} {p:List ai} (h:Pw B K w ao n ae p) (hb:ai7 w.heap.size w w'):Pw B K w' ao n ae p:=by
 obtain⟨X,h1,h2⟩:=h;exact⟨X,h1.below hb,fF h2 hb⟩
theorem Pw.mono [Ol] {B B' K K':Nat} {w:ah9} {ao:Z'} {n ae:Nat} {p:List ai} (h:Pw B K w ao n ae p) (hB:B'<=B) (hK:K<=K'):Pw B' K' w ao n ae p:=by
 obtain⟨X,h1,h2⟩:=h;exact⟨X,h1.mono hB,Aj h2 hK⟩
theorem Pw.zero [Ol] (B K:Nat) (w:ah9):Pw B K w none 0 0 []:=⟨[],Rw.zero _ _ _ _,trivial⟩
def I8 [Ol] (K:Nat) (w:ah9) (p:List ai) (e:Ending) (w':ah9):Prop:=∃ao n ae,e= .returned (aj0 ao n ae)/\ Pw w.heap.size K w' ao n ae p/\ ai7 w.heap.size w w'
def VL [Ol] (K:Nat) (w:ah9) (t:ai) (e:Ending) (w':ah9):Prop:=∃m ao n ae bo k cb,e= .returned (.agg #[aj1 m,aj0 ao n ae,aj0 bo k cb])/\ (Cn w' m ao n ae t.1/\ Bd t.1 K/\ Ml w' bo k cb t.2)/\ ai7 w.heap.size w w'
open Lib (hid)
theorem Vo (w:ah9) (u v z:List ai0) (S T R:TypeId):
  aS (((w.alloc (.cells u.toArray S)).alloc (.cells v.toArray T)).alloc (.cells z.toArray R)) w.heap.size u S/\ aS (((w.alloc (.cells u.toArray S)).alloc (.cells v.toArray T)).alloc (.cells z.toArray R)) (w.heap.size+1) v T/\ aS (((w.alloc (.cells u.toArray S)).alloc (.cells v.toArray T)).alloc (.cells z.toArray R)) (w.heap.size+1+1) z R/\ ai7 w.heap.size w (((w.alloc (.cells u.toArray S)).alloc (.cells v.toArray T)).alloc (.cells z.toArray R)):=by
 obtain⟨a,b,h⟩:=Je w u v S T;have h1:=aS.cS ((w.alloc (.cells u.toArray S)).alloc (.cells v.toArray T)) z R;have e:((w.alloc (.cells u.toArray S)).alloc (.cells v.toArray T)).heap.size=w.heap.size+1+1:=by simp[ak8]
 rw[e]at h1;exact⟨a.below (af _ _),b.below (af _ _),h1,h.alloc (by rw[e];omega) _⟩
theorem Cn.dy {w:ah9} {m:Bool} {ao:Z'} {n ae:Nat} {z:Int} (h:Cn w m ao n ae z) {b:Nat} {L:List ai0} {T:TypeId} (hA:aS w b L T) (hc:et L) {w':ah9} (hg:w.grownBy w' (some b)):Cn w' m ao n ae z:=
 ⟨h.neg,h.sl.len,h.sl.le,h.sl.big,h.sl.wf,h.sl.nil,λad had t ht=>hg.cell (h.sl.cells ad had t ht) λeq=>(aS.dD hA hc).dy (h.sl.cells ad had t ht) (al7 eq)⟩
theorem fH (w:ah9) (g o:Nat) (a b:ai0):w.grownBy ((w.setCell ⟨g,o,none⟩ a).setCell ⟨g,o+1,none⟩ b) (some g):=cD (br w g o a) (br _ g (o+1) b)
theorem nT {Q:ah9->Prop} {w:ah9} (h:∀W,W=w->Q W):Q w:=h w rfl
theorem xN (m:Bool) (ao:Z') (n ae:Nat):et [aj1 m,aj0 ao n ae]:=λu hu=>by simp at hu;rcases hu with rfl|rfl<;>rfl
theorem OA [Ol] {m k:Bool} {ao bo:Z'} {n ae l cb:Nat} {x y:Int} {w:ah9} (hx:Cx w m ao n ae x) (hy:Cx w k bo l cb y):
  Calls Tryz.prog 72 #[.agg #[aj1 m,aj0 ao n ae],.agg #[aj1 k,aj0 bo l cb]] w (mA w (x+y)):=by
 have HX:=hid hx;have HY:=hid hy;obtain⟨s,hs⟩:∃s,x.sign=s:=⟨_,rfl⟩;obtain⟨C,hC⟩:∃C,(s==0)=C:=⟨_,rfl⟩;have HS:=hid hs;clear hx hy hs;go_enter Tryz.func72,Tryz.ntmps72;go_upto_region 1 with(fail)
 refine aj (λW hW=>?_);obtain⟨a1,a2,a3,hB⟩:=Vo w [aj1 m,aj0 ao n ae] [aj1 k,aj0 bo l cb] [aj1 false,aj0 none 0 0] 29 29 29;rw[<-hW]at a1 a2 a3 hB;clear hW;obtain⟨c0,c1⟩:=a1.c2;have A1:=hid a1;have A2:=hid a2;have A3:=hid a3;have HB:=hid hB;clear a1 a2 a3 hB;go_wp2_with fail;refine(iZ s (HX.o.below HB.o).nx HS.o).mono ?_;rintro e w1 ⟨rfl,hB⟩;have HB1:=hid (Below.ar HB.o hB);have A11:=hid (A1.o.below hB);have A21:=hid (A2.o.below hB);have VM:=hid (A3.o.below hB);clear hB HB A1 A2 A3 c0 c1;cases C with
 |true=>
  have HZ:Hid (x=0):=by
   have h:s=0:=by simpa using hC
   rw[<-HS.o]at h;exact aj4.1 h
  obtain⟨c0,c1⟩:=A21.o.c2;obtain⟨d0,d1⟩:=VM.o.c2;have f0:=VM.o.fz 0;have f1:=VM.o.fz 1;go_wp2_with fail;refine nT (Q:=bodyPost _ _ _ _ _) (λW hW=>?_);have A3:aS W (w.heap.size+1+1) [aj1 k,aj0 bo l cb] 29:=by rw[hW];exact(VM.o.set 0 (aj1 k)).set 1 (aj0 bo l cb)
  have HC:Cn W k bo l cb y:=by rw[hW];exact(HY.o.below HB1.o).cn.dy VM.o (xN _ _ _ _) (fH _ _ _ _ _)
  have xZ:ai7 w.heap.size w W:=by rw[hW];exact(HB1.o.setCell (p:=⟨w.heap.size+1+1,0,none⟩) (by show w.heap.size<=w.heap.size+1+1;omega) _).setCell (p:=⟨w.heap.size+1+1,1,none⟩) (by show w.heap.size<=w.heap.size+1+1;omega) _
  clear hW c0 c1 d0 d1 f0 f1;obtain⟨d0,d1⟩:=A3.c2;refine bodyPost_ret (v:= .agg #[aj1 k,aj0 bo l cb]) (by simp[results,Tryz.results72,go_sem,d0,d1]) rfl ?_;exact⟨_,_,_,_,rfl,by rw[HZ.o,Int.zero_add];exact HC,xZ⟩
 |false=>
  obtain⟨c0,c1⟩:=A11.o.c2;obtain⟨d0,d1⟩:=A21.o.c2;go_wp2_with fail;refine(mB (HX.o.below HB1.o).nx (HY.o.below HB1.o).nx).mono ?_;rintro e w2 ⟨rm,ra,rn,rc,rfl,hR,hB⟩;have HB2:=hid (Below.ar HB1.o hB);have Zy:=hid (VM.o.below hB);have HR:=hid hR;clear hB HB1 A11 A21 VM c0 c1 d0 d1 hR;obtain⟨d0,d1⟩:=Zy.o.c2;have f0:=Zy.o.fz 0;have f1:=Zy.o.fz 1;go_wp2_with fail;refine nT (Q:=bodyPost _ _ _ _ _) (λW hW=>?_);have A3:aS W (w.heap.size+1+1) [aj1 rm,aj0 ra rn rc] 29:=by rw[hW];exact(Zy.o.set 0 (aj1 rm)).set 1 (aj0 ra rn rc)
  have HC:Cn W rm ra rn rc (x+y):=by rw[hW];exact HR.o.dy Zy.o (xN _ _ _ _) (fH _ _ _ _ _)
  have xZ:ai7 w.heap.size w W:=by rw[hW];exact(HB2.o.setCell (p:=⟨w.heap.size+1+1,0,none⟩) (by show w.heap.size<=w.heap.size+1+1;omega) _).setCell (p:=⟨w.heap.size+1+1,1,none⟩) (by show w.heap.size<=w.heap.size+1+1;omega) _
  clear hW d0 d1 f0 f1;obtain⟨d0,d1⟩:=A3.c2;refine bodyPost_ret (v:= .agg #[aj1 rm,aj0 ra rn rc]) (by simp[results,Tryz.results72,go_sem,d0,d1]) rfl ?_;exact⟨_,_,_,_,rfl,HC,xZ⟩
open Lib (hid)
theorem Tryz.qh:(Tryz.prog.info? 70).map (λi=>(i.zero,i.size,i.bytes))=some (some (.agg #[aj1 false,aj0 none 0 0,aj0 none 0 0]),3,56):=by kernel_rfl
def nU (n:Nat):List ai0:=(madeCells #[aj1 false,aj0 none 0 0,aj0 none 0 0] (n*3)).toList
theorem Es (n:Nat):(nU n).length=n*3:=by simp[nU,size_madeCells]
theorem yL (n:Nat):et (nU n):=by
 intro u hu;simp only[nU,madeCells,ah6,aj9]at hu;obtain⟨j,_,rfl⟩:=hu;have hj:j%3<3:=al3 _ (by omega);show bB ((#[aj1 false,aj0 none 0 0,aj0 none 0 0]:Array ai0)[j%3]!)=true;obtain⟨i,hi⟩:∃i,i=j%3:=⟨_,rfl⟩;rw[<-hi]at hj ⊢
 match i,hj with
 |0,_=>rfl
 |1,_=>rfl
 |2,_=>rfl
def jV [Ol] (K:Nat) (w:ah9) (g n k:Nat) (ts:List ai) (V:ah9):Prop:=
 ∃L Y,aS V g L 70/\ et L/\ L.length=n*3/\ jo 3 L 0 Y/\ Each 3 Y/\ bV (gL K V) Y (ts.take k)/\ ai7 w.heap.size w V
theorem jV.step [Ol] {K:Nat} {w:ah9} {g n k:Nat} {ts:List ai} {V V':ah9} (h:jV K w g n k ts V) (hb:ai7 V.heap.size V V'):jV K w g n k ts V':=by
 obtain⟨L,Y,h1,h2,h3,h4,h5,h6,h7⟩:=h;exact⟨L,Y,h1.below hb,h2,h3,h4,h5,fF h6 hb,Below.ar h7 hb⟩
theorem jV.cells [Ol] {K:Nat} {w:ah9} {g n k:Nat} {ts:List ai} {V:ah9} (h:jV K w g n k ts V) (hk:k<n):
  (∃a b c,V.cell? ⟨g,k*3,none⟩=some a/\ V.cell? ⟨g,k*3+1,none⟩=some b/\ V.cell? ⟨g,k*3+2,none⟩=some c)/\ V.frozen? ⟨g,k*3,none⟩=false/\ V.frozen? ⟨g,k*3+1,none⟩=false/\ V.frozen? ⟨g,k*3+2,none⟩=false:=by
 obtain⟨L,Y,h1,h2,h3,h4,h5,h6,h7⟩:=h;have hl:(k+1)*3<=n*3:=ak9 _ hk;refine⟨⟨_,_,_,(h1.cell (k*3)).trans (aj7 (by omega)),(h1.cell (k*3+1)).trans (aj7 (by omega)),(h1.cell (k*3+2)).trans (aj7 (by omega))⟩,h1.fz _,h1.fz _,h1.fz _⟩
theorem jV.put [Ol] {K:Nat} {w:ah9} {g n k:Nat} {ts:List ai} {V:ah9} (h:jV K w g n k ts V) (hk:k<n) (hts:ts.length=n) (hg:w.heap.size<=g) {m:Bool} {ao:Z'} {na ae:Nat} {bo:Z'} {l cb:Nat}
  (hC:Cn V m ao na ae (ts.getD k (0,[])).1) (hB:Bd (ts.getD k (0,[])).1 K) (hM:Ml V bo l cb (ts.getD k (0,[])).2):
  jV K w g n (k+1) ts (((V.setCell ⟨g,k*3,none⟩ (aj1 m)).setCell ⟨g,k*3+1,none⟩ (aj0 ao na ae)).setCell ⟨g,k*3+2,none⟩ (aj0 bo l cb)):=by
 obtain⟨L,Y,h1,h2,h3,h4,h5,h6,h7⟩:=h;have hl:(k+1)*3<=n*3:=ak9 _ hk;have hY:Y.length=k:=by rw[h6.len,ak5];omega
 have e:ts.take (k+1)=ts.take k++[ts.getD k (0,[])]:=by
  rw[List.take_succ_eq_append_getElem (by omega),gI _ (by omega)]
 have WV:=eD V g (k*3) (aj1 m) (aj0 ao na ae) (aj0 bo l cb);refine⟨lV L (k*3) [aj1 m,aj0 ao na ae,aj0 bo l cb],Y++[[aj1 m,aj0 ao na ae,aj0 bo l cb]],h1.Zw _ _ _ _,jw _ _ _ h2 (λu hu=>by simp at hu;rcases hu with rfl|rfl|rfl<;>rfl),by rw[dJ,h3],?_,h5.append (Each.YA rfl (λu hu=>by simp at hu;rcases hu with rfl|rfl|rfl<;>rfl)),?_,?_⟩
 ·refine jo.append (h4.dy (.inr (by rw[hY];omega))) ?_;rw[hY,al4];exact jo.one (by omega)
 ·rw[e];refine bV.append (qP h6 (h1.dD h2) WV) ⟨⟨m,ao,na,ae,bo,l,cb,rfl,hC.dy h1 h2 WV,hB,?_⟩,trivial⟩
  exact⟨hM.len,hM.le,hM.big,hM.wf,hM.nil,λad had t ht=>⟨WV.cell (hM.cells ad had t ht).1 (λeq=>(h1.dD h2).dy (hM.cells ad had t ht).1 (al7 eq)),WV.cell (hM.cells ad had t ht).2 (λeq=>(h1.dD h2).dy (hM.cells ad had t ht).2 (al7 eq))⟩,λh0 ad had=>by
   obtain⟨x,hx⟩:=hM.int h0 had;exact(hM.kp h0 ad had).grown (hM.Hh h0 had) WV λeq=>(h1.dD h2).dy hx (al7 eq)⟩
 ·exact h7.trans (gS WV hg h7.size)
theorem jV.done [Ol] {K:Nat} {w:ah9} {g n:Nat} {ts:List ai} {V:ah9} (h:jV K w g n n ts V) (hn:n<=1000000) (hts:ts.length=n) (hg:g=w.heap.size):I8 K w ts (.returned (aj0 (some ⟨g,0,none⟩) n n)) V:=by
 obtain⟨L,Y,h1,h2,h3,h4,h5,h6,h7⟩:=h;rw[List.take_of_length_le (by omega)]at h6;refine⟨_,_,_,rfl,⟨Y,⟨.inr ⟨g,0,L,rfl,by omega,h1,h2,by omega,ak7 _,by unfold maxLen;omega,by omega,by rw[h6.len,hts],h5,h4⟩⟩,h6⟩,h7⟩
theorem Et [Ol] {G:Nat} {lb:Array ai0} (eg:∀args w,(callFunc G args).run Tryz.prog w= .ok (.enter G args) w) {K:Nat} {ao:Z'} {n ae:Nat} {bF:List (List ai0)} {ts:List ai} {w:ah9} (hG:Gl 3 w ao n ae bF) (hn:n<=1000000) (hts:ts.length=n) (hS:∀k,k<n->∃xm xa xn xc xp xq xr,bF.getD k []=[aj1 xm,aj0 xa xn xc,aj0 xp xq xr])
  (hF:∀k,k<n->∀W,ai7 w.heap.size w W->Calls Tryz.prog G (#[.agg (bF.getD k []).toArray]++lb) W (VL K W (ts.getD k (0,[])))):
  Calls Tryz.prog 117 #[aj0 ao n ae,.func (.func G) #[] lb] w (I8 K w ts):=by
 obtain⟨i0,hi,hz0,hz1,hz2⟩:=info_parts Tryz.qh
 have hmk:∀W:ah9,(Instr.makeSlice 22 (.int .i64 (n:Int)) (.int .i64 (n:Int))).run Tryz.prog W= .ok (aj0 (some ⟨W.heap.size,0,none⟩) n n) (W.alloc (.cells (nU n).toArray 70)):=by
  intro W;have h:=run_make (P:=Tryz.prog) W 22 70 i0 _ Tryz.underlying22 hi hz0 .i64 .i64 (n:Int) (n:Int) (by omega) (by omega) (by rw[hz2];omega) (by omega);rw[h,hz1];simp[nU];rfl
 have hle:=hG.le;have HF:=hid hF;have HSH:=hid hS;have HG:=hid hG;have HT:=hid hts;have HN:=hid hn;clear hF hG hts hS hi hz0 hz1 hz2;go_enter Tryz.func117,Tryz.ntmps117;go_upto_region 2 with(fail)
 refine aj (λW hW=>?_)
 have HE:Hid (jV K w w.heap.size n 0 ts W):=by
  rw[hW];exact⟨nU n,[],aS.cS _ _ _,yL n,Es n,jo.nil _ _ _,(λ_ h=>by cases h),by simp[bV],af _ _⟩
 clear hW hmk;go_wp2;go_loopw [13] (λi wr=>∃k:Nat,i= .int .i64 k/\ k<=n/\ Hid (jV K w w.heap.size n k ts wr)) (λi _=>n-(intOf i).toNat)
 case atStart=>exact⟨0,rfl,Nat.zero_le _,HE.o⟩
 case round=>
  clear HE;obtain⟨k,rfl,hk,HE⟩:=hrel;by_cases hkn:k<n
  ·obtain⟨L,Y,_,_,_,_,_,_,hBw⟩:=HE.o;have hGw:=HG.o.below hBw;obtain⟨b,off,hao,hb,hc⟩:=hGw.at (by omega);subst hao;obtain⟨xm,xa,xn,xc,xp,xq,xr,hv⟩:=HSH.o k hkn;obtain⟨c0,c1,c2⟩:=hGw.O7 hkn hv wr (ai8 _ _);have HFk:=HF.o k hkn;rw[hv]at HFk;have HFK:=hid HFk;clear HFk hGw hc hv hBw;go_upto_region 5 with(fail)
   refine aj (λW hW=>?_);have a1:aS W wr.heap.size [aj1 xm,aj0 xa xn xc,aj0 xp xq xr] 70/\ ai7 wr.heap.size wr W:=by rw[hW];exact gp wr [aj1 xm,aj0 xa xn xc,aj0 xp xq xr] 70
   clear hW c0 c1 c2;have vv:=hid (HE.o.step a1.2);obtain⟨c0,c1,c2⟩:=a1.1.c3;clear a1 HE;obtain⟨L,Y,_,_,_,_,_,_,hBw⟩:=vv.o;have HC:=hid (HFK.o W hBw);clear hBw;go_wp2_with (go_at_fn G;refine HC.o.mono ?_;rintro e w2 ⟨m,ra,rn,rc,rb,rk,rd,rfl,⟨hC,hD,hM⟩,hB⟩;have HE2:=hid (vv.o.step hB);have HM:=hid (ah5 hC (ah5 hD hM));obtain⟨⟨v0,v1,v2,d0,d1,d2⟩,f0,f1,f2⟩:=HE2.o.cells hkn;clear c0 c1 c2 hC hD hM hB vv);go_roundw
   case rel=>exact⟨k+1,by go_num,by omega,HE2.o.put hkn HT.o (ak7 _) HM.o.1 HM.o.2.1 HM.o.2.2⟩
   case measure=>simp[intOf];omega
  ·obtain rfl:k=n:=by omega
   go_wp2;go_ret;exact HE.o.done HN.o HT.o rfl
open Lib (hid)
theorem jS (m:Bool) (ao:Z') (n ae:Nat) (bo:Z') (l cb:Nat):et [aj1 m,aj0 ao n ae,aj0 bo l cb]:=λu hu=>by simp at hu;rcases hu with rfl|rfl|rfl<;>rfl
theorem O8 {w:ah9} {g b o:Nat} (h:b≠g) (u v z:ai0):(((w.setCell ⟨g,o,none⟩ u).setCell ⟨g,o+1,none⟩ v).setCell ⟨g,o+2,none⟩ z).heap[b]? =w.heap[b]? :=by
 rw[ai9 _ _ _ _ h,ai9 _ _ _ _ h,ai9 _ _ _ _ h]
theorem Lt [Ol] {m:Bool} {ao:Z'} {n ae:Nat} {bo:Z'} {l cb:Nat} {x:Int} {ps:List (Int×Int)} {K:Nat} {w:ah9} (hx:Nx w m ao n ae x) (hd:Bd x K) (hm:Ml w bo l cb ps):
  Calls Tryz.prog 118 #[.agg #[aj1 m,aj0 ao n ae,aj0 bo l cb]] w (VL K w (x,ps)):=by
 go_enter Tryz.func118,Tryz.ntmps118;go_upto_region 1 with(fail)
 refine aj (λW hW=>?_);obtain⟨a1,a2,hB⟩:=Je w [aj1 m,aj0 ao n ae,aj0 bo l cb] [aj1 false,aj0 none 0 0,aj0 none 0 0] 70 70;rw[<-hW]at a1 a2 hB;clear hW;have A0:=hid a1;have R0:=hid a2;have HB0:=hid hB;clear a1 a2 hB;refine wp_region_held_drew (S:=λw'=>w'.cell? ⟨w.heap.size,0,none⟩=some (aj1 m)/\ w'.cell? ⟨w.heap.size,1,none⟩=some (aj0 ao n ae)/\ w'.cell? ⟨w.heap.size,2,none⟩=some (aj0 bo l cb)) (by kernel_rfl) A0.o.c3 (λhH=>?_);refine ah (λw1 hW=>?_);have HB1:Hid (ai7 w.heap.size w w1):=by rw[hW];exact HB0.o.drew
 have A1:Hid (aS w1 w.heap.size [aj1 m,aj0 ao n ae,aj0 bo l cb] 70):=by rw[hW];exact A0.o.below (ai8 _ _).drew
 have R1:Hid (aS w1 (w.heap.size+1) [aj1 false,aj0 none 0 0,aj0 none 0 0] 70):=by rw[hW];exact R0.o.below (ai8 _ _).drew
 rw[<-hW]at hH;clear HB0 A0 R0;clear hW;refine aT 0 hH ?_;try simp only[ax]
 refine aT 1 hH ?_;try simp only[ax]
 refine aT 2 hH ?_;try simp only[ax]
 refine aT 4 hH ?_;try simp only[ax]
 refine aT 5 hH ?_;try simp only[ax]
 refine ag 3 rfl (by kernel_rfl) (λKK hK=>?_);go_simp;refine(mB (hx.below HB1.o) ((ny _).nx)).mono ?_;rintro e w2 ⟨rm,ra,rn,rc,rfl,hC,hB⟩;rw[Int.add_zero]at hC;have A2:=hid (A1.o.below hB);have R2:=hid (R1.o.below hB);have HB2:=hid (Below.ar HB1.o hB);have C2:=hid hC;clear hB hC A1 R1 HB1;go_wp2_with fail;clear hH;refine hK.o _ _ A2.o.c3 λhH=>?_;clear hK KK
 try simp only[ax]
 refine ag 6 rfl (by kernel_rfl) (λKK hK=>?_);go_simp;refine(KD (hm.below HB2.o)).mono ?_;rintro e w3 ⟨ma,mn,mc,rfl,hM,hB⟩;have A3:=hid (A2.o.below hB);have R3:=hid (R2.o.below hB);have HB3:=hid (Below.ar HB2.o hB);have M3:=hid hM.ml;have C3:=hid (C2.o.below hB);clear hB hM A2 R2 HB2 C2;go_wp2_with fail;clear hH;refine hK.o _ _ A3.o.c3 λhH=>?_;clear hK KK
 try simp only[ax]
 refine aT 7 hH ?_;try simp only[ax]
 obtain⟨d0,d1,d2⟩:=R3.o.c3;obtain⟨f0,f1,f2⟩:=R3.o.f3;refine ag 8 rfl (by kernel_rfl) (λKK hK=>?_);go_simp;clear d0 d1 d2 f0 f1 f2;clear hH;refine hK.o _ _ (aS.c3 (T:=70) (A3.o.ct (O8 (Nat.ne_of_lt (Nat.lt_succ_self _)) _ _ _))) λhH=>?_;clear hK KK
 try simp only[ax]
 refine wpAnyH_done (by kernel_rfl) ?_ _
 go_wp2_with fail;refine nT (Q:=bodyPost _ _ _ _ _) (λW hW=>?_);have R:aS W (w.heap.size+1) [aj1 rm,aj0 ra rn rc,aj0 ma mn mc] 70:=by rw[hW];exact((R3.o.set 0 _).set 1 _).set 2 _
 have HC:Cn W rm ra rn rc x:=by rw[hW];exact C3.o.fM (R3.o.dD (jS _ _ _ _ _ _ _)) (eD _ _ 0 _ _ _)
 have HM:Ml W ma mn mc ps:=by rw[hW];exact M3.o.fM (R3.o.dD (jS _ _ _ _ _ _ _)) (eD _ _ 0 _ _ _)
 have xZ:ai7 w.heap.size w W:=by rw[hW];exact HB3.o.trans (gS (eD _ _ 0 _ _ _) (by omega) HB3.o.size)
 clear hW;obtain⟨d0,d1,d2⟩:=R.c3;refine bodyPost_ret (v:= .agg #[aj1 rm,aj0 ra rn rc,aj0 ma mn mc]) (by simp[results,Tryz.results118,go_sem,d0,d1,d2]) rfl ?_;exact⟨_,_,_,_,_,_,_,rfl,⟨HC,hd,HM⟩,xZ⟩
theorem Pi.gl3 [Ol] {K:Nat} {w:ah9} {ao:Z'} {n ae:Nat} {p:List ai} (h:Pi K w ao n ae p):∃bF,Gl 3 w ao n ae bF/\∀k,k<n->∃xm xa xn xc xp xq xr,bF.getD k []=[aj1 xm,aj0 xa xn xc,aj0 xp xq xr]/\ In w xm xa xn xc (p.getD k (0,[])).1/\ xn<=K/\ Ml w xp xq xr (p.getD k (0,[])).2:=by
 have hl:=h.len;obtain⟨bF,h1,h2⟩:=h.ex;exact⟨bF,h1,λk hk=>bV.get (0,[]) h2 k (by omega)⟩
theorem Pc.gl3 [Ol] {K:Nat} {w:ah9} {ao:Z'} {n ae:Nat} {p:List ai} (h:Pc K w ao n ae p):∃bF,Gl 3 w ao n ae bF/\∀k,k<n->∃xm xa xn xc xp xq xr,bF.getD k []=[aj1 xm,aj0 xa xn xc,aj0 xp xq xr]/\ Cn w xm xa xn xc (p.getD k (0,[])).1/\ Bd (p.getD k (0,[])).1 K/\ Ml w xp xq xr (p.getD k (0,[])).2:=by
 have hl:=h.len;obtain⟨bF,h1,h2⟩:=h.ex;exact⟨bF,h1,λk hk=>bV.get (0,[]) h2 k (by omega)⟩
theorem Dn [Ol] {K:Nat} {ao:Z'} {n ae:Nat} {p:List ai} {w:ah9} (h:Pi K w ao n ae p) (hn:n<=1000000) (hK:K<=1000000):
  Calls Tryz.prog 71 #[aj0 ao n ae] w (I8 K w p):=by
 have hl:=h.len;obtain⟨bF,hG,hE⟩:=h.gl3;have eg:∀args w,(callFunc 118 args).run Tryz.prog w= .ok (.enter 118 args) w:=enters_of Tryz.func118 (by kernel_rfl) rfl;have hE':∀W,Calls Tryz.prog 117 #[aj0 ao n ae,.func (.func 118) #[] #[]] w W->Calls Tryz.prog 117 #[aj0 ao n ae,.func (.func 118) #[] #[]] w W:=λ_ h=>h
 have hC:=Et eg (K:=K) (ts:=p) hG hn hl (λk hk=>by obtain⟨xm,xa,xn,xc,xp,xq,xr,hv,_⟩:=hE k hk;exact⟨xm,xa,xn,xc,xp,xq,xr,hv⟩) (λk hk W hW=>by
  obtain⟨xm,xa,xn,xc,xp,xq,xr,hv,h1,h2,h3⟩:=hE k hk;have hx:Nx W xm xa xn xc (p.getD k (0,[])).1:=⟨h1.below hW,by omega⟩;have hb:=h1.bd h2;have hm:=h3.below hW;rw[hv,Array.append_empty];generalize p.getD k (0,[])=t at hx hb hm;obtain⟨x,ps⟩:=t;exact Lt hx hb hm)
 have HC:=hid hC;clear hE' hC hE hG hl h;go_enter Tryz.func71,Tryz.ntmps71;go_wp2_with fail;refine HC.o.mono ?_;rintro e w' ⟨oa,on,oc,rfl,h1,h2⟩;go_wp2_with fail;go_ret;exact⟨_,_,_,rfl,h1,h2⟩
open Lib (hid)
def uY (p:List ai) (t:ai):List ai:=p.map λs=>(s.1*t.1,fL s.2 t.2)
theorem wR (p:List ai) (t:ai):(uY p t).length=p.length:=by simp[uY]
theorem O9 {p:List ai} (t:ai) {k:Nat} (hk:k<p.length):(uY p t).getD k (0,[])=((p.getD k (0,[])).1*t.1,fL (p.getD k (0,[])).2 t.2):=by
 rw[gI _ (by rw[wR];exact hk),gI _ hk];simp[uY]
theorem Lu [Ol] {m k:Bool} {ao bo:Z'} {n ae l cb:Nat} {po qo:Z'} {pn pc qn qc:Nat} {x y:Int} {ps qs rs:List (Int×Int)} {K q:Nat} {w:ah9} (hx:Nx w m ao n ae x) (hm:Ml w po pn pc ps) (hq:aS w q [aj1 k,aj0 bo l cb,aj0 qo qn qc] 70) (hy:Nx w k bo l cb y) (hn:Ml w qo qn qc qs) (hr:gq (λx y=>x+y) 8 ps qs=(rs,0)) (hd:Bd (x*y) K):
  Calls Tryz.prog 174 #[.agg #[aj1 m,aj0 ao n ae,aj0 po pn pc],.pointer (some ⟨q,0,none⟩)] w (VL K w (x*y,rs)):=by
 have hqw:=hq.lt;go_enter Tryz.func174,Tryz.ntmps174;go_upto_region 1 with(fail)
 refine aj (λW hW=>?_);obtain⟨a1,a2,hB⟩:=Je w [aj1 m,aj0 ao n ae,aj0 po pn pc] [aj1 false,aj0 none 0 0,aj0 none 0 0] 70 70;rw[<-hW]at a1 a2 hB;clear hW;have A:=hid a1;have R:=hid a2;have HB:=hid hB;have D:=hid (hq.below hB);have HX:=hid hx;have HY:=hid hy;have HM:=hid hm;have HN:=hid hn;have HR:=hid hr;clear a1 a2 hB hq hx hy hm hn hr;obtain⟨c0,c1,c2⟩:=A.o.c3;obtain⟨e0,e1,e2⟩:=D.o.c3;go_wp2_with fail;refine(M8 rs 0 (HM.o.below HB.o) (HN.o.below HB.o) HR.o).mono ?_;rintro e w1 ⟨ma,mn,mc,rfl,hM,hB⟩;have A1:=hid (A.o.below hB);have R1:=hid (R.o.below hB);have D1:=hid (D.o.below hB);have HB1:=hid (Below.ar HB.o hB);have M1:=hid hM;clear hM hB A R D HB c0 c1 c2 e0 e1 e2;obtain⟨c0,c1,c2⟩:=A1.o.c3;obtain⟨e0,e1,e2⟩:=D1.o.c3;go_wp2_with fail;refine(eF (HX.o.below HB1.o) (HY.o.below HB1.o)).mono ?_;rintro e w2 ⟨rm,ra,rn,rc,rfl,hC,hB⟩;have R2:=hid (R1.o.below hB);have HB2:=hid (Below.ar HB1.o hB);have M2:=hid (M1.o.below hB);have C2:=hid hC;clear hC hB A1 R1 D1 HB1 M1 c0 c1 c2 e0 e1 e2;obtain⟨d0,d1,d2⟩:=R2.o.c3;obtain⟨f0,f1,f2⟩:=R2.o.f3;go_wp2_with fail;clear d0 d1 d2 f0 f1 f2;refine nT (Q:=bodyPost _ _ _ _ _) (λW hW=>?_);have R:aS W (w.heap.size+1) [aj1 rm,aj0 ra rn rc,aj0 ma mn mc] 70:=by rw[hW];exact((R2.o.set 0 _).set 1 _).set 2 _
 have HC:Cn W rm ra rn rc (x*y):=by rw[hW];exact C2.o.fM (R2.o.dD (jS _ _ _ _ _ _ _)) (eD _ _ 0 _ _ _)
 have HM3:Ml W ma mn mc rs:=by rw[hW];exact M2.o.fM (R2.o.dD (jS _ _ _ _ _ _ _)) (eD _ _ 0 _ _ _)
 have xZ:ai7 w.heap.size w W:=by rw[hW];exact HB2.o.trans (gS (eD _ _ 0 _ _ _) (by omega) HB2.o.size)
 clear hW;obtain⟨d0,d1,d2⟩:=R.c3;refine bodyPost_ret (v:= .agg #[aj1 rm,aj0 ra rn rc,aj0 ma mn mc]) (by simp[results,Tryz.results174,go_sem,d0,d1,d2]) rfl ?_;exact⟨_,_,_,_,_,_,_,rfl,⟨HC,hd,HM3⟩,xZ⟩
theorem Iy [Ol] {K L:Nat} {ao:Z'} {n ae:Nat} {p:List ai} {w:ah9} {k:Bool} {bo:Z'} {l cb:Nat} {qo:Z'} {qn qc:Nat} {t:ai} (h:Pc K w ao n ae p) (hn:n<=1000000) (hK:K<=1000000) (hL:L<=1000000) (hy:Cn w k bo l cb t.1) (hd:Bd t.1 L) (hq:Ml w qo qn qc t.2)
  (hf:∀s∈p,gq (λx y=>x+y) 8 s.2 t.2=(fL s.2 t.2,0)):
  Calls Tryz.prog 124 #[aj0 ao n ae,.agg #[aj1 k,aj0 bo l cb,aj0 qo qn qc]] w (I8 (K+L) w (uY p t)):=by
 have hl:=h.len;have eg:∀args w,(callFunc 174 args).run Tryz.prog w= .ok (.enter 174 args) w:=enters_of Tryz.func174 (by kernel_rfl) rfl;have WA:∀(fn:Fn) (first ae:Array ai0) (w:ah9),(Instr.makeFunc fn first ae).run Tryz.prog w= .ok (.func fn first ae) w:=λ_ _ _ _=>rfl
 obtain⟨W1,hW1⟩:∃W1,W1=w.alloc (.cells #[aj1 k,aj0 bo l cb,aj0 qo qn qc] 70):=⟨_,rfl⟩;have hb:=gp w [aj1 k,aj0 bo l cb,aj0 qo qn qc] 70;have hb1:aS W1 w.heap.size [aj1 k,aj0 bo l cb,aj0 qo qn qc] 70:=by rw[hW1];exact hb.1
 have hb2:ai7 w.heap.size w W1:=by rw[hW1];exact hb.2
 obtain⟨bF,hG,hE⟩:=(h.below hb2).gl3
 have hC:=Et eg (lb:= #[.pointer (some ⟨w.heap.size,0,none⟩)]) (K:=K+L) (ts:=uY p t) hG hn (by rw[wR,hl]) (λi hi=>by obtain⟨xm,xa,xn,xc,xp,xq,xr,hv,_⟩:=hE i hi;exact⟨xm,xa,xn,xc,xp,xq,xr,hv⟩) (λi hi W hW=>by
  obtain⟨xm,xa,xn,xc,xp,xq,xr,hv,h1,h2,h3⟩:=hE i hi;have hip:i<p.length:=by omega
  have hx:Nx W xm xa xn xc (p.getD i (0,[])).1:=⟨(h1.below hW).LB,by have:=h1.le h2;omega⟩;have hm:=h3.below hW;have hfs:=hf _ (gK (0,[]) hip);rw[hv,O9 t hip];exact Lu hx hm (hb1.below hW) ⟨((hy.below hb2).below hW).LB,by have:=hy.le hd;omega⟩ ((hq.below hb2).below hW) hfs (h2.mul hd))
 have HC:=hid hC;have HW:=hid hW1;have HB:=hid hb2;clear hC hE hG hl h hb hb1 hb2 hW1 eg hf hy hd hq;go_enter Tryz.func124,Tryz.ntmps124;go_wp2_with fail;rw[<-HW.o];refine HC.o.mono ?_;rintro e w' ⟨oa,on,oc,rfl,h1,h2⟩;go_wp2_with fail;go_ret;exact⟨_,_,_,rfl,h1.mono HB.o.size (ak7 _),Below.ar HB.o h2⟩
open Lib (hid)
theorem gj (k:Nat):et (ai2 (aj2 #[aj1 false,aj0 none 0 0,aj0 none 0 0]).cells k).toList:=by
 intro u hu;simp only[ai2,ah6,aj9,aj3]at hu;obtain⟨j,_,rfl⟩:=hu;have hj:j%3<3:=al3 _ (by omega);obtain⟨i,hi⟩:∃i,i=j%3:=⟨_,rfl⟩;show bB ((#[aj1 false,aj0 none 0 0,aj0 none 0 0]:Array ai0)[j%3]!)=true;rw[<-hi]at hj ⊢
 match i,hj with
 |0,_=>rfl
 |1,_=>rfl
 |2,_=>rfl
theorem jv (k:Nat):(ai2 (aj2 #[aj1 false,aj0 none 0 0,aj0 none 0 0]).cells k).toList.length=k*3:=by simp[ai2,aj3]
theorem iY {L M:List ai0} (h:et L) (k:et M):et (L++M):=λu hu=>(List.mem_append.1 hu).elim (h u) (k u)
section
variable {P:Program} (w:ah9)
theorem tX (t ti ty e:TypeId) (i:TypeInfo) (z:ai0) (ht:P.underlying t=some (.slice e)) (hti:P.underlying ti=some (.int .i64)) (hi:P.info? e=some i) (hz:i.zero=some z) (h0:0<i.size)
  (b:Addr) (n c k:Nat) (olds:List ai0) (hlo:olds.length=n*i.size) (holds:∀j v,olds[j]? =some v->w.cell? (b.add j)=some v)
  (hk:0<k) (hg:c<n+k) (h63:((n+k:Nat):Int)<=9223372036854775807) (h48:k*i.bytes<=281474976710656) (hfit:ai3 (n+k) c*i.bytes<=281474976710656):
  (ai4 #[t,ti] ty #[aj0 (some b) n c,.int .i64 (k:Int)]).run P w=
   .ok (aj0 (some ⟨w.heap.size,0,none⟩) (n+k) (grownCap w (n+k) c e))
    (w.drew.alloc (.cells (olds.toArray++ai2 z.cells k++ai2 z.cells (grownCap w (n+k) c e-(n+k))) e)):=by
 have hn:¬(n+k<=c):=by omega
 have h63':¬(9223372036854775807<((n:Int)+(k:Int))):=by omega
 have h48':¬(281474976710656<ai3 (n+k) c*i.bytes):=by omega
 have VN:¬(281474976710656<(k:Int)*(i.bytes:Int)):=by rw[<-aj5];omega
 have wk:IntKind.i64.wrap (k:Int)=k:=by rw[IntKind.wrap_i64];omega
 have hkn:¬((k:Int)<0):=by omega
 have hks:k*i.size≠0:=al5 (by omega) (by omega);have hfo:=run_firstCells_some (P:=P) w.drew i.size n b n c olds hlo (by simpa using holds);simp[ai4,run_underlying ht,run_underlying hti,asInt,asIntOf,sizeOf,typeInfo,zeroValue,hi,hz,hn,h63',h48',VN,hkn,wk,Question.forced,hfo,newRow,grownCap];intro h;exact absurd h hks
theorem pK (t ti ty e:TypeId) (i:TypeInfo) (z:ai0) (ht:P.underlying t=some (.slice e)) (hti:P.underlying ti=some (.int .i64)) (hi:P.info? e=some i) (hz:i.zero=some z) (h0:0<i.size)
  (k:Nat) (hk:0<k) (h63:(k:Int)<=9223372036854775807) (h48:k*i.bytes<=281474976710656):
  (ai4 #[t,ti] ty #[aj0 none 0 0,.int .i64 (k:Int)]).run P w=
   .ok (aj0 (some ⟨w.heap.size,0,none⟩) k (grownCap w k 0 e))
    (w.drew.alloc (.cells (ai2 z.cells k++ai2 z.cells (grownCap w k 0 e-k)) e)):=by
 have hn:k≠0:=by omega
 have h63':¬(9223372036854775807<(k:Int)):=by omega
 have h48':¬(281474976710656<ai3 k 0*i.bytes):=by rw[nextslicecap_zero hk];omega
 have VN:¬(281474976710656<(k:Int)*(i.bytes:Int)):=by rw[<-aj5];omega
 have wk:IntKind.i64.wrap (k:Int)=k:=by rw[IntKind.wrap_i64];omega
 have hkn:¬((k:Int)<0):=by omega
 have hks:k*i.size≠0:=al5 (by omega) (by omega);simp[ai4,run_underlying ht,run_underlying hti,asInt,asIntOf,sizeOf,typeInfo,zeroValue,hi,hz,hn,h63',h48',VN,hkn,wk,Builtin.firstCells,Question.forced,newRow,grownCap];intro h;exact absurd h hks
end
theorem nV {P:Program} {o:Oper} {a:Act} {w W:ah9} {K:Act->ah9->Prop} {Q:Exit->Act->ah9->Prop} (s x:Operand) (t u:TypeId) (hop:o.op=Op.call { callee:=Callee.builtin ai5,args:= #[s,x],argTypes:= #[t,u] })
  (vs vx:ai0) (hs:a.eval s=vs) (hx:a.eval x=vx) {v:ai0} (hr:(ai4 #[t,u] o.type #[vs,vx]).run P w= .ok v W) (hK:K (a.put o.dst v) W):Oper.wp P o a w K Q:=by
 unfold Oper.wp execOp;simp only[hop,resolve,invoke,builtin,Sem.run_bind,Sem.run_pure,Result.andThen_ok,List.map_toArray,List.map_cons,List.map_nil,hs,hx,hr];exact hK
theorem fP {P:Program} {ops:Array Oper} {rest:List Oper} {o:Oper} {a:Act} {w W:ah9} {Q:Exit->Act->ah9->Prop} (hg:o.guard=none) (s x:Operand) (t u:TypeId) (hop:o.op=Op.call { callee:=Callee.builtin ai5,args:= #[s,x],argTypes:= #[t,u] })
  (vs vx:ai0) (hs:a.eval s=vs) (hx:a.eval x=vx) {v:ai0} (hr:(ai4 #[t,u] o.type #[vs,vx]).run P w= .ok v W) (hK:wpList P ops Q rest (a.put o.dst v) W):wpList P ops Q (o::rest) a w:=
 wpList_plain hg λ_ hK'=>nV s x t u hop vs vx hs hx hr (hK' _ _ hK)
structure Rm (g off ae:Nat) (L:List ai0) (w:ah9):Prop where
 dY:aS w g L 70
 vk:et L
 room:off+ae*3<=L.length
 big:ae<=maxLen
def ae0 [Ol] (K:Nat) (w:ah9) (ao:Option Addr) (n m:Nat) (p:List ai) (e:Ending) (V:ah9):Prop:=
 ∃g off ae L X,e= .returned (aj0 (some ⟨g,off,none⟩) n ae)/\ Rm g off ae L V/\ n+m<=ae/\ Each 3 X/\ jo 3 L off X/\ bV (gL K V) X p/\ ai7 w.heap.size w V/\ (eQ ao=some g∨w.heap.size<=g)
theorem Eu [Ol] {B K:Nat} {ao:Z'} {n ae m:Nat} {p:List ai} {w:ah9} (h:Pw B K w ao n ae p) (hm:0<m) (hn:n+m<=1000000):
  Calls Tryz.prog 114 #[aj0 ao n ae,.int .i64 (m:Int)] w (ae0 K w ao n m p):=by
 obtain⟨i0,hi,hz0,hz1,hz2⟩:=info_parts Tryz.qh;obtain⟨X,hR,hT⟩:=h;have hd0:decide ((m:Int)<0)=false:=decide_eq_false (by omega);rcases hR.ex with⟨rfl,rfl,rfl,rfl⟩|⟨g,off,L,rfl,hBg,hA,hC,hroom,hnc,hbig,ac1,hX,hE,hS⟩
 ·have hd1:decide ((0:Int)<(m:Int))=true:=decide_eq_true (by omega)
  have hap:∀(ty:TypeId) (W:ah9),(ai4 #[23,3] ty #[aj0 none 0 0,.int .i64 (m:Int)]).run Tryz.prog W= .ok (aj0 (some ⟨W.heap.size,0,none⟩) m (grownCap W m 0 70)) (W.drew.alloc (.cells (ai2 (aj2 #[aj1 false,aj0 none 0 0,aj0 none 0 0]).cells m++ai2 (aj2 #[aj1 false,aj0 none 0 0,aj0 none 0 0]).cells (grownCap W m 0 70-m)) 70)):=λty W=>
   pK W 23 3 ty 70 i0 _ Tryz.underlying23 Tryz.underlying3 hi hz0 (by rw[hz1];omega) m hm (by omega) (by rw[hz2];omega)
  obtain⟨c',hc'⟩:∃c',c'=grownCap w m 0 70:=⟨_,rfl⟩;have hge:m<=c':=by rw[hc'];exact grownCap_ge _ _ _ _
  have hle:c'<=maxLen:=by rw[hc'];exact grownCap_le_maxLen _ _ _ _ (by unfold maxLen;omega)
  have VO:=λty=>hap ty w
  rw[<-hc']at VO;obtain⟨M,hM⟩:∃M:List ai0,M=(ai2 (aj2 #[aj1 false,aj0 none 0 0,aj0 none 0 0]).cells m++ai2 (aj2 #[aj1 false,aj0 none 0 0,aj0 none 0 0]).cells (c'-m)).toList:=⟨_,rfl⟩;have Zz:et M:=by rw[hM,ah7];exact iY (gj _) (gj _)
  have lZ:M.length=c'*3:=by rw[hM,ah7,ak4,jv,jv];omega
  have hMe:(ai2 (aj2 #[aj1 false,aj0 none 0 0,aj0 none 0 0]).cells m++ai2 (aj2 #[aj1 false,aj0 none 0 0,aj0 none 0 0]).cells (c'-m))=M.toArray:=by rw[hM]
  rw[hMe]at VO;clear hap hc' hi hz0 hz1 hz2 hM hMe;have HT:=hid hT;have HL:=hid (ah5 Zz (ah5 lZ hle));clear hT hR Zz lZ hle;go_enter Tryz.func114,Tryz.ntmps114;go_wp2_with (at_builtin;refine fP rfl (.tmp 20) (.tmp 21) 23 3 rfl _ _ rfl rfl (VO _) ?_);go_ret;exact⟨w.heap.size,0,c',M,[],rfl,⟨aS.cS _ _ _,HL.o.1,by rw[HL.o.2.1];omega,HL.o.2.2⟩,by omega,(λ_ h=>by cases h),jo.nil _ _ _,HT.o.imp (λ_ _ h=>h.below ((ai8 _ w).drew.alloc (ak7 _) _)),(ai8 _ w).drew.alloc (ak7 _) _,.inr (ak7 _)⟩
 ·by_cases hr:m<=ae-n
  ·have hd1:decide ((0:Int)<(m:Int)-((ae:Int)-(n:Int)))=false:=decide_eq_false (by omega);have hbc:ae<=9223372036854775807:=by unfold maxLen at hbig;omega
   have HT:=hid hT;have HG:=hid (ah5 hE (ah5 hS (Rm.mk (w:=w) hA hC hroom hbig)));clear hT hR hE hS hA hC hroom hbig hX hi hz0 hz1 hz2;go_enter Tryz.func114,Tryz.ntmps114;go_wp2;go_ret;exact⟨g,off,ae,L,X,rfl,HG.o.2.2,by omega,HG.o.1,HG.o.2.1,HT.o,ai8 _ _,.inl rfl⟩
  ·have hcap:ae<=1000000:=by omega
   obtain⟨r,hre⟩:∃r,r=m-(ae-n):=⟨_,rfl⟩;have hrz:(m:Int)-((ae:Int)-(n:Int))=(r:Int):=by omega
   have hr0:0<r:=by omega
   have hd1:decide ((0:Int)<(r:Int))=true:=decide_eq_true (by omega);obtain⟨O,hO⟩:∃O,O=(L.drop off).take (ae*3):=⟨_,rfl⟩;have Ny:O.length=ae*3:=by rw[hO,ak5,List.length_drop];omega
   have WK:∀j,j<ae*3->O[j]? =L[off+j]? :=λj hj=>by rw[hO,List.getElem?_take,if_pos hj,List.getElem?_drop]
   have hap:∀(ty:TypeId),(ai4 #[23,3] ty #[aj0 (some ⟨g,off,none⟩) ae ae,.int .i64 (r:Int)]).run Tryz.prog w= .ok (aj0 (some ⟨w.heap.size,0,none⟩) (ae+r) (grownCap w (ae+r) ae 70)) (w.drew.alloc (.cells (O.toArray++ai2 (aj2 #[aj1 false,aj0 none 0 0,aj0 none 0 0]).cells r++ai2 (aj2 #[aj1 false,aj0 none 0 0,aj0 none 0 0]).cells (grownCap w (ae+r) ae 70-(ae+r))) 70)):=λty=>
    tX w 23 3 ty 70 i0 _ Tryz.underlying23 Tryz.underlying3 hi hz0 (by rw[hz1];omega) ⟨g,off,none⟩ ae ae r O (by rw[Ny,hz1]) (λj v hj=>by
     have hj2:j<ae*3:=by rw[<-Ny];exact(ak6.1 hj).1
     rw[ai1,hA.cell,<-WK j hj2,hj]) hr0 (by omega) (by omega) (by rw[hz2];omega) (by rw[hz2];exact growslice_fits (by omega) (by omega))
   obtain⟨c',hc'⟩:∃c',c'=grownCap w (ae+r) ae 70:=⟨_,rfl⟩;have hge:ae+r<=c':=by rw[hc'];exact grownCap_ge _ _ _ _
   have hle:c'<=maxLen:=by rw[hc'];exact grownCap_le_maxLen _ _ _ _ (by unfold maxLen;omega)
   rw[<-hc']at hap;obtain⟨M,hM⟩:∃M:List ai0,M=(O.toArray++ai2 (aj2 #[aj1 false,aj0 none 0 0,aj0 none 0 0]).cells r++ai2 (aj2 #[aj1 false,aj0 none 0 0,aj0 none 0 0]).cells (c'-(ae+r))).toList:=⟨_,rfl⟩;have WJ:et O:=λu hu=>hC u (List.mem_of_mem_drop (List.mem_of_mem_take (hO▸hu)))
   have Zz:et M:=by rw[hM,ah7,ah7];exact iY (iY WJ (gj _)) (gj _)
   have lZ:M.length=c'*3:=by rw[hM,ah7,ah7,ak4,ak4,jv,jv];simp only[Ny];omega
   have hMg:∀j,j<ae*3->M[j]? =L[off+j]? :=λj hj=>by
    rw[hM,ah7,ah7,List.append_assoc,ak3 (by rw[Ny];exact hj)];exact WK j hj
   have hMe:(O.toArray++ai2 (aj2 #[aj1 false,aj0 none 0 0,aj0 none 0 0]).cells r++ai2 (aj2 #[aj1 false,aj0 none 0 0,aj0 none 0 0]).cells (c'-(ae+r)))=M.toArray:=by rw[hM]
   rw[hMe]at hap
   have hMS:jo 3 M 0 X:=λt ht j hj=>by
    have:(t+1)*3<=ae*3:=ak9 _ (by omega);rw[al4,hMg _ (by omega),<-hS t ht j hj,ak8]
   have HT:=hid hT;have HL:=hid (ah5 Zz (ah5 lZ (ah5 hle (ah5 hE hMS))));have hbc:ae<=9223372036854775807:=by unfold maxLen at hbig;omega
   clear hT hR Zz lZ hle hE hMS hS hA hC hroom hbig hX hi hz0 hz1 hz2 hc' hM hMe hMg WJ WK Ny hO hre hr;go_enter Tryz.func114,Tryz.ntmps114;go_wp2_with (at_builtin;refine fP rfl (.tmp 20) (.tmp 21) 23 3 rfl _ _ rfl rfl (hap _) ?_);go_ret;exact⟨w.heap.size,0,c',M,X,rfl,⟨aS.cS _ _ _,HL.o.1,by rw[HL.o.2.1];omega,HL.o.2.2.1⟩,by omega,HL.o.2.2.2.1,HL.o.2.2.2.2,HT.o.imp (λ_ _ h=>h.below ((ai8 _ w).drew.alloc (ak7 _) _)),(ai8 _ w).drew.alloc (ak7 _) _,.inr (ak7 _)⟩
open Lib (hid)
theorem lU {P:Program} (w:ah9) (t ty e:TypeId) (i:TypeInfo) (ht:P.underlying t=some (.slice e)) (hi:P.info? e=some i)
  (g off n c:Nat) (a:Addr) (m c2:Nat) (news:List ai0) (hl:news.length=m*i.size) (hnews:∀j v,news[j]? =some v->w.cell? (a.add j)=some v) (h1:∀v∈news,v.oneCell'=true) (hroom:n+m<=c)
  (hc:∀j,j<news.length->(w.cell? ⟨g,off+n*i.size+j,none⟩).isSome=true) (hf:∀j,j<news.length->w.frozen? ⟨g,off+n*i.size+j,none⟩=false):
  (ai4 #[t,t] ty #[aj0 (some ⟨g,off,none⟩) n c,aj0 (some a) m c2]).run P w= .ok (aj0 (some ⟨g,off,none⟩) (n+m) c) (w.setCells g (off+n*i.size) news):=by
 have hfs:=run_firstCells_some (P:=P) w i.size m a m c2 news hl hnews;have hst:=run_storeCells_cells (P:=P) g (off+n*i.size) news 0 w (by simpa using hc) (by simpa using hf) h1;simp only[al6]at hst;simp[ai4,run_underlying ht,sizeOf,typeInfo,hi,Builtin.lenOf,hroom,hfs,ai1,hst]
theorem xO (w:ah9) (b o n c:Nat) (hn:0<n) (hc:∀j,j<n*3->(w.cell? ⟨b,o+j,none⟩).isSome=true) (hf:∀j,j<n*3->w.frozen? ⟨b,o+j,none⟩=false):
  ∃zs:List ai0,zs.length=n*3/\ et zs/\∀ty,(ai6 #[23] ty #[aj0 (some ⟨b,o,none⟩) n c]).run Tryz.prog w= .ok (.tuple #[]) (w.setCells b o zs):=by
 have hlen:=jv n
 have hone:∀v∈(ai2 (aj2 #[aj1 false,aj0 none 0 0,aj0 none 0 0]).cells n).toList,v.oneCell'=true:=by
  intro v hv;simp only[ai2,ah6,aj9,aj3]at hv;obtain⟨i,_,rfl⟩:=hv;have:i%3=0∨i%3=1∨i%3=2:=by omega
  rcases this with h|h|h<;>simp[h]<;>rfl
 have hst:=run_storeCells_cells (P:=Tryz.prog) b o (ai2 (aj2 #[aj1 false,aj0 none 0 0,aj0 none 0 0]).cells n).toList 0 w (by rw[hlen];simpa using hc) (by rw[hlen];simpa using hf) hone;simp only[al6]at hst;refine⟨_,hlen,gj n,λty=>?_⟩;obtain⟨m,rfl⟩:∃m,n=m+1:=⟨n-1,by omega⟩;simp[ai6,run_underlying Tryz.underlying23,hst]
def Kut (V0:ah9) (g off ae:Nat) (X Y:List (List ai0)) (e:Ending) (V:ah9):Prop:=
 ∃L,e= .returned (aj0 (some ⟨g,off,none⟩) (X.length+Y.length) ae)/\ Rm g off ae L V/\ jo 3 L off (X++Y)/\ V0.grownBy V (some g)
theorem G8 {g off ae N left place:Nat} {L:List ai0} {X Y:List (List ai0)} {V:ah9} (hR:Rm g off ae L V) (hX:jo 3 L off X) (G9:X.length=left) (hY:jo 3 L (off+place*3) Y) (VP:Each 3 Y) (hYC:et Y.flatten) (hN:place+Y.length=N) (hl:left<=place) (hc:N<=ae) (hN6:N<=1000000):
  Calls Tryz.prog 116 #[aj0 (some ⟨g,off,none⟩) N ae,.int .i64 (left:Int),.int .i64 (place:Int)] V (Kut V g off ae X Y):=by
 obtain⟨i0,hi,hz0,hz1,hz2⟩:=info_parts Tryz.qh;have hbig:=hR.big;have hbc:ae<=9223372036854775807:=by unfold maxLen at hbig;omega
 have hpN:place<=N:=by omega
 have hlN:left<=N:=by omega
 have hpc:place<=ae:=by omega
 have hlc:left<=ae:=by omega
 have ae1:=hR.room;by_cases hlp:left=place
 ·subst hlp;have HR:=hid hR;have HS:Hid (jo 3 L off (X++Y)):=by rw[Hid];exact jo.append hX (by rw[G9];exact hY)
  clear hR hX hY VP hYC hi hz0 hz1 hz2 hbig;have hd1:((left:Int)==(left:Int))=true:=by simp
  by_cases hNl:N=left
  ·subst hNl;go_enter Tryz.func116,Tryz.ntmps116;go_wp2;go_ret;exact⟨L,by rw[G9,hN];rfl,HR.o,HS.o,World.grownBy.refl _ _⟩
  have ae2:¬(N-left=0):=by omega
  go_enter Tryz.func116,Tryz.ntmps116;go_wp2;go_ret;exact⟨L,by rw[G9,hN];rfl,HR.o,HS.o,World.grownBy.refl _ _⟩
 ·have hlt:left<place:=by omega
  have hd1:((left:Int)==(place:Int))=false:=by simp;omega
  have ae2:¬(N-left=0):=by omega
  have HYC:=hid hYC;have HYE:=hid VP;have HR:=hid hR;have HX:=hid hX;have hYl:=kO VP
  have Ss:∀(a:Addr) (c2:Nat),(∀j,j<Y.length*3->V.drew.cell? (a.add j)=Y.flatten[j]?)->∀ty,(ai4 #[23,23] ty #[aj0 (some ⟨g,off,none⟩) left ae,aj0 (some a) Y.length c2]).run Tryz.prog V.drew= .ok (aj0 (some ⟨g,off,none⟩) (left+Y.length) ae) (V.drew.setCells g (off+left*3) Y.flatten):=by
   intro a c2 ha ty;have hAd:aS V.drew g L 70:=hR.dY
   have:=lU (P:=Tryz.prog) V.drew 23 ty 70 i0 Tryz.underlying23 hi g off left ae a Y.length c2 Y.flatten (by rw[hz1];exact hYl) (λj v hj=>by rw[ha j (by rw[<-hYl];exact(ak6.1 hj).1)];exact hj) (CS VP) (by omega)
    (λj hj=>by rw[hz1,hAd.cell,aj7 (by rw[hYl]at hj;omega)];rfl) (λj _=>hAd.fz _)
   rw[hz1]at this;exact this
  by_cases hcp:ae=place
  ·subst hcp;obtain rfl:Y=[]:=aj8 (by omega);obtain rfl:N=ae:=by simp at hN;omega
   have ZA:Hid (∀ty,(ai4 #[23,23] ty #[aj0 (some ⟨g,off,none⟩) left N,aj0 (some ⟨g,off,none⟩) 0 0]).run Tryz.prog V.drew= .ok (aj0 (some ⟨g,off,none⟩) left N) V.drew):=λty=>by simpa[World.setCells]using Ss ⟨g,off,none⟩ 0 (λj hj=>by simp at hj) ty
   clear Ss hR hX hY VP hYC hi hz0 hz1 hz2 hbig hYl;go_enter Tryz.func116,Tryz.ntmps116;go_upto_region 5 with(fail)
   refine wp_region_held_drew (S:=λw'=>True) (by kernel_rfl) trivial (λhH=>?_);refine ah (λw1 hW=>?_);have hap:∀ty,(ai4 #[23,23] ty #[aj0 (some ⟨g,off,none⟩) left N,aj0 (some ⟨g,off,none⟩) 0 0]).run Tryz.prog w1= .ok (aj0 (some ⟨g,off,none⟩) left N) w1:=by rw[hW];exact ZA.o
   have HR1:Hid (aS w1 g L 70):=by rw[hW];exact HR.o.dY
   have LM:Hid (V.grownBy w1 (some g)):=by rw[hW];exact cu _ (ai8 _ _).drew
   clear hW;have hzN:True:=trivial;refine aT 0 hH ?_;try simp only[ax]
   refine aT 1 hH ?_;try simp only[ax]
   refine aT 2 hH ?_;try simp only[ax]
   refine aT 3 hH ?_;try simp only[ax]
   refine aT 4 hH ?_;try simp only[ax]
   refine aT 5 hH ?_;try simp only[ax]
   refine ag 6 rfl (by kernel_rfl) (λKK hK=>?_);rw[if_pos (by rfl)];refine nV (.tmp 22) (.tmp 25) 23 23 rfl _ _ rfl rfl (hap _) ?_;clear hH;refine hK.o _ _ trivial λhH=>?_;clear hK KK
   try simp only[ax]
   refine ah (λw2 hW=>?_);have HR2:Hid (aS w2 g L 70):=by rw[hW];exact HR1.o
   have HG2:Hid (V.grownBy w2 (some g)):=by rw[hW];exact LM.o
   clear hW hap hzN HR1 LM;refine aT 7 hH ?_;try simp only[ax]
   refine wpAnyH_done (by kernel_rfl) ?_ _
   clear hH;obtain⟨zs,hzl,hzc,hcl⟩:=xO w2 g (off+left*3) (N-left) (N-left) (by omega) (λj hj=>by rw[HR2.o.cell,aj7 (by omega)];rfl) (λj _=>HR2.o.fz _);have HZ:=hid (ah5 hzl hzc);clear hzl hzc;go_wp2;go_ret;refine⟨_,by rw[G9];rfl,⟨HR2.o.put zs _,jw _ _ _ HR.o.vk HZ.o.2,by rw[dJ];exact HR.o.room,HR.o.big⟩,?_,cD HG2.o (ju g _ _ _)⟩;refine jo.dy ?_ (.inr (by rw[ak4,G9];simp));refine jo.append HX.o ?_;rw[G9];exact jo.nil _ _ _
  ·have ZA:=hid (Ss ⟨g,off+place*3,none⟩ (ae-place) (λj hj=>by
    have hAd:aS V.drew g L 70:=hR.dY;have hq:j/3<Y.length:=by omega
    have h1:=hY (j/3) hq (j%3) (al3 _ (by omega));rw[ai1,hAd.cell,show off+place*3+j=off+place*3+j/3*3+j%3 by omega,h1,<-oM VP (j/3) (j%3) hq (al3 _ (by omega)),show j/3*3+j%3=j by omega]))
   clear Ss hR hX hY VP hYC hi hz0 hz1 hz2 hbig hYl;go_enter Tryz.func116,Tryz.ntmps116;go_upto_region 5 with(fail)
   refine wp_region_held_drew (S:=λw'=>True) (by kernel_rfl) trivial (λhH=>?_);refine ah (λw1 hW=>?_);have hap:∀ty,(ai4 #[23,23] ty #[aj0 (some ⟨g,off,none⟩) left ae,aj0 (some ⟨g,off+place*3,none⟩) Y.length (ae-place)]).run Tryz.prog w1= .ok (aj0 (some ⟨g,off,none⟩) (left+Y.length) ae) (w1.setCells g (off+left*3) Y.flatten):=by rw[hW];exact ZA.o
   have HR1:Hid (aS w1 g L 70):=by rw[hW];exact HR.o.dY
   have LM:Hid (V.grownBy w1 (some g)):=by rw[hW];exact cu _ (ai8 _ _).drew
   clear hW;have hzN:N-place=Y.length:=by omega
   refine aT 0 hH ?_;try simp only[ax]
   refine aT 1 hH ?_;try simp only[ax]
   refine aT 2 hH ?_;try simp only[ax]
   refine aT 3 hH ?_;try simp only[ax]
   refine aT 4 hH ?_;try simp only[ax]
   refine aT 5 hH ?_;try simp only[ax]
   refine ag 6 rfl (by kernel_rfl) (λKK hK=>?_);rw[if_pos (by rfl)];refine nV (.tmp 22) (.tmp 25) 23 23 rfl _ _ rfl rfl (hap _) ?_;clear hH;refine hK.o _ _ trivial λhH=>?_;clear hK KK
   try simp only[ax]
   refine ah (λw2 hW=>?_);have HR2:Hid (aS w2 g (lV L (off+left*3) Y.flatten) 70):=by rw[hW];exact HR1.o.put _ _
   have HG2:Hid (V.grownBy w2 (some g)):=by rw[hW];exact cD LM.o (ju g _ _ _)
   clear hW hap hzN HR1 LM;refine aT 7 hH ?_;try simp only[ax]
   refine wpAnyH_done (by kernel_rfl) ?_ _
   clear hH;obtain⟨zs,hzl,hzc,hcl⟩:=xO w2 g (off+(left+Y.length)*3) (N-(left+Y.length)) (ae-(left+Y.length)) (by omega) (λj hj=>by rw[HR2.o.cell,aj7 (by rw[dJ];omega)];rfl) (λj _=>HR2.o.fz _);have HZ:=hid (ah5 hzl hzc);clear hzl hzc;go_wp2;go_ret;refine⟨_,by rw[G9];rfl,⟨HR2.o.put zs _,jw _ _ _ (jw _ _ _ HR.o.vk HYC.o) HZ.o.2,by rw[dJ,dJ];exact HR.o.room,HR.o.big⟩,?_,cD HG2.o (ju g _ _ _)⟩;refine jo.dy ?_ (.inr (by rw[ak4,G9];omega));refine jo.append (HX.o.dy (.inr (by rw[G9];omega))) ?_;rw[G9];exact jo.here HYE.o (by have:=HR.o.room;omega)
end Go.Proofs.YtmenbpmciblnlaaGreatDoor
