/- PMay, PMayP, PlOrd, PlAt, PlRw, PlNum, PlEach, PlOwn, PlRow, PlGrow, PlDel -/
import Derived.Test.YtmenbpmciblnlaaGreatDoorGP1
set_option maxHeartbeats 40000000
set_option maxRecDepth 100000
namespace Go.Proofs.YtmenbpmciblnlaaGreatDoor
open Go.RowKit
def za (t:Raw):Bool:=vS t.1.1 t.1.2.length t.1.2&& !(t.1.2.length==0)&&bA 0 t.2
def sU (ps:List Raw) (t:Nat):Bool:=za (ps.getD t jW)&&(t==0||lX (ps.getD (t-1) jW).2 (ps.getD t jW).2==1)
def nK (ps:List Raw):Bool:=decide (∀t,t<ps.length->sU ps t=true)
theorem xN {ps:List Raw} (t:Nat) (ht:t<ps.length) (h:sU ps t=false):nK ps=false:=decide_eq_false fun g=>by rw[g t ht]at h;cases h
theorem YP {ps:List Raw} {t:Nat} (h:t<ps.length):ps.getD t jW=ps[t]:=by simp[List.getD,List.getElem?_eq_getElem h]
theorem xu:∀p:List Term,(∀t∈p,t.1≠0/\ bA 0 t.2=true)->(∀i,i+1<p.length->BH (p.getD i (0,[])).2 (p.getD (i+1) (0,[])).2)->fall p
 |[],_,_=>trivial
 |[t],h,_=>by
  refine⟨(h t (by simp)).1,(h t (by simp)).2,?_,trivial⟩;intro s hs;cases hs
 |t::s::r,h,ha=>by
  have ih:=xu (s::r) (fun u hu=>h u (by simp[hu])) (fun i hi=>by
   have:=ha (i+1) (by simpa using hi);simpa using this)
  have h0:BH t.2 s.2:=by
   have:=ha 0 (by simp);simpa using this
  refine⟨(h t (by simp)).1,(h t (by simp)).2,fun u hu=>?_,ih⟩;rcases List.mem_cons.1 hu with rfl|hu
  ·exact h0
  ·exact BI h0 (ih.2.2.1 u hu)
theorem F3:∀{p:List Term},fall p->∀i,i+1<p.length->BH (p.getD i (0,[])).2 (p.getD (i+1) (0,[])).2
 |t::s::r,h,0,_=>by
  have:=h.2.2.1 s (by simp);simpa using this
 |t::r,h,i+1,hi=>by
  have:=F3 h.2.2.2 i (by simpa using hi);simpa using this
 |[t],_,0,hi=>by simp at hi
theorem Ad {t:Raw} (hw:Wf t.1.2) (h:za t=true):t=jr (rU t)/\ (rU t).1≠0/\ bA 0 t.2=true:=by
 unfold za at h;rw[Bool.and_eq_true,Bool.and_eq_true,zR hw]at h;obtain⟨⟨h1,h2⟩,h3⟩:=h;have h1:=of_decide_eq_true h1;refine⟨?_,fun h0=>?_,h3⟩
 ·obtain⟨⟨m,xs⟩,ps⟩:=t;exact Prod.ext (Prod.ext h1.1 h1.2) rfl
 ·have h4:dM t.1.1 (val t.1.2)=0:=h0;rw[h4]at h1;rw[h1.2]at h2;simp[gT]at h2
theorem L8 {t:Term} (h0:t.1≠0) (hm:bA 0 t.2=true):za (jr t)=true:=by
 unfold za;rw[Bool.and_eq_true,Bool.and_eq_true];refine⟨⟨?_,?_⟩,hm⟩
 ·show vS (decide (t.1<0)) (limbs t.1.natAbs).length (limbs t.1.natAbs)=true;rw[zR (dR _)];simp only[au,rD];simp
 ·have hl:(limbs t.1.natAbs).length≠0:=fun e=>by
   have h:=au t.1.natAbs;rw[List.eq_nil_of_length_eq_zero e,dQ]at h;omega
  unfold jr;simpa using hl
theorem getD_map {α β:Type} (f:α->β) (d:α) (e:β) (l:List α) (i:Nat) (hi:i<l.length):(l.map f).getD i e=f (l.getD i d):=by
 simp[List.getD,List.getElem?_eq_getElem hi]
theorem yB {ps:List Raw} (hw:∀t∈ps,Wf t.1.2) (h:nK ps=true):fall (ps.map rU)/\ ps=(ps.map rU).map jr:=by
 have h:=of_decide_eq_true h
 have hT:∀i,i<ps.length->za (ps.getD i jW)=true:=fun i hi=>by
  have:=h i hi;unfold sU at this;rw[Bool.and_eq_true]at this;exact this.1
 have hM:∀t∈ps,za t=true:=fun t ht=>by
  obtain⟨i,hi,rfl⟩:=List.getElem_of_mem ht;rw[<-YP hi];exact hT i hi
 refine⟨xu _ (fun t ht=>?_) (fun i hi=>?_),?_⟩
 ·obtain⟨s,hs,rfl⟩:=List.mem_map.1 ht;exact(Ad (hw s hs) (hM s hs)).2
 ·rw[List.length_map]at hi;rw[getD_map rU jW (0,[]) ps i (by omega),getD_map rU jW (0,[]) ps (i+1) hi];have h1:=h (i+1) hi;unfold sU at h1;rw[Bool.and_eq_true,show i+1-1=i from rfl]at h1;have h2:lX (ps.getD i jW).2 (ps.getD (i+1) jW).2=1:=by simpa using h1.2
  have hm:∀j,j<ps.length->bA 0 (ps.getD j jW).2=true:=fun j hj=>by
   rw[YP hj];exact(Ad (hw _ (List.getElem_mem _)) (hM _ (List.getElem_mem hj))).2.2
  exact O3 (hm i (by omega)) (hm (i+1) hi) h2
 ·rw[List.map_map]
  conv=>lhs;rw[<-List.map_id ps]
  exact List.map_congr_left fun t ht=>(Ad (hw t ht) (hM t ht)).1
theorem Br {p:List Term} (h:fall p):nK (p.map jr)=true:=by
 refine decide_eq_true fun i hi=>?_
 rw[List.length_map]at hi
 have hm:∀j,j<p.length->(p.getD j (0,[])).1≠0/\ bA 0 (p.getD j (0,[])).2=true:=fun j hj=>by
  have e:p.getD j (0,[])=p[j]:=by simp[List.getD,List.getElem?_eq_getElem hj]
  rw[e];exact⟨uq h _ (List.getElem_mem _),jQ h _ (List.getElem_mem _)⟩
 unfold sU;rw[getD_map jr (0,[]) jW p i hi,L8 (hm i hi).1 (hm i hi).2];cases i with
 |zero=>rfl
 |succ j=>
  rw[show j+1-1=j from rfl,getD_map jr (0,[]) jW p j (by omega)];have:=Vh (hm j (by omega)).2 (hm (j+1) hi).2 (F3 h j hi);simp[jr]at this ⊢;exact this
theorem nI (w:World) (u:List Value) (S:TypeId):bD (w.alloc (.cells u.toArray S)) w.heap.size u S/\ Below w.heap.size w (w.alloc (.cells u.toArray S)):=
 ⟨bD.new w u S,af w _⟩
theorem Xp (w:World) (u v:List Value) (S T:TypeId):
  bD ((w.alloc (.cells u.toArray S)).alloc (.cells v.toArray T)) w.heap.size u S/\ bD ((w.alloc (.cells u.toArray S)).alloc (.cells v.toArray T)) (w.heap.size+1) v T/\ Below w.heap.size w ((w.alloc (.cells u.toArray S)).alloc (.cells v.toArray T)):=by
 have h1:=bD.new (w.alloc (.cells u.toArray S)) v T;rw[World.size_alloc]at h1;exact⟨(bD.new w u S).below (af _ _),h1,((Below.refl _ w).alloc (Nat.le_refl _) _).alloc (by simp) _⟩
theorem KN [Ol] (z:Int) {xm ym:Bool} {xa ya xp yp:Option Addr} {xn xc xq xr yn yc yq yr:Nat} {ps qs:List (Int×Int)} {w:World} (hx:Ml w xp xq xr ps) (hy:Ml w yp yq yr qs) (h1:bA 0 ps=true) (h2:bA 0 qs=true) (hz:lX ps qs=z):
  Calls Tryz.prog 91 #[.agg #[.bool xm,.slice xa xn xc,.slice xp xq xr],.agg #[.bool ym,.slice ya yn yc,.slice yp yq yr]] w (dI (.int .i64 z) w):=by
 have HX:=Lib.hid hx;have HY:=Lib.hid hy;have HZ:Hid (LB ps qs=(z,0)):=by unfold LB;rw[Hid,if_pos ⟨h1,h2⟩,hz]
 clear hx hy h1 h2 hz;go_enter Tryz.func91,Tryz.ntmps91;go_upto_region 1 with(fail)
 refine aj (fun W hW=>?_);obtain⟨a1,a2,hB⟩:=Xp w [.bool xm,.slice xa xn xc,.slice xp xq xr] [.bool ym,.slice ya yn yc,.slice yp yq yr] 70 70;rw[<-hW]at a1 a2 hB;clear hW;have c1:=a1.cell 2;have c2:=a2.cell 2;simp only[List.getElem?_cons_succ,List.getElem?_cons_zero]at c1 c2;have HB:=Lib.hid hB;clear a1 a2 hB;go_wp2_with fail;refine(Ik z 0 (HX.out.below HB.out) (HY.out.below HB.out) HZ.out).mono ?_;rintro e w' ⟨rfl,hB⟩;have HB2:=Lib.hid (Below.steps HB.out hB);clear hB HB c1 c2;go_wp2_with fail;go_ret;exact⟨rfl,HB2.out⟩
def JB (w:World) (b o:Nat) (u0 u1 u2:Value):Prop:=∀V:World,Below w.heap.size w V->V.cell? ⟨b,o,none⟩=some u0/\ V.cell? ⟨b,o+1,none⟩=some u1/\ V.cell? ⟨b,o+2,none⟩=some u2
theorem Gl.Qa [Ol] {w:World} {b off n cap:Nat} {bM:List (List Value)} (h:Gl 3 w (some ⟨b,off,none⟩) n cap bM) {k:Nat} (hk:k<n) {u0 u1 u2:Value} (e:bM.getD k []=[u0,u1,u2]):JB w b (off+k*3) u0 u1 u2:=by
 intro V hV;have hc:=fun j hj=>(h.below hV).cells _ rfl k hk j hj
 have h0:=hc 0 (by omega);have h1:=hc 1 (by omega);have h2:=hc 2 (by omega);rw[e]at h0 h1 h2;rw[Addr.add_lit]at h0 h1 h2;rw[<-Nat.add_assoc]at h0 h1 h2;exact⟨h0,h1,h2⟩
theorem Gl.Dv [Ol] {sz:Nat} {w:World} {ao:Option Addr} {n cap:Nat} {bM:List (List Value)} (h:Gl sz w ao n cap bM) (hn:0<n):∃b off,ao=some ⟨b,off,none⟩/\ b<w.heap.size:=by
 obtain⟨b,off,h1,h2,_⟩:=h.at hn;exact⟨b,off,h1,h2⟩
theorem Pr.at [Ol] {w:World} {ao:Option Addr} {n cap:Nat} {ps:List Raw} (h:Pr w ao n cap ps) {k:Nat} (hk:k<n):
  ∃b off xa xn xc xp xq xr,ao=some ⟨b,off,none⟩/\ b<w.heap.size/\ JB w b (off+k*3) (.bool (ps.getD k jW).1.1) (.slice xa xn xc) (.slice xp xq xr)/\ Sl w xa xn xc (ps.getD k jW).1.2/\ Ml w xp xq xr (ps.getD k jW).2:=by
 have hl:=h.len;obtain⟨bM,hG,hT⟩:=h.ex;obtain⟨b,off,rfl,hb⟩:=hG.Dv (by omega);obtain⟨xa,xn,xc,xp,xq,xr,hv,h1,h2⟩:=bY.get jW hT k (by omega);exact⟨b,off,xa,xn,xc,xp,xq,xr,rfl,hb,hG.Qa hk hv,h1,h2⟩
theorem Pc.at [Ol] {K:Nat} {w:World} {ao:Option Addr} {n cap:Nat} {p:List Term} (h:Pc K w ao n cap p) {k:Nat} (hk:k<n):
  ∃b off xm xa xn xc xp xq xr,ao=some ⟨b,off,none⟩/\ b<w.heap.size/\ JB w b (off+k*3) (.bool xm) (.slice xa xn xc) (.slice xp xq xr)/\ Cn w xm xa xn xc (p.getD k (0,[])).1/\ Bd (p.getD k (0,[])).1 K/\ Ml w xp xq xr (p.getD k (0,[])).2:=by
 have hl:=h.len;obtain⟨bM,hG,hT⟩:=h.ex;obtain⟨b,off,rfl,hb⟩:=hG.Dv (by omega);obtain⟨xm,xa,xn,xc,xp,xq,xr,hv,h1,h2,h3⟩:=bY.get (0,[]) hT k (by omega);exact⟨b,off,xm,xa,xn,xc,xp,xq,xr,rfl,hb,hG.Qa hk hv,h1,h2,h3⟩
theorem Pi.at [Ol] {K:Nat} {w:World} {ao:Option Addr} {n cap:Nat} {p:List Term} (h:Pi K w ao n cap p) {k:Nat} (hk:k<n):
  ∃b off xm xa xn xc xp xq xr,ao=some ⟨b,off,none⟩/\ b<w.heap.size/\ JB w b (off+k*3) (.bool xm) (.slice xa xn xc) (.slice xp xq xr)/\ In w xm xa xn xc (p.getD k (0,[])).1/\ xn<=K/\ Ml w xp xq xr (p.getD k (0,[])).2:=by
 have hl:=h.len;obtain⟨bM,hG,hT⟩:=h.ex;obtain⟨b,off,rfl,hb⟩:=hG.Dv (by omega);obtain⟨xm,xa,xn,xc,xp,xq,xr,hv,h1,h2,h3⟩:=bY.get (0,[]) hT k (by omega);exact⟨b,off,xm,xa,xn,xc,xp,xq,xr,rfl,hb,hG.Qa hk hv,h1,h2,h3⟩
theorem uM {α:Type} {l:List α} {k:Nat} (d:α) (h:k<l.length):l.getD k d=l[k]:=by simp[List.getD,List.getElem?_eq_getElem h]
theorem getD_in {α:Type} {l:List α} {k:Nat} (d:α) (h:k<l.length):l.getD k d∈l:=by rw[uM d h];exact List.getElem_mem _
theorem bD.c3 {w:World} {b:Nat} {u0 u1 u2:Value} {T:TypeId} (h:bD w b [u0,u1,u2] T):w.cell? ⟨b,0,none⟩=some u0/\ w.cell? ⟨b,1,none⟩=some u1/\ w.cell? ⟨b,2,none⟩=some u2:=⟨h.cell 0,h.cell 1,h.cell 2⟩
theorem bD.f3 {w:World} {b:Nat} {u0 u1 u2:Value} {T:TypeId} (h:bD w b [u0,u1,u2] T):w.frozen? ⟨b,0,none⟩=false/\ w.frozen? ⟨b,1,none⟩=false/\ w.frozen? ⟨b,2,none⟩=false:=⟨h.fz 0,h.fz 1,h.fz 2⟩
theorem bD.c1 {w:World} {b:Nat} {u0:Value} {T:TypeId} (h:bD w b [u0] T):w.cell? ⟨b,0,none⟩=some u0:=h.cell 0
theorem bD.f1 {w:World} {b:Nat} {u0:Value} {T:TypeId} (h:bD w b [u0] T):w.frozen? ⟨b,0,none⟩=false:=h.fz 0
theorem bD.c2 {w:World} {b:Nat} {u0 u1:Value} {T:TypeId} (h:bD w b [u0,u1] T):w.cell? ⟨b,0,none⟩=some u0/\ w.cell? ⟨b,1,none⟩=some u1:=⟨h.cell 0,h.cell 1⟩
theorem KM {xm:Bool} {xs:List Nat} {TD:List (Int×Int)} (hw:Wf xs):za ((xm,xs),TD)=(vS xm xs.length xs&& !((dM xm (val xs)).sign==0)&&bA 0 TD):=by
 unfold za;show(vS xm xs.length xs&& !(xs.length==0)&&bA 0 TD)=_;cases hA:vS xm xs.length xs with
 |false=>rfl
 |true=>
  rw[zR hw]at hA;have h2:=(of_decide_eq_true hA).2
  congr 2
  congr 1
  by_cases h0:dM xm (val xs)=0
  ·rw[h0]at h2 ⊢;rw[h2];rfl
  ·have h3:(dM xm (val xs)).sign≠0:=fun e=>h0 (Int.sign_eq_zero_iff_zero.1 e)
   have h4:xs.length≠0:=fun e=>by
    have e2:xs=[]:=List.eq_nil_of_length_eq_zero e;rw[e2]at h0;exact h0 (by cases xm<;>rfl)
   rw[show(xs.length==0)=false from by simpa using h4,show((dM xm (val xs)).sign==0)=false from by simpa using h3]
def Clean (L:List Value):Prop:=∀u∈L,bB u=true
def nZ:List Value->Nat->List Value->List Value
 |L,_,[]=>L
 |L,o,v::r=>nZ (L.set o v) (o+1) r
theorem iG:∀(vs L:List Value) (o:Nat),(nZ L o vs).length=L.length
 |[],_,_=>rfl
 |v::r,L,o=>by rw[nZ,iG r,List.length_set]
theorem jw:∀(vs L:List Value) (o i:Nat),i<o∨o+vs.length<=i->(nZ L o vs)[i]? =L[i]?
 |[],_,_,_,_=>rfl
 |v::r,L,o,i,h=>by
  rw[nZ,jw r _ _ i (by simp at h;omega),List.getElem?_set_ne (by simp at h;omega)]
theorem jC:∀(vs L:List Value) (o i:Nat),o<=i->i<o+vs.length->i<L.length->(nZ L o vs)[i]? =vs[i-o]?
 |[],_,_,_,h,h2,_=>by simp at h2;omega
 |v::r,L,o,i,h,h2,h3=>by
  rw[nZ];by_cases e:i=o
  ·subst e;rw[jw r _ _ _ (by omega),Nat.sub_self,List.getElem?_set_self (by omega)];rfl
  ·rw[jC r _ _ i (by omega) (by simp at h2;omega) (by rw[List.length_set];exact h3),show i-o=(i-(o+1))+1 by omega];rfl
theorem L9 {L:List Value} (h:Clean L) (o:Nat) {v:Value} (hv:bB v=true):Clean (L.set o v):=fun u hu=>by
 rcases List.mem_or_eq_of_mem_set hu with h1|h1
 ·exact h u h1
 ·rw[h1];exact hv
theorem rA:∀(vs L:List Value) (o:Nat),Clean L->Clean vs->Clean (nZ L o vs)
 |[],_,_,h,_=>h
 |v::r,L,o,h,hv=>rA r _ _ (L9 h o (hv v (by simp))) fun u hu=>hv u (by simp[hu])
def Seg (sz:Nat) (L:List Value) (off:Nat) (X:List (List Value)):Prop:=∀t,t<X.length->∀j,j<sz->L[off+t*sz+j]? =(X.getD t [])[j]?
theorem Seg.nil (sz:Nat) (L:List Value) (off:Nat):Seg sz L off []:=fun t ht=>by simp at ht
theorem Seg.far {sz:Nat} {L:List Value} {off:Nat} {X:List (List Value)} (h:Seg sz L off X) {o:Nat} {vs:List Value} (hf:o+vs.length<=off∨off+X.length*sz<=o):Seg sz (nZ L o vs) off X:=fun t ht j hj=>by
 rw[jw _ _ _ _ ?_]
 ·exact h t ht j hj
 ·have:(t+1)*sz<=X.length*sz:=Nat.mul_le_mul_right _ ht;rw[Nat.add_mul]at this;omega
theorem Seg.here {sz:Nat} {L:List Value} {o:Nat} {X:List (List Value)} (hE:Each sz X) (hl:o+X.length*sz<=L.length):Seg sz (nZ L o X.flatten) o X:=fun t ht j hj=>by
 have:(t+1)*sz<=X.length*sz:=Nat.mul_le_mul_right _ ht;rw[Nat.add_mul]at this;rw[jC _ _ _ _ (by omega) (by rw[oz hE];omega) (by omega),show o+t*sz+j-o=t*sz+j by omega];exact qK hE t j ht hj
theorem Seg.append {sz:Nat} {L:List Value} {off:Nat} {X Y:List (List Value)} (h:Seg sz L off X) (h2:Seg sz L (off+X.length*sz) Y):Seg sz L off (X++Y):=fun t ht j hj=>by
 by_cases ht2:t<X.length
 ·rw[h t ht2 j hj];simp[List.getD,List.getElem?_append_left ht2]
 ·rw[List.length_append]at ht;obtain⟨s,rfl⟩:∃s,t=X.length+s:=⟨t-X.length,by omega⟩;have:=h2 s (by omega) j hj;rw[show off+(X.length+s)*sz+j=off+X.length*sz+s*sz+j by rw[Nat.add_mul];omega,this];simp[List.getD,List.getElem?_append_right]
theorem Seg.take {sz:Nat} {L:List Value} {off:Nat} {X:List (List Value)} (h:Seg sz L off X) (k:Nat):Seg sz L off (X.take k):=fun t ht j hj=>by
 rw[List.length_take]at ht;rw[h t (by omega) j hj];simp[List.getD,show t<k by omega]
theorem Seg.drop {sz:Nat} {L:List Value} {off:Nat} {X:List (List Value)} (h:Seg sz L off X) (k:Nat):Seg sz L (off+k*sz) (X.drop k):=fun t ht j hj=>by
 rw[List.length_drop]at ht;have:=h (k+t) (by omega) j hj;rw[show off+k*sz+t*sz+j=off+(k+t)*sz+j by rw[Nat.add_mul];omega,this];simp[List.getD]
theorem Seg.one {L:List Value} {o:Nat} {a b c:Value} (h:o+2<L.length):Seg 3 (nZ L o [a,b,c]) o [[a,b,c]]:=fun t ht j hj=>by
 simp at ht;subst ht;rw[jC _ _ _ _ (by omega) (by simp;omega) (by omega),show o+0*3+j-o=j by omega];rfl
theorem Seg.cons {sz:Nat} {L:List Value} {off:Nat} {x:List Value} {X:List (List Value)} (h:Seg sz L off [x]) (h2:Seg sz L (off+sz) X):Seg sz L off (x::X):=by
 have:=Seg.append h (Y:=X) (by simpa using h2);simpa using this
theorem Seg.cast {sz:Nat} {L:List Value} {off off':Nat} {X:List (List Value)} (h:Seg sz L off X) (e:off=off'):Seg sz L off' X:=e▸h
theorem bD.gY {w:World} {g:Nat} {L:List Value} {T:TypeId} (h:bD w g L T) (hc:Clean L):fe w g:=fun cur T' fr hh u hu=>by
 unfold bD at h;rw[h]at hh;cases hh;simp at hu;exact hc u hu
theorem bD.put {w:World} {g:Nat} {L:List Value} {T:TypeId} (h:bD w g L T):∀(vs:List Value) (o:Nat),bD (w.setCells g o vs) g (nZ L o vs) T:=by
 intro vs;induction vs generalizing w L with
 |nil=>intro o;exact h
 |cons v r ih=>intro o;exact ih (h.set o v) (o+1)
theorem bD.YM {w:World} {g:Nat} {L:List Value} {T:TypeId} (h:bD w g L T) (o:Nat) (a b c:Value):bD (((w.setCell ⟨g,o,none⟩ a).setCell ⟨g,o+1,none⟩ b).setCell ⟨g,o+2,none⟩ c) g (nZ L o [a,b,c]) T:=((h.set o a).set (o+1) b).set (o+2) c
theorem sH (w:World) (g o:Nat) (a b c:Value):w.grownBy (((w.setCell ⟨g,o,none⟩ a).setCell ⟨g,o+1,none⟩ b).setCell ⟨g,o+2,none⟩ c) (some g):=
 ⟨rfl,rfl,rfl,by simp,fun k _ hk=>by
  have hk2:k≠g:=fun e=>hk (by rw[e])
  rw[Below.heap_setCell _ _ _ _ hk2,Below.heap_setCell _ _ _ _ hk2,Below.heap_setCell _ _ _ _ hk2]⟩
theorem cB (w:World) (g o:Nat) (a:Value):w.grownBy (w.setCell ⟨g,o,none⟩ a) (some g):=
 ⟨rfl,rfl,rfl,by simp,fun k _ hk=>Below.heap_setCell _ _ _ _ (fun e=>hk (by rw[e]))⟩
theorem sQ (g:Nat):∀(vs:List Value) (w:World) (o:Nat),w.grownBy (w.setCells g o vs) (some g)
 |[],w,_=>⟨rfl,rfl,rfl,Nat.le_refl _,fun _ _ _=>rfl⟩
 |v::r,w,o=>by
  have h1:=cB w g o v;have h2:=sQ g r (w.setCell ⟨g,o,none⟩ v) (o+1);exact⟨h2.os.trans h1.os,h2.tape.trans h1.tape,h2.output.trans h1.output,Nat.le_trans h1.size h2.size,fun k hk hne=>(h2.block k (Nat.lt_of_lt_of_le hk h1.size) hne).trans (h1.block k hk hne)⟩
theorem eG {w w1 w2:World} {r:Option Nat} (h1:w.grownBy w1 r) (h2:w1.grownBy w2 r):w.grownBy w2 r:=
 ⟨h2.os.trans h1.os,h2.tape.trans h1.tape,h2.output.trans h1.output,Nat.le_trans h1.size h2.size,fun k hk hne=>(h2.block k (Nat.lt_of_lt_of_le hk h1.size) hne).trans (h1.block k hk hne)⟩
theorem dY {w w1:World} (r:Option Nat) (h:Below w.heap.size w w1):w.grownBy w1 r:=⟨h.os,h.tape,h.output,h.size,fun k hk _=>h.block k hk⟩
theorem bD.apart {w w1:World} {b:Nat} {L:List Value} {T:TypeId} (h:bD w b L T) {r:Option Nat} (hg:w.grownBy w1 r) (hne:some b≠r):bD w1 b L T:=h.keep (hg.block b h.lt hne)
theorem qa {B:Nat} {w w1:World} {g:Nat} (h:w.grownBy w1 (some g)) (hB:B<=g) (hs:B<=w.heap.size):Below B w w1:=
 ⟨h.os,h.tape,h.output,h.size,fun k hk=>h.block k (by omega) (fun e=>by cases e;omega)⟩
structure Rw (B:Nat) (T:TypeId) (sz:Nat) (w:World) (ao:Option Addr) (n cap:Nat) (X:List (List Value)):Prop where
 ex:(ao=none/\ n=0/\ cap=0/\ X=[])∨ ∃g off L,ao=some ⟨g,off,none⟩/\ B<=g/\ bD w g L T/\ Clean L/\ off+cap*sz<=L.length/\ n<=cap/\ cap<=maxLen/\ n<=4398046511104/\ X.length=n/\ Each sz X/\ Seg sz L off X
theorem Rw.zero (B:Nat) (T:TypeId) (sz:Nat) (w:World):Rw B T sz w none 0 0 []:=⟨.inl ⟨rfl,rfl,rfl,rfl⟩⟩
theorem Rw.gl [Ol] {B:Nat} {T:TypeId} {sz:Nat} {w:World} {ao:Option Addr} {n cap:Nat} {X:List (List Value)} (h:Rw B T sz w ao n cap X):Gl sz w ao n cap X:=by
 rcases h.ex with⟨rfl,rfl,rfl,rfl⟩|⟨g,off,L,rfl,_,hA,hcl,hl,hn,_,hb,hX,hE,hS⟩
 ·exact Gl.zero sz w
 ·refine Gl.of_cells hX hn hb hE (fun _=>hA.lt) (fun _=>Kp.AJ (hA.gY hcl)) fun t ht j hj=>?_
  rw[hA.cell];exact hS t (by omega) j hj
theorem Rw.len [Ol] {B:Nat} {T:TypeId} {sz:Nat} {w:World} {ao:Option Addr} {n cap:Nat} {X:List (List Value)} (h:Rw B T sz w ao n cap X):X.length=n:=h.gl.len
theorem Rw.keep {B:Nat} {T:TypeId} {sz:Nat} {w w':World} {ao:Option Addr} {n cap:Nat} {X:List (List Value)} (h:Rw B T sz w ao n cap X) (hk:∀a,ao=some a->w'.heap[a.block]? =w.heap[a.block]?):Rw B T sz w' ao n cap X:=by
 rcases h.ex with h1|⟨g,off,L,rfl,hB,hA,r⟩
 ·exact⟨.inl h1⟩
 ·exact⟨.inr ⟨g,off,L,rfl,hB,hA.keep (hk _ rfl),r⟩⟩
theorem Rw.below {B:Nat} {T:TypeId} {sz:Nat} {w w':World} {ao:Option Addr} {n cap:Nat} {X:List (List Value)} (h:Rw B T sz w ao n cap X) (hb:Below w.heap.size w w'):Rw B T sz w' ao n cap X:=by
 rcases h.ex with h1|⟨g,off,L,rfl,hB,hA,r⟩
 ·exact⟨.inl h1⟩
 ·exact⟨.inr ⟨g,off,L,rfl,hB,hA.below hb,r⟩⟩
theorem Rw.mono {B B':Nat} {T:TypeId} {sz:Nat} {w:World} {ao:Option Addr} {n cap:Nat} {X:List (List Value)} (h:Rw B T sz w ao n cap X) (hB:B'<=B):Rw B' T sz w ao n cap X:=by
 rcases h.ex with h1|⟨g,off,L,rfl,hb,r⟩
 ·exact⟨.inl h1⟩
 ·exact⟨.inr ⟨g,off,L,rfl,by omega,r⟩⟩
def blk (ao:Option Addr):Option Nat:=ao.map (·.block)
theorem IW (ao:Option Addr) (n cap:Nat):(Value.slice ao n cap).ownBlock=blk ao:=by cases ao<;>rfl
theorem Rw.apart {B:Nat} {T:TypeId} {sz:Nat} {w w':World} {ao:Option Addr} {n cap:Nat} {X:List (List Value)} (h:Rw B T sz w ao n cap X) {r:Option Nat} (hg:w.grownBy w' r) (hne:blk ao=none∨blk ao≠r):Rw B T sz w' ao n cap X:=by
 rcases h.ex with h1|⟨g,off,L,rfl,hB,hA,q⟩
 ·exact⟨.inl h1⟩
 ·refine⟨.inr ⟨g,off,L,rfl,hB,hA.apart hg ?_,q⟩⟩;rcases hne with h2|h2
  ·cases h2
  ·exact h2
theorem Rw.lt {B:Nat} {T:TypeId} {sz:Nat} {w:World} {ao:Option Addr} {n cap:Nat} {X:List (List Value)} (h:Rw B T sz w ao n cap X):∀g,blk ao=some g->B<=g/\ g<w.heap.size:=by
 intro g hg;rcases h.ex with⟨rfl,_⟩|⟨g',off,L,rfl,hB,hA,q⟩
 ·cases hg
 ·cases hg;exact⟨hB,hA.lt⟩
theorem Rw.gY {B:Nat} {T:TypeId} {sz:Nat} {w:World} {ao:Option Addr} {n cap:Nat} {X:List (List Value)} (h:Rw B T sz w ao n cap X):∀g,blk ao=some g->fe w g:=by
 intro g hg;rcases h.ex with⟨rfl,_⟩|⟨g',off,L,rfl,hB,hA,hc,q⟩
 ·cases hg
 ·cases hg;exact hA.gY hc
theorem iK.rw [Ol] {B:Nat} {T:TypeId} {sz:Nat} {w:World} {ao:Option Addr} {n cap:Nat} {X:List (List Value)} (h:iK B T sz w ao n cap X):Rw B T sz w ao n cap X:=by
 rcases h.row.2 with⟨hv,h0⟩|⟨g,cap',cur,hv,hg,hh,hn,hm,hs,ht⟩
 ·simp only[Value.slice.injEq]at hv;obtain⟨rfl,rfl,rfl⟩:=hv;exact⟨.inl ⟨rfl,rfl,rfl,List.eq_nil_of_length_eq_zero (by rw[h.len])⟩⟩
 ·simp only[Value.slice.injEq,true_and]at hv;obtain⟨rfl,rfl⟩:=hv;refine⟨.inr ⟨g,0,cur.toList,rfl,hg,hh,h.AJ g rfl cur T (0,0) hh,by simp[hs],hn,hm,h.big,h.len,h.each,fun t ht2 j hj=>?_⟩⟩;rw[<-qK h.each t j ht2 hj,<-ht,List.getElem?_take,Nat.zero_add,if_pos];have:(t+1)*sz<=n*sz:=Nat.mul_le_mul_right _ (by rw[<-h.len];exact ht2);rw[Nat.add_mul]at this;omega
theorem lW [Ol] {K:Nat} {w w':World} {X:List (List Value)} {p:List Term} (h:bY (jV K w) X p) (hb:Below w.heap.size w w'):bY (jV K w') X p:=h.imp fun _ _ h=>h.below hb
theorem sI [Ol] {K:Nat} {w w':World} {g:Nat} {X:List (List Value)} {p:List Term} (h:bY (jV K w) X p) (hc:fe w g) (hg:w.grownBy w' (some g)):bY (jV K w') X p:=h.imp fun _ _ h=>h.jk hc hg
theorem Ma [Ol] {K L:Nat} {w:World} {X:List (List Value)} {p:List Term} (h:bY (jV K w) X p) (hk:K<=L):bY (jV L w) X p:=h.imp fun _ _ h=>h.mono hk
def Pw [Ol] (B K:Nat) (w:World) (ao:Option Addr) (n cap:Nat) (p:List Term):Prop:=∃X,Rw B 70 3 w ao n cap X/\ bY (jV K w) X p
theorem Pw.pc [Ol] {B K:Nat} {w:World} {ao:Option Addr} {n cap:Nat} {p:List Term} (h:Pw B K w ao n cap p):Pc K w ao n cap p:=by
 obtain⟨X,h1,h2⟩:=h;exact⟨X,h1.gl,h2⟩
theorem Pw.len [Ol] {B K:Nat} {w:World} {ao:Option Addr} {n cap:Nat} {p:List Term} (h:Pw B K w ao n cap p):p.length=n:=h.pc.len
theorem Pw.below [Ol] {B K:Nat} {w w':World} {ao:Option Addr} {n cap:Nat} {p:List Term} (h:Pw B K w ao n cap p) (hb:Below w.heap.size w w'):Pw B K w' ao n cap p:=by
 obtain⟨X,h1,h2⟩:=h;exact⟨X,h1.below hb,lW h2 hb⟩
theorem Pw.mono [Ol] {B B' K K':Nat} {w:World} {ao:Option Addr} {n cap:Nat} {p:List Term} (h:Pw B K w ao n cap p) (hB:B'<=B) (hK:K<=K'):Pw B' K' w ao n cap p:=by
 obtain⟨X,h1,h2⟩:=h;exact⟨X,h1.mono hB,Ma h2 hK⟩
theorem Pw.zero [Ol] (B K:Nat) (w:World):Pw B K w none 0 0 []:=⟨[],Rw.zero _ _ _ _,trivial⟩
def YQ [Ol] (K:Nat) (w:World) (p:List Term) (e:Ending) (w':World):Prop:=∃ao n cap,e= .returned (.slice ao n cap)/\ Pw w.heap.size K w' ao n cap p/\ Below w.heap.size w w'
theorem Cn.far {w:World} {m:Bool} {ao:Option Addr} {n cap:Nat} {z:Int} (h:Cn w m ao n cap z) {b:Nat} {L:List Value} {T:TypeId} (hA:bD w b L T) (hc:Clean L) {w':World} (hg:w.grownBy w' (some b)):Cn w' m ao n cap z:=
 ⟨h.neg,h.sl.len,h.sl.le,h.sl.big,h.sl.wf,h.sl.nil,fun ad had t ht=>hg.cell (h.sl.cells ad had t ht) fun eq=>(bD.gY hA hc).far (h.sl.cells ad had t ht) (Option.some.inj eq)⟩
theorem Tryz.KJ:(Tryz.prog.info? 70).map (fun i=>(i.zero,i.size,i.bytes))=some (some (.agg #[.bool false,.slice none 0 0,.slice none 0 0]),3,56):=by kernel_rfl
def nD [Ol] (K:Nat) (w:World) (g n k:Nat) (ts:List Term) (V:World):Prop:=
 ∃L Y,bD V g L 70/\ Clean L/\ L.length=n*3/\ Seg 3 L 0 Y/\ Each 3 Y/\ bY (jV K V) Y (ts.take k)/\ Below w.heap.size w V
theorem nD.step [Ol] {K:Nat} {w:World} {g n k:Nat} {ts:List Term} {V V':World} (h:nD K w g n k ts V) (hb:Below V.heap.size V V'):nD K w g n k ts V':=by
 obtain⟨L,Y,h1,h2,h3,h4,h5,h6,h7⟩:=h;exact⟨L,Y,h1.below hb,h2,h3,h4,h5,lW h6 hb,Below.steps h7 hb⟩
theorem nD.cells [Ol] {K:Nat} {w:World} {g n k:Nat} {ts:List Term} {V:World} (h:nD K w g n k ts V) (hk:k<n):
  (∃a b c,V.cell? ⟨g,k*3,none⟩=some a/\ V.cell? ⟨g,k*3+1,none⟩=some b/\ V.cell? ⟨g,k*3+2,none⟩=some c)/\ V.frozen? ⟨g,k*3,none⟩=false/\ V.frozen? ⟨g,k*3+1,none⟩=false/\ V.frozen? ⟨g,k*3+2,none⟩=false:=by
 obtain⟨L,Y,h1,h2,h3,h4,h5,h6,h7⟩:=h;have hl:(k+1)*3<=n*3:=Nat.mul_le_mul_right _ hk;refine⟨⟨_,_,_,(h1.cell (k*3)).trans (List.getElem?_eq_getElem (by omega)),(h1.cell (k*3+1)).trans (List.getElem?_eq_getElem (by omega)),(h1.cell (k*3+2)).trans (List.getElem?_eq_getElem (by omega))⟩,h1.fz _,h1.fz _,h1.fz _⟩
theorem nD.put [Ol] {K:Nat} {w:World} {g n k:Nat} {ts:List Term} {V:World} (h:nD K w g n k ts V) (hk:k<n) (hts:ts.length=n) (hg:w.heap.size<=g) {m:Bool} {ao:Option Addr} {na cap:Nat} {bo:Option Addr} {l cb:Nat}
  (hC:Cn V m ao na cap (ts.getD k (0,[])).1) (hB:Bd (ts.getD k (0,[])).1 K) (hM:Ml V bo l cb (ts.getD k (0,[])).2):
  nD K w g n (k+1) ts (((V.setCell ⟨g,k*3,none⟩ (.bool m)).setCell ⟨g,k*3+1,none⟩ (.slice ao na cap)).setCell ⟨g,k*3+2,none⟩ (.slice bo l cb)):=by
 obtain⟨L,Y,h1,h2,h3,h4,h5,h6,h7⟩:=h;have hl:(k+1)*3<=n*3:=Nat.mul_le_mul_right _ hk;have hY:Y.length=k:=by rw[h6.len,List.length_take];omega
 have e:ts.take (k+1)=ts.take k++[ts.getD k (0,[])]:=by
  rw[List.take_succ_eq_append_getElem (by omega),uM _ (by omega)]
 have Wq:=sH V g (k*3) (.bool m) (.slice ao na cap) (.slice bo l cb);refine⟨nZ L (k*3) [.bool m,.slice ao na cap,.slice bo l cb],Y++[[.bool m,.slice ao na cap,.slice bo l cb]],h1.YM _ _ _ _,rA _ _ _ h2 (fun u hu=>by simp at hu;rcases hu with rfl|rfl|rfl<;>rfl),by rw[iG,h3],?_,h5.append (Each.V8 rfl (fun u hu=>by simp at hu;rcases hu with rfl|rfl|rfl<;>rfl)),?_,?_⟩
 ·refine Seg.append (h4.far (.inr (by rw[hY];omega))) ?_;rw[hY,Nat.zero_add];exact Seg.one (by omega)
 ·rw[e];refine bY.append (sI h6 (h1.gY h2) Wq) ⟨⟨m,ao,na,cap,bo,l,cb,rfl,hC.far h1 h2 Wq,hB,?_⟩,trivial⟩
  exact⟨hM.len,hM.le,hM.big,hM.wf,hM.nil,fun ad had t ht=>⟨Wq.cell (hM.cells ad had t ht).1 (fun eq=>(h1.gY h2).far (hM.cells ad had t ht).1 (Option.some.inj eq)),Wq.cell (hM.cells ad had t ht).2 (fun eq=>(h1.gY h2).far (hM.cells ad had t ht).2 (Option.some.inj eq))⟩,fun h0 ad had=>by
   obtain⟨x,hx⟩:=hM.int h0 had;exact(hM.kp h0 ad had).grown (hM.blt h0 had) Wq fun eq=>(h1.gY h2).far hx (Option.some.inj eq)⟩
 ·exact h7.trans (qa Wq hg h7.size)
theorem nD.done [Ol] {K:Nat} {w:World} {g n:Nat} {ts:List Term} {V:World} (h:nD K w g n n ts V) (hn:n<=1000000) (hts:ts.length=n) (hg:g=w.heap.size):YQ K w ts (.returned (.slice (some ⟨g,0,none⟩) n n)) V:=by
 obtain⟨L,Y,h1,h2,h3,h4,h5,h6,h7⟩:=h;rw[List.take_of_length_le (by omega)]at h6;refine⟨_,_,_,rfl,⟨Y,⟨.inr ⟨g,0,L,rfl,by omega,h1,h2,by omega,Nat.le_refl _,by unfold maxLen;omega,by omega,by rw[h6.len,hts],h5,h4⟩⟩,h6⟩,h7⟩
theorem vG (m:Bool) (ao:Option Addr) (n cap:Nat) (bo:Option Addr) (l cb:Nat):Clean [.bool m,.slice ao n cap,.slice bo l cb]:=fun u hu=>by simp at hu;rcases hu with rfl|rfl|rfl<;>rfl
theorem uL (k:Nat):Clean (Builtin.zeroCells (Value.agg #[.bool false,.slice none 0 0,.slice none 0 0]).cells k).toList:=by
 intro u hu;simp only[Builtin.zeroCells,Array.toList_map,List.mem_map,Value.cells]at hu;obtain⟨j,_,rfl⟩:=hu;have hj:j%3<3:=Nat.mod_lt _ (by omega);obtain⟨i,hi⟩:∃i,i=j%3:=⟨_,rfl⟩;show bB ((#[Value.bool false,.slice none 0 0,.slice none 0 0]:Array Value)[j%3]!)=true;rw[<-hi]at hj ⊢
 match i,hj with
 |0,_=>rfl
 |1,_=>rfl
 |2,_=>rfl
theorem Bo (k:Nat):(Builtin.zeroCells (Value.agg #[.bool false,.slice none 0 0,.slice none 0 0]).cells k).toList.length=k*3:=by simp[Builtin.zeroCells,Value.cells]
theorem uK {L M:List Value} (h:Clean L) (k:Clean M):Clean (L++M):=fun u hu=>(List.mem_append.1 hu).elim (h u) (k u)
section
variable {P:Program} (w:World)
end
theorem Dw {P:Program} {o:Oper} {a:Act} {w W:World} {K:Act->World->Prop} {Q:Exit->Act->World->Prop} (s x:Operand) (t u:TypeId) (hop:o.op=Op.call { callee:=Callee.builtin Builtin.append,args:= #[s,x],argTypes:= #[t,u] })
  (vs vx:Value) (hs:a.eval s=vs) (hx:a.eval x=vx) {v:Value} (hr:(Builtin.append_ #[t,u] o.type #[vs,vx]).run P w= .ok v W) (hK:K (a.put o.dst v) W):Oper.wp P o a w K Q:=by
 unfold Oper.wp execOp;simp only[hop,resolve,invoke,builtin,Sem.run_bind,Sem.run_pure,Result.andThen_ok,List.map_toArray,List.map_cons,List.map_nil,hs,hx,hr];exact hK
theorem jY {P:Program} {ops:Array Oper} {rest:List Oper} {o:Oper} {a:Act} {w W:World} {Q:Exit->Act->World->Prop} (hg:o.guard=none) (s x:Operand) (t u:TypeId) (hop:o.op=Op.call { callee:=Callee.builtin Builtin.append,args:= #[s,x],argTypes:= #[t,u] })
  (vs vx:Value) (hs:a.eval s=vs) (hx:a.eval x=vx) {v:Value} (hr:(Builtin.append_ #[t,u] o.type #[vs,vx]).run P w= .ok v W) (hK:wpList P ops Q rest (a.put o.dst v) W):wpList P ops Q (o::rest) a w:=
 wpList_plain hg fun _ hK'=>Dw s x t u hop vs vx hs hx hr (hK' _ _ hK)
structure Rm (g off cap:Nat) (L:List Value) (w:World):Prop where
 iQ:bD w g L 70
 AJ:Clean L
 room:off+cap*3<=L.length
 big:cap<=maxLen
theorem r9 {P:Program} (w:World) (t ty e:TypeId) (i:TypeInfo) (ht:P.underlying t=some (.slice e)) (hi:P.info? e=some i)
  (g off n c:Nat) (a:Addr) (m c2:Nat) (news:List Value) (hl:news.length=m*i.size) (hnews:∀j v,news[j]? =some v->w.cell? (a.add j)=some v) (h1:∀v∈news,v.oneCell'=true) (hroom:n+m<=c)
  (hc:∀j,j<news.length->(w.cell? ⟨g,off+n*i.size+j,none⟩).isSome=true) (hf:∀j,j<news.length->w.frozen? ⟨g,off+n*i.size+j,none⟩=false):
  (Builtin.append_ #[t,t] ty #[.slice (some ⟨g,off,none⟩) n c,.slice (some a) m c2]).run P w= .ok (.slice (some ⟨g,off,none⟩) (n+m) c) (w.setCells g (off+n*i.size) news):=by
 have hfs:=run_firstCells_some (P:=P) w i.size m a m c2 news hl hnews;have hst:=run_storeCells_cells (P:=P) g (off+n*i.size) news 0 w (by simpa using hc) (by simpa using hf) h1;simp only[Nat.add_zero]at hst;simp[Builtin.append_,run_underlying ht,sizeOf,typeInfo,hi,Builtin.lenOf,hroom,hfs,Addr.add_lit,hst]
end Go.Proofs.YtmenbpmciblnlaaGreatDoor
