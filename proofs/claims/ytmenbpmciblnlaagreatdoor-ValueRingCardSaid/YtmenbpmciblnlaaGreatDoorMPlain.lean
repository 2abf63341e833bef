import Derived.Test.YtmenbpmciblnlaaGreatDoorGBase
set_option maxHeartbeats 0
set_option maxRecDepth 100000
open Bool renaming and_eq_true->ah5
open Int renaming le_refl->ah7,lt_trichotomy->ah6
open List renaming cons_append->ai0,drop_eq_getElem_cons->ah8,filter_cons_of_neg->ai3,filter_cons_of_pos->ai4,getD->ah9,mem_cons->ai2,mem_map->ai1
open Nat renaming le_refl->ai5
open Ne renaming symm->ai6
namespace Go.Proofs.YtmenbpmciblnlaaGreatDoor
def Cp (lo:Int) (p:Int×Int):Bool:=decide (lo<p.1)&&(decide (p.1<=200)&&(decide (1<=p.2)&&decide (p.2<=10000)))
def aQ:Int->List (Int×Int)->Bool
 | _,[]=>true
 |lo,p::r=>Cp lo p&&aQ p.1 r
def Rq (ps:List (Int×Int)):Nat->Int
 |0=>0
 |k+1=>(ps.getD k (0,0)).1
theorem zI (ps:List (Int×Int)) (k:Nat) (lo:Int) (h:k<ps.length):aQ lo (ps.drop k)=(Cp lo (ps.getD k (0,0))&&aQ (Rq ps (k+1)) (ps.drop (k+1))):=by
 rw[ah8 h];simp[aQ,Rq,ah9,h]
def aI:List (Int×Int)->Int->Int
 |[],_=>0
 |p::r,v=>if p.1=v then p.2 else aI r v
def ic:Int->List (Int×Int)->Prop
 | _,[]=>True
 |lo,p::r=>lo<p.1/\ p.1<=200/\ p.2≠0/\ ic p.1 r
theorem cO {v:Int}:∀{ps:List (Int×Int)} {lo:Int},ic lo ps->v<=lo->aI ps v=0
 |[],_,_,_=>rfl
 |p::r,lo,h,hv=>by
  have h1:=h.1;unfold aI;rw[if_neg (by omega)];exact cO h.2.2.2 (by omega)
theorem wY {v:Int} (hv:200<v):∀{ps:List (Int×Int)} {lo:Int},ic lo ps->aI ps v=0
 |[],_,_=>rfl
 |p::r,lo,h=>by
  have h1:=h.2.1;unfold aI;rw[if_neg (by omega)];exact wY hv h.2.2.2
theorem Dr {lo lo':Int} (hl:lo'<=lo):∀{ps:List (Int×Int)},ic lo ps->ic lo' ps
 |[],_=>trivial
 | _::_,h=>⟨by have:=h.1;omega,h.2⟩
theorem vw:∀{xs ys:List (Int×Int)} {lo:Int},ic lo xs->ic lo ys->(∀v,aI xs v=aI ys v)->xs=ys
 |[],[],_,_,_,_=>rfl
 |[],q::s,lo,_,hy,he=>by
  have h1:=he q.1;simp only[aI,if_pos]at h1;exact absurd h1.symm hy.2.2.1
 |p::r,[],lo,hx,_,he=>by
  have h1:=he p.1;simp only[aI,if_pos]at h1;exact absurd h1 hx.2.2.1
 |p::r,q::s,lo,hx,hy,he=>by
  have hpq:p.1=q.1:=by
   rcases ah6 p.1 q.1 with h|h|h
   ·have h1:=he p.1;have h2:aI (q::s) p.1=0:=cO (lo:=p.1) ⟨h,hy.2⟩ (ah7 _);rw[h2]at h1;simp only[aI,if_pos]at h1;exact absurd h1 hx.2.2.1
   ·exact h
   ·have h1:=he q.1;have h2:aI (p::r) q.1=0:=cO (lo:=q.1) ⟨h,hx.2⟩ (ah7 _);rw[h2]at h1;simp only[aI,if_pos]at h1;exact absurd h1.symm hy.2.2.1
  have he1:=he p.1;simp only[aI,if_pos,hpq]at he1
  have hr:r=s:=vw (lo:=p.1) hx.2.2.2 (hpq▸hy.2.2.2) λv=>by
   by_cases hv:p.1=v
   ·rw[cO hx.2.2.2 (by omega),cO (lo:=q.1) hy.2.2.2 (by omega)]
   ·have h3:=he v;unfold aI at h3;rwa[if_neg hv,if_neg (by omega)]at h3
  rw[hr]
  congr 1
  exact Prod.ext hpq (by simpa using he1)
theorem qi:∀{ps:List (Int×Int)} {lo:Int},aQ lo ps=true↔ic lo ps/\∀v,0<=aI ps v/\ aI ps v<=10000
 |[],lo=>by simp[aQ,ic,aI]
 |p::r,lo=>by
  have ih:=qi (ps:=r) (lo:=p.1);constructor
  ·intro h;unfold aQ Cp at h;simp only[ah5,decide_eq_true_eq]at h;obtain⟨⟨h1,h2,h3,h4⟩,h5⟩:=h;obtain⟨g1,g2⟩:=ih.1 h5;refine⟨⟨h1,h2,by omega,g1⟩,λv=>?_⟩;unfold aI;by_cases hv:p.1=v
   ·rw[if_pos hv];omega
   ·rw[if_neg hv];exact g2 v
  ·rintro⟨⟨h1,h2,h3,h4⟩,h5⟩;have h6:=h5 p.1;simp only[aI,if_pos]at h6;unfold aQ Cp;simp only[ah5,decide_eq_true_eq];refine⟨⟨h1,h2,by omega,h6.2⟩,ih.2 ⟨h4,λv=>?_⟩⟩;by_cases hv:p.1=v
   ·rw[cO h4 (by omega)];omega
   ·have h7:=h5 v;unfold aI at h7;rwa[if_neg hv]at h7
theorem fw {ps:List (Int×Int)} (h:aQ 0 ps=true):ic 0 ps:=(qi.1 h).1
theorem eE {ps:List (Int×Int)} (h:aQ 0 ps=true) (v:Int):0<=aI ps v/\ aI ps v<=10000:=(qi.1 h).2 v
theorem lJ {ps:List (Int×Int)} (h:aQ 0 ps=true) {v:Int} (hv:v<1∨200<v):aI ps v=0:=by
 rcases hv with hv|hv
 ·exact cO (fw h) (by omega)
 ·exact wY hv (fw h)
def ow:List (Int×Int)->List (Int×Int)->List (Int×Int×Int)
 |[],ys=>ys.map λq=>(q.1,0,q.2)
 |xs,[]=>xs.map λp=>(p.1,p.2,0)
 |p::r,q::s=>if p.1<q.1 then(p.1,p.2,0)::ow r (q::s)else if q.1<p.1 then(q.1,0,q.2)::ow (p::r) s else(p.1,p.2,q.2)::ow r s
termination_by xs ys=>xs.length+ys.length
theorem jc (ys:List (Int×Int)):ow [] ys=ys.map λq=>(q.1,0,q.2):=by unfold ow;rfl
theorem ix (xs:List (Int×Int)):ow xs []=xs.map λp=>(p.1,p.2,0):=by
 cases xs with
 |nil=>simp[ow]
 |cons p r=>unfold ow;rfl
theorem wZ {p q:Int×Int} (r s:List (Int×Int)) (h:p.1<q.1):ow (p::r) (q::s)=(p.1,p.2,0)::ow r (q::s):=by
 rw[ow];rw[if_pos h]
theorem xb {p q:Int×Int} (r s:List (Int×Int)) (h:q.1<p.1):ow (p::r) (q::s)=(q.1,0,q.2)::ow (p::r) s:=by
 rw[ow];rw[if_neg (by omega),if_pos h]
theorem xd {p q:Int×Int} (r s:List (Int×Int)) (h:p.1=q.1):ow (p::r) (q::s)=(p.1,p.2,q.2)::ow r s:=by
 rw[ow];rw[if_neg (by omega),if_neg (by omega)]
theorem IJ {xs ys:List (Int×Int)} (h:xs=[]∨ys=[]):ow xs ys=xs.map (λp=>(p.1,p.2,(0:Int)))++ys.map (λq=>(q.1,(0:Int),q.2)):=by
 rcases h with rfl|rfl
 ·rw[jc];rfl
 ·rw[ix];simp
theorem map_drop {β:Type} (f:Int×Int->β) {ps:List (Int×Int)} {k:Nat} (h:k<ps.length):(ps.drop k).map f=f (ps.getD k (0,0))::(ps.drop (k+1)).map f:=by
 rw[ah8 h,List.map_cons];simp only[ah9,List.getElem?_eq_getElem h,Option.getD_some]
def fB (f:Int->Int->Int):List (Int×Int×Int)->List (Int×Int)
 |[]=>[]
 |t::r=>if f t.2.1 t.2.2=0 then fB f r else(t.1,f t.2.1 t.2.2)::fB f r
theorem nN (f:Int->Int->Int):∀a b:List (Int×Int×Int),fB f (a++b)=fB f a++fB f b
 |[],_=>rfl
 |t::r,b=>by
  simp only[ai0,fB,nN f r b];by_cases h:f t.2.1 t.2.2=0
  ·rw[if_pos h,if_pos h]
  ·rw[if_neg h,if_neg h];rfl
theorem uZ {f:Int->Int->Int} {t:Int×Int×Int} (a:List (Int×Int×Int)) (h:f t.2.1 t.2.2=0):fB f (a++[t])=fB f a:=by
 rw[nN];simp[fB,h]
theorem Gj {f:Int->Int->Int} {t:Int×Int×Int} (a:List (Int×Int×Int)) (h:f t.2.1 t.2.2≠0):fB f (a++[t])=fB f a++[(t.1,f t.2.1 t.2.2)]:=by
 rw[nN];simp[fB,h]
theorem zJ (f:Int->Int->Int):∀a:List (Int×Int×Int),(fB f a).length<=a.length
 |[]=>ai5 _
 |t::r=>by
  unfold fB;have:=zJ f r;by_cases h:f t.2.1 t.2.2=0
  ·rw[if_pos h];simp;omega
  ·rw[if_neg h];simp;omega
theorem mR {f:Int->Int->Int} {v x y:Int} {lo:Int} {ts:List (Int×Int×Int)} {a b:Int->Int} (h1:lo<v) (h2:v<=200) (hr:ic v (fB f ts))
  (he:∀u,aI (fB f ts) u=f (a u) (b u)) (a' b':Int->Int) (ha:∀u,u≠v->a' u=a u) (hb:∀u,u≠v->b' u=b u) (hav:a' v=x) (hbv:b' v=y):
  ic lo (fB f ((v,x,y)::ts))/\∀u,aI (fB f ((v,x,y)::ts)) u=f (a' u) (b' u):=by
 unfold fB;by_cases h:f x y=0
 ·rw[if_pos h];refine⟨Dr (by omega) hr,λu=>?_⟩;by_cases hu:u=v
  ·subst hu;rw[cO hr (ah7 _),hav,hbv,h]
  ·rw[he u,ha u hu,hb u hu]
 ·rw[if_neg h];refine⟨⟨h1,h2,h,hr⟩,λu=>?_⟩;by_cases hu:v=u
  ·subst hu;simp[aI,hav,hbv]
  ·simp only[aI,if_neg hu];rw[he u,ha u (ai6 hu),hb u (ai6 hu)]
theorem jy {f:Int->Int->Int} (h0:f 0 0=0):∀(n:Nat) (xs ys:List (Int×Int)) (lo:Int),xs.length+ys.length<=n->ic lo xs->ic lo ys->
  ic lo (fB f (ow xs ys))/\∀v,aI (fB f (ow xs ys)) v=f (aI xs v) (aI ys v)
 |n,[],[],lo,_,_,_=>by simp[ow,fB,ic,aI,h0]
 |0,p::r,_,_,hn,_,_=>by simp at hn
 |0,[],q::s,_,hn,_,_=>by simp at hn
 |n+1,[],q::s,lo,hn,hx,hy=>by
  have ih:=jy h0 n [] s q.1 (by simp at hn ⊢;omega) trivial hy.2.2.2;rw[jc]at ih ⊢;exact mR hy.1 hy.2.1 ih.1 ih.2 _ _ (λ_ _=>rfl) (λu hu=>by simp[aI,ai6 hu]) rfl (by simp[aI])
 |n+1,p::r,[],lo,hn,hx,hy=>by
  have ih:=jy h0 n r [] p.1 (by simp at hn ⊢;omega) hx.2.2.2 trivial;rw[ix]at ih ⊢;exact mR hx.1 hx.2.1 ih.1 ih.2 _ _ (λu hu=>by simp[aI,ai6 hu]) (λ_ _=>rfl) (by simp[aI]) rfl
 |n+1,p::r,q::s,_,hn,hx,hy=>by
  rcases ah6 p.1 q.1 with h|h|h
  ·have ih:=jy h0 n r (q::s) p.1 (by simp at hn ⊢;omega) hx.2.2.2 ⟨h,hy.2⟩;rw[wZ _ _ h];exact mR hx.1 hx.2.1 ih.1 ih.2 _ _ (λu hu=>by simp[aI,ai6 hu]) (λ_ _=>rfl) (by simp[aI]) (cO (lo:=p.1) ⟨h,hy.2⟩ (ah7 _))
  ·have ih:=jy h0 n r s p.1 (by simp at hn ⊢;omega) hx.2.2.2 (h▸hy.2.2.2);rw[xd _ _ h];exact mR hx.1 hx.2.1 ih.1 ih.2 _ _ (λu hu=>by simp[aI,ai6 hu]) (λu hu=>by simp[aI,<-h,ai6 hu]) (by simp[aI]) (by simp[aI,h])
  ·have ih:=jy h0 n (p::r) s q.1 (by simp at hn ⊢;omega) ⟨h,hx.2⟩ hy.2.2.2;rw[xb _ _ h];exact mR hy.1 hy.2.1 ih.1 ih.2 _ _ (λ_ _=>rfl) (λu hu=>by simp[aI,ai6 hu]) (cO (lo:=q.1) ⟨h,hx.2⟩ (ah7 _)) (by simp[aI])
def jt (f:Int->Int->Int) (xs ys:List (Int×Int)):List (Int×Int):=fB f (ow xs ys)
theorem oN {f:Int->Int->Int} (h0:f 0 0=0) {xs ys:List (Int×Int)} (hx:aQ 0 xs=true) (hy:aQ 0 ys=true):ic 0 (jt f xs ys):=
 (jy h0 _ xs ys 0 (ai5 _) (fw hx) (fw hy)).1
theorem mH {f:Int->Int->Int} (h0:f 0 0=0) {xs ys:List (Int×Int)} (hx:aQ 0 xs=true) (hy:aQ 0 ys=true) (v:Int):aI (jt f xs ys) v=f (aI xs v) (aI ys v):=
 (jy h0 _ xs ys 0 (ai5 _) (fw hx) (fw hy)).2 v
theorem wC {f:Int->Int->Int} (h0:f 0 0=0) {xs ys:List (Int×Int)} (hx:aQ 0 xs=true) (hy:aQ 0 ys=true):
  aQ 0 (jt f xs ys)=true↔ ∀v,0<=f (aI xs v) (aI ys v)/\ f (aI xs v) (aI ys v)<=10000:=by
 rw[qi];constructor
 ·intro h v;rw[<-mH h0 hx hy];exact h.2 v
 ·intro h;exact⟨oN h0 hx hy,λv=>by rw[mH h0 hx hy];exact h v⟩
theorem vD:∀(n:Nat) (xs ys:List (Int×Int)),xs.length+ys.length<=n->(ow xs ys).length<=xs.length+ys.length
 |n,[],ys,_=>by rw[jc];simp
 |n,p::r,[],_=>by rw[ix];simp
 |0,p::r,q::s,hn=>by simp at hn
 |n+1,p::r,q::s,hn=>by
  rcases ah6 p.1 q.1 with h|h|h
  ·have:=vD n r (q::s) (by simp at hn ⊢;omega);rw[wZ _ _ h];simp at this ⊢;omega
  ·have:=vD n r s (by simp at hn ⊢;omega);rw[xd _ _ h];simp at this ⊢;omega
  ·have:=vD n (p::r) s (by simp at hn ⊢;omega);rw[xb _ _ h];simp at this ⊢;omega
theorem vE {P Q:Int->Prop} (h0:Q 0):∀(n:Nat) (xs ys:List (Int×Int)),xs.length+ys.length<=n->(∀p∈xs,P p.1/\ Q p.2)->(∀p∈ys,P p.1/\ Q p.2)->∀t∈ow xs ys,P t.1/\ Q t.2.1/\ Q t.2.2
 |n,[],ys,_,_,hy,t,ht=>by
  rw[jc]at ht;obtain⟨q,hq,rfl⟩:=ai1.1 ht;exact⟨(hy q hq).1,h0,(hy q hq).2⟩
 |n,p::r,[],_,hx,_,t,ht=>by
  rw[ix]at ht;obtain⟨q,hq,rfl⟩:=ai1.1 ht;exact⟨(hx q hq).1,(hx q hq).2,h0⟩
 |0,p::r,q::s,hn,_,_,_,_=>by simp at hn
 |n+1,p::r,q::s,hn,hx,hy,t,ht=>by
  rcases ah6 p.1 q.1 with h|h|h
  ·rw[wZ _ _ h,ai2]at ht;rcases ht with rfl|ht
   ·exact⟨(hx p (by simp)).1,(hx p (by simp)).2,h0⟩
   ·exact vE h0 n r (q::s) (by simp at hn ⊢;omega) (λp hp=>hx p (by simp[hp])) hy t ht
  ·rw[xd _ _ h,ai2]at ht;rcases ht with rfl|ht
   ·exact⟨(hx p (by simp)).1,(hx p (by simp)).2,(hy q (by simp)).2⟩
   ·exact vE h0 n r s (by simp at hn ⊢;omega) (λp hp=>hx p (by simp[hp])) (λp hp=>hy p (by simp[hp])) t ht
  ·rw[xb _ _ h,ai2]at ht;rcases ht with rfl|ht
   ·exact⟨(hy q (by simp)).1,h0,(hy q (by simp)).2⟩
   ·exact vE h0 n (p::r) s (by simp at hn ⊢;omega) hx (λp hp=>hy p (by simp[hp])) t ht
theorem nC:∀{ps:List (Int×Int)} {lo:Int},aQ lo ps=true->0<=lo->∀p∈ps,(0<=p.1/\ p.1<=200)/\ (0<=p.2/\ p.2<=10000)
 |q::r,lo,h,hl,p,hp=>by
  unfold aQ Cp at h;simp only[ah5,decide_eq_true_eq]at h;obtain⟨⟨h1,h2,h3,h4⟩,h5⟩:=h;rcases ai2.1 hp with rfl|hp
  ·exact⟨⟨by omega,h2⟩,by omega,h4⟩
  ·exact nC h5 (by omega) p hp
theorem IK:∀{ps:List (Int×Int)} {lo:Int},ic lo ps->lo<=200->(ps.length:Int)+lo<=200
 |[],_,_,hl=>by simpa using hl
 |p::r,lo,h,_=>by
  have:=IK h.2.2.2 h.2.1;have:=h.1;simp only[List.length_cons];omega
theorem vu {ps:List (Int×Int)} (h:aQ 0 ps=true):ps.length<=200:=by
 have:=IK (fw h) (by omega);omega
def rz (g:Int->Int):Nat->List (Int×Int)
 |0=>[]
 |k+1=>rz g k++if 0<g ((k:Int)+1)then[((k:Int)+1,g ((k:Int)+1))]else[]
theorem Ds (g:Int->Int):∀k,(rz g k).length<=k
 |0=>ai5 _
 |k+1=>by
  unfold rz;have:=Ds g k;by_cases h:0<g ((k:Int)+1)
  ·rw[if_pos h];simp;omega
  ·rw[if_neg h];simp;omega
theorem Dt {v e:Int} (h2:v<=200) (h3:e≠0):∀{xs:List (Int×Int)} {lo:Int},ic lo xs->(∀p∈xs,p.1<v)->lo<v->ic lo (xs++[(v,e)])
 |[],_,_,_,hl=>⟨hl,h2,h3,trivial⟩
 |p::r,_,h,hp,_=>⟨h.1,h.2.1,h.2.2.1,Dt h2 h3 h.2.2.2 (λq hq=>hp q (by simp[hq])) (hp p (by simp))⟩
theorem tP {v e u:Int}:∀{xs:List (Int×Int)},(∀p∈xs,p.1<v)->aI (xs++[(v,e)]) u=if u=v then e else aI xs u
 |[],_=>by
  by_cases h:v=u
  ·simp[aI,h]
  ·simp[aI,h,ai6 h]
 |p::r,hp=>by
  have h1:=hp p (by simp);have ih:=tP (v:=v) (e:=e) (u:=u) (xs:=r) λq hq=>hp q (by simp[hq])
  simp only[ai0,aI];by_cases h:p.1=u
  ·rw[if_pos h,if_pos h,if_neg (by omega)]
  ·rw[if_neg h,if_neg h,ih]
theorem zK (g:Int->Int):∀k:Nat,k<=200->ic 0 (rz g k)/\ (∀p∈rz g k,p.1<=k)/\∀v:Int,aI (rz g k) v=if 1<=v/\ v<=k/\ 0<g v then g v else 0
 |0,_=>⟨trivial,(λp hp=>by cases hp),λv=>by rw[if_neg (by omega)];rfl⟩
 |k+1,hk=>by
  obtain⟨h1,h2,h3⟩:=zK g k (by omega);have h4:∀p∈rz g k,p.1<(k:Int)+1:=λp hp=>by have:=h2 p hp;omega
  unfold rz;by_cases h:0<g ((k:Int)+1)
  ·rw[if_pos h];refine⟨Dt (by omega) (by omega) h1 h4 (by omega),λp hp=>?_,λv=>?_⟩
   ·rcases List.mem_append.1 hp with hp|hp
    ·have:=h2 p hp;omega
    ·simp at hp;subst hp;simp
   ·rw[tP h4,h3 v];by_cases hv:v=(k:Int)+1
    ·subst hv;rw[if_pos rfl,if_pos ⟨by omega,by omega,h⟩]
    ·rw[if_neg hv];by_cases hc:1<=v/\ v<=(k:Int)/\ 0<g v
     ·rw[if_pos hc,if_pos ⟨hc.1,by omega,hc.2.2⟩]
     ·rw[if_neg hc,if_neg (λhd=>hc ⟨hd.1,by omega,hd.2.2⟩)]
  ·rw[if_neg h,List.append_nil];refine⟨h1,λp hp=>by have:=h2 p hp;omega,λv=>?_⟩;rw[h3 v];by_cases hv:v=(k:Int)+1
   ·subst hv;rw[if_neg (by omega),if_neg (λhd=>h hd.2.2)]
   ·by_cases hc:1<=v/\ v<=(k:Int)/\ 0<g v
    ·rw[if_pos hc,if_pos ⟨hc.1,by omega,hc.2.2⟩]
    ·rw[if_neg hc,if_neg (λhd=>hc ⟨hd.1,by omega,hd.2.2⟩)]
def lim:Nat:=200
def Tv (g:Int->Int):List (Int×Int):=rz g lim
structure YX (g:Int->Int) (ps:List (Int×Int)):Prop where
 ris:ic 0 ps
 ex:∀v:Int,aI ps v=if 1<=v/\ v<=200/\ 0<g v then g v else 0
theorem NR (g:Int->Int) (k:Nat) (hk:k=200):YX g (rz g k):=by
 obtain⟨h1,_,h2⟩:=zK g k (by omega);refine⟨h1,λv=>?_⟩;rw[h2 v,show(k:Int)=200 by omega]
theorem U' (g:Int->Int):YX g (Tv g):=NR g lim rfl
theorem YX.eq {g:Int->Int} {ps qs:List (Int×Int)} (k:YX g qs) (h:ic 0 ps) (hg:∀v,1<=v->v<=200->aI ps v=g v) (h0:∀v,1<=v->v<=200->0<=g v):qs=ps:=by
 refine vw k.ris h λv=>?_
 rw[k.ex];by_cases h1:1<=v
 ·by_cases h2:v<=200
  ·rw[hg v h1 h2];have:=h0 v h1 h2;by_cases h3:0<g v
   ·rw[if_pos ⟨h1,h2,h3⟩]
   ·rw[if_neg (λhd=>h3 hd.2.2)];omega
  ·rw[if_neg (by omega),wY (by omega) h]
 ·rw[if_neg (by omega),cO h (by omega)]
theorem Va {g:Int->Int} {ps:List (Int×Int)} (h:ic 0 ps) (hg:∀v,1<=v->v<=200->aI ps v=g v) (h0:∀v,1<=v->v<=200->0<=g v):Tv g=ps:=YX.eq (U' g) h hg h0
def ET (ps:List (Int×Int)):List (Int×Int):=if aQ 0 ps=true then ps else[]
theorem pY (ps:List (Int×Int)):aQ 0 (ET ps)=true:=by
 unfold ET;by_cases h:aQ 0 ps=true
 ·rw[if_pos h];exact h
 ·rw[if_neg h];rfl
theorem qg {ps:List (Int×Int)} (h:aQ 0 ps=true):ET ps=ps:=if_pos h
theorem NS {ps:List (Int×Int)} (h:aQ 0 ps=false):ET ps=[]:=if_neg (by simp[h])
def qF (ps:List (Int×Int)) (v:Int):Int:=aI (ET ps) v
def rA:List (Int×Int×Int)->Int
 |[]=>0
 |t::r=>if rA r=0 then(if t.2.1<t.2.2 then-1 else if t.2.2<t.2.1 then 1 else 0)else rA r
def oC (c:Int) (f g:Int->Int):Prop:=
 (c=0/\∀v,f v=g v)∨(∃v,c= -1/\ f v<g v/\∀u,v<u->f u=g u)∨ ∃v,c=1/\ g v<f v/\∀u,v<u->f u=g u
theorem oC.Ch {c d:Int} {f g:Int->Int} (h:oC c f g) (k:oC d f g):c=d:=by
 rcases h with⟨rfl,h⟩|⟨v,rfl,h1,h2⟩|⟨v,rfl,h1,h2⟩<;>rcases k with⟨rfl,k⟩|⟨u,rfl,k1,k2⟩|⟨u,rfl,k1,k2⟩
 ·rfl
 ·have:=h u;omega
 ·have:=h u;omega
 ·have:=k v;omega
 ·rfl
 ·rcases ah6 u v with e|e|e
  ·have:=k2 v e;omega
  ·subst e;omega
  ·have:=h2 u e;omega
 ·have:=k v;omega
 ·rcases ah6 u v with e|e|e
  ·have:=k2 v e;omega
  ·subst e;omega
  ·have:=h2 u e;omega
 ·rfl
theorem mS {v x y:Int} {ts:List (Int×Int×Int)} {f g f' g':Int->Int} (h:oC (rA ts) f g) (hf:∀u,u≠v->f' u=f u) (hg:∀u,u≠v->g' u=g u) (hfv:f' v=x) (hgv:g' v=y)
  (hlo:f v=g v) (hl:∀u,u<v->f u=g u):oC (rA ((v,x,y)::ts)) f' g':=by
 unfold rA;rcases h with⟨h0,h⟩|⟨w,h0,h1,h2⟩|⟨w,h0,h1,h2⟩
 ·rw[if_pos h0];have hs:∀u,u≠v->f' u=g' u:=λu hu=>by rw[hf u hu,hg u hu];exact h u
  rcases ah6 x y with e|e|e
  ·rw[if_pos e];exact .inr (.inl ⟨v,rfl,by rw[hfv,hgv];exact e,λu hu=>hs u (by omega)⟩)
  ·rw[if_neg (by simp[e]),if_neg (by simp[e])]
   exact .inl ⟨rfl,λu=>by
    by_cases hu:u=v
    ·subst hu;rw[hfv,hgv,e]
    ·exact hs u hu⟩
  ·rw[if_neg (by simp;omega),if_pos e];exact .inr (.inr ⟨v,rfl,by rw[hfv,hgv];exact e,λu hu=>hs u (by omega)⟩)
 ·have hw:v<w:=by
   rcases ah6 v w with e|e|e
   ·exact e
   ·subst e;omega
   ·have:=hl w e;omega
  rw[if_neg (by omega)];exact .inr (.inl ⟨w,h0,by rw[hf w (by omega),hg w (by omega)];exact h1,λu hu=>by rw[hf u (by omega),hg u (by omega)];exact h2 u hu⟩)
 ·have hw:v<w:=by
   rcases ah6 v w with e|e|e
   ·exact e
   ·subst e;omega
   ·have:=hl w e;omega
  rw[if_neg (by omega)];exact .inr (.inr ⟨w,h0,by rw[hf w (by omega),hg w (by omega)];exact h1,λu hu=>by rw[hf u (by omega),hg u (by omega)];exact h2 u hu⟩)
theorem mU:∀(n:Nat) (xs ys:List (Int×Int)) (lo:Int),xs.length+ys.length<=n->ic lo xs->ic lo ys->oC (rA (ow xs ys)) (aI xs) (aI ys)
 |n,[],[],lo,_,_,_=>by simp[ow,rA,oC,aI]
 |0,p::r,_,_,hn,_,_=>by simp at hn
 |0,[],q::s,_,hn,_,_=>by simp at hn
 |n+1,[],q::s,lo,hn,hx,hy=>by
  have ih:=mU n [] s q.1 (by simp at hn ⊢;omega) trivial hy.2.2.2;rw[jc]at ih ⊢;exact mS ih (λ_ _=>rfl) (λu hu=>by simp[aI,ai6 hu]) rfl (by simp[aI]) (cO hy.2.2.2 (ah7 _)).symm (λu hu=>(cO hy.2.2.2 (by omega)).symm)
 |n+1,p::r,[],lo,hn,hx,hy=>by
  have ih:=mU n r [] p.1 (by simp at hn ⊢;omega) hx.2.2.2 trivial;rw[ix]at ih ⊢;exact mS ih (λu hu=>by simp[aI,ai6 hu]) (λ_ _=>rfl) (by simp[aI]) rfl (cO hx.2.2.2 (ah7 _)) (λu hu=>(cO hx.2.2.2 (by omega)))
 |n+1,p::r,q::s,lo,hn,hx,hy=>by
  rcases ah6 p.1 q.1 with h|h|h
  ·have hq:ic p.1 (q::s):=⟨h,hy.2⟩;have ih:=mU n r (q::s) p.1 (by simp at hn ⊢;omega) hx.2.2.2 hq;rw[wZ _ _ h];exact mS ih (λu hu=>by simp[aI,ai6 hu]) (λ_ _=>rfl) (by simp[aI]) (cO hq (ah7 _)) (by rw[cO hx.2.2.2 (ah7 _),cO hq (ah7 _)]) (λu hu=>by rw[cO hx.2.2.2 (by omega),cO hq (by omega)])
  ·have hq:ic p.1 s:=h▸hy.2.2.2;have ih:=mU n r s p.1 (by simp at hn ⊢;omega) hx.2.2.2 hq;rw[xd _ _ h];exact mS ih (λu hu=>by simp[aI,ai6 hu]) (λu hu=>by simp[aI,<-h,ai6 hu]) (by simp[aI]) (by simp[aI,h]) (by rw[cO hx.2.2.2 (ah7 _),cO hq (ah7 _)]) (λu hu=>by rw[cO hx.2.2.2 (by omega),cO hq (by omega)])
  ·have hp:ic q.1 (p::r):=⟨h,hx.2⟩;have ih:=mU n (p::r) s q.1 (by simp at hn ⊢;omega) hp hy.2.2.2;rw[xb _ _ h];exact mS ih (λ_ _=>rfl) (λu hu=>by simp[aI,ai6 hu]) (cO hp (ah7 _)) (by simp[aI]) (by rw[cO hp (ah7 _),cO hy.2.2.2 (ah7 _)]) (λu hu=>by rw[cO hp (by omega),cO hy.2.2.2 (by omega)])
def iq (xs ys:List (Int×Int)):Int:=rA (ow xs ys)
theorem nt {xs ys:List (Int×Int)} (hx:aQ 0 xs=true) (hy:aQ 0 ys=true):oC (iq xs ys) (aI xs) (aI ys):=mU _ xs ys 0 (ai5 _) (fw hx) (fw hy)
def lg (o:Int):List (Int×Int×Int)->Int
 |[]=>o
 |t::r=>lg (if t.2.1<t.2.2 then-1 else if t.2.2<t.2.1 then 1 else o) r
theorem zL (o:Int):∀ts,lg o ts=if rA ts=0 then o else rA ts
 |[]=>by simp[lg,rA]
 |t::r=>by
  rw[lg,zL _ r,rA];by_cases h:rA r=0
  ·simp only[if_pos h];by_cases h1:t.2.1<t.2.2
   ·simp[h1]
   ·by_cases h2:t.2.2<t.2.1
    ·simp[h1,h2]
    ·simp[h1,h2]
  ·simp only[if_neg h]
theorem nO (o:Int):∀a b:List (Int×Int×Int),lg o (a++b)=lg (lg o a) b
 |[],_=>rfl
 | _::r,b=>by simp only[ai0,lg];exact nO _ r b
theorem Gk (ts:List (Int×Int×Int)):lg 0 ts=rA ts:=by
 rw[zL];by_cases h:rA ts=0
 ·rw[if_pos h,h]
 ·rw[if_neg h]
def fU:List (Int×Int)->Int
 |[]=>0
 |p::r=>if r=[]then p.1 else fU r
def gq (f:Int->Int->Int) (er:Int) (xs ys:List (Int×Int)):List (Int×Int)×Int:=
 if aQ 0 xs=true/\ aQ 0 ys=true then(if aQ 0 (jt f xs ys)=true then(jt f xs ys,0)else([],er))else([],2)
def fy (v:Int) (ps:List (Int×Int)):List (Int×Int):=ps.filter λp=>decide (p.1≠v)
theorem iJ (v u:Int):∀ps:List (Int×Int),aI (fy v ps) u=if u=v then 0 else aI ps u
 |[]=>by simp[fy,aI]
 |p::r=>by
  have ih:=iJ v u r;unfold fy at ih ⊢;by_cases h:p.1=v
  ·rw[ai3 (by simp[h]),ih];by_cases hu:u=v
   ·rw[if_pos hu,if_pos hu]
   ·rw[if_neg hu,if_neg hu];simp only[aI];rw[if_neg (by omega)]
  ·rw[ai4 (by simp[h])];simp only[aI,ih];by_cases hu:u=v
   ·rw[if_pos hu,if_pos hu,if_neg (by omega)]
   ·rw[if_neg hu,if_neg hu]
theorem Du (v:Int):∀{ps:List (Int×Int)} {lo:Int},ic lo ps->ic lo (fy v ps)
 |[],_,_=>trivial
 |p::r,lo,h=>by
  have ih:=Du v h.2.2.2;unfold fy at ih ⊢;by_cases hp:p.1=v
  ·rw[ai3 (by simp[hp])];exact Dr (by have:=h.1;omega) ih
  ·rw[ai4 (by simp[hp])];exact⟨h.1,h.2.1,h.2.2.1,ih⟩
end Go.Proofs.YtmenbpmciblnlaaGreatDoor
