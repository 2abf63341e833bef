/-
  Powers of variables in plain words: lists of pairs, their exponents, what is joined of two of them, their order.
-/
import Derived.Test.YtmenbpmciblnlaaGreatDoorGBase
set_option maxHeartbeats 0
set_option maxRecDepth 100000
open Bool renaming and_eq_true->a0a
open Int renaming le_refl->a0c,lt_trichotomy->a0b
open List renaming cons_append->a0f,drop_eq_getElem_cons->a0d,filter_cons_of_neg->a0i,filter_cons_of_pos->a0j,getD->a0e,mem_cons->a0h,mem_map->a0g
open Nat renaming le_refl->a0k
open Ne renaming symm->a0l
namespace Go.Proofs.YtmenbpmciblnlaaGreatDoor
def El (lo:Int) (p:Int×Int):Bool:=decide (lo<p.1)&&(decide (p.1<=200)&&(decide (1<=p.2)&&decide (p.2<=10000)))
def aZ:Int->List (Int×Int)->Bool
 | _,[]=>true
 |lo,p::r=>El lo p&&aZ p.1 r
def Vs (ps:List (Int×Int)):Nat->Int
 |0=>0
 |k+1=>(ps.getD k (0,0)).1
theorem DN (ps:List (Int×Int)) (k:Nat) (lo:Int) (h:k<ps.length):aZ lo (ps.drop k)=(El lo (ps.getD k (0,0))&&aZ (Vs ps (k+1)) (ps.drop (k+1))):=by
 rw[a0d h];simp[aZ,Vs,a0e,h]
def aJ:List (Int×Int)->Int->Int
 |[],_=>0
 |p::r,v=>if p.1=v then p.2 else aJ r v
def jm:Int->List (Int×Int)->Prop
 | _,[]=>True
 |lo,p::r=>lo<p.1/\ p.1<=200/\ p.2≠0/\ jm p.1 r
theorem dP {v:Int}:∀{ps:List (Int×Int)} {lo:Int},jm lo ps->v<=lo->aJ ps v=0
 |[],_,_,_=>rfl
 |p::r,lo,h,hv=>by
  have h1:=h.1;unfold aJ;rw[if_neg (by omega)];exact dP h.2.2.2 (by omega)
theorem Be {v:Int} (hv:200<v):∀{ps:List (Int×Int)} {lo:Int},jm lo ps->aJ ps v=0
 |[],_,_=>rfl
 |p::r,lo,h=>by
  have h1:=h.2.1;unfold aJ;rw[if_neg (by omega)];exact Be hv h.2.2.2
theorem Ib {lo lo':Int} (hl:lo'<=lo):∀{ps:List (Int×Int)},jm lo ps->jm lo' ps
 |[],_=>trivial
 | _::_,h=>⟨by have:=h.1;omega,h.2⟩
theorem ES:∀{xs ys:List (Int×Int)} {lo:Int},jm lo xs->jm lo ys->(∀v,aJ xs v=aJ ys v)->xs=ys
 |[],[],_,_,_,_=>rfl
 |[],q::s,lo,_,hy,he=>by
  have h1:=he q.1;simp only[aJ,if_pos]at h1;exact absurd h1.symm hy.2.2.1
 |p::r,[],lo,hx,_,he=>by
  have h1:=he p.1;simp only[aJ,if_pos]at h1;exact absurd h1 hx.2.2.1
 |p::r,q::s,lo,hx,hy,he=>by
  have hpq:p.1=q.1:=by
   rcases a0b p.1 q.1 with h|h|h
   ·have h1:=he p.1;have h2:aJ (q::s) p.1=0:=dP (lo:=p.1) ⟨h,hy.2⟩ (a0c _);rw[h2]at h1;simp only[aJ,if_pos]at h1;exact absurd h1 hx.2.2.1
   ·exact h
   ·have h1:=he q.1;have h2:aJ (p::r) q.1=0:=dP (lo:=q.1) ⟨h,hx.2⟩ (a0c _);rw[h2]at h1;simp only[aJ,if_pos]at h1;exact absurd h1.symm hy.2.2.1
  have he1:=he p.1;simp only[aJ,if_pos,hpq]at he1
  have hr:r=s:=ES (lo:=p.1) hx.2.2.2 (hpq▸hy.2.2.2) λv=>by
   by_cases hv:p.1=v
   ·rw[dP hx.2.2.2 (by omega),dP (lo:=q.1) hy.2.2.2 (by omega)]
   ·have h3:=he v;unfold aJ at h3;rwa[if_neg hv,if_neg (by omega)]at h3
  rw[hr]
  congr 1
  exact Prod.ext hpq (by simpa using he1)
theorem sQ:∀{ps:List (Int×Int)} {lo:Int},aZ lo ps=true↔jm lo ps/\∀v,0<=aJ ps v/\ aJ ps v<=10000
 |[],lo=>by simp[aZ,jm,aJ]
 |p::r,lo=>by
  have ih:=sQ (ps:=r) (lo:=p.1);constructor
  ·intro h;unfold aZ El at h;simp only[a0a,decide_eq_true_eq]at h;obtain⟨⟨h1,h2,h3,h4⟩,h5⟩:=h;obtain⟨g1,g2⟩:=ih.1 h5;refine⟨⟨h1,h2,by omega,g1⟩,λv=>?_⟩;unfold aJ;by_cases hv:p.1=v
   ·rw[if_pos hv];omega
   ·rw[if_neg hv];exact g2 v
  ·rintro⟨⟨h1,h2,h3,h4⟩,h5⟩;have h6:=h5 p.1;simp only[aJ,if_pos]at h6;unfold aZ El;simp only[a0a,decide_eq_true_eq];refine⟨⟨h1,h2,by omega,h6.2⟩,ih.2 ⟨h4,λv=>?_⟩⟩;by_cases hv:p.1=v
   ·rw[dP h4 (by omega)];omega
   ·have h7:=h5 v;unfold aJ at h7;rwa[if_neg hv]at h7
theorem fU {ps:List (Int×Int)} (h:aZ 0 ps=true):jm 0 ps:=(sQ.1 h).1
theorem fE {ps:List (Int×Int)} (h:aZ 0 ps=true) (v:Int):0<=aJ ps v/\ aJ ps v<=10000:=(sQ.1 h).2 v
theorem lJ {ps:List (Int×Int)} (h:aZ 0 ps=true) {v:Int} (hv:v<1∨200<v):aJ ps v=0:=by
 rcases hv with hv|hv
 ·exact dP (fU h) (by omega)
 ·exact Be hv (fU h)
def qZ:List (Int×Int)->List (Int×Int)->List (Int×Int×Int)
 |[],ys=>ys.map λq=>(q.1,0,q.2)
 |xs,[]=>xs.map λp=>(p.1,p.2,0)
 |p::r,q::s=>if p.1<q.1 then(p.1,p.2,0)::qZ r (q::s)else if q.1<p.1 then(q.1,0,q.2)::qZ (p::r) s else(p.1,p.2,q.2)::qZ r s
termination_by xs ys=>xs.length+ys.length
theorem kI (ys:List (Int×Int)):qZ [] ys=ys.map λq=>(q.1,0,q.2):=by unfold qZ;rfl
theorem jU (xs:List (Int×Int)):qZ xs []=xs.map λp=>(p.1,p.2,0):=by
 cases xs with
 |nil=>simp[qZ]
 |cons p r=>unfold qZ;rfl
theorem Bf {p q:Int×Int} (r s:List (Int×Int)) (h:p.1<q.1):qZ (p::r) (q::s)=(p.1,p.2,0)::qZ r (q::s):=by
 rw[qZ];rw[if_pos h]
theorem Bg {p q:Int×Int} (r s:List (Int×Int)) (h:q.1<p.1):qZ (p::r) (q::s)=(q.1,0,q.2)::qZ (p::r) s:=by
 rw[qZ];rw[if_neg (by omega),if_pos h]
theorem Bh {p q:Int×Int} (r s:List (Int×Int)) (h:p.1=q.1):qZ (p::r) (q::s)=(p.1,p.2,q.2)::qZ r s:=by
 rw[qZ];rw[if_neg (by omega),if_neg (by omega)]
theorem L8 {xs ys:List (Int×Int)} (h:xs=[]∨ys=[]):qZ xs ys=xs.map (λp=>(p.1,p.2,(0:Int)))++ys.map (λq=>(q.1,(0:Int),q.2)):=by
 rcases h with rfl|rfl
 ·rw[kI];rfl
 ·rw[jU];simp
theorem map_drop {β:Type} (f:Int×Int->β) {ps:List (Int×Int)} {k:Nat} (h:k<ps.length):(ps.drop k).map f=f (ps.getD k (0,0))::(ps.drop (k+1)).map f:=by
 rw[a0d h,List.map_cons];simp only[a0e,List.getElem?_eq_getElem h,Option.getD_some]
def gY (f:Int->Int->Int):List (Int×Int×Int)->List (Int×Int)
 |[]=>[]
 |t::r=>if f t.2.1 t.2.2=0 then gY f r else(t.1,f t.2.1 t.2.2)::gY f r
theorem qG (f:Int->Int->Int):∀a b:List (Int×Int×Int),gY f (a++b)=gY f a++gY f b
 |[],_=>rfl
 |t::r,b=>by
  simp only[a0f,gY,qG f r b];by_cases h:f t.2.1 t.2.2=0
  ·rw[if_pos h,if_pos h]
  ·rw[if_neg h,if_neg h];rfl
theorem zh {f:Int->Int->Int} {t:Int×Int×Int} (a:List (Int×Int×Int)) (h:f t.2.1 t.2.2=0):gY f (a++[t])=gY f a:=by
 rw[qG];simp[gY,h]
theorem Kw {f:Int->Int->Int} {t:Int×Int×Int} (a:List (Int×Int×Int)) (h:f t.2.1 t.2.2≠0):gY f (a++[t])=gY f a++[(t.1,f t.2.1 t.2.2)]:=by
 rw[qG];simp[gY,h]
theorem DR (f:Int->Int->Int):∀a:List (Int×Int×Int),(gY f a).length<=a.length
 |[]=>a0k _
 |t::r=>by
  unfold gY;have:=DR f r;by_cases h:f t.2.1 t.2.2=0
  ·rw[if_pos h];simp;omega
  ·rw[if_neg h];simp;omega
theorem pV {f:Int->Int->Int} {v x y:Int} {lo:Int} {ts:List (Int×Int×Int)} {a b:Int->Int} (h1:lo<v) (h2:v<=200) (hr:jm v (gY f ts))
  (he:∀u,aJ (gY f ts) u=f (a u) (b u)) (a' b':Int->Int) (ha:∀u,u≠v->a' u=a u) (hb:∀u,u≠v->b' u=b u) (hav:a' v=x) (hbv:b' v=y):
  jm lo (gY f ((v,x,y)::ts))/\∀u,aJ (gY f ((v,x,y)::ts)) u=f (a' u) (b' u):=by
 unfold gY;by_cases h:f x y=0
 ·rw[if_pos h];refine⟨Ib (by omega) hr,λu=>?_⟩;by_cases hu:u=v
  ·subst hu;rw[dP hr (a0c _),hav,hbv,h]
  ·rw[he u,ha u hu,hb u hu]
 ·rw[if_neg h];refine⟨⟨h1,h2,h,hr⟩,λu=>?_⟩;by_cases hu:v=u
  ·subst hu;simp[aJ,hav,hbv]
  ·simp only[aJ,if_neg hu];rw[he u,ha u (a0l hu),hb u (a0l hu)]
theorem lC {f:Int->Int->Int} (h0:f 0 0=0):∀(n:Nat) (xs ys:List (Int×Int)) (lo:Int),xs.length+ys.length<=n->jm lo xs->jm lo ys->
  jm lo (gY f (qZ xs ys))/\∀v,aJ (gY f (qZ xs ys)) v=f (aJ xs v) (aJ ys v)
 |n,[],[],lo,_,_,_=>by simp[qZ,gY,jm,aJ,h0]
 |0,p::r,_,_,hn,_,_=>by simp at hn
 |0,[],q::s,_,hn,_,_=>by simp at hn
 |n+1,[],q::s,lo,hn,hx,hy=>by
  have ih:=lC h0 n [] s q.1 (by simp at hn ⊢;omega) trivial hy.2.2.2;rw[kI]at ih ⊢;exact pV hy.1 hy.2.1 ih.1 ih.2 _ _ (λ_ _=>rfl) (λu hu=>by simp[aJ,a0l hu]) rfl (by simp[aJ])
 |n+1,p::r,[],lo,hn,hx,hy=>by
  have ih:=lC h0 n r [] p.1 (by simp at hn ⊢;omega) hx.2.2.2 trivial;rw[jU]at ih ⊢;exact pV hx.1 hx.2.1 ih.1 ih.2 _ _ (λu hu=>by simp[aJ,a0l hu]) (λ_ _=>rfl) (by simp[aJ]) rfl
 |n+1,p::r,q::s,_,hn,hx,hy=>by
  rcases a0b p.1 q.1 with h|h|h
  ·have ih:=lC h0 n r (q::s) p.1 (by simp at hn ⊢;omega) hx.2.2.2 ⟨h,hy.2⟩;rw[Bf _ _ h];exact pV hx.1 hx.2.1 ih.1 ih.2 _ _ (λu hu=>by simp[aJ,a0l hu]) (λ_ _=>rfl) (by simp[aJ]) (dP (lo:=p.1) ⟨h,hy.2⟩ (a0c _))
  ·have ih:=lC h0 n r s p.1 (by simp at hn ⊢;omega) hx.2.2.2 (h▸hy.2.2.2);rw[Bh _ _ h];exact pV hx.1 hx.2.1 ih.1 ih.2 _ _ (λu hu=>by simp[aJ,a0l hu]) (λu hu=>by simp[aJ,<-h,a0l hu]) (by simp[aJ]) (by simp[aJ,h])
  ·have ih:=lC h0 n (p::r) s q.1 (by simp at hn ⊢;omega) ⟨h,hx.2⟩ hy.2.2.2;rw[Bg _ _ h];exact pV hy.1 hy.2.1 ih.1 ih.2 _ _ (λ_ _=>rfl) (λu hu=>by simp[aJ,a0l hu]) (dP (lo:=q.1) ⟨h,hx.2⟩ (a0c _)) (by simp[aJ])
def joinL (f:Int->Int->Int) (xs ys:List (Int×Int)):List (Int×Int):=gY f (qZ xs ys)
theorem AV {f:Int->Int->Int} (h0:f 0 0=0) {xs ys:List (Int×Int)} (hx:aZ 0 xs=true) (hy:aZ 0 ys=true):jm 0 (joinL f xs ys):=
 (lC h0 _ xs ys 0 (a0k _) (fU hx) (fU hy)).1
theorem pI {f:Int->Int->Int} (h0:f 0 0=0) {xs ys:List (Int×Int)} (hx:aZ 0 xs=true) (hy:aZ 0 ys=true) (v:Int):aJ (joinL f xs ys) v=f (aJ xs v) (aJ ys v):=
 (lC h0 _ xs ys 0 (a0k _) (fU hx) (fU hy)).2 v
theorem Av {f:Int->Int->Int} (h0:f 0 0=0) {xs ys:List (Int×Int)} (hx:aZ 0 xs=true) (hy:aZ 0 ys=true):
  aZ 0 (joinL f xs ys)=true↔ ∀v,0<=f (aJ xs v) (aJ ys v)/\ f (aJ xs v) (aJ ys v)<=10000:=by
 rw[sQ];constructor
 ·intro h v;rw[<-pI h0 hx hy];exact h.2 v
 ·intro h;exact⟨AV h0 hx hy,λv=>by rw[pI h0 hx hy];exact h v⟩
theorem zL:∀(n:Nat) (xs ys:List (Int×Int)),xs.length+ys.length<=n->(qZ xs ys).length<=xs.length+ys.length
 |n,[],ys,_=>by rw[kI];simp
 |n,p::r,[],_=>by rw[jU];simp
 |0,p::r,q::s,hn=>by simp at hn
 |n+1,p::r,q::s,hn=>by
  rcases a0b p.1 q.1 with h|h|h
  ·have:=zL n r (q::s) (by simp at hn ⊢;omega);rw[Bf _ _ h];simp at this ⊢;omega
  ·have:=zL n r s (by simp at hn ⊢;omega);rw[Bh _ _ h];simp at this ⊢;omega
  ·have:=zL n (p::r) s (by simp at hn ⊢;omega);rw[Bg _ _ h];simp at this ⊢;omega
theorem zM {P Q:Int->Prop} (h0:Q 0):∀(n:Nat) (xs ys:List (Int×Int)),xs.length+ys.length<=n->(∀p∈xs,P p.1/\ Q p.2)->(∀p∈ys,P p.1/\ Q p.2)->∀t∈qZ xs ys,P t.1/\ Q t.2.1/\ Q t.2.2
 |n,[],ys,_,_,hy,t,ht=>by
  rw[kI]at ht;obtain⟨q,hq,rfl⟩:=a0g.1 ht;exact⟨(hy q hq).1,h0,(hy q hq).2⟩
 |n,p::r,[],_,hx,_,t,ht=>by
  rw[jU]at ht;obtain⟨q,hq,rfl⟩:=a0g.1 ht;exact⟨(hx q hq).1,(hx q hq).2,h0⟩
 |0,p::r,q::s,hn,_,_,_,_=>by simp at hn
 |n+1,p::r,q::s,hn,hx,hy,t,ht=>by
  rcases a0b p.1 q.1 with h|h|h
  ·rw[Bf _ _ h,a0h]at ht;rcases ht with rfl|ht
   ·exact⟨(hx p (by simp)).1,(hx p (by simp)).2,h0⟩
   ·exact zM h0 n r (q::s) (by simp at hn ⊢;omega) (λp hp=>hx p (by simp[hp])) hy t ht
  ·rw[Bh _ _ h,a0h]at ht;rcases ht with rfl|ht
   ·exact⟨(hx p (by simp)).1,(hx p (by simp)).2,(hy q (by simp)).2⟩
   ·exact zM h0 n r s (by simp at hn ⊢;omega) (λp hp=>hx p (by simp[hp])) (λp hp=>hy p (by simp[hp])) t ht
  ·rw[Bg _ _ h,a0h]at ht;rcases ht with rfl|ht
   ·exact⟨(hy q (by simp)).1,h0,(hy q (by simp)).2⟩
   ·exact zM h0 n (p::r) s (by simp at hn ⊢;omega) hx (λp hp=>hy p (by simp[hp])) t ht
theorem qA:∀{ps:List (Int×Int)} {lo:Int},aZ lo ps=true->0<=lo->∀p∈ps,(0<=p.1/\ p.1<=200)/\ (0<=p.2/\ p.2<=10000)
 |q::r,lo,h,hl,p,hp=>by
  unfold aZ El at h;simp only[a0a,decide_eq_true_eq]at h;obtain⟨⟨h1,h2,h3,h4⟩,h5⟩:=h;rcases a0h.1 hp with rfl|hp
  ·exact⟨⟨by omega,h2⟩,by omega,h4⟩
  ·exact qA h5 (by omega) p hp
theorem L9:∀{ps:List (Int×Int)} {lo:Int},jm lo ps->lo<=200->(ps.length:Int)+lo<=200
 |[],_,_,hl=>by simpa using hl
 |p::r,lo,h,_=>by
  have:=L9 h.2.2.2 h.2.1;have:=h.1;simp only[List.length_cons];omega
theorem zF {ps:List (Int×Int)} (h:aZ 0 ps=true):ps.length<=200:=by
 have:=L9 (fU h) (by omega);omega
def vB (g:Int->Int):Nat->List (Int×Int)
 |0=>[]
 |k+1=>vB g k++if 0<g ((k:Int)+1)then[((k:Int)+1,g ((k:Int)+1))]else[]
theorem Ic (g:Int->Int):∀k,(vB g k).length<=k
 |0=>a0k _
 |k+1=>by
  unfold vB;have:=Ic g k;by_cases h:0<g ((k:Int)+1)
  ·rw[if_pos h];simp;omega
  ·rw[if_neg h];simp;omega
theorem Ie {v e:Int} (h2:v<=200) (h3:e≠0):∀{xs:List (Int×Int)} {lo:Int},jm lo xs->(∀p∈xs,p.1<v)->lo<v->jm lo (xs++[(v,e)])
 |[],_,_,_,hl=>⟨hl,h2,h3,trivial⟩
 |p::r,_,h,hp,_=>⟨h.1,h.2.1,h.2.2.1,Ie h2 h3 h.2.2.2 (λq hq=>hp q (by simp[hq])) (hp p (by simp))⟩
theorem sO {v e u:Int}:∀{xs:List (Int×Int)},(∀p∈xs,p.1<v)->aJ (xs++[(v,e)]) u=if u=v then e else aJ xs u
 |[],_=>by
  by_cases h:v=u
  ·simp[aJ,h]
  ·simp[aJ,h,a0l h]
 |p::r,hp=>by
  have h1:=hp p (by simp);have ih:=sO (v:=v) (e:=e) (u:=u) (xs:=r) λq hq=>hp q (by simp[hq])
  simp only[a0f,aJ];by_cases h:p.1=u
  ·rw[if_pos h,if_pos h,if_neg (by omega)]
  ·rw[if_neg h,if_neg h,ih]
theorem DT (g:Int->Int):∀k:Nat,k<=200->jm 0 (vB g k)/\ (∀p∈vB g k,p.1<=k)/\∀v:Int,aJ (vB g k) v=if 1<=v/\ v<=k/\ 0<g v then g v else 0
 |0,_=>⟨trivial,(λp hp=>by cases hp),λv=>by rw[if_neg (by omega)];rfl⟩
 |k+1,hk=>by
  obtain⟨h1,h2,h3⟩:=DT g k (by omega);have h4:∀p∈vB g k,p.1<(k:Int)+1:=λp hp=>by have:=h2 p hp;omega
  unfold vB;by_cases h:0<g ((k:Int)+1)
  ·rw[if_pos h];refine⟨Ie (by omega) (by omega) h1 h4 (by omega),λp hp=>?_,λv=>?_⟩
   ·rcases List.mem_append.1 hp with hp|hp
    ·have:=h2 p hp;omega
    ·simp at hp;subst hp;simp
   ·rw[sO h4,h3 v];by_cases hv:v=(k:Int)+1
    ·subst hv;rw[if_pos rfl,if_pos ⟨by omega,by omega,h⟩]
    ·rw[if_neg hv];by_cases hc:1<=v/\ v<=(k:Int)/\ 0<g v
     ·rw[if_pos hc,if_pos ⟨hc.1,by omega,hc.2.2⟩]
     ·rw[if_neg hc,if_neg (λhd=>hc ⟨hd.1,by omega,hd.2.2⟩)]
  ·rw[if_neg h,List.append_nil];refine⟨h1,λp hp=>by have:=h2 p hp;omega,λv=>?_⟩;rw[h3 v];by_cases hv:v=(k:Int)+1
   ·subst hv;rw[if_neg (by omega),if_neg (λhd=>h hd.2.2)]
   ·by_cases hc:1<=v/\ v<=(k:Int)/\ 0<g v
    ·rw[if_pos hc,if_pos ⟨hc.1,by omega,hc.2.2⟩]
    ·rw[if_neg hc,if_neg (λhd=>hc ⟨hd.1,by omega,hd.2.2⟩)]
def lim:Nat:=200
def Xi (g:Int->Int):List (Int×Int):=vB g lim
structure OfE (g:Int->Int) (ps:List (Int×Int)):Prop where
 ris:jm 0 ps
 ex:∀v:Int,aJ ps v=if 1<=v/\ v<=200/\ 0<g v then g v else 0
theorem RV (g:Int->Int) (k:Nat) (hk:k=200):OfE g (vB g k):=by
 obtain⟨h1,_,h2⟩:=DT g k (by omega);refine⟨h1,λv=>?_⟩;rw[h2 v,show(k:Int)=200 by omega]
theorem YL (g:Int->Int):OfE g (Xi g):=RV g lim rfl
theorem OfE.eq {g:Int->Int} {ps qs:List (Int×Int)} (k:OfE g qs) (h:jm 0 ps) (hg:∀v,1<=v->v<=200->aJ ps v=g v) (h0:∀v,1<=v->v<=200->0<=g v):qs=ps:=by
 refine ES k.ris h λv=>?_
 rw[k.ex];by_cases h1:1<=v
 ·by_cases h2:v<=200
  ·rw[hg v h1 h2];have:=h0 v h1 h2;by_cases h3:0<g v
   ·rw[if_pos ⟨h1,h2,h3⟩]
   ·rw[if_neg (λhd=>h3 hd.2.2)];omega
  ·rw[if_neg (by omega),Be (by omega) h]
 ·rw[if_neg (by omega),dP h (by omega)]
theorem YM {g:Int->Int} {ps:List (Int×Int)} (h:jm 0 ps) (hg:∀v,1<=v->v<=200->aJ ps v=g v) (h0:∀v,1<=v->v<=200->0<=g v):Xi g=ps:=OfE.eq (YL g) h hg h0
def orM (ps:List (Int×Int)):List (Int×Int):=if aZ 0 ps=true then ps else[]
theorem mE (ps:List (Int×Int)):aZ 0 (orM ps)=true:=by
 unfold orM;by_cases h:aZ 0 ps=true
 ·rw[if_pos h];exact h
 ·rw[if_neg h];rfl
theorem qg {ps:List (Int×Int)} (h:aZ 0 ps=true):orM ps=ps:=if_pos h
theorem RX {ps:List (Int×Int)} (h:aZ 0 ps=false):orM ps=[]:=if_neg (by simp[h])
def nW (ps:List (Int×Int)) (v:Int):Int:=aJ (orM ps) v
def vC:List (Int×Int×Int)->Int
 |[]=>0
 |t::r=>if vC r=0 then(if t.2.1<t.2.2 then-1 else if t.2.2<t.2.1 then 1 else 0)else vC r
def qN (c:Int) (f g:Int->Int):Prop:=
 (c=0/\∀v,f v=g v)∨(∃v,c= -1/\ f v<g v/\∀u,v<u->f u=g u)∨ ∃v,c=1/\ g v<f v/\∀u,v<u->f u=g u
theorem qN.unique {c d:Int} {f g:Int->Int} (h:qN c f g) (k:qN d f g):c=d:=by
 rcases h with⟨rfl,h⟩|⟨v,rfl,h1,h2⟩|⟨v,rfl,h1,h2⟩<;>rcases k with⟨rfl,k⟩|⟨u,rfl,k1,k2⟩|⟨u,rfl,k1,k2⟩
 ·rfl
 ·have:=h u;omega
 ·have:=h u;omega
 ·have:=k v;omega
 ·rfl
 ·rcases a0b u v with e|e|e
  ·have:=k2 v e;omega
  ·subst e;omega
  ·have:=h2 u e;omega
 ·have:=k v;omega
 ·rcases a0b u v with e|e|e
  ·have:=k2 v e;omega
  ·subst e;omega
  ·have:=h2 u e;omega
 ·rfl
theorem pW {v x y:Int} {ts:List (Int×Int×Int)} {f g f' g':Int->Int} (h:qN (vC ts) f g) (hf:∀u,u≠v->f' u=f u) (hg:∀u,u≠v->g' u=g u) (hfv:f' v=x) (hgv:g' v=y)
  (hlo:f v=g v) (hl:∀u,u<v->f u=g u):qN (vC ((v,x,y)::ts)) f' g':=by
 unfold vC;rcases h with⟨h0,h⟩|⟨w,h0,h1,h2⟩|⟨w,h0,h1,h2⟩
 ·rw[if_pos h0];have hs:∀u,u≠v->f' u=g' u:=λu hu=>by rw[hf u hu,hg u hu];exact h u
  rcases a0b x y with e|e|e
  ·rw[if_pos e];exact .inr (.inl ⟨v,rfl,by rw[hfv,hgv];exact e,λu hu=>hs u (by omega)⟩)
  ·rw[if_neg (by simp[e]),if_neg (by simp[e])]
   exact .inl ⟨rfl,λu=>by
    by_cases hu:u=v
    ·subst hu;rw[hfv,hgv,e]
    ·exact hs u hu⟩
  ·rw[if_neg (by simp;omega),if_pos e];exact .inr (.inr ⟨v,rfl,by rw[hfv,hgv];exact e,λu hu=>hs u (by omega)⟩)
 ·have hw:v<w:=by
   rcases a0b v w with e|e|e
   ·exact e
   ·subst e;omega
   ·have:=hl w e;omega
  rw[if_neg (by omega)];exact .inr (.inl ⟨w,h0,by rw[hf w (by omega),hg w (by omega)];exact h1,λu hu=>by rw[hf u (by omega),hg u (by omega)];exact h2 u hu⟩)
 ·have hw:v<w:=by
   rcases a0b v w with e|e|e
   ·exact e
   ·subst e;omega
   ·have:=hl w e;omega
  rw[if_neg (by omega)];exact .inr (.inr ⟨w,h0,by rw[hf w (by omega),hg w (by omega)];exact h1,λu hu=>by rw[hf u (by omega),hg u (by omega)];exact h2 u hu⟩)
theorem pX:∀(n:Nat) (xs ys:List (Int×Int)) (lo:Int),xs.length+ys.length<=n->jm lo xs->jm lo ys->qN (vC (qZ xs ys)) (aJ xs) (aJ ys)
 |n,[],[],lo,_,_,_=>by simp[qZ,vC,qN,aJ]
 |0,p::r,_,_,hn,_,_=>by simp at hn
 |0,[],q::s,_,hn,_,_=>by simp at hn
 |n+1,[],q::s,lo,hn,hx,hy=>by
  have ih:=pX n [] s q.1 (by simp at hn ⊢;omega) trivial hy.2.2.2;rw[kI]at ih ⊢;exact pW ih (λ_ _=>rfl) (λu hu=>by simp[aJ,a0l hu]) rfl (by simp[aJ]) (dP hy.2.2.2 (a0c _)).symm (λu hu=>(dP hy.2.2.2 (by omega)).symm)
 |n+1,p::r,[],lo,hn,hx,hy=>by
  have ih:=pX n r [] p.1 (by simp at hn ⊢;omega) hx.2.2.2 trivial;rw[jU]at ih ⊢;exact pW ih (λu hu=>by simp[aJ,a0l hu]) (λ_ _=>rfl) (by simp[aJ]) rfl (dP hx.2.2.2 (a0c _)) (λu hu=>(dP hx.2.2.2 (by omega)))
 |n+1,p::r,q::s,lo,hn,hx,hy=>by
  rcases a0b p.1 q.1 with h|h|h
  ·have hq:jm p.1 (q::s):=⟨h,hy.2⟩;have ih:=pX n r (q::s) p.1 (by simp at hn ⊢;omega) hx.2.2.2 hq;rw[Bf _ _ h];exact pW ih (λu hu=>by simp[aJ,a0l hu]) (λ_ _=>rfl) (by simp[aJ]) (dP hq (a0c _)) (by rw[dP hx.2.2.2 (a0c _),dP hq (a0c _)]) (λu hu=>by rw[dP hx.2.2.2 (by omega),dP hq (by omega)])
  ·have hq:jm p.1 s:=h▸hy.2.2.2;have ih:=pX n r s p.1 (by simp at hn ⊢;omega) hx.2.2.2 hq;rw[Bh _ _ h];exact pW ih (λu hu=>by simp[aJ,a0l hu]) (λu hu=>by simp[aJ,<-h,a0l hu]) (by simp[aJ]) (by simp[aJ,h]) (by rw[dP hx.2.2.2 (a0c _),dP hq (a0c _)]) (λu hu=>by rw[dP hx.2.2.2 (by omega),dP hq (by omega)])
  ·have hp:jm q.1 (p::r):=⟨h,hx.2⟩;have ih:=pX n (p::r) s q.1 (by simp at hn ⊢;omega) hp hy.2.2.2;rw[Bg _ _ h];exact pW ih (λ_ _=>rfl) (λu hu=>by simp[aJ,a0l hu]) (dP hp (a0c _)) (by simp[aJ]) (by rw[dP hp (a0c _),dP hy.2.2.2 (a0c _)]) (λu hu=>by rw[dP hp (by omega),dP hy.2.2.2 (by omega)])
def lS (xs ys:List (Int×Int)):Int:=vC (qZ xs ys)
theorem nX {xs ys:List (Int×Int)} (hx:aZ 0 xs=true) (hy:aZ 0 ys=true):qN (lS xs ys) (aJ xs) (aJ ys):=pX _ xs ys 0 (a0k _) (fU hx) (fU hy)
def nM (o:Int):List (Int×Int×Int)->Int
 |[]=>o
 |t::r=>nM (if t.2.1<t.2.2 then-1 else if t.2.2<t.2.1 then 1 else o) r
theorem DU (o:Int):∀ts,nM o ts=if vC ts=0 then o else vC ts
 |[]=>by simp[nM,vC]
 |t::r=>by
  rw[nM,DU _ r,vC];by_cases h:vC r=0
  ·simp only[if_pos h];by_cases h1:t.2.1<t.2.2
   ·simp[h1]
   ·by_cases h2:t.2.2<t.2.1
    ·simp[h1,h2]
    ·simp[h1,h2]
  ·simp only[if_neg h]
theorem qH (o:Int):∀a b:List (Int×Int×Int),nM o (a++b)=nM (nM o a) b
 |[],_=>rfl
 | _::r,b=>by simp only[a0f,nM];exact qH _ r b
theorem Ky (ts:List (Int×Int×Int)):nM 0 ts=vC ts:=by
 rw[DU];by_cases h:vC ts=0
 ·rw[if_pos h,h]
 ·rw[if_neg h]
def fe:List (Int×Int)->Int
 |[]=>0
 |p::r=>if r=[]then p.1 else fe r
def kU (f:Int->Int->Int) (er:Int) (xs ys:List (Int×Int)):List (Int×Int)×Int:=
 if aZ 0 xs=true/\ aZ 0 ys=true then(if aZ 0 (joinL f xs ys)=true then(joinL f xs ys,0)else([],er))else([],2)
def gN (v:Int) (ps:List (Int×Int)):List (Int×Int):=ps.filter λp=>decide (p.1≠v)
theorem jD (v u:Int):∀ps:List (Int×Int),aJ (gN v ps) u=if u=v then 0 else aJ ps u
 |[]=>by simp[gN,aJ]
 |p::r=>by
  have ih:=jD v u r;unfold gN at ih ⊢;by_cases h:p.1=v
  ·rw[a0i (by simp[h]),ih];by_cases hu:u=v
   ·rw[if_pos hu,if_pos hu]
   ·rw[if_neg hu,if_neg hu];simp only[aJ];rw[if_neg (by omega)]
  ·rw[a0j (by simp[h])];simp only[aJ,ih];by_cases hu:u=v
   ·rw[if_pos hu,if_pos hu,if_neg (by omega)]
   ·rw[if_neg hu,if_neg hu]
theorem Gh (v:Int):∀{ps:List (Int×Int)} {lo:Int},jm lo ps->jm lo (gN v ps)
 |[],_,_=>trivial
 |p::r,lo,h=>by
  have ih:=Gh v h.2.2.2;unfold gN at ih ⊢;by_cases hp:p.1=v
  ·rw[a0i (by simp[hp])];exact Ib (by have:=h.1;omega) ih
  ·rw[a0j (by simp[hp])];exact⟨h.1,h.2.1,h.2.2.1,ih⟩
end Go.Proofs.YtmenbpmciblnlaaGreatDoor
