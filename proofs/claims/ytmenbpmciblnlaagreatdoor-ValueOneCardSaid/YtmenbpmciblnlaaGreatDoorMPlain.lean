/-
  Powers of variables in plain words: lists of pairs, their exponents, what is joined of two of them, their order.
-/
import Derived.Test.YtmenbpmciblnlaaGreatDoorGBase
set_option maxHeartbeats 40000000
set_option maxRecDepth 100000
namespace Go.Proofs.YtmenbpmciblnlaaGreatDoor
def DL (lo:Int) (p:Int×Int):Bool:=decide (lo<p.1)&&(decide (p.1<=200)&&(decide (1<=p.2)&&decide (p.2<=10000)))
def bA:Int->List (Int×Int)->Bool
 | _,[]=>true
 |lo,p::r=>DL lo p&&bA p.1 r
def Sv (ps:List (Int×Int)):Nat->Int
 |0=>0
 |k+1=>(ps.getD k (0,0)).1
theorem BU (ps:List (Int×Int)) (k:Nat) (lo:Int) (h:k<ps.length):bA lo (ps.drop k)=(DL lo (ps.getD k (0,0))&&bA (Sv ps (k+1)) (ps.drop (k+1))):=by
 rw[List.drop_eq_getElem_cons h];simp[bA,Sv,List.getD,h]
def aH:List (Int×Int)->Int->Int
 |[],_=>0
 |p::r,v=>if p.1=v then p.2 else aH r v
def jg:Int->List (Int×Int)->Prop
 | _,[]=>True
 |lo,p::r=>lo<p.1/\ p.1<=200/\ p.2≠0/\ jg p.1 r
theorem dB {v:Int}:∀{ps:List (Int×Int)} {lo:Int},jg lo ps->v<=lo->aH ps v=0
 |[],_,_,_=>rfl
 |p::r,lo,h,hv=>by
  have h1:=h.1;unfold aH;rw[if_neg (by omega)];exact dB h.2.2.2 (by omega)
theorem Aa {v:Int} (hv:200<v):∀{ps:List (Int×Int)} {lo:Int},jg lo ps->aH ps v=0
 |[],_,_=>rfl
 |p::r,lo,h=>by
  have h1:=h.2.1;unfold aH;rw[if_neg (by omega)];exact Aa hv h.2.2.2
theorem FL {lo lo':Int} (hl:lo'<=lo):∀{ps:List (Int×Int)},jg lo ps->jg lo' ps
 |[],_=>trivial
 | _::_,h=>⟨by have:=h.1;omega,h.2⟩
theorem Dc:∀{xs ys:List (Int×Int)} {lo:Int},jg lo xs->jg lo ys->(∀v,aH xs v=aH ys v)->xs=ys
 |[],[],_,_,_,_=>rfl
 |[],q::s,lo,_,hy,he=>by
  have h1:=he q.1;simp only[aH,if_pos]at h1;exact absurd h1.symm hy.2.2.1
 |p::r,[],lo,hx,_,he=>by
  have h1:=he p.1;simp only[aH,if_pos]at h1;exact absurd h1 hx.2.2.1
 |p::r,q::s,lo,hx,hy,he=>by
  have hpq:p.1=q.1:=by
   rcases Int.lt_trichotomy p.1 q.1 with h|h|h
   ·have h1:=he p.1;have h2:aH (q::s) p.1=0:=dB (lo:=p.1) ⟨h,hy.2⟩ (Int.le_refl _);rw[h2]at h1;simp only[aH,if_pos]at h1;exact absurd h1 hx.2.2.1
   ·exact h
   ·have h1:=he q.1;have h2:aH (p::r) q.1=0:=dB (lo:=q.1) ⟨h,hx.2⟩ (Int.le_refl _);rw[h2]at h1;simp only[aH,if_pos]at h1;exact absurd h1.symm hy.2.2.1
  have he1:=he p.1;simp only[aH,if_pos,hpq]at he1
  have hr:r=s:=Dc (lo:=p.1) hx.2.2.2 (hpq▸hy.2.2.2) fun v=>by
   by_cases hv:p.1=v
   ·rw[dB hx.2.2.2 (by omega),dB (lo:=q.1) hy.2.2.2 (by omega)]
   ·have h3:=he v;unfold aH at h3;rwa[if_neg hv,if_neg (by omega)]at h3
  rw[hr]
  congr 1
  exact Prod.ext hpq (by simpa using he1)
theorem rF:∀{ps:List (Int×Int)} {lo:Int},bA lo ps=true↔jg lo ps/\∀v,0<=aH ps v/\ aH ps v<=10000
 |[],lo=>by simp[bA,jg,aH]
 |p::r,lo=>by
  have ih:=rF (ps:=r) (lo:=p.1);constructor
  ·intro h;unfold bA DL at h;simp only[Bool.and_eq_true,decide_eq_true_eq]at h;obtain⟨⟨h1,h2,h3,h4⟩,h5⟩:=h;obtain⟨g1,g2⟩:=ih.1 h5;refine⟨⟨h1,h2,by omega,g1⟩,fun v=>?_⟩;unfold aH;by_cases hv:p.1=v
   ·rw[if_pos hv];omega
   ·rw[if_neg hv];exact g2 v
  ·rintro⟨⟨h1,h2,h3,h4⟩,h5⟩;have h6:=h5 p.1;simp only[aH,if_pos]at h6;unfold bA DL;simp only[Bool.and_eq_true,decide_eq_true_eq];refine⟨⟨h1,h2,by omega,h6.2⟩,ih.2 ⟨h4,fun v=>?_⟩⟩;by_cases hv:p.1=v
   ·rw[dB h4 (by omega)];omega
   ·have h7:=h5 v;unfold aH at h7;rwa[if_neg hv]at h7
theorem gP {ps:List (Int×Int)} (h:bA 0 ps=true):jg 0 ps:=(rF.1 h).1
theorem fT {ps:List (Int×Int)} (h:bA 0 ps=true) (v:Int):0<=aH ps v/\ aH ps v<=10000:=(rF.1 h).2 v
theorem rQ {ps:List (Int×Int)} (h:bA 0 ps=true) {v:Int} (hv:v<1∨200<v):aH ps v=0:=by
 rcases hv with hv|hv
 ·exact dB (gP h) (by omega)
 ·exact Aa hv (gP h)
def tQ:List (Int×Int)->List (Int×Int)->List (Int×Int×Int)
 |[],ys=>ys.map fun q=>(q.1,0,q.2)
 |xs,[]=>xs.map fun p=>(p.1,p.2,0)
 |p::r,q::s=>if p.1<q.1 then(p.1,p.2,0)::tQ r (q::s)else if q.1<p.1 then(q.1,0,q.2)::tQ (p::r) s else(p.1,p.2,q.2)::tQ r s
termination_by xs ys=>xs.length+ys.length
theorem pG (ys:List (Int×Int)):tQ [] ys=ys.map fun q=>(q.1,0,q.2):=by unfold tQ;rfl
theorem nC (xs:List (Int×Int)):tQ xs []=xs.map fun p=>(p.1,p.2,0):=by
 cases xs with
 |nil=>simp[tQ]
 |cons p r=>unfold tQ;rfl
theorem Iq {p q:Int×Int} (r s:List (Int×Int)) (h:p.1<q.1):tQ (p::r) (q::s)=(p.1,p.2,0)::tQ r (q::s):=by
 rw[tQ];rw[if_pos h]
theorem Ir {p q:Int×Int} (r s:List (Int×Int)) (h:q.1<p.1):tQ (p::r) (q::s)=(q.1,0,q.2)::tQ (p::r) s:=by
 rw[tQ];rw[if_neg (by omega),if_pos h]
theorem Iu {p q:Int×Int} (r s:List (Int×Int)) (h:p.1=q.1):tQ (p::r) (q::s)=(p.1,p.2,q.2)::tQ r s:=by
 rw[tQ];rw[if_neg (by omega),if_neg (by omega)]
theorem Jw {xs ys:List (Int×Int)} (h:xs=[]∨ys=[]):tQ xs ys=xs.map (fun p=>(p.1,p.2,(0:Int)))++ys.map (fun q=>(q.1,(0:Int),q.2)):=by
 rcases h with rfl|rfl
 ·rw[pG];rfl
 ·rw[nC];simp
theorem map_drop {β:Type} (f:Int×Int->β) {ps:List (Int×Int)} {k:Nat} (h:k<ps.length):(ps.drop k).map f=f (ps.getD k (0,0))::(ps.drop (k+1)).map f:=by
 rw[List.drop_eq_getElem_cons h,List.map_cons];simp only[List.getD,List.getElem?_eq_getElem h,Option.getD_some]
def mW (f:Int->Int->Int):List (Int×Int×Int)->List (Int×Int)
 |[]=>[]
 |t::r=>if f t.2.1 t.2.2=0 then mW f r else(t.1,f t.2.1 t.2.2)::mW f r
theorem oD {f:Int->Int->Int} {v x y:Int} {lo:Int} {ts:List (Int×Int×Int)} {a b:Int->Int} (h1:lo<v) (h2:v<=200) (hr:jg v (mW f ts))
  (he:∀u,aH (mW f ts) u=f (a u) (b u)) (a' b':Int->Int) (ha:∀u,u≠v->a' u=a u) (hb:∀u,u≠v->b' u=b u) (hav:a' v=x) (hbv:b' v=y):
  jg lo (mW f ((v,x,y)::ts))/\∀u,aH (mW f ((v,x,y)::ts)) u=f (a' u) (b' u):=by
 unfold mW;by_cases h:f x y=0
 ·rw[if_pos h];refine⟨FL (by omega) hr,fun u=>?_⟩;by_cases hu:u=v
  ·subst hu;rw[dB hr (Int.le_refl _),hav,hbv,h]
  ·rw[he u,ha u hu,hb u hu]
 ·rw[if_neg h];refine⟨⟨h1,h2,h,hr⟩,fun u=>?_⟩;by_cases hu:v=u
  ·subst hu;simp[aH,hav,hbv]
  ·simp only[aH,if_neg hu];rw[he u,ha u (Ne.symm hu),hb u (Ne.symm hu)]
theorem kr {f:Int->Int->Int} (h0:f 0 0=0):∀(n:Nat) (xs ys:List (Int×Int)) (lo:Int),xs.length+ys.length<=n->jg lo xs->jg lo ys->
  jg lo (mW f (tQ xs ys))/\∀v,aH (mW f (tQ xs ys)) v=f (aH xs v) (aH ys v)
 |n,[],[],lo,_,_,_=>by simp[tQ,mW,jg,aH,h0]
 |0,p::r,_,_,hn,_,_=>by simp at hn
 |0,[],q::s,_,hn,_,_=>by simp at hn
 |n+1,[],q::s,lo,hn,hx,hy=>by
  have ih:=kr h0 n [] s q.1 (by simp at hn ⊢;omega) trivial hy.2.2.2;rw[pG]at ih ⊢;exact oD hy.1 hy.2.1 ih.1 ih.2 _ _ (fun _ _=>rfl) (fun u hu=>by simp[aH,Ne.symm hu]) rfl (by simp[aH])
 |n+1,p::r,[],lo,hn,hx,hy=>by
  have ih:=kr h0 n r [] p.1 (by simp at hn ⊢;omega) hx.2.2.2 trivial;rw[nC]at ih ⊢;exact oD hx.1 hx.2.1 ih.1 ih.2 _ _ (fun u hu=>by simp[aH,Ne.symm hu]) (fun _ _=>rfl) (by simp[aH]) rfl
 |n+1,p::r,q::s,_,hn,hx,hy=>by
  rcases Int.lt_trichotomy p.1 q.1 with h|h|h
  ·have ih:=kr h0 n r (q::s) p.1 (by simp at hn ⊢;omega) hx.2.2.2 ⟨h,hy.2⟩;rw[Iq _ _ h];exact oD hx.1 hx.2.1 ih.1 ih.2 _ _ (fun u hu=>by simp[aH,Ne.symm hu]) (fun _ _=>rfl) (by simp[aH]) (dB (lo:=p.1) ⟨h,hy.2⟩ (Int.le_refl _))
  ·have ih:=kr h0 n r s p.1 (by simp at hn ⊢;omega) hx.2.2.2 (h▸hy.2.2.2);rw[Iu _ _ h];exact oD hx.1 hx.2.1 ih.1 ih.2 _ _ (fun u hu=>by simp[aH,Ne.symm hu]) (fun u hu=>by simp[aH,<-h,Ne.symm hu]) (by simp[aH]) (by simp[aH,h])
  ·have ih:=kr h0 n (p::r) s q.1 (by simp at hn ⊢;omega) ⟨h,hx.2⟩ hy.2.2.2;rw[Ir _ _ h];exact oD hy.1 hy.2.1 ih.1 ih.2 _ _ (fun _ _=>rfl) (fun u hu=>by simp[aH,Ne.symm hu]) (dB (lo:=q.1) ⟨h,hx.2⟩ (Int.le_refl _)) (by simp[aH])
def joinL (f:Int->Int->Int) (xs ys:List (Int×Int)):List (Int×Int):=mW f (tQ xs ys)
theorem y9 {f:Int->Int->Int} (h0:f 0 0=0) {xs ys:List (Int×Int)} (hx:bA 0 xs=true) (hy:bA 0 ys=true):jg 0 (joinL f xs ys):=
 (kr h0 _ xs ys 0 (Nat.le_refl _) (gP hx) (gP hy)).1
theorem oh {f:Int->Int->Int} (h0:f 0 0=0) {xs ys:List (Int×Int)} (hx:bA 0 xs=true) (hy:bA 0 ys=true) (v:Int):aH (joinL f xs ys) v=f (aH xs v) (aH ys v):=
 (kr h0 _ xs ys 0 (Nat.le_refl _) (gP hx) (gP hy)).2 v
theorem zS {f:Int->Int->Int} (h0:f 0 0=0) {xs ys:List (Int×Int)} (hx:bA 0 xs=true) (hy:bA 0 ys=true):
  bA 0 (joinL f xs ys)=true↔ ∀v,0<=f (aH xs v) (aH ys v)/\ f (aH xs v) (aH ys v)<=10000:=by
 rw[rF];constructor
 ·intro h v;rw[<-oh h0 hx hy];exact h.2 v
 ·intro h;exact⟨y9 h0 hx hy,fun v=>by rw[oh h0 hx hy];exact h v⟩
theorem Ch:∀{ps:List (Int×Int)} {lo:Int},bA lo ps=true->0<=lo->∀p∈ps,(0<=p.1/\ p.1<=200)/\ (0<=p.2/\ p.2<=10000)
 |q::r,lo,h,hl,p,hp=>by
  unfold bA DL at h;simp only[Bool.and_eq_true,decide_eq_true_eq]at h;obtain⟨⟨h1,h2,h3,h4⟩,h5⟩:=h;rcases List.mem_cons.1 hp with rfl|hp
  ·exact⟨⟨by omega,h2⟩,by omega,h4⟩
  ·exact Ch h5 (by omega) p hp
theorem Jy:∀{ps:List (Int×Int)} {lo:Int},jg lo ps->lo<=200->(ps.length:Int)+lo<=200
 |[],_,_,hl=>by simpa using hl
 |p::r,lo,h,_=>by
  have:=Jy h.2.2.2 h.2.1;have:=h.1;simp only[List.length_cons];omega
theorem I4 {ps:List (Int×Int)} (h:bA 0 ps=true):ps.length<=200:=by
 have:=Jy (gP h) (by omega);omega
def tT (g:Int->Int):Nat->List (Int×Int)
 |0=>[]
 |k+1=>tT g k++if 0<g ((k:Int)+1)then[((k:Int)+1,g ((k:Int)+1))]else[]
theorem FM (g:Int->Int):∀k,(tT g k).length<=k
 |0=>Nat.le_refl _
 |k+1=>by
  unfold tT;have:=FM g k;by_cases h:0<g ((k:Int)+1)
  ·rw[if_pos h];simp;omega
  ·rw[if_neg h];simp;omega
theorem FN {v e:Int} (h2:v<=200) (h3:e≠0):∀{xs:List (Int×Int)} {lo:Int},jg lo xs->(∀p∈xs,p.1<v)->lo<v->jg lo (xs++[(v,e)])
 |[],_,_,_,hl=>⟨hl,h2,h3,trivial⟩
 |p::r,_,h,hp,_=>⟨h.1,h.2.1,h.2.2.1,FN h2 h3 h.2.2.2 (fun q hq=>hp q (by simp[hq])) (hp p (by simp))⟩
theorem wB {v e u:Int}:∀{xs:List (Int×Int)},(∀p∈xs,p.1<v)->aH (xs++[(v,e)]) u=if u=v then e else aH xs u
 |[],_=>by
  by_cases h:v=u
  ·simp[aH,h]
  ·simp[aH,h,Ne.symm h]
 |p::r,hp=>by
  have h1:=hp p (by simp);have ih:=wB (v:=v) (e:=e) (u:=u) (xs:=r) fun q hq=>hp q (by simp[hq])
  simp only[List.cons_append,aH];by_cases h:p.1=u
  ·rw[if_pos h,if_pos h,if_neg (by omega)]
  ·rw[if_neg h,if_neg h,ih]
theorem BV (g:Int->Int):∀k:Nat,k<=200->jg 0 (tT g k)/\ (∀p∈tT g k,p.1<=k)/\∀v:Int,aH (tT g k) v=if 1<=v/\ v<=k/\ 0<g v then g v else 0
 |0,_=>⟨trivial,(fun p hp=>by cases hp),fun v=>by rw[if_neg (by omega)];rfl⟩
 |k+1,hk=>by
  obtain⟨h1,h2,h3⟩:=BV g k (by omega);have h4:∀p∈tT g k,p.1<(k:Int)+1:=fun p hp=>by have:=h2 p hp;omega
  unfold tT;by_cases h:0<g ((k:Int)+1)
  ·rw[if_pos h];refine⟨FN (by omega) (by omega) h1 h4 (by omega),fun p hp=>?_,fun v=>?_⟩
   ·rcases List.mem_append.1 hp with hp|hp
    ·have:=h2 p hp;omega
    ·simp at hp;subst hp;simp
   ·rw[wB h4,h3 v];by_cases hv:v=(k:Int)+1
    ·subst hv;rw[if_pos rfl,if_pos ⟨by omega,by omega,h⟩]
    ·rw[if_neg hv];by_cases hc:1<=v/\ v<=(k:Int)/\ 0<g v
     ·rw[if_pos hc,if_pos ⟨hc.1,by omega,hc.2.2⟩]
     ·rw[if_neg hc,if_neg (fun hd=>hc ⟨hd.1,by omega,hd.2.2⟩)]
  ·rw[if_neg h,List.append_nil];refine⟨h1,fun p hp=>by have:=h2 p hp;omega,fun v=>?_⟩;rw[h3 v];by_cases hv:v=(k:Int)+1
   ·subst hv;rw[if_neg (by omega),if_neg (fun hd=>h hd.2.2)]
   ·by_cases hc:1<=v/\ v<=(k:Int)/\ 0<g v
    ·rw[if_pos hc,if_pos ⟨hc.1,by omega,hc.2.2⟩]
    ·rw[if_neg hc,if_neg (fun hd=>hc ⟨hd.1,by omega,hd.2.2⟩)]
def lim:Nat:=200
def TQ (g:Int->Int):List (Int×Int):=tT g lim
structure YJ (g:Int->Int) (ps:List (Int×Int)):Prop where
 ris:jg 0 ps
 ex:∀v:Int,aH ps v=if 1<=v/\ v<=200/\ 0<g v then g v else 0
theorem Ps (g:Int->Int) (k:Nat) (hk:k=200):YJ g (tT g k):=by
 obtain⟨h1,_,h2⟩:=BV g k (by omega);refine⟨h1,fun v=>?_⟩;rw[h2 v,show(k:Int)=200 by omega]
theorem Vy (g:Int->Int):YJ g (TQ g):=Ps g lim rfl
theorem YJ.eq {g:Int->Int} {ps qs:List (Int×Int)} (k:YJ g qs) (h:jg 0 ps) (hg:∀v,1<=v->v<=200->aH ps v=g v) (h0:∀v,1<=v->v<=200->0<=g v):qs=ps:=by
 refine Dc k.ris h fun v=>?_
 rw[k.ex];by_cases h1:1<=v
 ·by_cases h2:v<=200
  ·rw[hg v h1 h2];have:=h0 v h1 h2;by_cases h3:0<g v
   ·rw[if_pos ⟨h1,h2,h3⟩]
   ·rw[if_neg (fun hd=>h3 hd.2.2)];omega
  ·rw[if_neg (by omega),Aa (by omega) h]
 ·rw[if_neg (by omega),dB h (by omega)]
theorem Vz {g:Int->Int} {ps:List (Int×Int)} (h:jg 0 ps) (hg:∀v,1<=v->v<=200->aH ps v=g v) (h0:∀v,1<=v->v<=200->0<=g v):TQ g=ps:=YJ.eq (Vy g) h hg h0
def orM (ps:List (Int×Int)):List (Int×Int):=if bA 0 ps=true then ps else[]
theorem xR (ps:List (Int×Int)):bA 0 (orM ps)=true:=by
 unfold orM;by_cases h:bA 0 ps=true
 ·rw[if_pos h];exact h
 ·rw[if_neg h];rfl
theorem rz {ps:List (Int×Int)} (h:bA 0 ps=true):orM ps=ps:=if_pos h
theorem Pv {ps:List (Int×Int)} (h:bA 0 ps=false):orM ps=[]:=if_neg (by simp[h])
def si (ps:List (Int×Int)) (v:Int):Int:=aH (orM ps) v
def tV:List (Int×Int×Int)->Int
 |[]=>0
 |t::r=>if tV r=0 then(if t.2.1<t.2.2 then-1 else if t.2.2<t.2.1 then 1 else 0)else tV r
def qA (c:Int) (f g:Int->Int):Prop:=
 (c=0/\∀v,f v=g v)∨(∃v,c= -1/\ f v<g v/\∀u,v<u->f u=g u)∨ ∃v,c=1/\ g v<f v/\∀u,v<u->f u=g u
theorem qA.unique {c d:Int} {f g:Int->Int} (h:qA c f g) (k:qA d f g):c=d:=by
 rcases h with⟨rfl,h⟩|⟨v,rfl,h1,h2⟩|⟨v,rfl,h1,h2⟩<;>rcases k with⟨rfl,k⟩|⟨u,rfl,k1,k2⟩|⟨u,rfl,k1,k2⟩
 ·rfl
 ·have:=h u;omega
 ·have:=h u;omega
 ·have:=k v;omega
 ·rfl
 ·rcases Int.lt_trichotomy u v with e|e|e
  ·have:=k2 v e;omega
  ·subst e;omega
  ·have:=h2 u e;omega
 ·have:=k v;omega
 ·rcases Int.lt_trichotomy u v with e|e|e
  ·have:=k2 v e;omega
  ·subst e;omega
  ·have:=h2 u e;omega
 ·rfl
theorem oF {v x y:Int} {ts:List (Int×Int×Int)} {f g f' g':Int->Int} (h:qA (tV ts) f g) (hf:∀u,u≠v->f' u=f u) (hg:∀u,u≠v->g' u=g u) (hfv:f' v=x) (hgv:g' v=y)
  (hlo:f v=g v) (hl:∀u,u<v->f u=g u):qA (tV ((v,x,y)::ts)) f' g':=by
 unfold tV;rcases h with⟨h0,h⟩|⟨w,h0,h1,h2⟩|⟨w,h0,h1,h2⟩
 ·rw[if_pos h0];have hs:∀u,u≠v->f' u=g' u:=fun u hu=>by rw[hf u hu,hg u hu];exact h u
  rcases Int.lt_trichotomy x y with e|e|e
  ·rw[if_pos e];exact .inr (.inl ⟨v,rfl,by rw[hfv,hgv];exact e,fun u hu=>hs u (by omega)⟩)
  ·rw[if_neg (by simp[e]),if_neg (by simp[e])]
   exact .inl ⟨rfl,fun u=>by
    by_cases hu:u=v
    ·subst hu;rw[hfv,hgv,e]
    ·exact hs u hu⟩
  ·rw[if_neg (by simp;omega),if_pos e];exact .inr (.inr ⟨v,rfl,by rw[hfv,hgv];exact e,fun u hu=>hs u (by omega)⟩)
 ·have hw:v<w:=by
   rcases Int.lt_trichotomy v w with e|e|e
   ·exact e
   ·subst e;omega
   ·have:=hl w e;omega
  rw[if_neg (by omega)];exact .inr (.inl ⟨w,h0,by rw[hf w (by omega),hg w (by omega)];exact h1,fun u hu=>by rw[hf u (by omega),hg u (by omega)];exact h2 u hu⟩)
 ·have hw:v<w:=by
   rcases Int.lt_trichotomy v w with e|e|e
   ·exact e
   ·subst e;omega
   ·have:=hl w e;omega
  rw[if_neg (by omega)];exact .inr (.inr ⟨w,h0,by rw[hf w (by omega),hg w (by omega)];exact h1,fun u hu=>by rw[hf u (by omega),hg u (by omega)];exact h2 u hu⟩)
theorem oG:∀(n:Nat) (xs ys:List (Int×Int)) (lo:Int),xs.length+ys.length<=n->jg lo xs->jg lo ys->qA (tV (tQ xs ys)) (aH xs) (aH ys)
 |n,[],[],lo,_,_,_=>by simp[tQ,tV,qA,aH]
 |0,p::r,_,_,hn,_,_=>by simp at hn
 |0,[],q::s,_,hn,_,_=>by simp at hn
 |n+1,[],q::s,lo,hn,hx,hy=>by
  have ih:=oG n [] s q.1 (by simp at hn ⊢;omega) trivial hy.2.2.2;rw[pG]at ih ⊢;exact oF ih (fun _ _=>rfl) (fun u hu=>by simp[aH,Ne.symm hu]) rfl (by simp[aH]) (dB hy.2.2.2 (Int.le_refl _)).symm (fun u hu=>(dB hy.2.2.2 (by omega)).symm)
 |n+1,p::r,[],lo,hn,hx,hy=>by
  have ih:=oG n r [] p.1 (by simp at hn ⊢;omega) hx.2.2.2 trivial;rw[nC]at ih ⊢;exact oF ih (fun u hu=>by simp[aH,Ne.symm hu]) (fun _ _=>rfl) (by simp[aH]) rfl (dB hx.2.2.2 (Int.le_refl _)) (fun u hu=>(dB hx.2.2.2 (by omega)))
 |n+1,p::r,q::s,lo,hn,hx,hy=>by
  rcases Int.lt_trichotomy p.1 q.1 with h|h|h
  ·have hq:jg p.1 (q::s):=⟨h,hy.2⟩;have ih:=oG n r (q::s) p.1 (by simp at hn ⊢;omega) hx.2.2.2 hq;rw[Iq _ _ h];exact oF ih (fun u hu=>by simp[aH,Ne.symm hu]) (fun _ _=>rfl) (by simp[aH]) (dB hq (Int.le_refl _)) (by rw[dB hx.2.2.2 (Int.le_refl _),dB hq (Int.le_refl _)]) (fun u hu=>by rw[dB hx.2.2.2 (by omega),dB hq (by omega)])
  ·have hq:jg p.1 s:=h▸hy.2.2.2;have ih:=oG n r s p.1 (by simp at hn ⊢;omega) hx.2.2.2 hq;rw[Iu _ _ h];exact oF ih (fun u hu=>by simp[aH,Ne.symm hu]) (fun u hu=>by simp[aH,<-h,Ne.symm hu]) (by simp[aH]) (by simp[aH,h]) (by rw[dB hx.2.2.2 (Int.le_refl _),dB hq (Int.le_refl _)]) (fun u hu=>by rw[dB hx.2.2.2 (by omega),dB hq (by omega)])
  ·have hp:jg q.1 (p::r):=⟨h,hx.2⟩;have ih:=oG n (p::r) s q.1 (by simp at hn ⊢;omega) hp hy.2.2.2;rw[Ir _ _ h];exact oF ih (fun _ _=>rfl) (fun u hu=>by simp[aH,Ne.symm hu]) (dB hp (Int.le_refl _)) (by simp[aH]) (by rw[dB hp (Int.le_refl _),dB hy.2.2.2 (Int.le_refl _)]) (fun u hu=>by rw[dB hp (by omega),dB hy.2.2.2 (by omega)])
def lX (xs ys:List (Int×Int)):Int:=tV (tQ xs ys)
theorem rG {xs ys:List (Int×Int)} (hx:bA 0 xs=true) (hy:bA 0 ys=true):qA (lX xs ys) (aH xs) (aH ys):=oG _ xs ys 0 (Nat.le_refl _) (gP hx) (gP hy)
def mF (o:Int):List (Int×Int×Int)->Int
 |[]=>o
 |t::r=>mF (if t.2.1<t.2.2 then-1 else if t.2.2<t.2.1 then 1 else o) r
theorem BX (o:Int):∀ts,mF o ts=if tV ts=0 then o else tV ts
 |[]=>by simp[mF,tV]
 |t::r=>by
  rw[mF,BX _ r,tV];by_cases h:tV r=0
  ·simp only[if_pos h];by_cases h1:t.2.1<t.2.2
   ·simp[h1]
   ·by_cases h2:t.2.2<t.2.1
    ·simp[h1,h2]
    ·simp[h1,h2]
  ·simp only[if_neg h]
theorem pI (o:Int):∀a b:List (Int×Int×Int),mF o (a++b)=mF (mF o a) b
 |[],_=>rfl
 | _::r,b=>by simp only[List.cons_append,mF];exact pI _ r b
theorem Iw (ts:List (Int×Int×Int)):mF 0 ts=tV ts:=by
 rw[BX];by_cases h:tV ts=0
 ·rw[if_pos h,h]
 ·rw[if_neg h]
def iC:List (Int×Int)->Int
 |[]=>0
 |p::r=>if r=[]then p.1 else iC r
def oq (f:Int->Int->Int) (er:Int) (xs ys:List (Int×Int)):List (Int×Int)×Int:=
 if bA 0 xs=true/\ bA 0 ys=true then(if bA 0 (joinL f xs ys)=true then(joinL f xs ys,0)else([],er))else([],2)
def gB (v:Int) (ps:List (Int×Int)):List (Int×Int):=ps.filter fun p=>decide (p.1≠v)
theorem je (v u:Int):∀ps:List (Int×Int),aH (gB v ps) u=if u=v then 0 else aH ps u
 |[]=>by simp[gB,aH]
 |p::r=>by
  have ih:=je v u r;unfold gB at ih ⊢;by_cases h:p.1=v
  ·rw[List.filter_cons_of_neg (by simp[h]),ih];by_cases hu:u=v
   ·rw[if_pos hu,if_pos hu]
   ·rw[if_neg hu,if_neg hu];simp only[aH];rw[if_neg (by omega)]
  ·rw[List.filter_cons_of_pos (by simp[h])];simp only[aH,ih];by_cases hu:u=v
   ·rw[if_pos hu,if_pos hu,if_neg (by omega)]
   ·rw[if_neg hu,if_neg hu]
theorem FO (v:Int):∀{ps:List (Int×Int)} {lo:Int},jg lo ps->jg lo (gB v ps)
 |[],_,_=>trivial
 |p::r,lo,h=>by
  have ih:=FO v h.2.2.2;unfold gB at ih ⊢;by_cases hp:p.1=v
  ·rw[List.filter_cons_of_neg (by simp[hp])];exact FL (by have:=h.1;omega) ih
  ·rw[List.filter_cons_of_pos (by simp[hp])];exact⟨h.1,h.2.1,h.2.2.1,ih⟩
end Go.Proofs.YtmenbpmciblnlaaGreatDoor
