/-
  Powers of variables in plain words: lists of pairs, their exponents, what is joined of two of them, their order.
-/
import Derived.Test.YthdhjckangekoaaGreatGBase
set_option maxHeartbeats 40000000
set_option maxRecDepth 100000
namespace Go.Proofs.YthdhjckangekoaaGreat
def Dn (lo:Int) (p:Int×Int):Bool:=decide (lo<p.1)&&(decide (p.1<=200)&&(decide (1<=p.2)&&decide (p.2<=10000)))
def aJ:Int->List (Int×Int)->Bool
 | _,[]=>true
 |lo,p::r=>Dn lo p&&aJ p.1 r
def RB (ps:List (Int×Int)):Nat->Int
 |0=>0
 |k+1=>(ps.getD k (0,0)).1
theorem Az (ps:List (Int×Int)) (k:Nat) (lo:Int) (h:k<ps.length):aJ lo (ps.drop k)=(Dn lo (ps.getD k (0,0))&&aJ (RB ps (k+1)) (ps.drop (k+1))):=by
 rw[List.drop_eq_getElem_cons h];simp[aJ,RB,List.getD,h]
def av:List (Int×Int)->Int->Int
 |[],_=>0
 |p::r,v=>if p.1=v then p.2 else av r v
def iZ:Int->List (Int×Int)->Prop
 | _,[]=>True
 |lo,p::r=>lo<p.1/\ p.1<=200/\ p.2≠0/\ iZ p.1 r
theorem bT {v:Int}:∀{ps:List (Int×Int)} {lo:Int},iZ lo ps->v<=lo->av ps v=0
 |[],_,_,_=>rfl
 |p::r,lo,h,hv=>by
  have h1:=h.1;unfold av;rw[if_neg (by omega)];exact bT h.2.2.2 (by omega)
theorem yt {v:Int} (hv:200<v):∀{ps:List (Int×Int)} {lo:Int},iZ lo ps->av ps v=0
 |[],_,_=>rfl
 |p::r,lo,h=>by
  have h1:=h.2.1;unfold av;rw[if_neg (by omega)];exact yt hv h.2.2.2
theorem Eo {lo lo':Int} (hl:lo'<=lo):∀{ps:List (Int×Int)},iZ lo ps->iZ lo' ps
 |[],_=>trivial
 | _::_,h=>⟨by have:=h.1;omega,h.2⟩
theorem wV:∀{xs ys:List (Int×Int)} {lo:Int},iZ lo xs->iZ lo ys->(∀v,av xs v=av ys v)->xs=ys
 |[],[],_,_,_,_=>rfl
 |[],q::s,lo,_,hy,he=>by
  have h1:=he q.1;simp only[av,if_pos]at h1;exact absurd h1.symm hy.2.2.1
 |p::r,[],lo,hx,_,he=>by
  have h1:=he p.1;simp only[av,if_pos]at h1;exact absurd h1 hx.2.2.1
 |p::r,q::s,lo,hx,hy,he=>by
  have hpq:p.1=q.1:=by
   rcases Int.lt_trichotomy p.1 q.1 with h|h|h
   ·have h1:=he p.1;have h2:av (q::s) p.1=0:=bT (lo:=p.1) ⟨h,hy.2⟩ (Int.le_refl _);rw[h2]at h1;simp only[av,if_pos]at h1;exact absurd h1 hx.2.2.1
   ·exact h
   ·have h1:=he q.1;have h2:av (p::r) q.1=0:=bT (lo:=q.1) ⟨h,hx.2⟩ (Int.le_refl _);rw[h2]at h1;simp only[av,if_pos]at h1;exact absurd h1.symm hy.2.2.1
  have he1:=he p.1;simp only[av,if_pos,hpq]at he1
  have hr:r=s:=wV (lo:=p.1) hx.2.2.2 (hpq▸hy.2.2.2) fun v=>by
   by_cases hv:p.1=v
   ·rw[bT hx.2.2.2 (by omega),bT (lo:=q.1) hy.2.2.2 (by omega)]
   ·have h3:=he v;unfold av at h3;rwa[if_neg hv,if_neg (by omega)]at h3
  rw[hr]
  congr 1
  exact Prod.ext hpq (by simpa using he1)
theorem rz:∀{ps:List (Int×Int)} {lo:Int},aJ lo ps=true↔iZ lo ps/\∀v,0<=av ps v/\ av ps v<=10000
 |[],lo=>by simp[aJ,iZ,av]
 |p::r,lo=>by
  have ih:=rz (ps:=r) (lo:=p.1);constructor
  ·intro h;unfold aJ Dn at h;simp only[Bool.and_eq_true,decide_eq_true_eq]at h;obtain⟨⟨h1,h2,h3,h4⟩,h5⟩:=h;obtain⟨g1,g2⟩:=ih.1 h5;refine⟨⟨h1,h2,by omega,g1⟩,fun v=>?_⟩;unfold av;by_cases hv:p.1=v
   ·rw[if_pos hv];omega
   ·rw[if_neg hv];exact g2 v
  ·rintro⟨⟨h1,h2,h3,h4⟩,h5⟩;have h6:=h5 p.1;simp only[av,if_pos]at h6;unfold aJ Dn;simp only[Bool.and_eq_true,decide_eq_true_eq];refine⟨⟨h1,h2,by omega,h6.2⟩,ih.2 ⟨h4,fun v=>?_⟩⟩;by_cases hv:p.1=v
   ·rw[bT h4 (by omega)];omega
   ·have h7:=h5 v;unfold av at h7;rwa[if_neg hv]at h7
theorem gY {ps:List (Int×Int)} (h:aJ 0 ps=true):iZ 0 ps:=(rz.1 h).1
theorem eD {ps:List (Int×Int)} (h:aJ 0 ps=true) (v:Int):0<=av ps v/\ av ps v<=10000:=(rz.1 h).2 v
theorem jA {ps:List (Int×Int)} (h:aJ 0 ps=true) {v:Int} (hv:v<1∨200<v):av ps v=0:=by
 rcases hv with hv|hv
 ·exact bT (gY h) (by omega)
 ·exact yt hv (gY h)
def qd:List (Int×Int)->List (Int×Int)->List (Int×Int×Int)
 |[],ys=>ys.map fun q=>(q.1,0,q.2)
 |xs,[]=>xs.map fun p=>(p.1,p.2,0)
 |p::r,q::s=>if p.1<q.1 then(p.1,p.2,0)::qd r (q::s)else if q.1<p.1 then(q.1,0,q.2)::qd (p::r) s else(p.1,p.2,q.2)::qd r s
termination_by xs ys=>xs.length+ys.length
theorem jE (ys:List (Int×Int)):qd [] ys=ys.map fun q=>(q.1,0,q.2):=by unfold qd;rfl
theorem iO (xs:List (Int×Int)):qd xs []=xs.map fun p=>(p.1,p.2,0):=by
 cases xs with
 |nil=>simp[qd]
 |cons p r=>unfold qd;rfl
theorem yu {p q:Int×Int} (r s:List (Int×Int)) (h:p.1<q.1):qd (p::r) (q::s)=(p.1,p.2,0)::qd r (q::s):=by
 rw[qd];rw[if_pos h]
theorem yw {p q:Int×Int} (r s:List (Int×Int)) (h:q.1<p.1):qd (p::r) (q::s)=(q.1,0,q.2)::qd (p::r) s:=by
 rw[qd];rw[if_neg (by omega),if_pos h]
theorem yx {p q:Int×Int} (r s:List (Int×Int)) (h:p.1=q.1):qd (p::r) (q::s)=(p.1,p.2,q.2)::qd r s:=by
 rw[qd];rw[if_neg (by omega),if_neg (by omega)]
theorem Jz {xs ys:List (Int×Int)} (h:xs=[]∨ys=[]):qd xs ys=xs.map (fun p=>(p.1,p.2,(0:Int)))++ys.map (fun q=>(q.1,(0:Int),q.2)):=by
 rcases h with rfl|rfl
 ·rw[jE];rfl
 ·rw[iO];simp
theorem map_drop {β:Type} (f:Int×Int->β) {ps:List (Int×Int)} {k:Nat} (h:k<ps.length):(ps.drop k).map f=f (ps.getD k (0,0))::(ps.drop (k+1)).map f:=by
 rw[List.drop_eq_getElem_cons h,List.map_cons];simp only[List.getD,List.getElem?_eq_getElem h,Option.getD_some]
def fH (f:Int->Int->Int):List (Int×Int×Int)->List (Int×Int)
 |[]=>[]
 |t::r=>if f t.2.1 t.2.2=0 then fH f r else(t.1,f t.2.1 t.2.2)::fH f r
theorem oW (f:Int->Int->Int):∀a b:List (Int×Int×Int),fH f (a++b)=fH f a++fH f b
 |[],_=>rfl
 |t::r,b=>by
  simp only[List.cons_append,fH,oW f r b];by_cases h:f t.2.1 t.2.2=0
  ·rw[if_pos h,if_pos h]
  ·rw[if_neg h,if_neg h];rfl
theorem wN {f:Int->Int->Int} {t:Int×Int×Int} (a:List (Int×Int×Int)) (h:f t.2.1 t.2.2=0):fH f (a++[t])=fH f a:=by
 rw[oW];simp[fH,h]
theorem G8 {f:Int->Int->Int} {t:Int×Int×Int} (a:List (Int×Int×Int)) (h:f t.2.1 t.2.2≠0):fH f (a++[t])=fH f a++[(t.1,f t.2.1 t.2.2)]:=by
 rw[oW];simp[fH,h]
theorem AA (f:Int->Int->Int):∀a:List (Int×Int×Int),(fH f a).length<=a.length
 |[]=>Nat.le_refl _
 |t::r=>by
  unfold fH;have:=AA f r;by_cases h:f t.2.1 t.2.2=0
  ·rw[if_pos h];simp;omega
  ·rw[if_neg h];simp;omega
theorem nP {f:Int->Int->Int} {v x y:Int} {lo:Int} {ts:List (Int×Int×Int)} {a b:Int->Int} (h1:lo<v) (h2:v<=200) (hr:iZ v (fH f ts))
  (he:∀u,av (fH f ts) u=f (a u) (b u)) (a' b':Int->Int) (ha:∀u,u≠v->a' u=a u) (hb:∀u,u≠v->b' u=b u) (hav:a' v=x) (hbv:b' v=y):
  iZ lo (fH f ((v,x,y)::ts))/\∀u,av (fH f ((v,x,y)::ts)) u=f (a' u) (b' u):=by
 unfold fH;by_cases h:f x y=0
 ·rw[if_pos h];refine⟨Eo (by omega) hr,fun u=>?_⟩;by_cases hu:u=v
  ·subst hu;rw[bT hr (Int.le_refl _),hav,hbv,h]
  ·rw[he u,ha u hu,hb u hu]
 ·rw[if_neg h];refine⟨⟨h1,h2,h,hr⟩,fun u=>?_⟩;by_cases hu:v=u
  ·subst hu;simp[av,hav,hbv]
  ·simp only[av,if_neg hu];rw[he u,ha u (Ne.symm hu),hb u (Ne.symm hu)]
theorem jP {f:Int->Int->Int} (h0:f 0 0=0):∀(n:Nat) (xs ys:List (Int×Int)) (lo:Int),xs.length+ys.length<=n->iZ lo xs->iZ lo ys->
  iZ lo (fH f (qd xs ys))/\∀v,av (fH f (qd xs ys)) v=f (av xs v) (av ys v)
 |n,[],[],lo,_,_,_=>by simp[qd,fH,iZ,av,h0]
 |0,p::r,_,_,hn,_,_=>by simp at hn
 |0,[],q::s,_,hn,_,_=>by simp at hn
 |n+1,[],q::s,lo,hn,hx,hy=>by
  have ih:=jP h0 n [] s q.1 (by simp at hn ⊢;omega) trivial hy.2.2.2;rw[jE]at ih ⊢;exact nP hy.1 hy.2.1 ih.1 ih.2 _ _ (fun _ _=>rfl) (fun u hu=>by simp[av,Ne.symm hu]) rfl (by simp[av])
 |n+1,p::r,[],lo,hn,hx,hy=>by
  have ih:=jP h0 n r [] p.1 (by simp at hn ⊢;omega) hx.2.2.2 trivial;rw[iO]at ih ⊢;exact nP hx.1 hx.2.1 ih.1 ih.2 _ _ (fun u hu=>by simp[av,Ne.symm hu]) (fun _ _=>rfl) (by simp[av]) rfl
 |n+1,p::r,q::s,_,hn,hx,hy=>by
  rcases Int.lt_trichotomy p.1 q.1 with h|h|h
  ·have ih:=jP h0 n r (q::s) p.1 (by simp at hn ⊢;omega) hx.2.2.2 ⟨h,hy.2⟩;rw[yu _ _ h];exact nP hx.1 hx.2.1 ih.1 ih.2 _ _ (fun u hu=>by simp[av,Ne.symm hu]) (fun _ _=>rfl) (by simp[av]) (bT (lo:=p.1) ⟨h,hy.2⟩ (Int.le_refl _))
  ·have ih:=jP h0 n r s p.1 (by simp at hn ⊢;omega) hx.2.2.2 (h▸hy.2.2.2);rw[yx _ _ h];exact nP hx.1 hx.2.1 ih.1 ih.2 _ _ (fun u hu=>by simp[av,Ne.symm hu]) (fun u hu=>by simp[av,<-h,Ne.symm hu]) (by simp[av]) (by simp[av,h])
  ·have ih:=jP h0 n (p::r) s q.1 (by simp at hn ⊢;omega) ⟨h,hx.2⟩ hy.2.2.2;rw[yw _ _ h];exact nP hy.1 hy.2.1 ih.1 ih.2 _ _ (fun _ _=>rfl) (fun u hu=>by simp[av,Ne.symm hu]) (bT (lo:=q.1) ⟨h,hx.2⟩ (Int.le_refl _)) (by simp[av])
def joinL (f:Int->Int->Int) (xs ys:List (Int×Int)):List (Int×Int):=fH f (qd xs ys)
theorem qy {f:Int->Int->Int} (h0:f 0 0=0) {xs ys:List (Int×Int)} (hx:aJ 0 xs=true) (hy:aJ 0 ys=true):iZ 0 (joinL f xs ys):=
 (jP h0 _ xs ys 0 (Nat.le_refl _) (gY hx) (gY hy)).1
theorem nG {f:Int->Int->Int} (h0:f 0 0=0) {xs ys:List (Int×Int)} (hx:aJ 0 xs=true) (hy:aJ 0 ys=true) (v:Int):av (joinL f xs ys) v=f (av xs v) (av ys v):=
 (jP h0 _ xs ys 0 (Nat.le_refl _) (gY hx) (gY hy)).2 v
theorem xY {f:Int->Int->Int} (h0:f 0 0=0) {xs ys:List (Int×Int)} (hx:aJ 0 xs=true) (hy:aJ 0 ys=true):
  aJ 0 (joinL f xs ys)=true↔ ∀v,0<=f (av xs v) (av ys v)/\ f (av xs v) (av ys v)<=10000:=by
 rw[rz];constructor
 ·intro h v;rw[<-nG h0 hx hy];exact h.2 v
 ·intro h;exact⟨qy h0 hx hy,fun v=>by rw[nG h0 hx hy];exact h v⟩
theorem wZ:∀(n:Nat) (xs ys:List (Int×Int)),xs.length+ys.length<=n->(qd xs ys).length<=xs.length+ys.length
 |n,[],ys,_=>by rw[jE];simp
 |n,p::r,[],_=>by rw[iO];simp
 |0,p::r,q::s,hn=>by simp at hn
 |n+1,p::r,q::s,hn=>by
  rcases Int.lt_trichotomy p.1 q.1 with h|h|h
  ·have:=wZ n r (q::s) (by simp at hn ⊢;omega);rw[yu _ _ h];simp at this ⊢;omega
  ·have:=wZ n r s (by simp at hn ⊢;omega);rw[yx _ _ h];simp at this ⊢;omega
  ·have:=wZ n (p::r) s (by simp at hn ⊢;omega);rw[yw _ _ h];simp at this ⊢;omega
theorem xg {P Q:Int->Prop} (h0:Q 0):∀(n:Nat) (xs ys:List (Int×Int)),xs.length+ys.length<=n->(∀p∈xs,P p.1/\ Q p.2)->(∀p∈ys,P p.1/\ Q p.2)->∀t∈qd xs ys,P t.1/\ Q t.2.1/\ Q t.2.2
 |n,[],ys,_,_,hy,t,ht=>by
  rw[jE]at ht;obtain⟨q,hq,rfl⟩:=List.mem_map.1 ht;exact⟨(hy q hq).1,h0,(hy q hq).2⟩
 |n,p::r,[],_,hx,_,t,ht=>by
  rw[iO]at ht;obtain⟨q,hq,rfl⟩:=List.mem_map.1 ht;exact⟨(hx q hq).1,(hx q hq).2,h0⟩
 |0,p::r,q::s,hn,_,_,_,_=>by simp at hn
 |n+1,p::r,q::s,hn,hx,hy,t,ht=>by
  rcases Int.lt_trichotomy p.1 q.1 with h|h|h
  ·rw[yu _ _ h,List.mem_cons]at ht;rcases ht with rfl|ht
   ·exact⟨(hx p (by simp)).1,(hx p (by simp)).2,h0⟩
   ·exact xg h0 n r (q::s) (by simp at hn ⊢;omega) (fun p hp=>hx p (by simp[hp])) hy t ht
  ·rw[yx _ _ h,List.mem_cons]at ht;rcases ht with rfl|ht
   ·exact⟨(hx p (by simp)).1,(hx p (by simp)).2,(hy q (by simp)).2⟩
   ·exact xg h0 n r s (by simp at hn ⊢;omega) (fun p hp=>hx p (by simp[hp])) (fun p hp=>hy p (by simp[hp])) t ht
  ·rw[yw _ _ h,List.mem_cons]at ht;rcases ht with rfl|ht
   ·exact⟨(hy q (by simp)).1,h0,(hy q (by simp)).2⟩
   ·exact xg h0 n (p::r) s (by simp at hn ⊢;omega) hx (fun p hp=>hy p (by simp[hp])) t ht
theorem rA:∀{ps:List (Int×Int)} {lo:Int},aJ lo ps=true->0<=lo->∀p∈ps,(0<=p.1/\ p.1<=200)/\ (0<=p.2/\ p.2<=10000)
 |q::r,lo,h,hl,p,hp=>by
  unfold aJ Dn at h;simp only[Bool.and_eq_true,decide_eq_true_eq]at h;obtain⟨⟨h1,h2,h3,h4⟩,h5⟩:=h;rcases List.mem_cons.1 hp with rfl|hp
  ·exact⟨⟨by omega,h2⟩,by omega,h4⟩
  ·exact rA h5 (by omega) p hp
theorem JA:∀{ps:List (Int×Int)} {lo:Int},iZ lo ps->lo<=200->(ps.length:Int)+lo<=200
 |[],_,_,hl=>by simpa using hl
 |p::r,lo,h,_=>by
  have:=JA h.2.2.2 h.2.1;have:=h.1;simp only[List.length_cons];omega
theorem JB {ps:List (Int×Int)} (h:aJ 0 ps=true):ps.length<=200:=by
 have:=JA (gY h) (by omega);omega
def sI (g:Int->Int):Nat->List (Int×Int)
 |0=>[]
 |k+1=>sI g k++if 0<g ((k:Int)+1)then[((k:Int)+1,g ((k:Int)+1))]else[]
theorem Ep (g:Int->Int):∀k,(sI g k).length<=k
 |0=>Nat.le_refl _
 |k+1=>by
  unfold sI;have:=Ep g k;by_cases h:0<g ((k:Int)+1)
  ·rw[if_pos h];simp;omega
  ·rw[if_neg h];simp;omega
theorem Er {v e:Int} (h2:v<=200) (h3:e≠0):∀{xs:List (Int×Int)} {lo:Int},iZ lo xs->(∀p∈xs,p.1<v)->lo<v->iZ lo (xs++[(v,e)])
 |[],_,_,_,hl=>⟨hl,h2,h3,trivial⟩
 |p::r,_,h,hp,_=>⟨h.1,h.2.1,h.2.2.1,Er h2 h3 h.2.2.2 (fun q hq=>hp q (by simp[hq])) (hp p (by simp))⟩
theorem ve {v e u:Int}:∀{xs:List (Int×Int)},(∀p∈xs,p.1<v)->av (xs++[(v,e)]) u=if u=v then e else av xs u
 |[],_=>by
  by_cases h:v=u
  ·simp[av,h]
  ·simp[av,h,Ne.symm h]
 |p::r,hp=>by
  have h1:=hp p (by simp);have ih:=ve (v:=v) (e:=e) (u:=u) (xs:=r) fun q hq=>hp q (by simp[hq])
  simp only[List.cons_append,av];by_cases h:p.1=u
  ·rw[if_pos h,if_pos h,if_neg (by omega)]
  ·rw[if_neg h,if_neg h,ih]
theorem AB (g:Int->Int):∀k:Nat,k<=200->iZ 0 (sI g k)/\ (∀p∈sI g k,p.1<=k)/\∀v:Int,av (sI g k) v=if 1<=v/\ v<=k/\ 0<g v then g v else 0
 |0,_=>⟨trivial,(fun p hp=>by cases hp),fun v=>by rw[if_neg (by omega)];rfl⟩
 |k+1,hk=>by
  obtain⟨h1,h2,h3⟩:=AB g k (by omega);have h4:∀p∈sI g k,p.1<(k:Int)+1:=fun p hp=>by have:=h2 p hp;omega
  unfold sI;by_cases h:0<g ((k:Int)+1)
  ·rw[if_pos h];refine⟨Er (by omega) (by omega) h1 h4 (by omega),fun p hp=>?_,fun v=>?_⟩
   ·rcases List.mem_append.1 hp with hp|hp
    ·have:=h2 p hp;omega
    ·simp at hp;subst hp;simp
   ·rw[ve h4,h3 v];by_cases hv:v=(k:Int)+1
    ·subst hv;rw[if_pos rfl,if_pos ⟨by omega,by omega,h⟩]
    ·rw[if_neg hv];by_cases hc:1<=v/\ v<=(k:Int)/\ 0<g v
     ·rw[if_pos hc,if_pos ⟨hc.1,by omega,hc.2.2⟩]
     ·rw[if_neg hc,if_neg (fun hd=>hc ⟨hd.1,by omega,hd.2.2⟩)]
  ·rw[if_neg h,List.append_nil];refine⟨h1,fun p hp=>by have:=h2 p hp;omega,fun v=>?_⟩;rw[h3 v];by_cases hv:v=(k:Int)+1
   ·subst hv;rw[if_neg (by omega),if_neg (fun hd=>h hd.2.2)]
   ·by_cases hc:1<=v/\ v<=(k:Int)/\ 0<g v
    ·rw[if_pos hc,if_pos ⟨hc.1,by omega,hc.2.2⟩]
    ·rw[if_neg hc,if_neg (fun hd=>hc ⟨hd.1,by omega,hd.2.2⟩)]
def lim:Nat:=200
def QM (g:Int->Int):List (Int×Int):=sI g lim
structure ZN (g:Int->Int) (ps:List (Int×Int)):Prop where
 ris:iZ 0 ps
 ex:∀v:Int,av ps v=if 1<=v/\ v<=200/\ 0<g v then g v else 0
theorem OI (g:Int->Int) (k:Nat) (hk:k=200):ZN g (sI g k):=by
 obtain⟨h1,_,h2⟩:=AB g k (by omega);refine⟨h1,fun v=>?_⟩;rw[h2 v,show(k:Int)=200 by omega]
theorem Wu (g:Int->Int):ZN g (QM g):=OI g lim rfl
theorem ZN.eq {g:Int->Int} {ps qs:List (Int×Int)} (k:ZN g qs) (h:iZ 0 ps) (hg:∀v,1<=v->v<=200->av ps v=g v) (h0:∀v,1<=v->v<=200->0<=g v):qs=ps:=by
 refine wV k.ris h fun v=>?_
 rw[k.ex];by_cases h1:1<=v
 ·by_cases h2:v<=200
  ·rw[hg v h1 h2];have:=h0 v h1 h2;by_cases h3:0<g v
   ·rw[if_pos ⟨h1,h2,h3⟩]
   ·rw[if_neg (fun hd=>h3 hd.2.2)];omega
  ·rw[if_neg (by omega),yt (by omega) h]
 ·rw[if_neg (by omega),bT h (by omega)]
theorem GQ {g:Int->Int} {ps:List (Int×Int)} (h:iZ 0 ps) (hg:∀v,1<=v->v<=200->av ps v=g v) (h0:∀v,1<=v->v<=200->0<=g v):QM g=ps:=ZN.eq (Wu g) h hg h0
def orM (ps:List (Int×Int)):List (Int×Int):=if aJ 0 ps=true then ps else[]
theorem gZ (ps:List (Int×Int)):aJ 0 (orM ps)=true:=by
 unfold orM;by_cases h:aJ 0 ps=true
 ·rw[if_pos h];exact h
 ·rw[if_neg h];rfl
theorem rC {ps:List (Int×Int)} (h:aJ 0 ps=true):orM ps=ps:=if_pos h
theorem OJ {ps:List (Int×Int)} (h:aJ 0 ps=false):orM ps=[]:=if_neg (by simp[h])
def jv (ps:List (Int×Int)) (v:Int):Int:=av (orM ps) v
def sJ:List (Int×Int×Int)->Int
 |[]=>0
 |t::r=>if sJ r=0 then(if t.2.1<t.2.2 then-1 else if t.2.2<t.2.1 then 1 else 0)else sJ r
def pQ (c:Int) (f g:Int->Int):Prop:=
 (c=0/\∀v,f v=g v)∨(∃v,c= -1/\ f v<g v/\∀u,v<u->f u=g u)∨ ∃v,c=1/\ g v<f v/\∀u,v<u->f u=g u
theorem pQ.unique {c d:Int} {f g:Int->Int} (h:pQ c f g) (k:pQ d f g):c=d:=by
 rcases h with⟨rfl,h⟩|⟨v,rfl,h1,h2⟩|⟨v,rfl,h1,h2⟩<;>rcases k with⟨rfl,k⟩|⟨u,rfl,k1,k2⟩|⟨u,rfl,k1,k2⟩
 ·rfl
 ·have:=h u;omega
 ·have:=h u;omega
 ·have:=k v;omega
 ·rfl
 ·rcases Int.lt_trichotomy u v with e|e|e
  ·have:=k2 v e;omega
  ·subst e;omega
  ·have:=h2 u e;omega
 ·have:=k v;omega
 ·rcases Int.lt_trichotomy u v with e|e|e
  ·have:=k2 v e;omega
  ·subst e;omega
  ·have:=h2 u e;omega
 ·rfl
theorem nQ {v x y:Int} {ts:List (Int×Int×Int)} {f g f' g':Int->Int} (h:pQ (sJ ts) f g) (hf:∀u,u≠v->f' u=f u) (hg:∀u,u≠v->g' u=g u) (hfv:f' v=x) (hgv:g' v=y)
  (hlo:f v=g v) (hl:∀u,u<v->f u=g u):pQ (sJ ((v,x,y)::ts)) f' g':=by
 unfold sJ;rcases h with⟨h0,h⟩|⟨w,h0,h1,h2⟩|⟨w,h0,h1,h2⟩
 ·rw[if_pos h0];have hs:∀u,u≠v->f' u=g' u:=fun u hu=>by rw[hf u hu,hg u hu];exact h u
  rcases Int.lt_trichotomy x y with e|e|e
  ·rw[if_pos e];exact .inr (.inl ⟨v,rfl,by rw[hfv,hgv];exact e,fun u hu=>hs u (by omega)⟩)
  ·rw[if_neg (by simp[e]),if_neg (by simp[e])]
   exact .inl ⟨rfl,fun u=>by
    by_cases hu:u=v
    ·subst hu;rw[hfv,hgv,e]
    ·exact hs u hu⟩
  ·rw[if_neg (by simp;omega),if_pos e];exact .inr (.inr ⟨v,rfl,by rw[hfv,hgv];exact e,fun u hu=>hs u (by omega)⟩)
 ·have hw:v<w:=by
   rcases Int.lt_trichotomy v w with e|e|e
   ·exact e
   ·subst e;omega
   ·have:=hl w e;omega
  rw[if_neg (by omega)];exact .inr (.inl ⟨w,h0,by rw[hf w (by omega),hg w (by omega)];exact h1,fun u hu=>by rw[hf u (by omega),hg u (by omega)];exact h2 u hu⟩)
 ·have hw:v<w:=by
   rcases Int.lt_trichotomy v w with e|e|e
   ·exact e
   ·subst e;omega
   ·have:=hl w e;omega
  rw[if_neg (by omega)];exact .inr (.inr ⟨w,h0,by rw[hf w (by omega),hg w (by omega)];exact h1,fun u hu=>by rw[hf u (by omega),hg u (by omega)];exact h2 u hu⟩)
theorem nR:∀(n:Nat) (xs ys:List (Int×Int)) (lo:Int),xs.length+ys.length<=n->iZ lo xs->iZ lo ys->pQ (sJ (qd xs ys)) (av xs) (av ys)
 |n,[],[],lo,_,_,_=>by simp[qd,sJ,pQ,av]
 |0,p::r,_,_,hn,_,_=>by simp at hn
 |0,[],q::s,_,hn,_,_=>by simp at hn
 |n+1,[],q::s,lo,hn,hx,hy=>by
  have ih:=nR n [] s q.1 (by simp at hn ⊢;omega) trivial hy.2.2.2;rw[jE]at ih ⊢;exact nQ ih (fun _ _=>rfl) (fun u hu=>by simp[av,Ne.symm hu]) rfl (by simp[av]) (bT hy.2.2.2 (Int.le_refl _)).symm (fun u hu=>(bT hy.2.2.2 (by omega)).symm)
 |n+1,p::r,[],lo,hn,hx,hy=>by
  have ih:=nR n r [] p.1 (by simp at hn ⊢;omega) hx.2.2.2 trivial;rw[iO]at ih ⊢;exact nQ ih (fun u hu=>by simp[av,Ne.symm hu]) (fun _ _=>rfl) (by simp[av]) rfl (bT hx.2.2.2 (Int.le_refl _)) (fun u hu=>(bT hx.2.2.2 (by omega)))
 |n+1,p::r,q::s,lo,hn,hx,hy=>by
  rcases Int.lt_trichotomy p.1 q.1 with h|h|h
  ·have hq:iZ p.1 (q::s):=⟨h,hy.2⟩;have ih:=nR n r (q::s) p.1 (by simp at hn ⊢;omega) hx.2.2.2 hq;rw[yu _ _ h];exact nQ ih (fun u hu=>by simp[av,Ne.symm hu]) (fun _ _=>rfl) (by simp[av]) (bT hq (Int.le_refl _)) (by rw[bT hx.2.2.2 (Int.le_refl _),bT hq (Int.le_refl _)]) (fun u hu=>by rw[bT hx.2.2.2 (by omega),bT hq (by omega)])
  ·have hq:iZ p.1 s:=h▸hy.2.2.2;have ih:=nR n r s p.1 (by simp at hn ⊢;omega) hx.2.2.2 hq;rw[yx _ _ h];exact nQ ih (fun u hu=>by simp[av,Ne.symm hu]) (fun u hu=>by simp[av,<-h,Ne.symm hu]) (by simp[av]) (by simp[av,h]) (by rw[bT hx.2.2.2 (Int.le_refl _),bT hq (Int.le_refl _)]) (fun u hu=>by rw[bT hx.2.2.2 (by omega),bT hq (by omega)])
  ·have hp:iZ q.1 (p::r):=⟨h,hx.2⟩;have ih:=nR n (p::r) s q.1 (by simp at hn ⊢;omega) hp hy.2.2.2;rw[yw _ _ h];exact nQ ih (fun _ _=>rfl) (fun u hu=>by simp[av,Ne.symm hu]) (bT hp (Int.le_refl _)) (by simp[av]) (by rw[bT hp (Int.le_refl _),bT hy.2.2.2 (Int.le_refl _)]) (fun u hu=>by rw[bT hp (by omega),bT hy.2.2.2 (by omega)])
def gN (xs ys:List (Int×Int)):Int:=sJ (qd xs ys)
theorem kN {xs ys:List (Int×Int)} (hx:aJ 0 xs=true) (hy:aJ 0 ys=true):pQ (gN xs ys) (av xs) (av ys):=nR _ xs ys 0 (Nat.le_refl _) (gY hx) (gY hy)
def lN (o:Int):List (Int×Int×Int)->Int
 |[]=>o
 |t::r=>lN (if t.2.1<t.2.2 then-1 else if t.2.2<t.2.1 then 1 else o) r
theorem AJ (o:Int):∀ts,lN o ts=if sJ ts=0 then o else sJ ts
 |[]=>by simp[lN,sJ]
 |t::r=>by
  rw[lN,AJ _ r,sJ];by_cases h:sJ r=0
  ·simp only[if_pos h];by_cases h1:t.2.1<t.2.2
   ·simp[h1]
   ·by_cases h2:t.2.2<t.2.1
    ·simp[h1,h2]
    ·simp[h1,h2]
  ·simp only[if_neg h]
theorem oZ (o:Int):∀a b:List (Int×Int×Int),lN o (a++b)=lN (lN o a) b
 |[],_=>rfl
 | _::r,b=>by simp only[List.cons_append,lN];exact oZ _ r b
theorem G9 (ts:List (Int×Int×Int)):lN 0 ts=sJ ts:=by
 rw[AJ];by_cases h:sJ ts=0
 ·rw[if_pos h,h]
 ·rw[if_neg h]
def gD (f:Int->Int->Int) (er:Int) (xs ys:List (Int×Int)):List (Int×Int)×Int:=
 if aJ 0 xs=true/\ aJ 0 ys=true then(if aJ 0 (joinL f xs ys)=true then(joinL f xs ys,0)else([],er))else([],2)
def eF (v:Int) (ps:List (Int×Int)):List (Int×Int):=ps.filter fun p=>decide (p.1≠v)
theorem dN (v u:Int):∀ps:List (Int×Int),av (eF v ps) u=if u=v then 0 else av ps u
 |[]=>by simp[eF,av]
 |p::r=>by
  have ih:=dN v u r;unfold eF at ih ⊢;by_cases h:p.1=v
  ·rw[List.filter_cons_of_neg (by simp[h]),ih];by_cases hu:u=v
   ·rw[if_pos hu,if_pos hu]
   ·rw[if_neg hu,if_neg hu];simp only[av];rw[if_neg (by omega)]
  ·rw[List.filter_cons_of_pos (by simp[h])];simp only[av,ih];by_cases hu:u=v
   ·rw[if_pos hu,if_pos hu,if_neg (by omega)]
   ·rw[if_neg hu,if_neg hu]
theorem tK (v:Int):∀{ps:List (Int×Int)} {lo:Int},iZ lo ps->iZ lo (eF v ps)
 |[],_,_=>trivial
 |p::r,lo,h=>by
  have ih:=tK v h.2.2.2;unfold eF at ih ⊢;by_cases hp:p.1=v
  ·rw[List.filter_cons_of_neg (by simp[hp])];exact Eo (by have:=h.1;omega) ih
  ·rw[List.filter_cons_of_pos (by simp[hp])];exact⟨h.1,h.2.1,h.2.2.1,ih⟩
theorem Es {v:Int} {ps:List (Int×Int)} (h:∀t,t<ps.length->(ps.getD t (0,0)).1≠v):eF v ps=ps:=by
 unfold eF;rw[List.filter_eq_self];intro p hp;obtain⟨t,ht,rfl⟩:=List.getElem_of_mem hp;have:=h t ht;simpa[List.getD,List.getElem?_eq_getElem ht]using this
theorem yA (ps:List (Int×Int)) (k:Nat) (h:k<ps.length):ps.take (k+1)=ps.take k++[ps.getD k (0,0)]:=by
 rw[List.take_succ_eq_append_getElem h];simp[List.getD,List.getElem?_eq_getElem h]
theorem tQ {v:Int} {ps:List (Int×Int)} {k:Nat} (h:k<ps.length) (hp:(ps.getD k (0,0)).1=v):eF v (ps.take (k+1))=eF v (ps.take k):=by
 rw[yA ps k h];unfold eF;rw[List.filter_append];simp only[List.filter_cons,List.filter_nil,hp];simp
theorem zP {v:Int} {ps:List (Int×Int)} {k:Nat} (h:k<ps.length) (hp:(ps.getD k (0,0)).1≠v):eF v (ps.take (k+1))=eF v (ps.take k)++[ps.getD k (0,0)]:=by
 rw[yA ps k h];unfold eF;rw[List.filter_append];simp only[List.filter_cons,List.filter_nil];rw[if_pos (by simpa using hp)]
theorem OL {zs ps:List (Int×Int)} {k:Nat} (hz:k<zs.length) (hp:k<ps.length) (h:zs.drop k=ps.drop k):zs.getD k (0,0)=ps.getD k (0,0)/\ zs.drop (k+1)=ps.drop (k+1):=by
 rw[List.drop_eq_getElem_cons hz,List.drop_eq_getElem_cons hp]at h;simp only[List.cons.injEq]at h;exact⟨by simpa[List.getD,List.getElem?_eq_getElem hz,List.getElem?_eq_getElem hp]using h.1,h.2⟩
theorem take_set {zs:List (Int×Int)} {i:Nat} (h:i<zs.length) (p:Int×Int):(zs.set i p).take (i+1)=zs.take i++[p]:=by
 have e:(zs.set i p).take i=zs.take i:=by
  refine List.ext_getElem? fun j=>?_
  rw[List.getElem?_take,List.getElem?_take];by_cases hj:j<i
  ·rw[if_pos hj,if_pos hj,List.getElem?_set_ne (by omega)]
  ·rw[if_neg hj,if_neg hj]
 rw[List.take_succ_eq_append_getElem (by simpa using h),e];simp
theorem drop_set {zs:List (Int×Int)} {i k:Nat} (h:i<k) (p:Int×Int):(zs.set i p).drop k=zs.drop k:=by
 rw[List.drop_set,if_pos h]
end Go.Proofs.YthdhjckangekoaaGreat
