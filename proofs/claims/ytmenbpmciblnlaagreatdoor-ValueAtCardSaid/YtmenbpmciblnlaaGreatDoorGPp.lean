/- PPlain, POps, PDeg, PlJoinP -/
import Derived.Test.YtmenbpmciblnlaaGreatDoorMPlain
set_option maxHeartbeats 0
set_option maxRecDepth 100000
open List renaming cons_append->a0a,map_cons->a0b,mem_append->a0e,mem_cons->a0c,mem_map->a0d
open Nat renaming add_mul->a0i,mul_comm->a0f,mul_le_mul_right->a0g,pow_succ->a0h
/- Polynomials in plain words: terms (a whole number, a monomial), what they are at a point; a falling list is told by its values. -/
namespace Go.Proofs.YtmenbpmciblnlaaGreatDoor
section
abbrev Term:=Int×List (Int×Int)
def mh (f:Nat->Nat) (ρ:Nat->Int):Nat->Int
 |0=>1
 |n+1=>mh f ρ n*ρ n^f n
def Em (ps:List (Int×Int)) (u:Nat):Nat:=(aJ ps (u:Int)).toNat
def Jj (ps:List (Int×Int)) (ρ:Nat->Int):Int:=mh (Em ps) ρ 201
def ev:List Term->(Nat->Int)->Int
 |[],_=>0
 |t::r,ρ=>t.1*Jj t.2 ρ+ev r ρ
theorem xN {f g:Nat->Nat} (ρ:Nat->Int):∀n,(∀u,u<n->f u=g u)->mh f ρ n=mh g ρ n
 |0,_=>rfl
 |n+1,h=>by simp only[mh];rw[xN ρ n (λu hu=>h u (by omega)),h n (by omega)]
theorem ER (f g:Nat->Nat) (ρ:Nat->Int):∀n,mh (λu=>f u+g u) ρ n=mh f ρ n*mh g ρ n
 |0=>rfl
 |n+1=>by
  simp only[mh];rw[ER f g ρ n,Int.pow_add]
  grind
theorem xO (p q:List Term) (ρ:Nat->Int):ev (p++q) ρ=ev p ρ+ev q ρ:=by
 induction p with
 |nil=>simp[ev]
 |cons t r ih=>simp only[a0a,ev,ih];omega
def pq (p:List Term):List Term:=p.map λt=>(-t.1,t.2)
theorem Yi (p:List Term) (ρ:Nat->Int):ev (pq p) ρ= -ev p ρ:=by
 induction p with
 |nil=>simp[ev,pq]
 |cons t r ih=>
  simp only[pq,a0b,ev]at ih ⊢;rw[ih];grind
def Q8 (f:Nat->Nat):Nat->Nat
 |0=>0
 |n+1=>Q8 f n+f n*10001^n
def UX (ps:List (Int×Int)):Nat:=Q8 (Em ps) 201
def Nu (B:Nat) (n:Nat):Int:=(B:Int)^(10001^n)
theorem Q9 (f:Nat->Nat) (B:Nat):∀n,mh f (Nu B) n=(B:Int)^Q8 f n
 |0=>by simp[mh,Q8]
 |n+1=>by
  simp only[mh,Q8];rw[Q9 f B n,Int.pow_add]
  congr 1
  unfold Nu;rw[<-Int.pow_mul,a0f]
theorem Ra (ps:List (Int×Int)) (B:Nat):Jj ps (Nu B)=(B:Int)^UX ps:=Q9 _ _ _
theorem Rb (f:Nat->Nat) (hf:∀u,f u<=10000):∀n,Q8 f n<10001^n
 |0=>by simp[Q8]
 |n+1=>by
  simp only[Q8];have h1:=Rb f hf n;have h2:f n*10001^n<=10000*10001^n:=a0g _ (hf n);rw[a0h];omega
theorem GV {f g:Nat->Nat} (hg:∀u,g u<=10000) {v:Nat} (hv:g v<f v):∀n,v<n->(∀u,v<u->u<n->f u=g u)->Q8 g n<Q8 f n
 |0,h,_=>by omega
 |n+1,h,he=>by
  simp only[Q8];by_cases hn:v=n
  ·subst hn;have h1:=Rb g hg v;have h2:(g v+1)*10001^v<=f v*10001^v:=a0g _ hv;rw[a0i]at h2;omega
  ·rw[he n (by omega) (by omega)];have:=GV hg hv n (by omega) (λu h1 h2=>he u h1 (by omega));omega
theorem Yj {ps:List (Int×Int)} (h:aZ 0 ps=true) (u:Nat):Em ps u<=10000:=by
 have:=fE h (u:Int);unfold Em;omega
def xg (a b:List (Int×Int)):Prop:=qN 1 (aJ a) (aJ b)
theorem Yk {a b:List (Int×Int)} (ha:aZ 0 a=true) (hb:aZ 0 b=true) (h:xg a b):UX b<UX a:=by
 rcases h with⟨h,_⟩|⟨_,h,_⟩|⟨v,_,h1,h2⟩
 ·omega
 ·omega
 ·have hv:1<=v/\ v<=200:=Classical.byContradiction λhn=>by rw[lJ ha (by omega),lJ hb (by omega)]at h1;omega
  obtain⟨n,rfl⟩:∃n:Nat,v=(n:Int):=⟨v.toNat,by omega⟩;refine GV (v:=n) (Yj hb) ?_ 201 (by omega) λu h3 _=>?_
  ·have:=(fE hb n).1;unfold Em;omega
  ·unfold Em;rw[h2 u (by omega)]
def fA:List Term->Nat
 |[]=>0
 |t::r=>t.1.natAbs+fA r
theorem GX (B:Nat) (hB:1<=B) (w:Nat):∀(p:List Term),(∀t∈p,UX t.2<=w)->(ev p (Nu B)).natAbs<=fA p*B^w
 |[],_=>by simp[ev,fA]
 |t::r,h=>by
  have ih:=GX B hB w r (λs hs=>h s (by simp[hs]));have h1:B^UX t.2<=B^w:=Nat.pow_le_pow_right hB (h t (by simp));simp only[ev,fA]
  have h2:(t.1*Jj t.2 (Nu B)).natAbs<=t.1.natAbs*B^w:=by
   rw[Int.natAbs_mul,Ra,Int.natAbs_pow];exact Nat.mul_le_mul_left _ h1
  have h3:=Int.natAbs_add_le (t.1*Jj t.2 (Nu B)) (ev r (Nu B));rw[a0i];omega
theorem LG {t:Term} {r:List Term} (h0:t.1≠0) (ht:aZ 0 t.2=true) (hr:∀s∈r,aZ 0 s.2=true/\ xg t.2 s.2) (B:Nat) (hB:fA r<B):ev (t::r) (Nu B)≠0:=by
 intro he;have hw:∀s∈r,UX s.2<UX t.2:=λs hs=>Yk ht (hr s hs).1 (hr s hs).2
 simp only[ev]at he
 have h1:(ev r (Nu B)).natAbs=t.1.natAbs*B^UX t.2:=by
  have:ev r (Nu B)= -(t.1*Jj t.2 (Nu B)):=by omega
  rw[this,Int.natAbs_neg,Int.natAbs_mul,Ra,Int.natAbs_pow];rfl
 cases hwt:UX t.2 with
 |zero=>
  match r,hw with
  |[],_=>
   simp[ev]at h1;have:0<B:=by omega
   rw[hwt]at h1;simp at h1;omega
  |s::q,hw=>
   have:=hw s (by simp);omega
 |succ w=>
  have h2:=GX B (by omega) w r (λs hs=>by have:=hw s hs;omega);rw[h1,hwt,a0h]at h2;have h3:0<B^w:=Nat.pow_pos (by omega);have h4:1<=t.1.natAbs:=by omega
  have h5:B*B^w<=t.1.natAbs*(B^w*B):=by
   rw[a0f B];exact Nat.le_mul_of_pos_left _ h4
  have h6:fA r*B^w<B*B^w:=Nat.mul_lt_mul_of_pos_right hB h3;omega
def fall:List Term->Prop
 |[]=>True
 |t::r=>t.1≠0/\ aZ 0 t.2=true/\ (∀s∈r,xg t.2 s.2)/\ fall r
theorem iF:∀{p:List Term},fall p->∀t∈p,aZ 0 t.2=true
 |t::r,h,s,hs=>by
  rcases a0c.1 hs with rfl|hs
  ·exact h.2.1
  ·exact iF h.2.2.2 s hs
theorem sS:∀{p:List Term},fall p->∀t∈p,t.1≠0
 |t::r,h,s,hs=>by
  rcases a0c.1 hs with rfl|hs
  ·exact h.1
  ·exact sS h.2.2.2 s hs
theorem tH {a b c:List (Int×Int)} (h:xg a b) (k:xg b c):xg a c:=by
 rcases h with⟨h,_⟩|⟨_,h,_⟩|⟨v,_,h1,h2⟩
 ·omega
 ·omega
 ·rcases k with⟨k,_⟩|⟨_,k,_⟩|⟨u,_,k1,k2⟩
  ·omega
  ·omega
  ·rcases Int.lt_trichotomy u v with e|e|e
   ·exact .inr (.inr ⟨v,rfl,by rw[<-k2 v e];exact h1,λt ht=>by rw[h2 t ht,k2 t (by omega)]⟩)
   ·subst e;exact .inr (.inr ⟨u,rfl,by omega,λt ht=>by rw[h2 t ht,k2 t ht]⟩)
   ·exact .inr (.inr ⟨u,rfl,by rw[h2 u e];exact k1,λt ht=>by rw[h2 t (by omega),k2 t ht]⟩)
theorem uU {a:List (Int×Int)} (h:xg a a):False:=by
 rcases h with⟨h,_⟩|⟨_,h,_⟩|⟨v,_,h1,_⟩<;>omega
theorem vQ {a b:List (Int×Int)} (ha:aZ 0 a=true) (hb:aZ 0 b=true) (h:∀v,aJ a v=aJ b v):a=b:=ES (fU ha) (fU hb) h
theorem Nv {a b:List (Int×Int)} (ha:aZ 0 a=true) (hb:aZ 0 b=true):xg a b∨a=b∨xg b a:=by
 rcases nX ha hb with⟨_,h⟩|⟨v,_,h1,h2⟩|⟨v,_,h1,h2⟩
 ·exact .inr (.inl (vQ ha hb h))
 ·exact .inr (.inr (.inr (.inr ⟨v,rfl,h1,λu hu=>(h2 u hu).symm⟩)))
 ·exact .inl (.inr (.inr ⟨v,rfl,h1,h2⟩))
theorem LH {t:Term} {r:List Term} (h:fall (t::r)) (B:Nat) (hB:fA r<B):ev (t::r) (Nu B)≠0:=
 LG h.1 h.2.1 (λs hs=>⟨iF h.2.2.2 s hs,h.2.2.1 s hs⟩) B hB
theorem GY {p:List Term} {s:Term} (h:s∈pq p):∃t∈p,s=(-t.1,t.2):=by
 obtain⟨t,ht,rfl⟩:=a0d.1 h;exact⟨t,ht,rfl⟩
theorem GZ:∀{p q:List Term},fall p->fall q->(∀ρ,ev p ρ=ev q ρ)->p=q
 |[],[],_,_,_=>rfl
 |[],s::q,_,hq,he=>by
  exfalso
  refine LH hq (fA q+1) (by omega) ?_;rw[<-he];rfl
 |t::p,[],hp,_,he=>by
  exfalso
  refine LH hp (fA p+1) (by omega) ?_;rw[he];rfl
 |t::p,s::q,hp,hq,he=>by
  have H:∀{x:Term} {a b:List Term},x.1≠0->aZ 0 x.2=true->(∀y∈a,aZ 0 y.2=true/\ xg x.2 y.2)->(∀y∈b,aZ 0 y.2=true/\ xg x.2 y.2)->(∀ρ,ev (x::a) ρ=ev b ρ)->False:=by
   intro x a b h0 hm ha hb hab;refine LG (t:=x) (r:=a++pq b) h0 hm (λy hy=>?_) (fA (a++pq b)+1) (by omega) ?_
   ·rcases a0e.1 hy with hy|hy
    ·exact ha y hy
    ·obtain⟨z,hz,rfl⟩:=GY hy;exact hb z hz
   ·have h1:=hab (Nu (fA (a++pq b)+1));simp only[ev,xO,Yi]at h1 ⊢;omega
  have hpm:∀y∈p,aZ 0 y.2=true/\ xg t.2 y.2:=λy hy=>⟨iF hp.2.2.2 y hy,hp.2.2.1 y hy⟩
  have hqm:∀y∈q,aZ 0 y.2=true/\ xg s.2 y.2:=λy hy=>⟨iF hq.2.2.2 y hy,hq.2.2.1 y hy⟩
  rcases Nv hp.2.1 hq.2.1 with g|g|g
  ·exact(H hp.1 hp.2.1 hpm (b:=s::q) (λy hy=>by
    rcases a0c.1 hy with rfl|hy
    ·exact⟨hq.2.1,g⟩
    ·exact⟨(hqm y hy).1,tH g (hqm y hy).2⟩) he).elim
  ·have hc:t.1=s.1:=Classical.byContradiction λhne=>by
    refine H (x:=(t.1-s.1,t.2)) (a:=p) (b:=q) (by show t.1-s.1≠0;omega) hp.2.1 hpm (λy hy=>by rw[g];exact hqm y hy) λρ=>?_
    have:=he ρ;simp only[ev]at this ⊢;rw[<-g]at this
    grind
   have ht:t=s:=Prod.ext hc g;subst ht;rw[GZ hp.2.2.2 hq.2.2.2 λρ=>by have:=he ρ;simp only[ev]at this;omega]
  ·exact(H hq.1 hq.2.1 hqm (b:=t::p) (λy hy=>by
    rcases a0c.1 hy with rfl|hy
    ·exact⟨hp.2.1,g⟩
    ·exact⟨(hpm y hy).1,tH g (hpm y hy).2⟩) (λρ=>(he ρ).symm)).elim
termination_by p q=>p.length+q.length
def l6 (a b:List (Int×Int)):List (Int×Int):=joinL (λx y=>x+y) a b
theorem kY {a b:List (Int×Int)} (ha:aZ 0 a=true) (hb:aZ 0 b=true) (v:Int):aJ (l6 a b) v=aJ a v+aJ b v:=pI (f:=λx y=>x+y) rfl ha hb v
theorem LJ {a b:List (Int×Int)} (ha:aZ 0 a=true) (hb:aZ 0 b=true) (ρ:Nat->Int):Jj (l6 a b) ρ=Jj a ρ*Jj b ρ:=by
 unfold Jj;rw[<-ER];refine xN ρ 201 λu _=>?_
 have h1:=(fE ha u).1;have h2:=(fE hb u).1;unfold Em;rw[kY ha hb];omega
end
/- Polynomials in plain words: a term more at its place, sums, products, quotients, contents, powers. -/
section
theorem Q5 {a b:List (Int×Int)} (ha:aZ 0 a=true) (hb:aZ 0 b=true) (h:lS a b=1):xg a b:=by have:=nX ha hb;rw[h]at this;exact this
theorem Yl {a b:List (Int×Int)} (ha:aZ 0 a=true) (hb:aZ 0 b=true) (h:lS a b= -1):xg b a:=by
 rcases nX ha hb with⟨h1,_⟩|⟨v,_,h1,h2⟩|⟨_,h1,_⟩
 ·omega
 ·exact .inr (.inr ⟨v,rfl,h1,λu hu=>(h2 u hu).symm⟩)
 ·omega
theorem cmp_eq {a b:List (Int×Int)} (ha:aZ 0 a=true) (hb:aZ 0 b=true) (h:lS a b=0):a=b:=by
 rcases nX ha hb with⟨_,h1⟩|⟨_,h1,_⟩|⟨_,h1,_⟩
 ·exact vQ ha hb h1
 ·omega
 ·omega
theorem xP {a b:List (Int×Int)} (ha:aZ 0 a=true) (hb:aZ 0 b=true):lS a b= -1∨lS a b=0∨lS a b=1:=by
 rcases nX ha hb with⟨h1,_⟩|⟨_,h1,_⟩|⟨_,h1,_⟩<;>simp[h1]
theorem Yh {a b:List (Int×Int)} (ha:aZ 0 a=true) (hb:aZ 0 b=true) (h:xg a b):lS a b=1:=(nX ha hb).unique h
def iG:List Term->Int->List (Int×Int)->List Term
 |[],c,m=>if c=0 then[]else[(c,m)]
 |t::r,c,m=>if 0<lS t.2 m then t::iG r c m else if lS t.2 m=0 then(if c+t.1=0 then r else(c+t.1,m)::r)else(if c=0 then t::r else(c,m)::t::r)
theorem sV:∀{p:List Term} (c:Int) {m:List (Int×Int)},fall p->aZ 0 m=true->
  fall (iG p c m)/\ (∀x,(∀s∈p,xg x s.2)->xg x m->∀s∈iG p c m,xg x s.2)/\∀ρ,ev (iG p c m) ρ=ev p ρ+c*Jj m ρ
 |[],c,m,_,hm=>by
  unfold iG;by_cases h:c=0
  ·rw[if_pos h];exact⟨trivial,(λ_ _ _ s hs=>by cases hs),λρ=>by simp[ev,h]⟩
  ·rw[if_neg h];refine⟨⟨h,hm,(λs hs=>by cases hs),trivial⟩,λx _ hx s hs=>?_,λρ=>by simp[ev]⟩;simp at hs;subst hs;exact hx
 |t::r,c,m,hp,hm=>by
  have ih:=sV (p:=r) c hp.2.2.2 hm;unfold iG;by_cases h1:0<lS t.2 m
  ·rw[if_pos h1];have hg:xg t.2 m:=Q5 hp.2.1 hm (by rcases xP hp.2.1 hm with e|e|e<;>omega);refine⟨⟨hp.1,hp.2.1,ih.2.1 _ hp.2.2.1 hg,ih.1⟩,λx hx hxm s hs=>?_,λρ=>by simp only[ev];rw[ih.2.2];omega⟩;rcases a0c.1 hs with rfl|hs
   ·exact hx _ (by simp)
   ·exact ih.2.1 x (λy hy=>hx y (by simp[hy])) hxm s hs
  ·rw[if_neg h1];by_cases h2:lS t.2 m=0
   ·rw[if_pos h2];have he:=cmp_eq hp.2.1 hm h2;by_cases h3:c+t.1=0
    ·rw[if_pos h3];refine⟨hp.2.2.2,λx hx _ s hs=>hx s (by simp[hs]),λρ=>?_⟩;simp only[ev];rw[he,show t.1= -c by omega]
     grind
    ·rw[if_neg h3];refine⟨⟨h3,hm,he▸hp.2.2.1,hp.2.2.2⟩,λx hx hxm s hs=>?_,λρ=>?_⟩
     ·rcases a0c.1 hs with rfl|hs
      ·exact hxm
      ·exact hx s (by simp[hs])
     ·simp only[ev];rw[he]
      grind
   ·rw[if_neg h2];have hl:xg m t.2:=Yl hp.2.1 hm (by rcases xP hp.2.1 hm with e|e|e<;>omega);by_cases h3:c=0
    ·rw[if_pos h3];exact⟨hp,λx hx _=>hx,λρ=>by rw[h3];omega⟩
    ·rw[if_neg h3];refine⟨⟨h3,hm,λs hs=>?_,hp⟩,λx hx hxm s hs=>?_,λρ=>by simp only[ev];omega⟩
     ·rcases a0c.1 hs with rfl|hs
      ·exact hl
      ·exact tH hl (hp.2.2.1 s hs)
     ·rcases a0c.1 hs with rfl|hs
      ·exact hxm
      ·exact hx s hs
def jJ (l:List Term):Prop:=∀t∈l,aZ 0 t.2=true
def jk (p:List Term):List Term->List Term
 |[]=>p
 |t::r=>jk (iG p t.1 t.2) r
theorem sU:∀{q p:List Term},fall p->jJ q->fall (jk p q)/\∀ρ,ev (jk p q) ρ=ev p ρ+ev q ρ
 |[],p,hp,_=>⟨hp,λρ=>by simp[jk,ev]⟩
 |t::r,p,hp,hq=>by
  have h1:=sV t.1 hp (hq t (by simp));have h2:=sU (q:=r) h1.1 (λs hs=>hq s (by simp[hs]));exact⟨h2.1,λρ=>by simp only[jk,ev];rw[h2.2,h1.2.2];omega⟩
theorem nY (p:List Term):∀q r:List Term,jk p (q++r)=jk (jk p q) r
 |[],_=>rfl
 |t::q,r=>by simp only[a0a,jk];exact nY _ q r
theorem bU {p:List Term} (h:fall p):jJ p:=iF h
def Co (l:List Term):List Term:=jk [] l
theorem oZ {l:List Term} (h:jJ l):fall (Co l)/\∀ρ,ev (Co l) ρ=ev l ρ:=by
 have:=sU (p:=[]) trivial h;exact⟨this.1,λρ=>by rw[Co,this.2];simp[ev]⟩
theorem F7 {p:List Term} (h:fall p):Co p=p:=GZ (oZ (bU h)).1 h (oZ (bU h)).2
theorem Qz {p:List Term} (h:jJ p):jJ (pq p):=λs hs=>by obtain⟨u,hu,rfl⟩:=GY hs;exact h u hu
def XG (p q:List Term):List Term:=jk p (pq q)
def Cr (t:Term) (q:List Term):List Term:=q.map λs=>(t.1*s.1,l6 t.2 s.2)
def rf (p q:List Term):Prop:=∀t∈p,∀s∈q,aZ 0 (l6 t.2 s.2)=true
def mulL:List Term->List Term->List Term
 |[],_=>[]
 |t::r,q=>Cr t q++mulL r q
theorem LK {t:Term} (ht:aZ 0 t.2=true) (ρ:Nat->Int):∀{q:List Term},jJ q->ev (Cr t q) ρ=t.1*Jj t.2 ρ*ev q ρ
 |[],_=>by simp[Cr,ev]
 |s::q,h=>by
  have ih:=LK ht ρ (q:=q) (λx hx=>h x (by simp[hx]));unfold Cr at ih ⊢;simp only[a0b,ev];rw[ih,LJ ht (h s (by simp))]
  grind
theorem LM (ρ:Nat->Int) {q:List Term} (hq:jJ q):∀{p:List Term},jJ p->ev (mulL p q) ρ=ev p ρ*ev q ρ
 |[],_=>by simp[mulL,ev]
 |t::r,h=>by
  simp only[mulL,ev];rw[xO,LK (h t (by simp)) ρ hq,LM ρ hq (p:=r) (λx hx=>h x (by simp[hx]))]
  grind
theorem xB {p q:List Term} (h:rf p q):jJ (mulL p q):=by
 induction p with
 |nil=>intro t ht;cases ht
 |cons a r ih=>
  intro t ht;rcases a0e.1 ht with ht|ht
  ·obtain⟨s,hs,rfl⟩:=a0d.1 ht;exact h a (by simp) s hs
  ·exact ih (λx hx=>h x (by simp[hx])) t ht
def iV (p q:List Term):List Term:=Co (mulL p q)
theorem G7 {p q:List Term} (hp:jJ p) (hq:jJ q) (h:rf p q):fall (iV p q)/\∀ρ,ev (iV p q) ρ=ev p ρ*ev q ρ:=by
 have:=oZ (xB h);exact⟨this.1,λρ=>by rw[iV,this.2,LM ρ hq hp]⟩
end
/- Coefficients; which products of three have no exponent too great; the plain side of the ring's laws. -/
section
open Go.RowKit
def cf:List Term->List (Int×Int)->Int
 |[],_=>0
 |t::r,m=>(if t.2=m then t.1 else 0)+cf r m
theorem ET:∀{p:List Term} {m:List (Int×Int)},(∀t∈p,t.2≠m)->cf p m=0
 |[],_,_=>rfl
 |t::r,m,h=>by
  unfold cf;rw[if_neg (h t (by simp)),ET (p:=r) (λs hs=>h s (by simp[hs]))];omega
theorem J3 {p:List Term} {m:List (Int×Int)} (h:cf p m≠0):∃t∈p,t.2=m:=by
 by_cases g:∃t∈p,t.2=m
 ·exact g
 ·exact absurd (ET λt ht e=>g ⟨t,ht,e⟩) h
theorem LP:∀{p:List Term} (c:Int) {m:List (Int×Int)} (u:List (Int×Int)),fall p->aZ 0 m=true->cf (iG p c m) u=cf p u+if m=u then c else 0
 |[],c,m,u,_,_=>by
  unfold iG;by_cases h:c=0
  ·rw[if_pos h,h];simp[cf]
  ·rw[if_neg h];simp[cf]
 |t::r,c,m,u,hp,hm=>by
  have ih:=LP (p:=r) c u hp.2.2.2 hm;unfold iG;by_cases h1:0<lS t.2 m
  ·rw[if_pos h1];simp only[cf];rw[ih];omega
  ·rw[if_neg h1];by_cases h2:lS t.2 m=0
   ·rw[if_pos h2];have he:=cmp_eq hp.2.1 hm h2;by_cases h3:c+t.1=0
    ·rw[if_pos h3];simp only[cf];rw[he];split<;>omega
    ·rw[if_neg h3];simp only[cf];rw[he];split<;>omega
   ·rw[if_neg h2];by_cases h3:c=0
    ·rw[if_pos h3,h3];simp
    ·rw[if_neg h3];simp only[cf];omega
theorem EU:∀{q p:List Term} (u:List (Int×Int)),fall p->jJ q->cf (jk p q) u=cf p u+cf q u
 |[],p,u,_,_=>by simp[jk,cf]
 |t::r,p,u,hp,hq=>by
  have h1:=sV t.1 hp (hq t (by simp));have h2:=EU (q:=r) u h1.1 (λs hs=>hq s (by simp[hs]));simp only[jk,cf];rw[h2,LP t.1 u hp (hq t (by simp))];omega
theorem Ym {l:List Term} (u:List (Int×Int)) (h:jJ l):cf (Co l) u=cf l u:=by
 unfold Co;rw[EU (p:=[]) u trivial h];simp[cf]
theorem EW:∀{p:List Term},fall p->∀t∈p,cf p t.2=t.1
 |t::r,h,s,hs=>by
  rcases a0c.1 hs with rfl|hs
  ·unfold cf;rw[if_pos rfl,ET (p:=r) (λu hu e=>uU (e▸h.2.2.1 u hu))];omega
  ·unfold cf;rw[if_neg (λe=>uU (e▸h.2.2.1 s hs)),EW h.2.2.2 s hs];omega
theorem G8 {x:Term} {q:List Term}:∀{p:List Term},x∈mulL p q->∃t∈p,∃s∈q,x=(t.1*s.1,l6 t.2 s.2)
 |t::r,h=>by
  rcases a0e.1 h with h|h
  ·obtain⟨s,hs,rfl⟩:=a0d.1 h;exact⟨t,by simp,s,hs,rfl⟩
  ·obtain⟨u,hu,s,hs,rfl⟩:=G8 h;exact⟨u,by simp[hu],s,hs,rfl⟩
theorem Aa {a b:List (Int×Int)} (ha:aZ 0 a=true) (hb:aZ 0 b=true):aZ 0 (l6 a b)=true↔ ∀v,aJ a v+aJ b v<=10000:=by
 unfold l6;rw[Av rfl ha hb];exact⟨λh v=>(h v).2,λh v=>⟨by have:=(fE ha v).1;have:=(fE hb v).1;omega,h v⟩⟩
theorem CV {p q:List Term} (hf:rf p q) {x:Term} (hx:x∈iV p q) (Xa:fall (iV p q)):∃t∈p,∃s∈q,x.2=l6 t.2 s.2:=by
 have h:=EW Xa x hx;have h0:=sS Xa x hx;unfold iV at h;rw[Ym _ (xB hf)]at h;obtain⟨y,hy,e⟩:=J3 (by rw[h];exact h0);obtain⟨t,ht,s,hs,rfl⟩:=G8 hy;exact⟨t,ht,s,hs,e.symm⟩
end
/- poly.joined in plain words: a list gone over backwards, the other one put into it. -/
section
end
end Go.Proofs.YtmenbpmciblnlaaGreatDoor
