import Derived.Test.YtmenbpmciblnlaaGreatDoorMPlain
set_option maxHeartbeats 0
set_option maxRecDepth 100000
open Classical renaming byContradiction->ah5
open Int renaming natAbs_mul->ah7,natAbs_pow->ah8,pow_add->ah6
open List renaming append_assoc->ai5,cons_append->ah9,map_cons->ai0,mem_append->ai3,mem_cons->ai1,mem_map->ai2,reverse_cons->ai4
open Nat renaming add_mul->ai9,mul_comm->ai6,mul_le_mul_right->ai7,pow_succ->ai8
namespace Go.Proofs.YtmenbpmciblnlaaGreatDoor
section
abbrev ai:=Int×List (Int×Int)
def jU (f:Nat->Nat) (ρ:Nat->Int):Nat->Int
 |0=>1
 |n+1=>jU f ρ n*ρ n^f n
def EN (ps:List (Int×Int)) (u:Nat):Nat:=(aI ps (u:Int)).toNat
def EO (ps:List (Int×Int)) (ρ:Nat->Int):Int:=jU (EN ps) ρ 201
def ev:List ai->(Nat->Int)->Int
 |[],_=>0
 |t::r,ρ=>t.1*EO t.2 ρ+ev r ρ
theorem tH {f g:Nat->Nat} (ρ:Nat->Int):∀n,(∀u,u<n->f u=g u)->jU f ρ n=jU g ρ n
 |0,_=>rfl
 |n+1,h=>by simp only[jU];rw[tH ρ n (λu hu=>h u (by omega)),h n (by omega)]
theorem AU (f g:Nat->Nat) (ρ:Nat->Int):∀n,jU (λu=>f u+g u) ρ n=jU f ρ n*jU g ρ n
 |0=>rfl
 |n+1=>by
  simp only[jU];rw[AU f g ρ n,ah6]
  grind
theorem mG (p q:List ai) (ρ:Nat->Int):ev (p++q) ρ=ev p ρ+ev q ρ:=by
 induction p with
 |nil=>simp[ev]
 |cons t r ih=>simp only[ah9,ev,ih];omega
def mq (p:List ai):List ai:=p.map λt=>(-t.1,t.2)
theorem Ut (p:List ai) (ρ:Nat->Int):ev (mq p) ρ= -ev p ρ:=by
 induction p with
 |nil=>simp[ev,mq]
 |cons t r ih=>
  simp only[mq,ai0,ev]at ih ⊢;rw[ih];grind
def MX (f:Nat->Nat):Nat->Nat
 |0=>0
 |n+1=>MX f n+f n*10001^n
def QP (ps:List (Int×Int)):Nat:=MX (EN ps) 201
def JI (B:Nat) (n:Nat):Int:=(B:Int)^(10001^n)
theorem MZ (f:Nat->Nat) (B:Nat):∀n,jU f (JI B) n=(B:Int)^MX f n
 |0=>by simp[jU,MX]
 |n+1=>by
  simp only[jU,MX];rw[MZ f B n,ah6]
  congr 1
  unfold JI;rw[<-Int.pow_mul,ai6]
theorem M0 (ps:List (Int×Int)) (B:Nat):EO ps (JI B)=(B:Int)^QP ps:=MZ _ _ _
theorem M4 (f:Nat->Nat) (hf:∀u,f u<=10000):∀n,MX f n<10001^n
 |0=>by simp[MX]
 |n+1=>by
  simp only[MX];have h1:=M4 f hf n;have h2:f n*10001^n<=10000*10001^n:=ai7 _ (hf n);rw[ai8];omega
theorem CV {f g:Nat->Nat} (hg:∀u,g u<=10000) {v:Nat} (hv:g v<f v):∀n,v<n->(∀u,v<u->u<n->f u=g u)->MX g n<MX f n
 |0,h,_=>by omega
 |n+1,h,he=>by
  simp only[MX];by_cases hn:v=n
  ·subst hn;have h1:=M4 g hg v;have h2:(g v+1)*10001^v<=f v*10001^v:=ai7 _ hv;rw[ai9]at h2;omega
  ·rw[he n (by omega) (by omega)];have:=CV hg hv n (by omega) (λu h1 h2=>he u h1 (by omega));omega
theorem Uu {ps:List (Int×Int)} (h:aQ 0 ps=true) (u:Nat):EN ps u<=10000:=by
 have:=eE h (u:Int);unfold EN;omega
def ni (a b:List (Int×Int)):Prop:=oC 1 (aI a) (aI b)
theorem Uv {a b:List (Int×Int)} (ha:aQ 0 a=true) (hb:aQ 0 b=true) (h:ni a b):QP b<QP a:=by
 rcases h with⟨h,_⟩|⟨_,h,_⟩|⟨v,_,h1,h2⟩
 ·omega
 ·omega
 ·have hv:1<=v/\ v<=200:=ah5 λhn=>by rw[lJ ha (by omega),lJ hb (by omega)]at h1;omega
  obtain⟨n,rfl⟩:∃n:Nat,v=(n:Int):=⟨v.toNat,by omega⟩;refine CV (v:=n) (Uu hb) ?_ 201 (by omega) λu h3 _=>?_
  ·have:=(eE hb n).1;unfold EN;omega
  ·unfold EN;rw[h2 u (by omega)]
def bY:List ai->Nat
 |[]=>0
 |t::r=>t.1.natAbs+bY r
theorem CW (B:Nat) (hB:1<=B) (w:Nat):∀(p:List ai),(∀t∈p,QP t.2<=w)->(ev p (JI B)).natAbs<=bY p*B^w
 |[],_=>by simp[ev,bY]
 |t::r,h=>by
  have ih:=CW B hB w r (λs hs=>h s (by simp[hs]));have h1:B^QP t.2<=B^w:=Nat.pow_le_pow_right hB (h t (by simp));simp only[ev,bY]
  have h2:(t.1*EO t.2 (JI B)).natAbs<=t.1.natAbs*B^w:=by
   rw[ah7,M0,ah8];exact Nat.mul_le_mul_left _ h1
  have h3:=Int.natAbs_add_le (t.1*EO t.2 (JI B)) (ev r (JI B));rw[ai9];omega
theorem Ib {t:ai} {r:List ai} (h0:t.1≠0) (ht:aQ 0 t.2=true) (hr:∀s∈r,aQ 0 s.2=true/\ ni t.2 s.2) (B:Nat) (hB:bY r<B):ev (t::r) (JI B)≠0:=by
 intro he;have hw:∀s∈r,QP s.2<QP t.2:=λs hs=>Uv ht (hr s hs).1 (hr s hs).2
 simp only[ev]at he
 have h1:(ev r (JI B)).natAbs=t.1.natAbs*B^QP t.2:=by
  have:ev r (JI B)= -(t.1*EO t.2 (JI B)):=by omega
  rw[this,Int.natAbs_neg,ah7,M0,ah8];rfl
 cases hwt:QP t.2 with
 |zero=>
  match r,hw with
  |[],_=>
   simp[ev]at h1;have:0<B:=by omega
   rw[hwt]at h1;simp at h1;omega
  |s::q,hw=>
   have:=hw s (by simp);omega
 |succ w=>
  have h2:=CW B (by omega) w r (λs hs=>by have:=hw s hs;omega);rw[h1,hwt,ai8]at h2;have h3:0<B^w:=Nat.pow_pos (by omega);have h4:1<=t.1.natAbs:=by omega
  have h5:B*B^w<=t.1.natAbs*(B^w*B):=by
   rw[ai6 B];exact Nat.le_mul_of_pos_left _ h4
  have h6:bY r*B^w<B*B^w:=Nat.mul_lt_mul_of_pos_right hB h3;omega
def bD:List ai->Prop
 |[]=>True
 |t::r=>t.1≠0/\ aQ 0 t.2=true/\ (∀s∈r,ni t.2 s.2)/\ bD r
theorem cC:∀{p:List ai},bD p->∀t∈p,aQ 0 t.2=true
 |t::r,h,s,hs=>by
  rcases ai1.1 hs with rfl|hs
  ·exact h.2.1
  ·exact cC h.2.2.2 s hs
theorem lG:∀{p:List ai},bD p->∀t∈p,t.1≠0
 |t::r,h,s,hs=>by
  rcases ai1.1 hs with rfl|hs
  ·exact h.1
  ·exact lG h.2.2.2 s hs
theorem kv {a b c:List (Int×Int)} (h:ni a b) (k:ni b c):ni a c:=by
 rcases h with⟨h,_⟩|⟨_,h,_⟩|⟨v,_,h1,h2⟩
 ·omega
 ·omega
 ·rcases k with⟨k,_⟩|⟨_,k,_⟩|⟨u,_,k1,k2⟩
  ·omega
  ·omega
  ·rcases Int.lt_trichotomy u v with e|e|e
   ·exact .inr (.inr ⟨v,rfl,by rw[<-k2 v e];exact h1,λt ht=>by rw[h2 t ht,k2 t (by omega)]⟩)
   ·subst e;exact .inr (.inr ⟨u,rfl,by omega,λt ht=>by rw[h2 t ht,k2 t ht]⟩)
   ·exact .inr (.inr ⟨u,rfl,by rw[h2 u e];exact k1,λt ht=>by rw[h2 t (by omega),k2 t ht]⟩)
theorem qT {a:List (Int×Int)} (h:ni a a):False:=by
 rcases h with⟨h,_⟩|⟨_,h,_⟩|⟨v,_,h1,_⟩<;>omega
theorem wB {a b:List (Int×Int)} (ha:aQ 0 a=true) (hb:aQ 0 b=true) (h:∀v,aI a v=aI b v):a=b:=vw (fw ha) (fw hb) h
theorem JJ {a b:List (Int×Int)} (ha:aQ 0 a=true) (hb:aQ 0 b=true):ni a b∨a=b∨ni b a:=by
 rcases nt ha hb with⟨_,h⟩|⟨v,_,h1,h2⟩|⟨v,_,h1,h2⟩
 ·exact .inr (.inl (wB ha hb h))
 ·exact .inr (.inr (.inr (.inr ⟨v,rfl,h1,λu hu=>(h2 u hu).symm⟩)))
 ·exact .inl (.inr (.inr ⟨v,rfl,h1,h2⟩))
theorem Ic {t:ai} {r:List ai} (h:bD (t::r)) (B:Nat) (hB:bY r<B):ev (t::r) (JI B)≠0:=
 Ib h.1 h.2.1 (λs hs=>⟨cC h.2.2.2 s hs,h.2.2.1 s hs⟩) B hB
theorem CX {p:List ai} {s:ai} (h:s∈mq p):∃t∈p,s=(-t.1,t.2):=by
 obtain⟨t,ht,rfl⟩:=ai2.1 h;exact⟨t,ht,rfl⟩
theorem sf:∀{p q:List ai},bD p->bD q->(∀ρ,ev p ρ=ev q ρ)->p=q
 |[],[],_,_,_=>rfl
 |[],s::q,_,hq,he=>by
  exfalso
  refine Ic hq (bY q+1) (by omega) ?_;rw[<-he];rfl
 |t::p,[],hp,_,he=>by
  exfalso
  refine Ic hp (bY p+1) (by omega) ?_;rw[he];rfl
 |t::p,s::q,hp,hq,he=>by
  have H:∀{x:ai} {a b:List ai},x.1≠0->aQ 0 x.2=true->(∀y∈a,aQ 0 y.2=true/\ ni x.2 y.2)->(∀y∈b,aQ 0 y.2=true/\ ni x.2 y.2)->(∀ρ,ev (x::a) ρ=ev b ρ)->False:=by
   intro x a b h0 hm ha hb hab;refine Ib (t:=x) (r:=a++mq b) h0 hm (λy hy=>?_) (bY (a++mq b)+1) (by omega) ?_
   ·rcases ai3.1 hy with hy|hy
    ·exact ha y hy
    ·obtain⟨z,hz,rfl⟩:=CX hy;exact hb z hz
   ·have h1:=hab (JI (bY (a++mq b)+1));simp only[ev,mG,Ut]at h1 ⊢;omega
  have hpm:∀y∈p,aQ 0 y.2=true/\ ni t.2 y.2:=λy hy=>⟨cC hp.2.2.2 y hy,hp.2.2.1 y hy⟩
  have hqm:∀y∈q,aQ 0 y.2=true/\ ni s.2 y.2:=λy hy=>⟨cC hq.2.2.2 y hy,hq.2.2.1 y hy⟩
  rcases JJ hp.2.1 hq.2.1 with g|g|g
  ·exact(H hp.1 hp.2.1 hpm (b:=s::q) (λy hy=>by
    rcases ai1.1 hy with rfl|hy
    ·exact⟨hq.2.1,g⟩
    ·exact⟨(hqm y hy).1,kv g (hqm y hy).2⟩) he).elim
  ·have hc:t.1=s.1:=ah5 λhne=>by
    refine H (x:=(t.1-s.1,t.2)) (a:=p) (b:=q) (by show t.1-s.1≠0;omega) hp.2.1 hpm (λy hy=>by rw[g];exact hqm y hy) λρ=>?_
    have:=he ρ;simp only[ev]at this ⊢;rw[<-g]at this
    grind
   have ht:t=s:=Prod.ext hc g;subst ht;rw[sf hp.2.2.2 hq.2.2.2 λρ=>by have:=he ρ;simp only[ev]at this;omega]
  ·exact(H hq.1 hq.2.1 hqm (b:=t::p) (λy hy=>by
    rcases ai1.1 hy with rfl|hy
    ·exact⟨hp.2.1,g⟩
    ·exact⟨(hpm y hy).1,kv g (hpm y hy).2⟩) (λρ=>(he ρ).symm)).elim
termination_by p q=>p.length+q.length
def fL (a b:List (Int×Int)):List (Int×Int):=jt (λx y=>x+y) a b
theorem fg {a b:List (Int×Int)} (ha:aQ 0 a=true) (hb:aQ 0 b=true) (v:Int):aI (fL a b) v=aI a v+aI b v:=mH (f:=λx y=>x+y) rfl ha hb v
theorem Ie {a b:List (Int×Int)} (ha:aQ 0 a=true) (hb:aQ 0 b=true) (ρ:Nat->Int):EO (fL a b) ρ=EO a ρ*EO b ρ:=by
 unfold EO;rw[<-AU];refine tH ρ 201 λu _=>?_
 have h1:=(eE ha u).1;have h2:=(eE hb u).1;unfold EN;rw[fg ha hb];omega
theorem QQ {a b c:List (Int×Int)} (ha:aQ 0 a=true) (hb:aQ 0 b=true) (hc:aQ 0 c=true) (h:ni a b):ni (fL a c) (fL b c):=by
 rcases h with⟨h,_⟩|⟨_,h,_⟩|⟨v,_,h1,h2⟩
 ·omega
 ·omega
 ·refine .inr (.inr ⟨v,rfl,by rw[fg ha hc,fg hb hc];omega,λu hu=>by rw[fg ha hc,fg hb hc,h2 u hu]⟩)
end
section
theorem FI {a b:List (Int×Int)} (ha:aQ 0 a=true) (hb:aQ 0 b=true) (h:iq a b=1):ni a b:=by have:=nt ha hb;rw[h]at this;exact this
theorem M5 {a b:List (Int×Int)} (ha:aQ 0 a=true) (hb:aQ 0 b=true) (h:iq a b= -1):ni b a:=by
 rcases nt ha hb with⟨h1,_⟩|⟨v,_,h1,h2⟩|⟨_,h1,_⟩
 ·omega
 ·exact .inr (.inr ⟨v,rfl,h1,λu hu=>(h2 u hu).symm⟩)
 ·omega
theorem Cg {a b:List (Int×Int)} (ha:aQ 0 a=true) (hb:aQ 0 b=true) (h:iq a b=0):a=b:=by
 rcases nt ha hb with⟨_,h1⟩|⟨_,h1,_⟩|⟨_,h1,_⟩
 ·exact wB ha hb h1
 ·omega
 ·omega
theorem pW {a b:List (Int×Int)} (ha:aQ 0 a=true) (hb:aQ 0 b=true):iq a b= -1∨iq a b=0∨iq a b=1:=by
 rcases nt ha hb with⟨h1,_⟩|⟨_,h1,_⟩|⟨_,h1,_⟩<;>simp[h1]
theorem Uw {a b:List (Int×Int)} (ha:aQ 0 a=true) (hb:aQ 0 b=true) (h:ni a b):iq a b=1:=(nt ha hb).Ch h
def eR:List ai->Int->List (Int×Int)->List ai
 |[],c,m=>if c=0 then[]else[(c,m)]
 |t::r,c,m=>if 0<iq t.2 m then t::eR r c m else if iq t.2 m=0 then(if c+t.1=0 then r else(c+t.1,m)::r)else(if c=0 then t::r else(c,m)::t::r)
theorem mr:∀{p:List ai} (c:Int) {m:List (Int×Int)},bD p->aQ 0 m=true->
  bD (eR p c m)/\ (∀x,(∀s∈p,ni x s.2)->ni x m->∀s∈eR p c m,ni x s.2)/\∀ρ,ev (eR p c m) ρ=ev p ρ+c*EO m ρ
 |[],c,m,_,hm=>by
  unfold eR;by_cases h:c=0
  ·rw[if_pos h];exact⟨trivial,(λ_ _ _ s hs=>by cases hs),λρ=>by simp[ev,h]⟩
  ·rw[if_neg h];refine⟨⟨h,hm,(λs hs=>by cases hs),trivial⟩,λx _ hx s hs=>?_,λρ=>by simp[ev]⟩;simp at hs;subst hs;exact hx
 |t::r,c,m,hp,hm=>by
  have ih:=mr (p:=r) c hp.2.2.2 hm;unfold eR;by_cases h1:0<iq t.2 m
  ·rw[if_pos h1];have hg:ni t.2 m:=FI hp.2.1 hm (by rcases pW hp.2.1 hm with e|e|e<;>omega);refine⟨⟨hp.1,hp.2.1,ih.2.1 _ hp.2.2.1 hg,ih.1⟩,λx hx hxm s hs=>?_,λρ=>by simp only[ev];rw[ih.2.2];omega⟩;rcases ai1.1 hs with rfl|hs
   ·exact hx _ (by simp)
   ·exact ih.2.1 x (λy hy=>hx y (by simp[hy])) hxm s hs
  ·rw[if_neg h1];by_cases h2:iq t.2 m=0
   ·rw[if_pos h2];have he:=Cg hp.2.1 hm h2;by_cases h3:c+t.1=0
    ·rw[if_pos h3];refine⟨hp.2.2.2,λx hx _ s hs=>hx s (by simp[hs]),λρ=>?_⟩;simp only[ev];rw[he,show t.1= -c by omega]
     grind
    ·rw[if_neg h3];refine⟨⟨h3,hm,he▸hp.2.2.1,hp.2.2.2⟩,λx hx hxm s hs=>?_,λρ=>?_⟩
     ·rcases ai1.1 hs with rfl|hs
      ·exact hxm
      ·exact hx s (by simp[hs])
     ·simp only[ev];rw[he]
      grind
   ·rw[if_neg h2];have hl:ni m t.2:=M5 hp.2.1 hm (by rcases pW hp.2.1 hm with e|e|e<;>omega);by_cases h3:c=0
    ·rw[if_pos h3];exact⟨hp,λx hx _=>hx,λρ=>by rw[h3];omega⟩
    ·rw[if_neg h3];refine⟨⟨h3,hm,λs hs=>?_,hp⟩,λx hx hxm s hs=>?_,λρ=>by simp only[ev];omega⟩
     ·rcases ai1.1 hs with rfl|hs
      ·exact hl
      ·exact kv hl (hp.2.2.1 s hs)
     ·rcases ai1.1 hs with rfl|hs
      ·exact hxm
      ·exact hx s hs
def gG (l:List ai):Prop:=∀t∈l,aQ 0 t.2=true
def eu (p:List ai):List ai->List ai
 |[]=>p
 |t::r=>eu (eR p t.1 t.2) r
theorem iG:∀{q p:List ai},bD p->gG q->bD (eu p q)/\∀ρ,ev (eu p q) ρ=ev p ρ+ev q ρ
 |[],p,hp,_=>⟨hp,λρ=>by simp[eu,ev]⟩
 |t::r,p,hp,hq=>by
  have h1:=mr t.1 hp (hq t (by simp));have h2:=iG (q:=r) h1.1 (λs hs=>hq s (by simp[hs]));exact⟨h2.1,λρ=>by simp only[eu,ev];rw[h2.2,h1.2.2];omega⟩
theorem oD (p:List ai):∀q r:List ai,eu p (q++r)=eu (eu p q) r
 |[],_=>rfl
 |t::q,r=>by simp only[ah9,eu];exact oD _ q r
theorem bG {p:List ai} (h:bD p):gG p:=cC h
def H7 (l:List ai):List ai:=eu [] l
theorem wb {l:List ai} (h:gG l):bD (H7 l)/\∀ρ,ev (H7 l) ρ=ev l ρ:=by
 have:=iG (p:=[]) trivial h;exact⟨this.1,λρ=>by rw[H7,this.2];simp[ev]⟩
theorem Mz {p:List ai} (h:gG p):gG (mq p):=λs hs=>by obtain⟨u,hu,rfl⟩:=CX hs;exact h u hu
def T9 (p q:List ai):List ai:=eu p (mq q)
def qM (t:ai) (q:List ai):List ai:=q.map λs=>(t.1*s.1,fL t.2 s.2)
def kC (p q:List ai):Prop:=∀t∈p,∀s∈q,aQ 0 (fL t.2 s.2)=true
def jX:List ai->List ai->List ai
 |[],_=>[]
 |t::r,q=>qM t q++jX r q
theorem Ig {t:ai} (ht:aQ 0 t.2=true) (ρ:Nat->Int):∀{q:List ai},gG q->ev (qM t q) ρ=t.1*EO t.2 ρ*ev q ρ
 |[],_=>by simp[qM,ev]
 |s::q,h=>by
  have ih:=Ig ht ρ (q:=q) (λx hx=>h x (by simp[hx]));unfold qM at ih ⊢;simp only[ai0,ev];rw[ih,Ie ht (h s (by simp))]
  grind
theorem Ih (ρ:Nat->Int) {q:List ai} (hq:gG q):∀{p:List ai},gG p->ev (jX p q) ρ=ev p ρ*ev q ρ
 |[],_=>by simp[jX,ev]
 |t::r,h=>by
  simp only[jX,ev];rw[mG,Ig (h t (by simp)) ρ hq,Ih ρ hq (p:=r) (λx hx=>h x (by simp[hx]))]
  grind
theorem pS {p q:List ai} (h:kC p q):gG (jX p q):=by
 induction p with
 |nil=>intro t ht;cases ht
 |cons a r ih=>
  intro t ht;rcases ai3.1 ht with ht|ht
  ·obtain⟨s,hs,rfl⟩:=ai2.1 ht;exact h a (by simp) s hs
  ·exact ih (λx hx=>h x (by simp[hx])) t ht
def df (p q:List ai):List ai:=H7 (jX p q)
theorem ux {p q:List ai} (hp:gG p) (hq:gG q) (h:kC p q):bD (df p q)/\∀ρ,ev (df p q) ρ=ev p ρ*ev q ρ:=by
 have:=wb (pS h);exact⟨this.1,λρ=>by rw[df,this.2,Ih ρ hq hp]⟩
theorem JK {a b:List (Int×Int)} (ha:aQ 0 a=true) (hb:aQ 0 b=true):fL a b=fL b a:=by
 refine vw (oN (f:=λx y=>x+y) rfl ha hb) (oN (f:=λx y=>x+y) rfl hb ha) λv=>?_
 show aI (fL a b) v=aI (fL b a) v;rw[fg ha hb,fg hb ha];omega
end
section
open Go.RowKit
def cf:List ai->List (Int×Int)->Int
 |[],_=>0
 |t::r,m=>(if t.2=m then t.1 else 0)+cf r m
theorem AV:∀{p:List ai} {m:List (Int×Int)},(∀t∈p,t.2≠m)->cf p m=0
 |[],_,_=>rfl
 |t::r,m,h=>by
  unfold cf;rw[if_neg (h t (by simp)),AV (p:=r) (λs hs=>h s (by simp[hs]))];omega
theorem FJ {p:List ai} {m:List (Int×Int)} (h:cf p m≠0):∃t∈p,t.2=m:=by
 by_cases g:∃t∈p,t.2=m
 ·exact g
 ·exact absurd (AV λt ht e=>g ⟨t,ht,e⟩) h
theorem Ii:∀{p:List ai} (c:Int) {m:List (Int×Int)} (u:List (Int×Int)),bD p->aQ 0 m=true->cf (eR p c m) u=cf p u+if m=u then c else 0
 |[],c,m,u,_,_=>by
  unfold eR;by_cases h:c=0
  ·rw[if_pos h,h];simp[cf]
  ·rw[if_neg h];simp[cf]
 |t::r,c,m,u,hp,hm=>by
  have ih:=Ii (p:=r) c u hp.2.2.2 hm;unfold eR;by_cases h1:0<iq t.2 m
  ·rw[if_pos h1];simp only[cf];rw[ih];omega
  ·rw[if_neg h1];by_cases h2:iq t.2 m=0
   ·rw[if_pos h2];have he:=Cg hp.2.1 hm h2;by_cases h3:c+t.1=0
    ·rw[if_pos h3];simp only[cf];rw[he];split<;>omega
    ·rw[if_neg h3];simp only[cf];rw[he];split<;>omega
   ·rw[if_neg h2];by_cases h3:c=0
    ·rw[if_pos h3,h3];simp
    ·rw[if_neg h3];simp only[cf];omega
theorem AW:∀{q p:List ai} (u:List (Int×Int)),bD p->gG q->cf (eu p q) u=cf p u+cf q u
 |[],p,u,_,_=>by simp[eu,cf]
 |t::r,p,u,hp,hq=>by
  have h1:=mr t.1 hp (hq t (by simp));have h2:=AW (q:=r) u h1.1 (λs hs=>hq s (by simp[hs]));simp only[eu,cf];rw[h2,Ii t.1 u hp (hq t (by simp))];omega
theorem Ux {l:List ai} (u:List (Int×Int)) (h:gG l):cf (H7 l) u=cf l u:=by
 unfold H7;rw[AW (p:=[]) u trivial h];simp[cf]
theorem AX:∀{p:List ai},bD p->∀t∈p,cf p t.2=t.1
 |t::r,h,s,hs=>by
  rcases ai1.1 hs with rfl|hs
  ·unfold cf;rw[if_pos rfl,AV (p:=r) (λu hu e=>qT (e▸h.2.2.1 u hu))];omega
  ·unfold cf;rw[if_neg (λe=>qT (e▸h.2.2.1 s hs)),AX h.2.2.2 s hs];omega
theorem CY {x:ai} {q:List ai}:∀{p:List ai},x∈jX p q->∃t∈p,∃s∈q,x=(t.1*s.1,fL t.2 s.2)
 |t::r,h=>by
  rcases ai3.1 h with h|h
  ·obtain⟨s,hs,rfl⟩:=ai2.1 h;exact⟨t,by simp,s,hs,rfl⟩
  ·obtain⟨u,hu,s,hs,rfl⟩:=CY h;exact⟨u,by simp[hu],s,hs,rfl⟩
theorem oO {a b:List (Int×Int)} (ha:aQ 0 a=true) (hb:aQ 0 b=true):aQ 0 (fL a b)=true↔ ∀v,aI a v+aI b v<=10000:=by
 unfold fL;rw[wC rfl ha hb];exact⟨λh v=>(h v).2,λh v=>⟨by have:=(eE ha v).1;have:=(eE hb v).1;omega,h v⟩⟩
theorem yO {p q:List ai} (hf:kC p q) {x:ai} (hx:x∈df p q) (Tj:bD (df p q)):∃t∈p,∃s∈q,x.2=fL t.2 s.2:=by
 have h:=AX Tj x hx;have h0:=lG Tj x hx;unfold df at h;rw[Ux _ (pS hf)]at h;obtain⟨y,hy,e⟩:=FJ (by rw[h];exact h0);obtain⟨t,ht,s,hs,rfl⟩:=CY hy;exact⟨t,ht,s,hs,e.symm⟩
end
section
def dB (m:List (Int×Int)):List ai->List ai->List ai×List ai×Bool
 |[],S=>([],S,false)
 |u::r,S=>if iq u.2 m<0 then dB m r (u::S)else(u::r,S,iq u.2 m==0)
def gv (f:Int->Int->Int) (st:List ai×List ai) (t:ai):List ai×List ai:=
 let s:=dB t.2 st.1 st.2
 let c:=if s.2.2 then f (s.1.headD (0,[])).1 t.1 else f 0 t.1
 (if s.2.2 then s.1.tail else s.1,if c=0 then s.2.1 else(c,t.2)::s.2.1)
def nZ (f:Int->Int->Int) (p ts:List ai):List ai×List ai:=ts.foldl (gv f) (p.reverse,[])
def Up:List ai->Prop
 |[]=>True
 |u::r=>u.1≠0/\ aQ 0 u.2=true/\ (∀s∈r,ni s.2 u.2)/\ Up r
def Ab (a b:List ai):Prop:=∀u∈a,∀s∈b,ni u.2 s.2
theorem FK:∀{p b:List ai},bD p->Up b->Ab b p->Up (p.reverse++b)
 |[],b,_,hb,_=>hb
 |t::r,b,hp,hb,h=>by
  rw[ai4,ai5];refine FK (p:=r) (b:=[t]++b) hp.2.2.2 ⟨hp.1,hp.2.1,λs hs=>h s hs t (by simp),hb⟩ λu hu s hs=>?_
  rcases ai1.1 hu with rfl|hu
  ·exact hp.2.2.1 s hs
  ·exact h u hu s (by simp[hs])
theorem Ij:∀{r S:List ai},Up r->bD S->Ab r S->bD (r.reverse++S)
 |[],S,_,hS,_=>hS
 |u::r,S,hr,hS,h=>by
  rw[ai4,ai5];refine Ij (r:=r) (S:=[u]++S) hr.2.2.2 ⟨hr.1,hr.2.1,λs hs=>h u (by simp) s hs,hS⟩ λv hv s hs=>?_
  rcases ai1.1 hs with rfl|hs
  ·exact hr.2.2.1 v hv
  ·exact h v (by simp[hv]) s hs
theorem nG (ρ:Nat->Int):∀l:List ai,ev l.reverse ρ=ev l ρ
 |[]=>rfl
 |t::r=>by rw[ai4,mG,nG ρ r];simp only[ev];omega
theorem wD {m:List (Int×Int)} (hm:aQ 0 m=true):∀{r S:List ai},Up r->bD S->Ab r S->(∀s∈S,ni m s.2)->
  Up (dB m r S).1/\ bD (dB m r S).2.1/\ Ab (dB m r S).1 (dB m r S).2.1/\ (∀s∈(dB m r S).2.1,ni m s.2)/\ (∀ρ,ev (dB m r S).1 ρ+ev (dB m r S).2.1 ρ=ev r ρ+ev S ρ)/\
  ((dB m r S).2.2=true->∃u r',(dB m r S).1=u::r'/\ u.2=m)/\ ((dB m r S).2.2=false->∀u∈(dB m r S).1,ni u.2 m)
 |[],S,_,hS,h,hmS=>by
  unfold dB;exact⟨trivial,hS,h,hmS,λρ=>rfl,(λe=>by cases e),λ_ u hu=>by cases hu⟩
 |u::r,S,hr,hS,h,hmS=>by
  unfold dB;have hc:=pW hr.2.1 hm;by_cases hl:iq u.2 m<0
  ·rw[if_pos hl];have hmu:ni m u.2:=M5 hr.2.1 hm (by omega)
   have ih:=wD hm (r:=r) (S:=u::S) hr.2.2.2 ⟨hr.1,hr.2.1,λs hs=>h u (by simp) s hs,hS⟩ (λv hv s hs=>by
    rcases ai1.1 hs with rfl|hs
    ·exact hr.2.2.1 v hv
    ·exact h v (by simp[hv]) s hs) (λs hs=>by
    rcases ai1.1 hs with rfl|hs
    ·exact hmu
    ·exact hmS s hs)
   refine⟨ih.1,ih.2.1,ih.2.2.1,ih.2.2.2.1,λρ=>?_,ih.2.2.2.2.2⟩;have:=ih.2.2.2.2.1 ρ;simp only[ev]at this ⊢;omega
  ·rw[if_neg hl];refine⟨hr,hS,h,hmS,λρ=>rfl,λe=>⟨u,r,rfl,Cg hr.2.1 hm (by simpa using e)⟩,λe v hv=>?_⟩;have hne:iq u.2 m≠0:=by simpa using e
   have hg:ni u.2 m:=FI hr.2.1 hm (by omega);rcases ai1.1 hv with rfl|hv
   ·exact hg
   ·exact kv (hr.2.2.1 v hv) hg
structure YB (r S ts:List ai):Prop where
 up:Up r
 fl:bD S
 ab:Ab r S
 nx:Ab ts S
theorem FL {f:Int->Int->Int} {σ:Int} (hf:∀x y,f x y=x+σ*y) {r S ts:List ai} {t:ai} (h:YB r S (t::ts)) (ht:aQ 0 t.2=true) (hts:∀s∈ts,ni s.2 t.2):
  YB (gv f (r,S) t).1 (gv f (r,S) t).2 ts/\∀ρ,ev (gv f (r,S) t).1 ρ+ev (gv f (r,S) t).2 ρ=ev r ρ+ev S ρ+σ*t.1*EO t.2 ρ:=by
 obtain⟨h1,h2,h3,h4,h5,h6,h7⟩:=wD ht h.up h.fl h.ab (λs hs=>h.nx t (by simp) s hs);unfold gv;simp only;generalize dB t.2 r S=x at h1 h2 h3 h4 h5 h6 h7 ⊢;obtain⟨r',S',b⟩:=x;simp only at h1 h2 h3 h4 h5 h6 h7 ⊢;have hnx:∀s∈S',∀v∈ts,ni v.2 s.2:=λs hs v hv=>kv (hts v hv) (h4 s hs)
 have key:∀(R:List ai) (c:Int),Up R->Ab R S'->(∀u∈R,ni u.2 t.2)->YB R (if c=0 then S' else(c,t.2)::S') ts/\∀ρ,ev (if c=0 then S' else(c,t.2)::S') ρ=c*EO t.2 ρ+ev S' ρ:=by
  intro R c hR hab hgt;by_cases hc:c=0
  ·rw[if_pos hc];exact⟨⟨hR,h2,hab,λv hv s hs=>hnx s hs v hv⟩,λρ=>by rw[hc];simp⟩
  ·rw[if_neg hc];refine⟨⟨hR,⟨hc,ht,h4,h2⟩,λu hu s hs=>?_,λv hv s hs=>?_⟩,λρ=>rfl⟩
   ·rcases ai1.1 hs with rfl|hs
    ·exact hgt u hu
    ·exact hab u hu s hs
   ·rcases ai1.1 hs with rfl|hs
    ·exact hts v hv
    ·exact hnx s hs v hv
 cases b with
 |true=>
  obtain⟨u,q,rfl,YC⟩:=h6 rfl;simp only[if_true,List.tail_cons,List.headD_cons];have k:=key q (f u.1 t.1) h1.2.2.2 (λv hv s hs=>h3 v (by simp[hv]) s hs) (λv hv=>by rw[<-YC];exact h1.2.2.1 v hv);refine⟨k.1,λρ=>?_⟩;have e:=h5 ρ;rw[k.2 ρ,hf];simp only[ev]at e;rw[YC]at e
  grind
 |false=>
  simp only[Bool.false_eq_true,if_false];have k:=key r' (f 0 t.1) h1 h3 (h7 rfl);refine⟨k.1,λρ=>?_⟩;have e:=h5 ρ;rw[k.2 ρ,hf]
  grind
theorem wE {f:Int->Int->Int} {σ:Int} (hf:∀x y,f x y=x+σ*y):∀{ts r S:List ai},Up ts->YB r S ts->
  YB (ts.foldl (gv f) (r,S)).1 (ts.foldl (gv f) (r,S)).2 []/\∀ρ,ev (ts.foldl (gv f) (r,S)).1 ρ+ev (ts.foldl (gv f) (r,S)).2 ρ=ev r ρ+ev S ρ+σ*ev ts ρ
 |[],r,S,_,h=>⟨h,λρ=>by simp[ev]⟩
 |t::ts,r,S,hts,h=>by
  have h1:=FL hf h hts.2.1 hts.2.2.1;have h2:=wE hf (ts:=ts) hts.2.2.2 h1.1;refine⟨h2.1,λρ=>?_⟩;have e1:=h1.2 ρ;have e2:=h2.2 ρ;simp only[List.foldl_cons,ev];rw[e2,e1]
  grind
theorem Ik {f:Int->Int->Int} {σ:Int} (hf:∀x y,f x y=x+σ*y) {p q r:List ai} (hp:bD p) (hq:bD q) (hr:bD r) (hv:∀ρ,ev r ρ=ev p ρ+σ*ev q ρ):
  (nZ f p q.reverse).1.reverse++(nZ f p q.reverse).2=r:=by
 have h1:=FK (b:=[]) hp trivial (λu hu=>by cases hu);have h2:=FK (b:=[]) hq trivial (λu hu=>by cases hu);rw[List.append_nil]at h1 h2;have h:=wE hf h2 (r:=p.reverse) (S:=[]) ⟨h1,trivial,(λ_ _ s hs=>by cases hs),λ_ _ s hs=>by cases hs⟩;refine sf (Ij h.1.up h.1.fl h.1.ab) hr λρ=>?_
 have e:=h.2 ρ;rw[mG,nG,hv];unfold nZ;rw[e,nG,nG];simp[ev]
theorem M6 {α:Type} (d:α) (q:List α) {j:Nat} (hj:j<q.length):q.reverse.take (j+1)=q.reverse.take j++[q.getD (q.length-1-j) d]:=by
 rw[List.take_succ_eq_append_getElem (by rw[List.length_reverse];exact hj)]
 congr 1
 rw[List.getElem_reverse];simp[List.getD,List.getElem?_eq_getElem (show q.length-1-j<q.length by omega)]
theorem FM (f:Int->Int->Int) (p q:List ai) {j:Nat} (hj:j<q.length):nZ f p (q.reverse.take (j+1))=gv f (nZ f p (q.reverse.take j)) (q.getD (q.length-1-j) (0,[])):=by
 unfold nZ;rw[M6 (0,[]) q hj,List.foldl_append];rfl
end
end Go.Proofs.YtmenbpmciblnlaaGreatDoor
