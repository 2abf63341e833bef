/- PPlain, POps, PDeg, PlJoinP -/
import Derived.Test.YthdhjckangekoaaGreatMPlain
set_option maxHeartbeats 40000000
set_option maxRecDepth 100000
namespace Go.Proofs.YthdhjckangekoaaGreat
abbrev Term:=Int×List (Int×Int)
def Ji (f:Nat->Nat) (ρ:Nat->Int):Nat->Int
 |0=>1
 |n+1=>Ji f ρ n*ρ n^f n
def Vf (ps:List (Int×Int)) (u:Nat):Nat:=(av ps (u:Int)).toNat
def wm (ps:List (Int×Int)) (ρ:Nat->Int):Int:=Ji (Vf ps) ρ 201
def ev:List Term->(Nat->Int)->Int
 |[],_=>0
 |t::r,ρ=>t.1*wm t.2 ρ+ev r ρ
theorem uX {f g:Nat->Nat} (ρ:Nat->Int):∀n,(∀u,u<n->f u=g u)->Ji f ρ n=Ji g ρ n
 |0,_=>rfl
 |n+1,h=>by simp only[Ji];rw[uX ρ n (fun u hu=>h u (by omega)),h n (by omega)]
theorem Jj (f g:Nat->Nat) (ρ:Nat->Int):∀n,Ji (fun u=>f u+g u) ρ n=Ji f ρ n*Ji g ρ n
 |0=>rfl
 |n+1=>by
  simp only[Ji];rw[Jj f g ρ n,Int.pow_add]
  grind
theorem D5 (ρ:Nat->Int):∀n,Ji (fun _=>0) ρ n=1
 |0=>rfl
 |n+1=>by simp only[Ji];rw[D5 ρ n,Int.pow_zero];rfl
theorem Ro (ρ:Nat->Int):wm [] ρ=1:=
 (uX (f:=Vf []) (g:=fun _=>0) ρ 201 (fun _ _=>rfl)).trans (D5 ρ 201)
theorem iE (p q:List Term) (ρ:Nat->Int):ev (p++q) ρ=ev p ρ+ev q ρ:=by
 induction p with
 |nil=>simp[ev]
 |cons t r ih=>simp only[List.cons_append,ev,ih];omega
def kP (p:List Term):List Term:=p.map fun t=>(-t.1,t.2)
theorem Oq (p:List Term) (ρ:Nat->Int):ev (kP p) ρ= -ev p ρ:=by
 induction p with
 |nil=>simp[ev,kP]
 |cons t r ih=>
  simp only[kP,List.map_cons,ev]at ih ⊢;rw[ih];grind
def Ot (f:Nat->Nat):Nat->Nat
 |0=>0
 |n+1=>Ot f n+f n*10001^n
def Rp (ps:List (Int×Int)):Nat:=Ot (Vf ps) 201
def KJ (B:Nat) (n:Nat):Int:=(B:Int)^(10001^n)
theorem Ou (f:Nat->Nat) (B:Nat):∀n,Ji f (KJ B) n=(B:Int)^Ot f n
 |0=>by simp[Ji,Ot]
 |n+1=>by
  simp only[Ji,Ot];rw[Ou f B n,Int.pow_add]
  congr 1
  unfold KJ;rw[<-Int.pow_mul,Nat.mul_comm]
theorem Ov (ps:List (Int×Int)) (B:Nat):wm ps (KJ B)=(B:Int)^Rp ps:=Ou _ _ _
theorem Ow (f:Nat->Nat) (hf:∀u,f u<=10000):∀n,Ot f n<10001^n
 |0=>by simp[Ot]
 |n+1=>by
  simp only[Ot];have h1:=Ow f hf n;have h2:f n*10001^n<=10000*10001^n:=Nat.mul_le_mul_right _ (hf n);rw[Nat.pow_succ];omega
theorem D6 {f g:Nat->Nat} (hg:∀u,g u<=10000) {v:Nat} (hv:g v<f v):∀n,v<n->(∀u,v<u->u<n->f u=g u)->Ot g n<Ot f n
 |0,h,_=>by omega
 |n+1,h,he=>by
  simp only[Ot];by_cases hn:v=n
  ·subst hn;have h1:=Ow g hg v;have h2:(g v+1)*10001^v<=f v*10001^v:=Nat.mul_le_mul_right _ hv;rw[Nat.add_mul]at h2;omega
  ·rw[he n (by omega) (by omega)];have:=D6 hg hv n (by omega) (fun u h1 h2=>he u h1 (by omega));omega
theorem Wi {ps:List (Int×Int)} (h:aJ 0 ps=true) (u:Nat):Vf ps u<=10000:=by
 have:=eD h (u:Int);unfold Vf;omega
def kY (a b:List (Int×Int)):Prop:=pQ 1 (av a) (av b)
theorem Wj {a b:List (Int×Int)} (ha:aJ 0 a=true) (hb:aJ 0 b=true) (h:kY a b):Rp b<Rp a:=by
 rcases h with⟨h,_⟩|⟨_,h,_⟩|⟨v,_,h1,h2⟩
 ·omega
 ·omega
 ·have hv:1<=v/\ v<=200:=Classical.byContradiction fun hn=>by rw[jA ha (by omega),jA hb (by omega)]at h1;omega
  obtain⟨n,rfl⟩:∃n:Nat,v=(n:Int):=⟨v.toNat,by omega⟩;refine D6 (v:=n) (Wi hb) ?_ 201 (by omega) fun u h3 _=>?_
  ·have:=(eD hb n).1;unfold Vf;omega
  ·unfold Vf;rw[h2 u (by omega)]
def aD:List Term->Nat
 |[]=>0
 |t::r=>t.1.natAbs+aD r
theorem D7 (B:Nat) (hB:1<=B) (w:Nat):∀(p:List Term),(∀t∈p,Rp t.2<=w)->(ev p (KJ B)).natAbs<=aD p*B^w
 |[],_=>by simp[ev,aD]
 |t::r,h=>by
  have ih:=D7 B hB w r (fun s hs=>h s (by simp[hs]));have h1:B^Rp t.2<=B^w:=Nat.pow_le_pow_right hB (h t (by simp));simp only[ev,aD]
  have h2:(t.1*wm t.2 (KJ B)).natAbs<=t.1.natAbs*B^w:=by
   rw[Int.natAbs_mul,Ov,Int.natAbs_pow];exact Nat.mul_le_mul_left _ h1
  have h3:=Int.natAbs_add_le (t.1*wm t.2 (KJ B)) (ev r (KJ B));rw[Nat.add_mul];omega
theorem Jk {t:Term} {r:List Term} (h0:t.1≠0) (ht:aJ 0 t.2=true) (hr:∀s∈r,aJ 0 s.2=true/\ kY t.2 s.2) (B:Nat) (hB:aD r<B):ev (t::r) (KJ B)≠0:=by
 intro he;have hw:∀s∈r,Rp s.2<Rp t.2:=fun s hs=>Wj ht (hr s hs).1 (hr s hs).2
 simp only[ev]at he
 have h1:(ev r (KJ B)).natAbs=t.1.natAbs*B^Rp t.2:=by
  have:ev r (KJ B)= -(t.1*wm t.2 (KJ B)):=by omega
  rw[this,Int.natAbs_neg,Int.natAbs_mul,Ov,Int.natAbs_pow];rfl
 cases hwt:Rp t.2 with
 |zero=>
  match r,hw with
  |[],_=>
   simp[ev]at h1;have:0<B:=by omega
   rw[hwt]at h1;simp at h1;omega
  |s::q,hw=>
   have:=hw s (by simp);omega
 |succ w=>
  have h2:=D7 B (by omega) w r (fun s hs=>by have:=hw s hs;omega);rw[h1,hwt,Nat.pow_succ]at h2;have h3:0<B^w:=Nat.pow_pos (by omega);have h4:1<=t.1.natAbs:=by omega
  have h5:B*B^w<=t.1.natAbs*(B^w*B):=by
   rw[Nat.mul_comm B];exact Nat.le_mul_of_pos_left _ h4
  have h6:aD r*B^w<B*B^w:=Nat.mul_lt_mul_of_pos_right hB h3;omega
def fall:List Term->Prop
 |[]=>True
 |t::r=>t.1≠0/\ aJ 0 t.2=true/\ (∀s∈r,kY t.2 s.2)/\ fall r
theorem bM:∀{p:List Term},fall p->∀t∈p,aJ 0 t.2=true
 |t::r,h,s,hs=>by
  rcases List.mem_cons.1 hs with rfl|hs
  ·exact h.2.1
  ·exact bM h.2.2.2 s hs
theorem mG:∀{p:List Term},fall p->∀t∈p,t.1≠0
 |t::r,h,s,hs=>by
  rcases List.mem_cons.1 hs with rfl|hs
  ·exact h.1
  ·exact mG h.2.2.2 s hs
theorem fV {a b c:List (Int×Int)} (h:kY a b) (k:kY b c):kY a c:=by
 rcases h with⟨h,_⟩|⟨_,h,_⟩|⟨v,_,h1,h2⟩
 ·omega
 ·omega
 ·rcases k with⟨k,_⟩|⟨_,k,_⟩|⟨u,_,k1,k2⟩
  ·omega
  ·omega
  ·rcases Int.lt_trichotomy u v with e|e|e
   ·exact .inr (.inr ⟨v,rfl,by rw[<-k2 v e];exact h1,fun t ht=>by rw[h2 t ht,k2 t (by omega)]⟩)
   ·subst e;exact .inr (.inr ⟨u,rfl,by omega,fun t ht=>by rw[h2 t ht,k2 t ht]⟩)
   ·exact .inr (.inr ⟨u,rfl,by rw[h2 u e];exact k1,fun t ht=>by rw[h2 t (by omega),k2 t ht]⟩)
theorem iX {a:List (Int×Int)} (h:kY a a):False:=by
 rcases h with⟨h,_⟩|⟨_,h,_⟩|⟨v,_,h1,_⟩<;>omega
theorem qw {a b:List (Int×Int)} (ha:aJ 0 a=true) (hb:aJ 0 b=true) (h:∀v,av a v=av b v):a=b:=wV (gY ha) (gY hb) h
theorem uY {a b:List (Int×Int)} (ha:aJ 0 a=true) (hb:aJ 0 b=true):kY a b∨a=b∨kY b a:=by
 rcases kN ha hb with⟨_,h⟩|⟨v,_,h1,h2⟩|⟨v,_,h1,h2⟩
 ·exact .inr (.inl (qw ha hb h))
 ·exact .inr (.inr (.inr (.inr ⟨v,rfl,h1,fun u hu=>(h2 u hu).symm⟩)))
 ·exact .inl (.inr (.inr ⟨v,rfl,h1,h2⟩))
theorem Jl {t:Term} {r:List Term} (h:fall (t::r)) (B:Nat) (hB:aD r<B):ev (t::r) (KJ B)≠0:=
 Jk h.1 h.2.1 (fun s hs=>⟨bM h.2.2.2 s hs,h.2.2.1 s hs⟩) B hB
theorem xX {p:List Term} {s:Term} (h:s∈kP p):∃t∈p,s=(-t.1,t.2):=by
 obtain⟨t,ht,rfl⟩:=List.mem_map.1 h;exact⟨t,ht,rfl⟩
theorem iN:∀{p q:List Term},fall p->fall q->(∀ρ,ev p ρ=ev q ρ)->p=q
 |[],[],_,_,_=>rfl
 |[],s::q,_,hq,he=>by
  exfalso
  refine Jl hq (aD q+1) (by omega) ?_;rw[<-he];rfl
 |t::p,[],hp,_,he=>by
  exfalso
  refine Jl hp (aD p+1) (by omega) ?_;rw[he];rfl
 |t::p,s::q,hp,hq,he=>by
  have H:∀{x:Term} {a b:List Term},x.1≠0->aJ 0 x.2=true->(∀y∈a,aJ 0 y.2=true/\ kY x.2 y.2)->(∀y∈b,aJ 0 y.2=true/\ kY x.2 y.2)->(∀ρ,ev (x::a) ρ=ev b ρ)->False:=by
   intro x a b h0 hm ha hb hab;refine Jk (t:=x) (r:=a++kP b) h0 hm (fun y hy=>?_) (aD (a++kP b)+1) (by omega) ?_
   ·rcases List.mem_append.1 hy with hy|hy
    ·exact ha y hy
    ·obtain⟨z,hz,rfl⟩:=xX hy;exact hb z hz
   ·have h1:=hab (KJ (aD (a++kP b)+1));simp only[ev,iE,Oq]at h1 ⊢;omega
  have hpm:∀y∈p,aJ 0 y.2=true/\ kY t.2 y.2:=fun y hy=>⟨bM hp.2.2.2 y hy,hp.2.2.1 y hy⟩
  have hqm:∀y∈q,aJ 0 y.2=true/\ kY s.2 y.2:=fun y hy=>⟨bM hq.2.2.2 y hy,hq.2.2.1 y hy⟩
  rcases uY hp.2.1 hq.2.1 with g|g|g
  ·exact(H hp.1 hp.2.1 hpm (b:=s::q) (fun y hy=>by
    rcases List.mem_cons.1 hy with rfl|hy
    ·exact⟨hq.2.1,g⟩
    ·exact⟨(hqm y hy).1,fV g (hqm y hy).2⟩) he).elim
  ·have hc:t.1=s.1:=Classical.byContradiction fun hne=>by
    refine H (x:=(t.1-s.1,t.2)) (a:=p) (b:=q) (by show t.1-s.1≠0;omega) hp.2.1 hpm (fun y hy=>by rw[g];exact hqm y hy) fun ρ=>?_
    have:=he ρ;simp only[ev]at this ⊢;rw[<-g]at this
    grind
   have ht:t=s:=Prod.ext hc g;subst ht;rw[iN hp.2.2.2 hq.2.2.2 fun ρ=>by have:=he ρ;simp only[ev]at this;omega]
  ·exact(H hq.1 hq.2.1 hqm (b:=t::p) (fun y hy=>by
    rcases List.mem_cons.1 hy with rfl|hy
    ·exact⟨hp.2.1,g⟩
    ·exact⟨(hpm y hy).1,fV g (hpm y hy).2⟩) (fun ρ=>(he ρ).symm)).elim
termination_by p q=>p.length+q.length
def gH (a b:List (Int×Int)):List (Int×Int):=joinL (fun x y=>x+y) a b
theorem dM {a b:List (Int×Int)} (ha:aJ 0 a=true) (hb:aJ 0 b=true) (v:Int):av (gH a b) v=av a v+av b v:=nG (f:=fun x y=>x+y) rfl ha hb v
theorem wW {a b:List (Int×Int)} (ha:aJ 0 a=true) (hb:aJ 0 b=true) (ρ:Nat->Int):wm (gH a b) ρ=wm a ρ*wm b ρ:=by
 unfold wm;rw[<-Jj];refine uX ρ 201 fun u _=>?_
 have h1:=(eD ha u).1;have h2:=(eD hb u).1;unfold Vf;rw[dM ha hb];omega
theorem Rq {a b c:List (Int×Int)} (ha:aJ 0 a=true) (hb:aJ 0 b=true) (hc:aJ 0 c=true) (h:kY a b):kY (gH a c) (gH b c):=by
 rcases h with⟨h,_⟩|⟨_,h,_⟩|⟨v,_,h1,h2⟩
 ·omega
 ·omega
 ·refine .inr (.inr ⟨v,rfl,by rw[dM ha hc,dM hb hc];omega,fun u hu=>by rw[dM ha hc,dM hb hc,h2 u hu]⟩)
theorem BV {a b:List (Int×Int)} (ha:aJ 0 a=true) (hb:aJ 0 b=true) (h:gN a b=1):kY a b:=by have:=kN ha hb;rw[h]at this;exact this
theorem GI {a b:List (Int×Int)} (ha:aJ 0 a=true) (hb:aJ 0 b=true) (h:gN a b= -1):kY b a:=by
 rcases kN ha hb with⟨h1,_⟩|⟨v,_,h1,h2⟩|⟨_,h1,_⟩
 ·omega
 ·exact .inr (.inr ⟨v,rfl,h1,fun u hu=>(h2 u hu).symm⟩)
 ·omega
theorem cmp_eq {a b:List (Int×Int)} (ha:aJ 0 a=true) (hb:aJ 0 b=true) (h:gN a b=0):a=b:=by
 rcases kN ha hb with⟨_,h1⟩|⟨_,h1,_⟩|⟨_,h1,_⟩
 ·exact qw ha hb h1
 ·omega
 ·omega
theorem kZ {a b:List (Int×Int)} (ha:aJ 0 a=true) (hb:aJ 0 b=true):gN a b= -1∨gN a b=0∨gN a b=1:=by
 rcases kN ha hb with⟨h1,_⟩|⟨_,h1,_⟩|⟨_,h1,_⟩<;>simp[h1]
theorem Wl {a b:List (Int×Int)} (ha:aJ 0 a=true) (hb:aJ 0 b=true) (h:kY a b):gN a b=1:=(kN ha hb).unique h
theorem Ox {a:List (Int×Int)} (ha:aJ 0 a=true):gN a a=0:=(kN ha ha).unique (.inl ⟨rfl,fun _=>rfl⟩)
def fC:List Term->Int->List (Int×Int)->List Term
 |[],c,m=>if c=0 then[]else[(c,m)]
 |t::r,c,m=>if 0<gN t.2 m then t::fC r c m else if gN t.2 m=0 then(if c+t.1=0 then r else(c+t.1,m)::r)else(if c=0 then t::r else(c,m)::t::r)
theorem qX:∀{p:List Term} (c:Int) {m:List (Int×Int)},fall p->aJ 0 m=true->
  fall (fC p c m)/\ (∀x,(∀s∈p,kY x s.2)->kY x m->∀s∈fC p c m,kY x s.2)/\∀ρ,ev (fC p c m) ρ=ev p ρ+c*wm m ρ
 |[],c,m,_,hm=>by
  unfold fC;by_cases h:c=0
  ·rw[if_pos h];exact⟨trivial,(fun _ _ _ s hs=>by cases hs),fun ρ=>by simp[ev,h]⟩
  ·rw[if_neg h];refine⟨⟨h,hm,(fun s hs=>by cases hs),trivial⟩,fun x _ hx s hs=>?_,fun ρ=>by simp[ev]⟩;simp at hs;subst hs;exact hx
 |t::r,c,m,hp,hm=>by
  have ih:=qX (p:=r) c hp.2.2.2 hm;unfold fC;by_cases h1:0<gN t.2 m
  ·rw[if_pos h1];have hg:kY t.2 m:=BV hp.2.1 hm (by rcases kZ hp.2.1 hm with e|e|e<;>omega);refine⟨⟨hp.1,hp.2.1,ih.2.1 _ hp.2.2.1 hg,ih.1⟩,fun x hx hxm s hs=>?_,fun ρ=>by simp only[ev];rw[ih.2.2];omega⟩;rcases List.mem_cons.1 hs with rfl|hs
   ·exact hx _ (by simp)
   ·exact ih.2.1 x (fun y hy=>hx y (by simp[hy])) hxm s hs
  ·rw[if_neg h1];by_cases h2:gN t.2 m=0
   ·rw[if_pos h2];have he:=cmp_eq hp.2.1 hm h2;by_cases h3:c+t.1=0
    ·rw[if_pos h3];refine⟨hp.2.2.2,fun x hx _ s hs=>hx s (by simp[hs]),fun ρ=>?_⟩;simp only[ev];rw[he,show t.1= -c by omega]
     grind
    ·rw[if_neg h3];refine⟨⟨h3,hm,he▸hp.2.2.1,hp.2.2.2⟩,fun x hx hxm s hs=>?_,fun ρ=>?_⟩
     ·rcases List.mem_cons.1 hs with rfl|hs
      ·exact hxm
      ·exact hx s (by simp[hs])
     ·simp only[ev];rw[he]
      grind
   ·rw[if_neg h2];have hl:kY m t.2:=GI hp.2.1 hm (by rcases kZ hp.2.1 hm with e|e|e<;>omega);by_cases h3:c=0
    ·rw[if_pos h3];exact⟨hp,fun x hx _=>hx,fun ρ=>by rw[h3];omega⟩
    ·rw[if_neg h3];refine⟨⟨h3,hm,fun s hs=>?_,hp⟩,fun x hx hxm s hs=>?_,fun ρ=>by simp only[ev];omega⟩
     ·rcases List.mem_cons.1 hs with rfl|hs
      ·exact hl
      ·exact fV hl (hp.2.2.1 s hs)
     ·rcases List.mem_cons.1 hs with rfl|hs
      ·exact hxm
      ·exact hx s hs
def dX (l:List Term):Prop:=∀t∈l,aJ 0 t.2=true
def fD (p:List Term):List Term->List Term
 |[]=>p
 |t::r=>fD (fC p t.1 t.2) r
theorem fU:∀{q p:List Term},fall p->dX q->fall (fD p q)/\∀ρ,ev (fD p q) ρ=ev p ρ+ev q ρ
 |[],p,hp,_=>⟨hp,fun ρ=>by simp[fD,ev]⟩
 |t::r,p,hp,hq=>by
  have h1:=qX t.1 hp (hq t (by simp));have h2:=fU (q:=r) h1.1 (fun s hs=>hq s (by simp[hs]));exact⟨h2.1,fun ρ=>by simp only[fD,ev];rw[h2.2,h1.2.2];omega⟩
theorem mD (p:List Term):∀q r:List Term,fD p (q++r)=fD (fD p q) r
 |[],_=>rfl
 |t::q,r=>by simp only[List.cons_append,fD];exact mD _ q r
theorem ah {p:List Term} (h:fall p):dX p:=bM h
def mE (l:List Term):List Term:=fD [] l
theorem iB {l:List Term} (h:dX l):fall (mE l)/\∀ρ,ev (mE l) ρ=ev l ρ:=by
 have:=fU (p:=[]) trivial h;exact⟨this.1,fun ρ=>by rw[mE,this.2];simp[ev]⟩
theorem jw {p:List Term} (h:fall p):mE p=p:=iN (iB (ah h)).1 h (iB (ah h)).2
theorem xR {p:List Term} (h:dX p):dX (kP p):=fun s hs=>by obtain⟨u,hu,rfl⟩:=xX hs;exact h u hu
def uU (p q:List Term):List Term:=fD p (kP q)
theorem q9 {p q:List Term} (hp:fall p) (hq:dX q):fall (uU p q)/\∀ρ,ev (uU p q) ρ=ev p ρ-ev q ρ:=by
 have:=fU hp (xR hq);exact⟨this.1,fun ρ=>by rw[uU,this.2,Oq];omega⟩
def uQ (t:Term) (q:List Term):List Term:=q.map fun s=>(t.1*s.1,gH t.2 s.2)
def iA (p q:List Term):Prop:=∀t∈p,∀s∈q,aJ 0 (gH t.2 s.2)=true
def mulL:List Term->List Term->List Term
 |[],_=>[]
 |t::r,q=>uQ t q++mulL r q
theorem Jm {t:Term} (ht:aJ 0 t.2=true) (ρ:Nat->Int):∀{q:List Term},dX q->ev (uQ t q) ρ=t.1*wm t.2 ρ*ev q ρ
 |[],_=>by simp[uQ,ev]
 |s::q,h=>by
  have ih:=Jm ht ρ (q:=q) (fun x hx=>h x (by simp[hx]));unfold uQ at ih ⊢;simp only[List.map_cons,ev];rw[ih,wW ht (h s (by simp))]
  grind
theorem Jo (ρ:Nat->Int) {q:List Term} (hq:dX q):∀{p:List Term},dX p->ev (mulL p q) ρ=ev p ρ*ev q ρ
 |[],_=>by simp[mulL,ev]
 |t::r,h=>by
  simp only[mulL,ev];rw[iE,Jm (h t (by simp)) ρ hq,Jo ρ hq (p:=r) (fun x hx=>h x (by simp[hx]))]
  grind
theorem uS {p q:List Term} (h:iA p q):dX (mulL p q):=by
 induction p with
 |nil=>intro t ht;cases ht
 |cons a r ih=>
  intro t ht;rcases List.mem_append.1 ht with ht|ht
  ·obtain⟨s,hs,rfl⟩:=List.mem_map.1 ht;exact h a (by simp) s hs
  ·exact ih (fun x hx=>h x (by simp[hx])) t ht
def aU (p q:List Term):List Term:=mE (mulL p q)
theorem eO {p q:List Term} (hp:dX p) (hq:dX q) (h:iA p q):fall (aU p q)/\∀ρ,ev (aU p q) ρ=ev p ρ*ev q ρ:=by
 have:=iB (uS h);exact⟨this.1,fun ρ=>by rw[aU,this.2,Jo ρ hq hp]⟩
theorem KL {a b:List (Int×Int)} (ha:aJ 0 a=true) (hb:aJ 0 b=true):gH a b=gH b a:=by
 refine wV (qy (f:=fun x y=>x+y) rfl ha hb) (qy (f:=fun x y=>x+y) rfl hb ha) fun v=>?_
 show av (gH a b) v=av (gH b a) v;rw[dM ha hb,dM hb ha];omega
open Go.RowKit
def cf:List Term->List (Int×Int)->Int
 |[],_=>0
 |t::r,m=>(if t.2=m then t.1 else 0)+cf r m
theorem BX:∀{p:List Term} {m:List (Int×Int)},(∀t∈p,t.2≠m)->cf p m=0
 |[],_,_=>rfl
 |t::r,m,h=>by
  unfold cf;rw[if_neg (h t (by simp)),BX (p:=r) (fun s hs=>h s (by simp[hs]))];omega
theorem GJ {p:List Term} {m:List (Int×Int)} (h:cf p m≠0):∃t∈p,t.2=m:=by
 by_cases g:∃t∈p,t.2=m
 ·exact g
 ·exact absurd (BX fun t ht e=>g ⟨t,ht,e⟩) h
theorem Jp:∀{p:List Term} (c:Int) {m:List (Int×Int)} (u:List (Int×Int)),fall p->aJ 0 m=true->cf (fC p c m) u=cf p u+if m=u then c else 0
 |[],c,m,u,_,_=>by
  unfold fC;by_cases h:c=0
  ·rw[if_pos h,h];simp[cf]
  ·rw[if_neg h];simp[cf]
 |t::r,c,m,u,hp,hm=>by
  have ih:=Jp (p:=r) c u hp.2.2.2 hm;unfold fC;by_cases h1:0<gN t.2 m
  ·rw[if_pos h1];simp only[cf];rw[ih];omega
  ·rw[if_neg h1];by_cases h2:gN t.2 m=0
   ·rw[if_pos h2];have he:=cmp_eq hp.2.1 hm h2;by_cases h3:c+t.1=0
    ·rw[if_pos h3];simp only[cf];rw[he];split<;>omega
    ·rw[if_neg h3];simp only[cf];rw[he];split<;>omega
   ·rw[if_neg h2];by_cases h3:c=0
    ·rw[if_pos h3,h3];simp
    ·rw[if_neg h3];simp only[cf];omega
theorem BZ:∀{q p:List Term} (u:List (Int×Int)),fall p->dX q->cf (fD p q) u=cf p u+cf q u
 |[],p,u,_,_=>by simp[fD,cf]
 |t::r,p,u,hp,hq=>by
  have h1:=qX t.1 hp (hq t (by simp));have h2:=BZ (q:=r) u h1.1 (fun s hs=>hq s (by simp[hs]));simp only[fD,cf];rw[h2,Jp t.1 u hp (hq t (by simp))];omega
theorem Wm {l:List Term} (u:List (Int×Int)) (h:dX l):cf (mE l) u=cf l u:=by
 unfold mE;rw[BZ (p:=[]) u trivial h];simp[cf]
theorem Ca:∀{p:List Term},fall p->∀t∈p,cf p t.2=t.1
 |t::r,h,s,hs=>by
  rcases List.mem_cons.1 hs with rfl|hs
  ·unfold cf;rw[if_pos rfl,BX (p:=r) (fun u hu e=>iX (e▸h.2.2.1 u hu))];omega
  ·unfold cf;rw[if_neg (fun e=>iX (e▸h.2.2.1 s hs)),Ca h.2.2.2 s hs];omega
theorem D8 {x:Term} {q:List Term}:∀{p:List Term},x∈mulL p q->∃t∈p,∃s∈q,x=(t.1*s.1,gH t.2 s.2)
 |t::r,h=>by
  rcases List.mem_append.1 h with h|h
  ·obtain⟨s,hs,rfl⟩:=List.mem_map.1 h;exact⟨t,by simp,s,hs,rfl⟩
  ·obtain⟨u,hu,s,hs,rfl⟩:=D8 h;exact⟨u,by simp[hu],s,hs,rfl⟩
def zK (p q r:List Term):Prop:=∀t∈p,∀s∈q,∀u∈r,∀v,av t.2 v+av s.2 v+av u.2 v<=10000
theorem kg {a b:List (Int×Int)} (ha:aJ 0 a=true) (hb:aJ 0 b=true):aJ 0 (gH a b)=true↔ ∀v,av a v+av b v<=10000:=by
 unfold gH;rw[xY rfl ha hb];exact⟨fun h v=>(h v).2,fun h v=>⟨by have:=(eD ha v).1;have:=(eD hb v).1;omega,h v⟩⟩
theorem rf {p q:List Term} (hf:iA p q) {x:Term} (hx:x∈aU p q) (Vg:fall (aU p q)):∃t∈p,∃s∈q,x.2=gH t.2 s.2:=by
 have h:=Ca Vg x hx;have h0:=mG Vg x hx;unfold aU at h;rw[Wm _ (uS hf)]at h;obtain⟨y,hy,e⟩:=GJ (by rw[h];exact h0);obtain⟨t,ht,s,hs,rfl⟩:=D8 hy;exact⟨t,ht,s,hs,e.symm⟩
def cK (m:List (Int×Int)):List Term->List Term->List Term×List Term×Bool
 |[],S=>([],S,false)
 |u::r,S=>if gN u.2 m<0 then cK m r (u::S)else(u::r,S,gN u.2 m==0)
def gP (f:Int->Int->Int) (st:List Term×List Term) (t:Term):List Term×List Term:=
 let s:=cK t.2 st.1 st.2
 let c:=if s.2.2 then f (s.1.headD (0,[])).1 t.1 else f 0 t.1
 (if s.2.2 then s.1.tail else s.1,if c=0 then s.2.1 else(c,t.2)::s.2.1)
def pR (f:Int->Int->Int) (p ts:List Term):List Term×List Term:=ts.foldl (gP f) (p.reverse,[])
def Up:List Term->Prop
 |[]=>True
 |u::r=>u.1≠0/\ aJ 0 u.2=true/\ (∀s∈r,kY s.2 u.2)/\ Up r
def Ab (a b:List Term):Prop:=∀u∈a,∀s∈b,kY u.2 s.2
theorem GK:∀{p b:List Term},fall p->Up b->Ab b p->Up (p.reverse++b)
 |[],b,_,hb,_=>hb
 |t::r,b,hp,hb,h=>by
  rw[List.reverse_cons,List.append_assoc];refine GK (p:=r) (b:=[t]++b) hp.2.2.2 ⟨hp.1,hp.2.1,fun s hs=>h s hs t (by simp),hb⟩ fun u hu s hs=>?_
  rcases List.mem_cons.1 hu with rfl|hu
  ·exact hp.2.2.1 s hs
  ·exact h u hu s (by simp[hs])
theorem Jq:∀{r S:List Term},Up r->fall S->Ab r S->fall (r.reverse++S)
 |[],S,_,hS,_=>hS
 |u::r,S,hr,hS,h=>by
  rw[List.reverse_cons,List.append_assoc];refine Jq (r:=r) (S:=[u]++S) hr.2.2.2 ⟨hr.1,hr.2.1,fun s hs=>h u (by simp) s hs,hS⟩ fun v hv s hs=>?_
  rcases List.mem_cons.1 hs with rfl|hs
  ·exact hr.2.2.1 v hv
  ·exact h v (by simp[hv]) s hs
theorem oP (ρ:Nat->Int):∀l:List Term,ev l.reverse ρ=ev l ρ
 |[]=>rfl
 |t::r=>by rw[List.reverse_cons,iE,oP ρ r];simp only[ev];omega
theorem xZ {m:List (Int×Int)} (hm:aJ 0 m=true):∀{r S:List Term},Up r->fall S->Ab r S->(∀s∈S,kY m s.2)->
  Up (cK m r S).1/\ fall (cK m r S).2.1/\ Ab (cK m r S).1 (cK m r S).2.1/\ (∀s∈(cK m r S).2.1,kY m s.2)/\ (∀ρ,ev (cK m r S).1 ρ+ev (cK m r S).2.1 ρ=ev r ρ+ev S ρ)/\
  ((cK m r S).2.2=true->∃u r',(cK m r S).1=u::r'/\ u.2=m)/\ ((cK m r S).2.2=false->∀u∈(cK m r S).1,kY u.2 m)
 |[],S,_,hS,h,hmS=>by
  unfold cK;exact⟨trivial,hS,h,hmS,fun ρ=>rfl,(fun e=>by cases e),fun _ u hu=>by cases hu⟩
 |u::r,S,hr,hS,h,hmS=>by
  unfold cK;have hc:=kZ hr.2.1 hm;by_cases hl:gN u.2 m<0
  ·rw[if_pos hl];have hmu:kY m u.2:=GI hr.2.1 hm (by omega)
   have ih:=xZ hm (r:=r) (S:=u::S) hr.2.2.2 ⟨hr.1,hr.2.1,fun s hs=>h u (by simp) s hs,hS⟩ (fun v hv s hs=>by
    rcases List.mem_cons.1 hs with rfl|hs
    ·exact hr.2.2.1 v hv
    ·exact h v (by simp[hv]) s hs) (fun s hs=>by
    rcases List.mem_cons.1 hs with rfl|hs
    ·exact hmu
    ·exact hmS s hs)
   refine⟨ih.1,ih.2.1,ih.2.2.1,ih.2.2.2.1,fun ρ=>?_,ih.2.2.2.2.2⟩;have:=ih.2.2.2.2.1 ρ;simp only[ev]at this ⊢;omega
  ·rw[if_neg hl];refine⟨hr,hS,h,hmS,fun ρ=>rfl,fun e=>⟨u,r,rfl,cmp_eq hr.2.1 hm (by simpa using e)⟩,fun e v hv=>?_⟩;have hne:gN u.2 m≠0:=by simpa using e
   have hg:kY u.2 m:=BV hr.2.1 hm (by omega);rcases List.mem_cons.1 hv with rfl|hv
   ·exact hg
   ·exact fV (hr.2.2.1 v hv) hg
structure ZJ (r S ts:List Term):Prop where
 up:Up r
 fl:fall S
 ab:Ab r S
 nx:Ab ts S
theorem GL {f:Int->Int->Int} {σ:Int} (hf:∀x y,f x y=x+σ*y) {r S ts:List Term} {t:Term} (h:ZJ r S (t::ts)) (ht:aJ 0 t.2=true) (hts:∀s∈ts,kY s.2 t.2):
  ZJ (gP f (r,S) t).1 (gP f (r,S) t).2 ts/\∀ρ,ev (gP f (r,S) t).1 ρ+ev (gP f (r,S) t).2 ρ=ev r ρ+ev S ρ+σ*t.1*wm t.2 ρ:=by
 obtain⟨h1,h2,h3,h4,h5,h6,h7⟩:=xZ ht h.up h.fl h.ab (fun s hs=>h.nx t (by simp) s hs);unfold gP;simp only;generalize cK t.2 r S=x at h1 h2 h3 h4 h5 h6 h7 ⊢;obtain⟨r',S',b⟩:=x;simp only at h1 h2 h3 h4 h5 h6 h7 ⊢;have hnx:∀s∈S',∀v∈ts,kY v.2 s.2:=fun s hs v hv=>fV (hts v hv) (h4 s hs)
 have key:∀(R:List Term) (c:Int),Up R->Ab R S'->(∀u∈R,kY u.2 t.2)->ZJ R (if c=0 then S' else(c,t.2)::S') ts/\∀ρ,ev (if c=0 then S' else(c,t.2)::S') ρ=c*wm t.2 ρ+ev S' ρ:=by
  intro R c hR hab hgt;by_cases hc:c=0
  ·rw[if_pos hc];exact⟨⟨hR,h2,hab,fun v hv s hs=>hnx s hs v hv⟩,fun ρ=>by rw[hc];simp⟩
  ·rw[if_neg hc];refine⟨⟨hR,⟨hc,ht,h4,h2⟩,fun u hu s hs=>?_,fun v hv s hs=>?_⟩,fun ρ=>rfl⟩
   ·rcases List.mem_cons.1 hs with rfl|hs
    ·exact hgt u hu
    ·exact hab u hu s hs
   ·rcases List.mem_cons.1 hs with rfl|hs
    ·exact hts v hv
    ·exact hnx s hs v hv
 cases b with
 |true=>
  obtain⟨u,q,rfl,Rs⟩:=h6 rfl;simp only[if_true,List.tail_cons,List.headD_cons];have k:=key q (f u.1 t.1) h1.2.2.2 (fun v hv s hs=>h3 v (by simp[hv]) s hs) (fun v hv=>by rw[<-Rs];exact h1.2.2.1 v hv);refine⟨k.1,fun ρ=>?_⟩;have e:=h5 ρ;rw[k.2 ρ,hf];simp only[ev]at e;rw[Rs]at e
  grind
 |false=>
  simp only[Bool.false_eq_true,if_false];have k:=key r' (f 0 t.1) h1 h3 (h7 rfl);refine⟨k.1,fun ρ=>?_⟩;have e:=h5 ρ;rw[k.2 ρ,hf]
  grind
theorem x9 {f:Int->Int->Int} {σ:Int} (hf:∀x y,f x y=x+σ*y):∀{ts r S:List Term},Up ts->ZJ r S ts->
  ZJ (ts.foldl (gP f) (r,S)).1 (ts.foldl (gP f) (r,S)).2 []/\∀ρ,ev (ts.foldl (gP f) (r,S)).1 ρ+ev (ts.foldl (gP f) (r,S)).2 ρ=ev r ρ+ev S ρ+σ*ev ts ρ
 |[],r,S,_,h=>⟨h,fun ρ=>by simp[ev]⟩
 |t::ts,r,S,hts,h=>by
  have h1:=GL hf h hts.2.1 hts.2.2.1;have h2:=x9 hf (ts:=ts) hts.2.2.2 h1.1;refine⟨h2.1,fun ρ=>?_⟩;have e1:=h1.2 ρ;have e2:=h2.2 ρ;simp only[List.foldl_cons,ev];rw[e2,e1]
  grind
theorem Jr {f:Int->Int->Int} {σ:Int} (hf:∀x y,f x y=x+σ*y) {p q r:List Term} (hp:fall p) (hq:fall q) (hr:fall r) (hv:∀ρ,ev r ρ=ev p ρ+σ*ev q ρ):
  (pR f p q.reverse).1.reverse++(pR f p q.reverse).2=r:=by
 have h1:=GK (b:=[]) hp trivial (fun u hu=>by cases hu);have h2:=GK (b:=[]) hq trivial (fun u hu=>by cases hu);rw[List.append_nil]at h1 h2;have h:=x9 hf h2 (r:=p.reverse) (S:=[]) ⟨h1,trivial,(fun _ _ s hs=>by cases hs),fun _ _ s hs=>by cases hs⟩;refine iN (Jq h.1.up h.1.fl h.1.ab) hr fun ρ=>?_
 have e:=h.2 ρ;rw[iE,oP,hv];unfold pR;rw[e,oP,oP];simp[ev]
theorem Oy {α:Type} (d:α) (q:List α) {j:Nat} (hj:j<q.length):q.reverse.take (j+1)=q.reverse.take j++[q.getD (q.length-1-j) d]:=by
 rw[List.take_succ_eq_append_getElem (by rw[List.length_reverse];exact hj)]
 congr 1
 rw[List.getElem_reverse];simp[List.getD,List.getElem?_eq_getElem (show q.length-1-j<q.length by omega)]
theorem GN (f:Int->Int->Int) (p q:List Term) {j:Nat} (hj:j<q.length):pR f p (q.reverse.take (j+1))=gP f (pR f p (q.reverse.take j)) (q.getD (q.length-1-j) (0,[])):=by
 unfold pR;rw[Oy (0,[]) q hj,List.foldl_append];rfl
end Go.Proofs.YthdhjckangekoaaGreat
