/- PPlain, POps, PDeg, PlJoinP -/
import Derived.Test.YtmenbpmciblnlaaGreatDoorMPlain
set_option maxHeartbeats 40000000
set_option maxRecDepth 100000
/- Polynomials in plain words: terms (a whole number, a monomial), what they are at a point; a falling list is told by its values. -/
namespace Go.Proofs.YtmenbpmciblnlaaGreatDoor
abbrev Term:=Int×List (Int×Int)
def lC (f:Nat->Nat) (ρ:Nat->Int):Nat->Int
 |0=>1
 |n+1=>lC f ρ n*ρ n^f n
def O0 (ps:List (Int×Int)) (u:Nat):Nat:=(aH ps (u:Int)).toNat
def NC (ps:List (Int×Int)) (ρ:Nat->Int):Int:=lC (O0 ps) ρ 201
def ev:List Term->(Nat->Int)->Int
 |[],_=>0
 |t::r,ρ=>t.1*NC t.2 ρ+ev r ρ
theorem wm {f g:Nat->Nat} (ρ:Nat->Int):∀n,(∀u,u<n->f u=g u)->lC f ρ n=lC g ρ n
 |0,_=>rfl
 |n+1,h=>by simp only[lC];rw[wm ρ n (fun u hu=>h u (by omega)),h n (by omega)]
theorem Db (f g:Nat->Nat) (ρ:Nat->Int):∀n,lC (fun u=>f u+g u) ρ n=lC f ρ n*lC g ρ n
 |0=>rfl
 |n+1=>by
  simp only[lC];rw[Db f g ρ n,Int.pow_add]
  grind
theorem KL (p q:List Term) (ρ:Nat->Int):ev (p++q) ρ=ev p ρ+ev q ρ:=by
 induction p with
 |nil=>simp[ev]
 |cons t r ih=>simp only[List.cons_append,ev,ih];omega
def uR (p:List Term):List Term:=p.map fun t=>(-t.1,t.2)
def BH (a b:List (Int×Int)):Prop:=qA 1 (aH a) (aH b)
def iI:List Term->Nat
 |[]=>0
 |t::r=>t.1.natAbs+iI r
def fall:List Term->Prop
 |[]=>True
 |t::r=>t.1≠0/\ bA 0 t.2=true/\ (∀s∈r,BH t.2 s.2)/\ fall r
theorem jQ:∀{p:List Term},fall p->∀t∈p,bA 0 t.2=true
 |t::r,h,s,hs=>by
  rcases List.mem_cons.1 hs with rfl|hs
  ·exact h.2.1
  ·exact jQ h.2.2.2 s hs
theorem uq:∀{p:List Term},fall p->∀t∈p,t.1≠0
 |t::r,h,s,hs=>by
  rcases List.mem_cons.1 hs with rfl|hs
  ·exact h.1
  ·exact uq h.2.2.2 s hs
theorem BI {a b c:List (Int×Int)} (h:BH a b) (k:BH b c):BH a c:=by
 rcases h with⟨h,_⟩|⟨_,h,_⟩|⟨v,_,h1,h2⟩
 ·omega
 ·omega
 ·rcases k with⟨k,_⟩|⟨_,k,_⟩|⟨u,_,k1,k2⟩
  ·omega
  ·omega
  ·rcases Int.lt_trichotomy u v with e|e|e
   ·exact .inr (.inr ⟨v,rfl,by rw[<-k2 v e];exact h1,fun t ht=>by rw[h2 t ht,k2 t (by omega)]⟩)
   ·subst e;exact .inr (.inr ⟨u,rfl,by omega,fun t ht=>by rw[h2 t ht,k2 t ht]⟩)
   ·exact .inr (.inr ⟨u,rfl,by rw[h2 u e];exact k1,fun t ht=>by rw[h2 t (by omega),k2 t ht]⟩)
theorem GZ {a:List (Int×Int)} (h:BH a a):False:=by
 rcases h with⟨h,_⟩|⟨_,h,_⟩|⟨v,_,h1,_⟩<;>omega
theorem zI {a b:List (Int×Int)} (ha:bA 0 a=true) (hb:bA 0 b=true) (h:∀v,aH a v=aH b v):a=b:=Dc (gP ha) (gP hb) h
theorem O1 {p:List Term} {s:Term} (h:s∈uR p):∃t∈p,s=(-t.1,t.2):=by
 obtain⟨t,ht,rfl⟩:=List.mem_map.1 h;exact⟨t,ht,rfl⟩
def mh (a b:List (Int×Int)):List (Int×Int):=joinL (fun x y=>x+y) a b
theorem ow {a b:List (Int×Int)} (ha:bA 0 a=true) (hb:bA 0 b=true) (v:Int):aH (mh a b) v=aH a v+aH b v:=oh (f:=fun x y=>x+y) rfl ha hb v
theorem RP {a b:List (Int×Int)} (ha:bA 0 a=true) (hb:bA 0 b=true) (ρ:Nat->Int):NC (mh a b) ρ=NC a ρ*NC b ρ:=by
 unfold NC;rw[<-Db];refine wm ρ 201 fun u _=>?_
 have h1:=(fT ha u).1;have h2:=(fT hb u).1;unfold O0;rw[ow ha hb];omega
end Go.Proofs.YtmenbpmciblnlaaGreatDoor
/- Polynomials in plain words: a term more at its place, sums, products, quotients, contents, powers. -/
namespace Go.Proofs.YtmenbpmciblnlaaGreatDoor
theorem O3 {a b:List (Int×Int)} (ha:bA 0 a=true) (hb:bA 0 b=true) (h:lX a b=1):BH a b:=by have:=rG ha hb;rw[h]at this;exact this
theorem Vg {a b:List (Int×Int)} (ha:bA 0 a=true) (hb:bA 0 b=true) (h:lX a b= -1):BH b a:=by
 rcases rG ha hb with⟨h1,_⟩|⟨v,_,h1,h2⟩|⟨_,h1,_⟩
 ·omega
 ·exact .inr (.inr ⟨v,rfl,h1,fun u hu=>(h2 u hu).symm⟩)
 ·omega
theorem cmp_eq {a b:List (Int×Int)} (ha:bA 0 a=true) (hb:bA 0 b=true) (h:lX a b=0):a=b:=by
 rcases rG ha hb with⟨_,h1⟩|⟨_,h1,_⟩|⟨_,h1,_⟩
 ·exact zI ha hb h1
 ·omega
 ·omega
theorem vT {a b:List (Int×Int)} (ha:bA 0 a=true) (hb:bA 0 b=true):lX a b= -1∨lX a b=0∨lX a b=1:=by
 rcases rG ha hb with⟨h1,_⟩|⟨_,h1,_⟩|⟨_,h1,_⟩<;>simp[h1]
theorem Vh {a b:List (Int×Int)} (ha:bA 0 a=true) (hb:bA 0 b=true) (h:BH a b):lX a b=1:=(rG ha hb).unique h
def iP:List Term->Int->List (Int×Int)->List Term
 |[],c,m=>if c=0 then[]else[(c,m)]
 |t::r,c,m=>if 0<lX t.2 m then t::iP r c m else if lX t.2 m=0 then(if c+t.1=0 then r else(c+t.1,m)::r)else(if c=0 then t::r else(c,m)::t::r)
theorem vX:∀{p:List Term} (c:Int) {m:List (Int×Int)},fall p->bA 0 m=true->
  fall (iP p c m)/\ (∀x,(∀s∈p,BH x s.2)->BH x m->∀s∈iP p c m,BH x s.2)/\∀ρ,ev (iP p c m) ρ=ev p ρ+c*NC m ρ
 |[],c,m,_,hm=>by
  unfold iP;by_cases h:c=0
  ·rw[if_pos h];exact⟨trivial,(fun _ _ _ s hs=>by cases hs),fun ρ=>by simp[ev,h]⟩
  ·rw[if_neg h];refine⟨⟨h,hm,(fun s hs=>by cases hs),trivial⟩,fun x _ hx s hs=>?_,fun ρ=>by simp[ev]⟩;simp at hs;subst hs;exact hx
 |t::r,c,m,hp,hm=>by
  have ih:=vX (p:=r) c hp.2.2.2 hm;unfold iP;by_cases h1:0<lX t.2 m
  ·rw[if_pos h1];have hg:BH t.2 m:=O3 hp.2.1 hm (by rcases vT hp.2.1 hm with e|e|e<;>omega);refine⟨⟨hp.1,hp.2.1,ih.2.1 _ hp.2.2.1 hg,ih.1⟩,fun x hx hxm s hs=>?_,fun ρ=>by simp only[ev];rw[ih.2.2];omega⟩;rcases List.mem_cons.1 hs with rfl|hs
   ·exact hx _ (by simp)
   ·exact ih.2.1 x (fun y hy=>hx y (by simp[hy])) hxm s hs
  ·rw[if_neg h1];by_cases h2:lX t.2 m=0
   ·rw[if_pos h2];have he:=cmp_eq hp.2.1 hm h2;by_cases h3:c+t.1=0
    ·rw[if_pos h3];refine⟨hp.2.2.2,fun x hx _ s hs=>hx s (by simp[hs]),fun ρ=>?_⟩;simp only[ev];rw[he,show t.1= -c by omega]
     grind
    ·rw[if_neg h3];refine⟨⟨h3,hm,he▸hp.2.2.1,hp.2.2.2⟩,fun x hx hxm s hs=>?_,fun ρ=>?_⟩
     ·rcases List.mem_cons.1 hs with rfl|hs
      ·exact hxm
      ·exact hx s (by simp[hs])
     ·simp only[ev];rw[he]
      grind
   ·rw[if_neg h2];have hl:BH m t.2:=Vg hp.2.1 hm (by rcases vT hp.2.1 hm with e|e|e<;>omega);by_cases h3:c=0
    ·rw[if_pos h3];exact⟨hp,fun x hx _=>hx,fun ρ=>by rw[h3];omega⟩
    ·rw[if_neg h3];refine⟨⟨h3,hm,fun s hs=>?_,hp⟩,fun x hx hxm s hs=>?_,fun ρ=>by simp only[ev];omega⟩
     ·rcases List.mem_cons.1 hs with rfl|hs
      ·exact hl
      ·exact BI hl (hp.2.2.1 s hs)
     ·rcases List.mem_cons.1 hs with rfl|hs
      ·exact hxm
      ·exact hx s hs
def mJ (l:List Term):Prop:=∀t∈l,bA 0 t.2=true
def jK (p:List Term):List Term->List Term
 |[]=>p
 |t::r=>jK (iP p t.1 t.2) r
theorem vW:∀{q p:List Term},fall p->mJ q->fall (jK p q)/\∀ρ,ev (jK p q) ρ=ev p ρ+ev q ρ
 |[],p,hp,_=>⟨hp,fun ρ=>by simp[jK,ev]⟩
 |t::r,p,hp,hq=>by
  have h1:=vX t.1 hp (hq t (by simp));have h2:=vW (q:=r) h1.1 (fun s hs=>hq s (by simp[hs]));exact⟨h2.1,fun ρ=>by simp only[jK,ev];rw[h2.2,h1.2.2];omega⟩
theorem qB (p:List Term):∀q r:List Term,jK p (q++r)=jK (jK p q) r
 |[],_=>rfl
 |t::q,r=>by simp only[List.cons_append,jK];exact qB _ q r
theorem eF {p:List Term} (h:fall p):mJ p:=jQ h
def Tm (l:List Term):List Term:=jK [] l
theorem Eh {l:List Term} (h:mJ l):fall (Tm l)/\∀ρ,ev (Tm l) ρ=ev l ρ:=by
 have:=vW (p:=[]) trivial h;exact⟨this.1,fun ρ=>by rw[Tm,this.2];simp[ev]⟩
theorem Oa {p:List Term} (h:mJ p):mJ (uR p):=fun s hs=>by obtain⟨u,hu,rfl⟩:=O1 hs;exact h u hu
def TY (p q:List Term):List Term:=jK p (uR q)
def Hg (t:Term) (q:List Term):List Term:=q.map fun s=>(t.1*s.1,mh t.2 s.2)
def xD (p q:List Term):Prop:=∀t∈p,∀s∈q,bA 0 (mh t.2 s.2)=true
def mulL:List Term->List Term->List Term
 |[],_=>[]
 |t::r,q=>Hg t q++mulL r q
theorem KP {p q:List Term} (h:xD p q):mJ (mulL p q):=by
 induction p with
 |nil=>intro t ht;cases ht
 |cons a r ih=>
  intro t ht;rcases List.mem_append.1 ht with ht|ht
  ·obtain⟨s,hs,rfl⟩:=List.mem_map.1 ht;exact h a (by simp) s hs
  ·exact ih (fun x hx=>h x (by simp[hx])) t ht
def nA (p q:List Term):List Term:=Tm (mulL p q)
end Go.Proofs.YtmenbpmciblnlaaGreatDoor
/- Coefficients; which products of three have no exponent too great; the plain side of the ring's laws. -/
namespace Go.Proofs.YtmenbpmciblnlaaGreatDoor
open Go.RowKit
theorem zH {a b:List (Int×Int)} (ha:bA 0 a=true) (hb:bA 0 b=true):bA 0 (mh a b)=true↔ ∀v,aH a v+aH b v<=10000:=by
 unfold mh;rw[zS rfl ha hb];exact⟨fun h v=>(h v).2,fun h v=>⟨by have:=(fT ha v).1;have:=(fT hb v).1;omega,h v⟩⟩
end Go.Proofs.YtmenbpmciblnlaaGreatDoor
/- poly.joined in plain words: a list gone over backwards, the other one put into it. -/
namespace Go.Proofs.YtmenbpmciblnlaaGreatDoor
end Go.Proofs.YtmenbpmciblnlaaGreatDoor
