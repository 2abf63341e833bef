/- VProdP, VQ, VWp, VFr, VWo -/
import Derived.Test.YtmenbpmciblnlaaGreatDoorGV
set_option maxHeartbeats 0
set_option maxRecDepth 100000
open Int renaming dvd_refl->a0p,gcd->a0b,le_of_dvd->a0s,le_refl->a0a,mul_assoc->a0f,mul_dvd_mul->a0q,mul_le_mul_of_nonneg_left->a0t,mul_le_mul_of_nonneg_right->a0m,mul_nonneg->a0n,mul_pos->a0e,mul_tdiv_cancel_left->a0c,natAbs_dvd_natAbs->a0h,natAbs_mul->a0g,natCast_add->a0o,natCast_mul->a0l,pos_of_mul_pos_right->a0d,pow_add->a0r,pow_pos->a0i,pow_succ->a0k,pow_zero->a0j
open List renaming append_nil->a0C,cons_append->a0v,dropLast_concat->a0y,getLast?_concat->a0x,mem_append->a0B,mem_append_right->a0F,mem_cons->a0w,mem_singleton->a0D,nil_append->a0u,pairwise_append->a0E,take_length->a0z,take_succ_eq_append_getElem->a0A
open Rat renaming divInt->a0I,divInt_add_divInt->a0J,divInt_eq_divInt_iff->a0K,divInt_mul_divInt->a0L,pow_succ->a0H,pow_zero->a0G
/- Products, sums and derivatives of polynomials as ones in a variable, in plain words: degrees, classes, initials, derivatives. -/
namespace Go.Proofs.YtmenbpmciblnlaaGreatDoor
section
open Go.RowKit
theorem yj {p q:List Term} (hp:fall p) (hq:fall q) (hf:rf p q):fall (iV p q):=(G7 (bU hp) (bU hq) hf).1
end
/- The value of a polynomial at a rational point, in plain words: additive, multiplicative, told by the coefficients of a variable. -/
section
def rE (f:Nat->Nat) (ρ:Nat->Rat):Nat->Rat
 |0=>1
 |n+1=>rE f ρ n*ρ n^f n
def rM (ρ:Nat->Rat) (ps:List (Int×Int)):Rat:=rE (Em ps) ρ 201
def qV (φ:List (Int×Int)->Rat):List Term->Rat
 |[]=>0
 |t::r=>(t.1:Rat)*φ t.2+qV φ r
def rv (ρ:Nat->Rat) (p:List Term):Rat:=qV (rM ρ) p
theorem rq {f g:Nat->Nat} {ρ σ:Nat->Rat}:∀n,(∀u,u<n->f u=g u)->(∀u,u<n->f u≠0->ρ u=σ u)->rE f ρ n=rE g σ n
 |0,_,_=>rfl
 |n+1,h,k=>by
  simp only[rE];rw[rq n (λu hu=>h u (by omega)) (λu hu=>k u (by omega)),<-h n (by omega)];by_cases h0:f n=0
  ·rw[h0,a0G,a0G]
  ·rw[k n (by omega) h0]
theorem BR (x:Rat) (a:Nat):∀b:Nat,x^(a+b)=x^a*x^b
 |0=>by rw[a0G,Nat.add_zero];grind
 |b+1=>by rw[<-Nat.add_assoc,a0H,a0H,BR x a b];grind
theorem Jw (f g:Nat->Nat) (ρ:Nat->Rat):∀n,rE (λu=>f u+g u) ρ n=rE f ρ n*rE g ρ n
 |0=>by simp only[rE];grind
 |n+1=>by
  simp only[rE];rw[Jw f g ρ n,BR]
  grind
theorem Mr (ρ:Nat->Rat):∀n,rE (λ_=>0) ρ n=1
 |0=>rfl
 |n+1=>by simp only[rE];rw[Mr ρ n,a0G];grind
theorem PU (ρ:Nat->Rat):rM ρ []=1:=
 (rq (f:=Em []) (g:=λ_=>0) 201 (λ_ _=>rfl) (λ_ _ _=>rfl)).trans (Mr ρ 201)
theorem Zp {a b:List (Int×Int)} (ha:aZ 0 a=true) (hb:aZ 0 b=true) (ρ:Nat->Rat):rM ρ (l6 a b)=rM ρ a*rM ρ b:=by
 unfold rM;rw[<-Jw];refine rq 201 (λu _=>?_) (λ_ _ _=>rfl);have h1:=(fE ha u).1;have h2:=(fE hb u).1;unfold Em;rw[kY ha hb];omega
theorem I6 (φ:List (Int×Int)->Rat) (p q:List Term):qV φ (p++q)=qV φ p+qV φ q:=by
 induction p with
 |nil=>simp only[a0u,qV];grind
 |cons t r ih=>simp only[a0v,qV,ih];grind
theorem Ef (ρ:Nat->Rat) (p q:List Term):rv ρ (p++q)=rv ρ p+rv ρ q:=I6 _ p q
theorem Jy (v:Nat) (e:Nat) (ρ:Nat->Rat):∀n,rE (λu=>if u=v then e else 0) ρ n=if v<n then ρ v^e else 1
 |0=>by simp[rE]
 |n+1=>by
  simp only[rE];rw[Jy v e ρ n];by_cases h:n=v
  ·subst h;rw[if_neg (by omega),if_pos rfl,if_pos (by omega)];grind
  ·rw[if_neg h,a0G];by_cases h2:v<n
   ·rw[if_pos h2,if_pos (by omega)];grind
   ·rw[if_neg h2,if_neg (by omega)];grind
theorem Zq {v:Int} (hv:1<=v/\ v<=200) (e:Int) (ρ:Nat->Rat):rM ρ (uM v e)=ρ v.toNat^e.toNat:=by
 unfold rM;rw[rq (f:=Em (uM v e)) (g:=λu=>if u=v.toNat then e.toNat else 0) (σ:=ρ) 201 (λu _=>?_) (λ_ _ _=>rfl),Jy,if_pos (by omega)];unfold Em;rw[mU];by_cases h:(u:Int)=v
 ·rw[if_pos h,if_pos (by omega)]
 ·rw[if_neg h,if_neg (by omega)];rfl
theorem Zr {m:List (Int×Int)} (hm:aZ 0 m=true) {v:Int} (hv:1<=v/\ v<=200) (ρ:Nat->Rat):rM ρ m=rM ρ (gN v m)*ρ v.toNat^(aJ m v).toNat:=by
 rw[<-Zq hv,<-Zp (Et hm v) (vP hv (fE hm v)),Qf hm hv]
end
/- How value.worth goes, in plain words: the parts of a polynomial by the powers of its greatest variable, Horner's way over them. -/
section
theorem iQ {α:Type} (l:List α):l=[]∨ ∃xs a,l=xs++[a]:=by
 rcases List.eq_nil_or_concat l with h|⟨xs,a,h⟩
 ·exact .inl h
 ·exact .inr ⟨xs,a,by rw[h,List.concat_eq_append]⟩
def DC (v:Int) (m:List (Int×Int)):Int×List (Int×Int):=
 match m.getLast? with
 |some w=>if w.1=v then(w.2,m.dropLast)else(0,m)
 |none=>(0,m)
theorem Eg:∀{ps:List (Int×Int)} {lo:Int},jm lo ps->∀p∈ps,lo<p.1
 |q::r,lo,h,p,hp=>by
  rcases a0w.1 hp with hp|hp
  ·rw[hp];exact h.1
  ·have:=Eg h.2.2.2 p hp;have:=h.1;omega
theorem I7 {w:Int×Int}:∀{xs:List (Int×Int)} {lo:Int},jm lo (xs++[w])->∀p∈xs,p.1<w.1
 |q::r,lo,h,p,hp=>by
  rcases a0w.1 hp with hp|hp
  ·rw[hp];exact Eg h.2.2.2 w (by simp)
  ·exact I7 h.2.2.2 p hp
theorem I8 (w:Int×Int):∀xs:List (Int×Int),fe (xs++[w])=w.1
 |[]=>by simp[fe]
 |q::r=>by
  simp only[a0v,fe];rw[if_neg (by simp),I8 w r]
theorem vN {v:Int} {ys:List (Int×Int)}:∀{xs:List (Int×Int)},(∀p∈xs,p.1≠v)->aJ (xs++ys) v=aJ ys v
 |[],_=>rfl
 |q::r,h=>by
  simp only[a0v,aJ];rw[if_neg (h q (by simp)),vN (λp hp=>h p (by simp[hp]))]
theorem Wo (v:Int) (xs ys:List (Int×Int)):gN v (xs++ys)=gN v xs++gN v ys:=by simp[gN]
theorem TH {v:Int} {xs:List (Int×Int)} (h:∀p∈xs,p.1≠v):gN v xs=xs:=List.filter_eq_self.2 λp hp=>by simpa using h p hp
theorem Rv {m:List (Int×Int)} (hm:aZ 0 m=true) {v:Int} (hc:fe m<=v):DC v m=(aJ m v,gN v m):=by
 rcases iQ m with rfl|⟨xs,w,rfl⟩
 ·rfl
 ·have hl:=I7 (fU hm);rw[I8]at hc;have hx:∀p∈xs,p.1≠v:=λp hp=>by have:=hl p hp;omega
  unfold DC;rw[a0x,vN hx,Wo,TH hx];simp only;by_cases h:w.1=v
  ·rw[if_pos h,a0y];simp[aJ,gN,h]
  ·rw[if_neg h];simp[aJ,gN,h]
def kr (v:Int) (acc:List (Int×List Term)) (t:Term):List (Int×List Term):=
 match acc.getLast? with
 |some g=>if g.1=aJ t.2 v then acc.dropLast++[(g.1,g.2++[(t.1,gN v t.2)])]else acc++[(aJ t.2 v,[(t.1,gN v t.2)])]
 |none=>acc++[(aJ t.2 v,[(t.1,gN v t.2)])]
def bA (v:Int) (p:List Term):List (Int×List Term):=p.foldl (kr v) []
theorem ou (v:Int) (p:List Term) (t:Term):bA v (p++[t])=kr v (bA v p) t:=by simp[bA]
def sJ (ρ:Nat->Rat) (v:Int):List (Int×List Term)->Rat
 |[]=>0
 |g::r=>rv ρ g.2*ρ v.toNat^g.1.toNat+sJ ρ v r
theorem wY (ρ:Nat->Rat) (v:Int) (b:List (Int×List Term)):∀a,sJ ρ v (a++b)=sJ ρ v a+sJ ρ v b
 |[]=>by simp only[a0u,sJ];grind
 |g::r=>by simp only[a0v,sJ,wY ρ v b r];grind
theorem Pf (ρ:Nat->Rat) (v:Int) (acc:List (Int×List Term)) (t:Term):sJ ρ v (kr v acc t)=sJ ρ v acc+(t.1:Rat)*(rM ρ (gN v t.2)*ρ v.toNat^(aJ t.2 v).toNat):=by
 unfold kr;rcases iQ acc with rfl|⟨xs,g,rfl⟩
 ·simp only[List.getLast?_nil,a0u,sJ,rv,qV];grind
 ·rw[a0x];simp only;by_cases h:g.1=aJ t.2 v
  ·rw[if_pos h,a0y,wY,wY];simp only[sJ];rw[Ef,<-h];simp only[rv,qV];grind
  ·rw[if_neg h,wY];simp only[sJ,rv,qV];grind
theorem Kl (ρ:Nat->Rat) {v:Int} (hv:1<=v/\ v<=200) {p:List Term} (h:jJ p):sJ ρ v (bA v p)=rv ρ p:=by
 suffices H:∀(k:Nat),k<=p.length->sJ ρ v (bA v (p.take k))=rv ρ (p.take k)by
  have:=H p.length (Nat.le_refl _);rwa[a0z]at this
 intro k;induction k with
 |zero=>intro _;simp[bA,sJ,rv,qV]
 |succ k ih=>
  intro hk;rw[a0A hk,ou,Pf,ih (by omega),Ef]
  congr 1
  have hm:=h p[k] (List.getElem_mem _);simp only[rv,qV];rw[<-Zr hm hv];grind
structure Parts (v:Int) (q:List Term) (acc:List (Int×List Term)):Prop where
 Vf:∀g∈acc,g.2=iB q v g.1/\ g.2≠[]
 down:acc.Pairwise λg h=>h.1<g.1
 all:∀s∈q,∃g∈acc,g.1=aJ s.2 v
 some:∀g∈acc,∃s∈q,aJ s.2 v=g.1
theorem qL (q:List Term) (t:Term) (v e:Int):iB (q++[t]) v e=iB q v e++if aJ t.2 v=e then[(t.1,gN v t.2)]else[]:=by
 unfold iB;by_cases h:aJ t.2 v=e<;>simp[h]
theorem KZ {q:List Term} {v e:Int} (h:∀s∈q,aJ s.2 v≠e):iB q v e=[]:=by
 unfold iB;rw[List.filter_eq_nil_iff.2 (λs hs=>by simpa using h s hs)];rfl
theorem Parts.step {v:Int} {q:List Term} {acc:List (Int×List Term)} (h:Parts v q acc) {t:Term} (ht:∀s∈q,aJ t.2 v<=aJ s.2 v):Parts v (q++[t]) (kr v acc t):=by
 have fresh:(∀g∈acc,aJ t.2 v<g.1)->Parts v (q++[t]) (acc++[(aJ t.2 v,[(t.1,gN v t.2)])]):=λhg=>by
  refine⟨λg hm=>?_,?_,λs hs=>?_,λg hm=>?_⟩
  ·rcases a0B.1 hm with hm|hm
   ·have:=hg g hm;rw[qL,if_neg (by omega),a0C];exact h.Vf g hm
   ·obtain rfl:=a0D.1 hm;rw[qL,if_pos rfl,KZ (λs hs e=>?_)]
    ·simp
    ·obtain⟨g,hm,he⟩:=h.all s hs;have:=hg g hm;simp only at e;omega
  ·rw[a0E];refine⟨h.down,by simp,λg hm g2 hm2=>?_⟩;obtain rfl:=a0D.1 hm2;exact hg g hm
  ·rcases a0B.1 hs with hs|hs
   ·obtain⟨g,hm,he⟩:=h.all s hs;exact⟨g,by simp[hm],he⟩
   ·obtain rfl:=a0D.1 hs;exact⟨(_,_),a0F _ (a0D.2 rfl),rfl⟩
  ·rcases a0B.1 hm with hm|hm
   ·obtain⟨s,hs,he⟩:=h.some g hm;exact⟨s,by simp[hs],he⟩
   ·obtain rfl:=a0D.1 hm;exact⟨t,by simp,rfl⟩
 unfold kr;rcases iQ acc with rfl|⟨xs,g,rfl⟩
 ·exact fresh (by simp)
 ·rw[a0x];simp only;have hx:=(a0E.1 h.down).2.2;have hxg:∀a∈xs,g.1<a.1:=λa ha=>hx a ha g (by simp)
  by_cases he:g.1=aJ t.2 v
  ·rw[if_pos he,a0y];refine⟨λa hm=>?_,?_,λs hs=>?_,λa hm=>?_⟩
   ·rcases a0B.1 hm with hm|hm
    ·have:=hxg a hm;rw[qL,if_neg (by omega),a0C];exact h.Vf a (by simp[hm])
    ·obtain rfl:=a0D.1 hm;rw[qL,if_pos he.symm,<-(h.Vf g (by simp)).1];simp
   ·rw[a0E];refine⟨(a0E.1 h.down).1,by simp,λa hm b hm2=>?_⟩;obtain rfl:=a0D.1 hm2;exact hxg a hm
   ·rcases a0B.1 hs with hs|hs
    ·obtain⟨a,hm,e⟩:=h.all s hs;rcases a0B.1 hm with hm|hm
     ·exact⟨a,by simp[hm],e⟩
     ·obtain rfl:=a0D.1 hm;exact⟨(_,_),a0F _ (a0D.2 rfl),e⟩
    ·obtain rfl:=a0D.1 hs;exact⟨(_,_),a0F _ (a0D.2 rfl),he⟩
   ·rcases a0B.1 hm with hm|hm
    ·obtain⟨s,hs,e⟩:=h.some a (by simp[hm]);exact⟨s,by simp[hs],e⟩
    ·obtain rfl:=a0D.1 hm;exact⟨t,by simp,he.symm⟩
  ·rw[if_neg he];refine fresh λa ha=>?_
   obtain⟨s,hs,e⟩:=h.some g (by simp);have:=ht s hs;rcases a0B.1 ha with ha|ha
   ·have:=hxg a ha;omega
   ·obtain rfl:=a0D.1 ha;omega
theorem Eh {v:Int}:∀{p:List Term},fall p->(∀t∈p,fe t.2<=v)->p.Pairwise λs t=>aJ t.2 v<=aJ s.2 v
 |[],_,_=> .nil
 |t::r,h,hc=>by
  refine .cons (λs hs=>?_) (Eh h.2.2.2 (λx hx=>hc x (by simp[hx])));have hg:xg t.2 s.2:=h.2.2.1 s hs;have hs2:=iF h s (by simp[hs]);rcases hg with⟨h,_⟩|⟨_,h,_⟩|⟨u,_,g1,g2⟩
  ·omega
  ·omega
  ·by_cases hu:u=v
   ·subst hu;omega
   ·by_cases h2:u<v
    ·rw[g2 v h2];exact a0a _
    ·have e1:=mK h.2.1 (v:=u) (by have:=hc t (by simp);omega);have e2:=fE hs2 u;omega
theorem xS {v:Int} {p:List Term} (h:fall p) (hc:∀t∈p,fe t.2<=v):Parts v p (bA v p):=by
 suffices H:∀(k:Nat),k<=p.length->Parts v (p.take k) (bA v (p.take k))by
  have:=H p.length (Nat.le_refl _);rwa[a0z]at this
 intro k;induction k with
 |zero=>intro _;exact⟨by simp[bA],by simp[bA],by simp,by simp[bA]⟩
 |succ k ih=>
  intro hk;rw[a0A hk,ou];refine(ih (by omega)).step λs hs=>?_
  obtain⟨i,hi,rfl⟩:=List.mem_take_iff_getElem.1 hs;exact List.pairwise_iff_getElem.1 (Eh h hc) i k (by omega) hk (by omega)
def ow (ρ:Nat->Rat) (v:Int) (s:Rat×Int) (g:Int×List Term):Rat×Int:=(s.1*ρ v.toNat^(s.2-g.1).toNat+rv ρ g.2,g.1)
theorem yL (ρ:Nat->Rat) (v:Int):∀(l:List (Int×List Term)) (s:Rat×Int),l.Pairwise (λg h=>h.1<g.1)->(∀g∈l,0<=g.1/\ g.1<=s.2)->0<=s.2->
  (l.foldl (ow ρ v) s).1*ρ v.toNat^(l.foldl (ow ρ v) s).2.toNat=s.1*ρ v.toNat^s.2.toNat+sJ ρ v l
 |[],s,_,_,_=>by simp only[List.foldl_nil,sJ];grind
 |g::r,s,hp,hl,h0=>by
  obtain⟨h1,h2⟩:=List.pairwise_cons.1 hp;obtain⟨g1,g2⟩:=hl g (by simp);simp only[List.foldl_cons];rw[yL ρ v r _ h2 (λa ha=>⟨(hl a (by simp[ha])).1,by have:=h1 a ha;simp only[ow];omega⟩) (by simpa[ow]using g1)];simp only[ow,sJ];rw[show s.2.toNat=(s.2-g.1).toNat+g.1.toNat by omega,BR]
  grind
end
/- Fractions that are not reduced, in plain words: their sums over the least denominator, their products by powers; how great a value may be. -/
section
theorem Pg {x d y c:Int} (hd:0<d) (hc:0<c):a0I (x*c.tdiv ((d.gcd c:Nat):Int)+y*d.tdiv ((d.gcd c:Nat):Int)) (d*c.tdiv ((d.gcd c:Nat):Int))=a0I x d+a0I y c/\
  0<d*c.tdiv ((d.gcd c:Nat):Int)/\∀m:Int,d ∣ m->c ∣ m->d*c.tdiv ((d.gcd c:Nat):Int) ∣ m:=by
 have hg0:0<a0b d c:=Int.gcd_pos_of_ne_zero_left _ (by omega);obtain⟨a,ha⟩:=Int.gcd_dvd_left d c;obtain⟨b,hb⟩:=Int.gcd_dvd_right d c;obtain⟨g,hg⟩:∃g:Int,((d.gcd c:Nat):Int)=g:=⟨_,rfl⟩
 have hco:a0b a b=1:=by
  have h1:a0b d c=a0b ((d.gcd c:Nat)*a) ((d.gcd c:Nat)*b):=by rw[<-ha,<-hb]
  rw[Int.gcd_mul_left,Int.natAbs_natCast]at h1;exact Nat.eq_of_mul_eq_mul_left hg0 (by omega)
 rw[hg]at ha hb ⊢;have hgp:0<g:=by omega
 have ea:d.tdiv g=a:=by rw[ha];exact a0c _ (by omega)
 have eb:c.tdiv g=b:=by rw[hb];exact a0c _ (by omega)
 rw[ea,eb];have hap:0<a:=a0d (a:=g) (by rw[<-ha];exact hd) (by omega);have hbp:0<b:=a0d (a:=g) (by rw[<-hb];exact hc) (by omega);have hdb:0<d*b:=a0e hd hbp;refine⟨?_,hdb,λm h1 h2=>?_⟩
 ·rw[a0J _ _ (by omega) (by omega),a0K (by omega) (Int.ne_of_gt (a0e hd hc))];rw[ha,hb]
  grind
 ·obtain⟨k,rfl⟩:=h1;refine Int.mul_dvd_mul_left d ?_;rw[ha,hb,a0f]at h2;have h3:b ∣ a*k:=(Int.mul_dvd_mul_iff_left (by omega)).1 h2;have h4:b.natAbs ∣ a.natAbs*k.natAbs:=by rw[<-a0g];exact a0h.2 h3
  exact a0h.1 (Nat.Coprime.dvd_of_dvd_mul_left (show Nat.Coprime b.natAbs a.natAbs by rw[Nat.coprime_comm];exact hco) h4)
theorem K4 {x d y c:Int} (hd:0<d) (hc:0<c) (n:Nat):a0I (x*y^n) (d*c^n)=a0I x d*a0I y c^n/\ 0<d*c^n:=by
 refine⟨?_,a0e hd (a0i hc)⟩;rw[<-a0L]
 congr 1
 induction n with
 |zero=>rw[a0j,a0j,a0G];exact Rat.divInt_self' (by decide)
 |succ n ih=>rw[a0H,<-ih,a0L,a0k,a0k]
def Le (q:Rat) (b:Int):Prop:=∃x d:Int,0<d/\ q=a0I x d/\ (x.natAbs:Int)<=b*d
theorem Le.num {q:Rat} {b y c:Int} (h:Le q b) (hc:0<c) (hq:a0I y c=q):(y.natAbs:Int)<=b*c:=by
 obtain⟨x,d,hd,e,hx⟩:=h;rw[e,a0K (by omega) (by omega)]at hq
 have h1:(y.natAbs:Int)*d=(x.natAbs:Int)*c:=by
  have:=congrArg Int.natAbs hq;rw[a0g,a0g]at this;have e1:(d.natAbs:Int)=d:=by omega
  have e2:(c.natAbs:Int)=c:=by omega
  rw[<-e1,<-e2,<-a0l,<-a0l,this]
 have h2:(y.natAbs:Int)*d<=b*c*d:=by
  rw[h1,show b*c*d=b*d*c by grind];exact a0m hx (by omega)
 exact Int.le_of_mul_le_mul_right h2 hd
theorem Le.mk' {q:Rat} {b x d:Int} (hd:0<d) (hq:a0I x d=q) (h:(x.natAbs:Int)<=b*d):Le q b:=⟨x,d,hd,hq.symm,h⟩
theorem Le.nonneg {q:Rat} {b:Int} (h:Le q b):0<=b:=by
 obtain⟨x,d,hd,_,hx⟩:=h;by_cases hb:0<=b
 ·exact hb
 ·have:b*d<0:=Int.mul_neg_of_neg_of_pos (by omega) hd;omega
theorem Le.mul {q r:Rat} {a b:Int} (h:Le q a) (k:Le r b):Le (q*r) (a*b):=by
 have ha:=h.nonneg;obtain⟨x,d,hd,e,hx⟩:=h;obtain⟨y,c,hc,f,hy⟩:=k;refine⟨x*y,d*c,a0e hd hc,by rw[e,f,a0L],?_⟩;rw[a0g,a0l,show a*b*(d*c)=(a*d)*(b*c)by grind];exact Int.mul_le_mul hx hy (by omega) (a0n ha (by omega))
theorem Le.add {q r:Rat} {a b:Int} (h:Le q a) (k:Le r b):Le (q+r) (a+b):=by
 obtain⟨x,d,hd,e,hx⟩:=h;obtain⟨y,c,hc,f,hy⟩:=k;refine⟨x*c+y*d,d*c,a0e hd hc,by rw[e,f,a0J _ _ (by omega) (by omega)],?_⟩
 have h1:((x*c+y*d).natAbs:Int)<=(x.natAbs:Int)*c+(y.natAbs:Int)*d:=by
  have:=Int.natAbs_add_le (x*c) (y*d);rw[a0g,a0g]at this;have e1:(d.natAbs:Int)=d:=by omega
  have e2:(c.natAbs:Int)=c:=by omega
  have h3:(x.natAbs:Int)*c+(y.natAbs:Int)*d=((x.natAbs*c.natAbs+y.natAbs*d.natAbs:Nat):Int):=by
   rw[a0o,a0l,a0l,e1,e2]
  rw[h3];omega
 have h2:(x.natAbs:Int)*c<=a*d*c:=a0m hx (by omega);have h3:(y.natAbs:Int)*d<=b*c*d:=a0m hy (by omega);have h4:(a+b)*(d*c)=a*d*c+b*c*d:=by grind
 omega
theorem Le.one:Le 1 1:=⟨1,1,by decide,by decide+kernel,by decide⟩
theorem Le.pow {q:Rat} {b:Int} (h:Le q b):∀n:Nat,Le (q^n) (b^n)
 |0=>by rw[a0G,a0j];exact Le.one
 |n+1=>by rw[a0H,a0k];exact(h.pow n).mul h
theorem zV (z:Int):a0I z 1=(z:Rat):=Rat.num_divInt_den (z:Rat)
theorem Le.int (z:Int):Le (z:Rat) (z.natAbs:Int):=⟨z,1,by decide,(zV z).symm,by omega⟩
theorem Le.mono {q:Rat} {a b:Int} (h:Le q a) (hb:a<=b):Le q b:=by
 obtain⟨x,d,hd,e,hx⟩:=h;refine⟨x,d,hd,e,?_⟩;have:=a0m hb (show 0<=d by omega);omega
theorem Le.zero {b:Int} (h:0<=b):Le 0 b:=⟨0,1,by decide,by decide+kernel,by simpa using h⟩
theorem mF {δ:Nat->Int} (hδ:∀u,0<δ u) (f:Nat->Nat):∀n,0<mh f δ n
 |0=>by simp[mh]
 |n+1=>by simp only[mh];exact a0e (mF hδ f n) (a0i (hδ n))
theorem E9 {f g:Nat->Nat} (h:∀u,f u<=g u) (δ:Nat->Int):∀n,mh f δ n ∣ mh g δ n
 |0=>a0p _
 |n+1=>by
  simp only[mh];exact a0q (E9 h δ n) ⟨δ n^(g n-f n),by rw[<-a0r];congr 1;have:=h n;omega⟩
theorem AP {f g:Nat->Nat} (h:∀u,f u<=g u) {μ:Nat->Int} (hμ:∀u,0<μ u) (n:Nat):mh f μ n<=mh g μ n:=
 a0s (mF hμ g n) (E9 h μ n)
theorem Xp {ρ:Nat->Rat} {μ:Nat->Int} (h:∀u,Le (ρ u) (μ u)) (f:Nat->Nat):∀n,Le (rE f ρ n) (mh f μ n)
 |0=>Le.one
 |n+1=>(Xp h f n).mul ((h n).pow _)
def fD (p:List Term) (u:Nat):Nat:=(fV p (u:Int)).toNat
theorem RD {p:List Term} {t:Term} (h:t∈p) (u:Nat):Em t.2 u<=fD p u:=by
 have:=nV h (u:Int);unfold Em fD;omega
theorem Xd {ρ:Nat->Rat} {μ:Nat->Int} (h:∀u,Le (ρ u) (μ u)) (hμ:∀u,0<μ u) (f:Nat->Nat):∀{p:List Term},(∀t∈p,∀u,Em t.2 u<=f u)->Le (rv ρ p) ((fA p:Int)*mh f μ 201)
 |[],_=>Le.zero (by simp[fA])
 |t::r,hp=>by
  have h1:=((Le.int t.1).mul (Xp h (Em t.2) 201)).mono (a0t (AP (hp t (by simp)) hμ 201) (by omega));have h2:=Xd h hμ f (p:=r) (λs hs=>hp s (by simp[hs]));refine(h1.add h2).mono ?_;simp only[fA,a0o]
  grind
end
/- The value of a polynomial by Horner's way, in plain words: numerators and denominators on the way, and how great they may be. -/
section
def wJ (p:List Term) (v:Int) (u:Nat):Nat:=if (u:Int)<v then fD p u else 0
theorem Ms (v e:Nat) (ρ:Nat->Int):∀n,mh (λu=>if u=v then e else 0) ρ n=if v<n then ρ v^e else 1
 |0=>by simp[mh]
 |n+1=>by
  simp only[mh];rw[Ms v e ρ n];by_cases h:n=v
  ·subst h;rw[if_neg (by omega),if_pos rfl,if_pos (by omega)];grind
  ·rw[if_neg h,a0j];by_cases h2:v<n
   ·rw[if_pos h2,if_pos (by omega)];grind
   ·rw[if_neg h2,if_neg (by omega)];grind
theorem E8 {p:List Term} (h:fall p) (δ:Nat->Int) (hc:0<bC p):mh (fD p) δ 201=mh (wJ p (bC p)) δ 201*δ (bC p).toNat^(fV p (bC p)).toNat:=by
 have hb:=nU h;rw[xN (f:=fD p) (g:=λu=>wJ p (bC p) u+(λu=>if u=(bC p).toNat then(fV p (bC p)).toNat else 0) u) δ 201 (λu _=>?_),ER,Ms,if_pos (by omega)];unfold wJ;by_cases h1:(u:Int)<bC p
 ·simp only[if_pos h1];rw[if_neg (by omega)];omega
 ·simp only[if_neg h1];by_cases h2:u=(bC p).toNat
  ·rw[if_pos h2];unfold fD;rw[h2,Int.toNat_of_nonneg (by omega)];omega
  ·rw[if_neg h2];unfold fD;rw[Ab h (by omega)];rfl
theorem DI (p:List Term) (v e:Int) (u:Nat):fD (iB p v e) u<=if (u:Int)=v then 0 else fD p u:=by
 have hb:fV (iB p v e) (u:Int)=0∨ ∃t∈iB p v e,fV (iB p v e) (u:Int)=aJ t.2 u:=qd _ _;unfold fD;rcases hb with hb|⟨t,ht,hb⟩
 ·rw[hb];exact Nat.zero_le _
 ·obtain⟨s,hs,rfl⟩:=List.mem_map.1 ht;have hs:=(List.mem_filter.1 hs).1;rw[hb];simp only[jD];by_cases hu:(u:Int)=v
  ·rw[if_pos hu,if_pos hu];exact Nat.le_refl _
  ·rw[if_neg hu,if_neg hu];have:=nV hs (u:Int);omega
theorem Hw {p:List Term} (h:fall p) (e:Int) (u:Nat):fD (iB p (bC p) e) u<=wJ p (bC p) u:=by
 have h1:=DI p (bC p) e u;unfold wJ;by_cases h2:(u:Int)<bC p
 ·rw[if_pos h2];rw[if_neg (by omega)]at h1;exact h1
 ·rw[if_neg h2];by_cases h3:(u:Int)=bC p
  ·rw[if_pos h3]at h1;exact h1
  ·rw[if_neg h3]at h1;unfold fD at h1 ⊢;rw[Ab h (v:=(u:Int)) (by omega)]at h1;exact h1
def qX:List (Int×List Term)->Nat
 |[]=>0
 |g::r=>fA g.2+qX r
theorem BS (q:List Term):∀p:List Term,fA (p++q)=fA p+fA q
 |[]=>by simp[fA]
 |t::r=>by simp only[a0v,fA,BS q r];omega
theorem pQ (b:List (Int×List Term)):∀a,qX (a++b)=qX a+qX b
 |[]=>by simp[qX]
 |g::r=>by simp only[a0v,qX,pQ b r];omega
theorem Ph (v:Int) (acc:List (Int×List Term)) (t:Term):qX (kr v acc t)=qX acc+t.1.natAbs:=by
 unfold kr;rcases iQ acc with rfl|⟨xs,g,rfl⟩
 ·simp[qX,fA]
 ·rw[a0x];simp only;by_cases h:g.1=aJ t.2 v
  ·rw[if_pos h,a0y,pQ,pQ];simp only[qX,BS,fA];omega
  ·rw[if_neg h,pQ];simp[qX,fA]
theorem AQ (v:Int) (p:List Term):qX (bA v p)=fA p:=by
 suffices H:∀(k:Nat),k<=p.length->qX (bA v (p.take k))=fA (p.take k)by
  have:=H p.length (Nat.le_refl _);rwa[a0z]at this
 intro k;induction k with
 |zero=>intro _;simp[bA,qX,fA]
 |succ k ih=>
  intro hk;rw[a0A hk,ou,Ph,ih (by omega),BS];simp[fA]
structure Hn (μ δ:Int) (L D:Int) (e0:Int) (S:Nat) (e:Int) (s:Rat) (x d:Int):Prop where
 le:e<=e0
 pos:0<d
 val:a0I x d=s
 dvd:d ∣ D*δ^(e0-e).toNat
 big:Le s ((S:Int)*L*μ^(e0-e).toNat)
theorem Hn.start (μ δ:Int) (L D:Int) (e0:Int):Hn μ δ L D e0 0 e0 0 0 1:=
 ⟨a0a _,by decide,by decide+kernel,Int.one_dvd _,Le.zero (by simp)⟩
theorem Hn.times {μ δ L D e0:Int} {S:Nat} {e:Int} {s:Rat} {x d:Int} (h:Hn μ δ L D e0 S e s x d) {ν:Int} {r:Rat} (hδ:0<δ) (hr:a0I ν δ=r) (hμ:Le r μ) {e1:Int} (he:e1<=e):
  Hn μ δ L D e0 S e1 (s*r^(e-e1).toNat) (x*ν^(e-e1).toNat) (d*δ^(e-e1).toNat):=by
 have hf:=K4 (x:=x) (y:=ν) h.pos hδ (e-e1).toNat;have h0:=h.le;have ee:(e0-e1).toNat=(e0-e).toNat+(e-e1).toNat:=by omega
 refine⟨by omega,hf.2,by rw[hf.1,h.val,hr],?_,?_⟩
 ·rw[ee,a0r,<-a0f];exact a0q h.dvd (a0p _)
 ·rw[ee,a0r,<-a0f];exact h.big.mul (hμ.pow _)
theorem Hn.plus {μ δ L D e0:Int} {S:Nat} {e:Int} {s:Rat} {x d:Int} (h:Hn μ δ L D e0 S e s x d) {y c:Int} {t:Rat} {k:Nat} (hc:0<c) (ht:a0I y c=t) (hd:c ∣ D) (hL:0<=L) (hμ:0<μ) (hb:Le t ((k:Int)*L)):
  Hn μ δ L D e0 (S+k) e (s+t) (x*c.tdiv ((d.gcd c:Nat):Int)+y*d.tdiv ((d.gcd c:Nat):Int)) (d*c.tdiv ((d.gcd c:Nat):Int)):=by
 obtain⟨h1,h2,h3⟩:=Pg (x:=x) (y:=y) h.pos hc;refine⟨h.le,h2,by rw[h1,h.val,ht],h3 _ h.dvd (Int.dvd_trans hd (Int.dvd_mul_right ..)),(h.big.add hb).mono ?_⟩;have hp:1<=μ^(e0-e).toNat:=a0i hμ;have hk:0<=(k:Int)*L:=a0n (by omega) hL;have:=a0t hp hk;rw[a0o]
 grind
theorem Hn.num {μ δ L D e0:Int} {S:Nat} {e:Int} {s:Rat} {x d:Int} (h:Hn μ δ L D e0 S e s x d):(x.natAbs:Int)<=(S:Int)*L*μ^(e0-e).toNat*d:=h.big.num h.pos h.val
theorem Hn.den {μ δ L D e0:Int} {S:Nat} {e:Int} {s:Rat} {x d:Int} (h:Hn μ δ L D e0 S e s x d) (hD:0<D) (hδ:0<δ):d<=D*δ^(e0-e).toNat:=a0s (a0e hD (a0i hδ)) h.dvd
end
end Go.Proofs.YtmenbpmciblnlaaGreatDoor
