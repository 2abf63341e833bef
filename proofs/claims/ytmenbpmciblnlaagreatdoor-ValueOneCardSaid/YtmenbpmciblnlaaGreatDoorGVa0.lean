/- VProdP, VQ, VWp, VFr, VWo -/
import Derived.Test.YtmenbpmciblnlaaGreatDoorGV
set_option maxHeartbeats 40000000
set_option maxRecDepth 100000
/- Products, sums and derivatives of polynomials as ones in a variable, in plain words: degrees, classes, initials, derivatives. -/
namespace Go.Proofs.YtmenbpmciblnlaaGreatDoor
open Go.RowKit
end Go.Proofs.YtmenbpmciblnlaaGreatDoor
/- The value of a polynomial at a rational point, in plain words: additive, multiplicative, told by the coefficients of a variable. -/
namespace Go.Proofs.YtmenbpmciblnlaaGreatDoor
def rE (f:Nat->Nat) (ρ:Nat->Rat):Nat->Rat
 |0=>1
 |n+1=>rE f ρ n*ρ n^f n
def rM (ρ:Nat->Rat) (ps:List (Int×Int)):Rat:=rE (O0 ps) ρ 201
def xG (φ:List (Int×Int)->Rat):List Term->Rat
 |[]=>0
 |t::r=>(t.1:Rat)*φ t.2+xG φ r
def rv (ρ:Nat->Rat) (p:List Term):Rat:=xG (rM ρ) p
theorem vw {f g:Nat->Nat} {ρ σ:Nat->Rat}:∀n,(∀u,u<n->f u=g u)->(∀u,u<n->f u≠0->ρ u=σ u)->rE f ρ n=rE g σ n
 |0,_,_=>rfl
 |n+1,h,k=>by
  simp only[rE];rw[vw n (fun u hu=>h u (by omega)) (fun u hu=>k u (by omega)),<-h n (by omega)];by_cases h0:f n=0
  ·rw[h0,Rat.pow_zero,Rat.pow_zero]
  ·rw[k n (by omega) h0]
theorem zY (x:Rat) (a:Nat):∀b:Nat,x^(a+b)=x^a*x^b
 |0=>by rw[Rat.pow_zero,Nat.add_zero];grind
 |b+1=>by rw[<-Nat.add_assoc,Rat.pow_succ,Rat.pow_succ,zY x a b];grind
theorem Pn (f g:Nat->Nat) (ρ:Nat->Rat):∀n,rE (fun u=>f u+g u) ρ n=rE f ρ n*rE g ρ n
 |0=>by simp only[rE];grind
 |n+1=>by
  simp only[rE];rw[Pn f g ρ n,zY]
  grind
theorem Ju (ρ:Nat->Rat):∀n,rE (fun _=>0) ρ n=1
 |0=>rfl
 |n+1=>by simp only[rE];rw[Ju ρ n,Rat.pow_zero];grind
theorem UD (ρ:Nat->Rat):rM ρ []=1:=
 (vw (f:=O0 []) (g:=fun _=>0) 201 (fun _ _=>rfl) (fun _ _ _=>rfl)).trans (Ju ρ 201)
theorem Vr {a b:List (Int×Int)} (ha:bA 0 a=true) (hb:bA 0 b=true) (ρ:Nat->Rat):rM ρ (mh a b)=rM ρ a*rM ρ b:=by
 unfold rM;rw[<-Pn];refine vw 201 (fun u _=>?_) (fun _ _ _=>rfl);have h1:=(fT ha u).1;have h2:=(fT hb u).1;unfold O0;rw[ow ha hb];omega
theorem FH (φ:List (Int×Int)->Rat) (p q:List Term):xG φ (p++q)=xG φ p+xG φ q:=by
 induction p with
 |nil=>simp only[List.nil_append,xG];grind
 |cons t r ih=>simp only[List.cons_append,xG,ih];grind
theorem BQ (ρ:Nat->Rat) (p q:List Term):rv ρ (p++q)=rv ρ p+rv ρ q:=FH _ p q
theorem Po (v:Nat) (e:Nat) (ρ:Nat->Rat):∀n,rE (fun u=>if u=v then e else 0) ρ n=if v<n then ρ v^e else 1
 |0=>by simp[rE]
 |n+1=>by
  simp only[rE];rw[Po v e ρ n];by_cases h:n=v
  ·subst h;rw[if_neg (by omega),if_pos rfl,if_pos (by omega)];grind
  ·rw[if_neg h,Rat.pow_zero];by_cases h2:v<n
   ·rw[if_pos h2,if_pos (by omega)];grind
   ·rw[if_neg h2,if_neg (by omega)];grind
theorem Vs {v:Int} (hv:1<=v/\ v<=200) (e:Int) (ρ:Nat->Rat):rM ρ (tN v e)=ρ v.toNat^e.toNat:=by
 unfold rM;rw[vw (f:=O0 (tN v e)) (g:=fun u=>if u=v.toNat then e.toNat else 0) (σ:=ρ) 201 (fun u _=>?_) (fun _ _ _=>rfl),Po,if_pos (by omega)];unfold O0;rw[mr];by_cases h:(u:Int)=v
 ·rw[if_pos h,if_pos (by omega)]
 ·rw[if_neg h,if_neg (by omega)];rfl
theorem Vt {m:List (Int×Int)} (hm:bA 0 m=true) {v:Int} (hv:1<=v/\ v<=200) (ρ:Nat->Rat):rM ρ m=rM ρ (gB v m)*ρ v.toNat^(aH m v).toNat:=by
 rw[<-Vs hv,<-Vr (Di hm v) (vk hv (fT hm v)),Pp hm hv]
end Go.Proofs.YtmenbpmciblnlaaGreatDoor
/- How value.worth goes, in plain words: the parts of a polynomial by the powers of its greatest variable, Horner's way over them. -/
namespace Go.Proofs.YtmenbpmciblnlaaGreatDoor
theorem iH {α:Type} (l:List α):l=[]∨ ∃xs a,l=xs++[a]:=by
 rcases List.eq_nil_or_concat l with h|⟨xs,a,h⟩
 ·exact .inl h
 ·exact .inr ⟨xs,a,by rw[h,List.concat_eq_append]⟩
def Be (v:Int) (m:List (Int×Int)):Int×List (Int×Int):=
 match m.getLast? with
 |some w=>if w.1=v then(w.2,m.dropLast)else(0,m)
 |none=>(0,m)
theorem BR:∀{ps:List (Int×Int)} {lo:Int},jg lo ps->∀p∈ps,lo<p.1
 |q::r,lo,h,p,hp=>by
  rcases List.mem_cons.1 hp with hp|hp
  ·rw[hp];exact h.1
  ·have:=BR h.2.2.2 p hp;have:=h.1;omega
theorem FI {w:Int×Int}:∀{xs:List (Int×Int)} {lo:Int},jg lo (xs++[w])->∀p∈xs,p.1<w.1
 |q::r,lo,h,p,hp=>by
  rcases List.mem_cons.1 hp with hp|hp
  ·rw[hp];exact BR h.2.2.2 w (by simp)
  ·exact FI h.2.2.2 p hp
theorem FJ (w:Int×Int):∀xs:List (Int×Int),iC (xs++[w])=w.1
 |[]=>by simp[iC]
 |q::r=>by
  simp only[List.cons_append,iC];rw[if_neg (by simp),FJ w r]
theorem FK {v:Int} {ys:List (Int×Int)}:∀{xs:List (Int×Int)},(∀p∈xs,p.1≠v)->aH (xs++ys) v=aH ys v
 |[],_=>rfl
 |q::r,h=>by
  simp only[List.cons_append,aH];rw[if_neg (h q (by simp)),FK (fun p hp=>h p (by simp[hp]))]
theorem Si (v:Int) (xs ys:List (Int×Int)):gB v (xs++ys)=gB v xs++gB v ys:=by simp[gB]
theorem Pq {v:Int} {xs:List (Int×Int)} (h:∀p∈xs,p.1≠v):gB v xs=xs:=List.filter_eq_self.2 fun p hp=>by simpa using h p hp
theorem Nq {m:List (Int×Int)} (hm:bA 0 m=true) {v:Int} (hc:iC m<=v):Be v m=(aH m v,gB v m):=by
 rcases iH m with rfl|⟨xs,w,rfl⟩
 ·rfl
 ·have hl:=FI (gP hm);rw[FJ]at hc;have hx:∀p∈xs,p.1≠v:=fun p hp=>by have:=hl p hp;omega
  unfold Be;rw[List.getLast?_concat,FK hx,Si,Pq hx];simp only;by_cases h:w.1=v
  ·rw[if_pos h,List.dropLast_concat];simp[aH,gB,h]
  ·rw[if_neg h];simp[aH,gB,h]
def jI (v:Int) (acc:List (Int×List Term)) (t:Term):List (Int×List Term):=
 match acc.getLast? with
 |some g=>if g.1=aH t.2 v then acc.dropLast++[(g.1,g.2++[(t.1,gB v t.2)])]else acc++[(aH t.2 v,[(t.1,gB v t.2)])]
 |none=>acc++[(aH t.2 v,[(t.1,gB v t.2)])]
def bg (v:Int) (p:List Term):List (Int×List Term):=p.foldl (jI v) []
theorem mP (v:Int) (p:List Term) (t:Term):bg v (p++[t])=jI v (bg v p) t:=by simp[bg]
def qQ (ρ:Nat->Rat) (v:Int):List (Int×List Term)->Rat
 |[]=>0
 |g::r=>rv ρ g.2*ρ v.toNat^g.1.toNat+qQ ρ v r
theorem vz (ρ:Nat->Rat) (v:Int) (b:List (Int×List Term)):∀a,qQ ρ v (a++b)=qQ ρ v a+qQ ρ v b
 |[]=>by simp only[List.nil_append,qQ];grind
 |g::r=>by simp only[List.cons_append,qQ,vz ρ v b r];grind
theorem LG (ρ:Nat->Rat) (v:Int) (acc:List (Int×List Term)) (t:Term):qQ ρ v (jI v acc t)=qQ ρ v acc+(t.1:Rat)*(rM ρ (gB v t.2)*ρ v.toNat^(aH t.2 v).toNat):=by
 unfold jI;rcases iH acc with rfl|⟨xs,g,rfl⟩
 ·simp only[List.getLast?_nil,List.nil_append,qQ,rv,xG];grind
 ·rw[List.getLast?_concat];simp only;by_cases h:g.1=aH t.2 v
  ·rw[if_pos h,List.dropLast_concat,vz,vz];simp only[qQ];rw[BQ,<-h];simp only[rv,xG];grind
  ·rw[if_neg h,vz];simp only[qQ,rv,xG];grind
theorem GY (ρ:Nat->Rat) {v:Int} (hv:1<=v/\ v<=200) {p:List Term} (h:mJ p):qQ ρ v (bg v p)=rv ρ p:=by
 suffices H:∀(k:Nat),k<=p.length->qQ ρ v (bg v (p.take k))=rv ρ (p.take k)by
  have:=H p.length (Nat.le_refl _);rwa[List.take_length]at this
 intro k;induction k with
 |zero=>intro _;simp[bg,qQ,rv,xG]
 |succ k ih=>
  intro hk;rw[List.take_succ_eq_append_getElem hk,mP,LG,ih (by omega),BQ]
  congr 1
  have hm:=h p[k] (List.getElem_mem _);simp only[rv,xG];rw[<-Vt hm hv];grind
structure Parts (v:Int) (q:List Term) (acc:List (Int×List Term)):Prop where
 Q6:∀g∈acc,g.2=gW q v g.1/\ g.2≠[]
 down:acc.Pairwise fun g h=>h.1<g.1
 all:∀s∈q,∃g∈acc,g.1=aH s.2 v
 some:∀g∈acc,∃s∈q,aH s.2 v=g.1
theorem pF (q:List Term) (t:Term) (v e:Int):gW (q++[t]) v e=gW q v e++if aH t.2 v=e then[(t.1,gB v t.2)]else[]:=by
 unfold gW;by_cases h:aH t.2 v=e<;>simp[h]
theorem Io {q:List Term} {v e:Int} (h:∀s∈q,aH s.2 v≠e):gW q v e=[]:=by
 unfold gW;rw[List.filter_eq_nil_iff.2 (fun s hs=>by simpa using h s hs)];rfl
theorem Parts.step {v:Int} {q:List Term} {acc:List (Int×List Term)} (h:Parts v q acc) {t:Term} (ht:∀s∈q,aH t.2 v<=aH s.2 v):Parts v (q++[t]) (jI v acc t):=by
 have fresh:(∀g∈acc,aH t.2 v<g.1)->Parts v (q++[t]) (acc++[(aH t.2 v,[(t.1,gB v t.2)])]):=fun hg=>by
  refine⟨fun g hm=>?_,?_,fun s hs=>?_,fun g hm=>?_⟩
  ·rcases List.mem_append.1 hm with hm|hm
   ·have:=hg g hm;rw[pF,if_neg (by omega),List.append_nil];exact h.Q6 g hm
   ·obtain rfl:=List.mem_singleton.1 hm;rw[pF,if_pos rfl,Io (fun s hs e=>?_)]
    ·simp
    ·obtain⟨g,hm,he⟩:=h.all s hs;have:=hg g hm;simp only at e;omega
  ·rw[List.pairwise_append];refine⟨h.down,by simp,fun g hm g2 hm2=>?_⟩;obtain rfl:=List.mem_singleton.1 hm2;exact hg g hm
  ·rcases List.mem_append.1 hs with hs|hs
   ·obtain⟨g,hm,he⟩:=h.all s hs;exact⟨g,by simp[hm],he⟩
   ·obtain rfl:=List.mem_singleton.1 hs;exact⟨(_,_),List.mem_append_right _ (List.mem_singleton.2 rfl),rfl⟩
  ·rcases List.mem_append.1 hm with hm|hm
   ·obtain⟨s,hs,he⟩:=h.some g hm;exact⟨s,by simp[hs],he⟩
   ·obtain rfl:=List.mem_singleton.1 hm;exact⟨t,by simp,rfl⟩
 unfold jI;rcases iH acc with rfl|⟨xs,g,rfl⟩
 ·exact fresh (by simp)
 ·rw[List.getLast?_concat];simp only;have hx:=(List.pairwise_append.1 h.down).2.2;have hxg:∀a∈xs,g.1<a.1:=fun a ha=>hx a ha g (by simp)
  by_cases he:g.1=aH t.2 v
  ·rw[if_pos he,List.dropLast_concat];refine⟨fun a hm=>?_,?_,fun s hs=>?_,fun a hm=>?_⟩
   ·rcases List.mem_append.1 hm with hm|hm
    ·have:=hxg a hm;rw[pF,if_neg (by omega),List.append_nil];exact h.Q6 a (by simp[hm])
    ·obtain rfl:=List.mem_singleton.1 hm;rw[pF,if_pos he.symm,<-(h.Q6 g (by simp)).1];simp
   ·rw[List.pairwise_append];refine⟨(List.pairwise_append.1 h.down).1,by simp,fun a hm b hm2=>?_⟩;obtain rfl:=List.mem_singleton.1 hm2;exact hxg a hm
   ·rcases List.mem_append.1 hs with hs|hs
    ·obtain⟨a,hm,e⟩:=h.all s hs;rcases List.mem_append.1 hm with hm|hm
     ·exact⟨a,by simp[hm],e⟩
     ·obtain rfl:=List.mem_singleton.1 hm;exact⟨(_,_),List.mem_append_right _ (List.mem_singleton.2 rfl),e⟩
    ·obtain rfl:=List.mem_singleton.1 hs;exact⟨(_,_),List.mem_append_right _ (List.mem_singleton.2 rfl),he⟩
   ·rcases List.mem_append.1 hm with hm|hm
    ·obtain⟨s,hs,e⟩:=h.some a (by simp[hm]);exact⟨s,by simp[hs],e⟩
    ·obtain rfl:=List.mem_singleton.1 hm;exact⟨t,by simp,he.symm⟩
  ·rw[if_neg he];refine fresh fun a ha=>?_
   obtain⟨s,hs,e⟩:=h.some g (by simp);have:=ht s hs;rcases List.mem_append.1 ha with ha|ha
   ·have:=hxg a ha;omega
   ·obtain rfl:=List.mem_singleton.1 ha;omega
theorem BS {v:Int}:∀{p:List Term},fall p->(∀t∈p,iC t.2<=v)->p.Pairwise fun s t=>aH t.2 v<=aH s.2 v
 |[],_,_=> .nil
 |t::r,h,hc=>by
  refine .cons (fun s hs=>?_) (BS h.2.2.2 (fun x hx=>hc x (by simp[hx])));have hg:BH t.2 s.2:=h.2.2.1 s hs;have hs2:=jQ h s (by simp[hs]);rcases hg with⟨h,_⟩|⟨_,h,_⟩|⟨u,_,g1,g2⟩
  ·omega
  ·omega
  ·by_cases hu:u=v
   ·subst hu;omega
   ·by_cases h2:u<v
    ·rw[g2 v h2];exact Int.le_refl _
    ·have e1:=rR h.2.1 (v:=u) (by have:=hc t (by simp);omega);have e2:=fT hs2 u;omega
theorem vP {v:Int} {p:List Term} (h:fall p) (hc:∀t∈p,iC t.2<=v):Parts v p (bg v p):=by
 suffices H:∀(k:Nat),k<=p.length->Parts v (p.take k) (bg v (p.take k))by
  have:=H p.length (Nat.le_refl _);rwa[List.take_length]at this
 intro k;induction k with
 |zero=>intro _;exact⟨by simp[bg],by simp[bg],by simp,by simp[bg]⟩
 |succ k ih=>
  intro hk;rw[List.take_succ_eq_append_getElem hk,mP];refine(ih (by omega)).step fun s hs=>?_
  obtain⟨i,hi,rfl⟩:=List.mem_take_iff_getElem.1 hs;exact List.pairwise_iff_getElem.1 (BS h hc) i k (by omega) hk (by omega)
def mR (ρ:Nat->Rat) (v:Int) (s:Rat×Int) (g:Int×List Term):Rat×Int:=(s.1*ρ v.toNat^(s.2-g.1).toNat+rv ρ g.2,g.1)
theorem wM (ρ:Nat->Rat) (v:Int):∀(l:List (Int×List Term)) (s:Rat×Int),l.Pairwise (fun g h=>h.1<g.1)->(∀g∈l,0<=g.1/\ g.1<=s.2)->0<=s.2->
  (l.foldl (mR ρ v) s).1*ρ v.toNat^(l.foldl (mR ρ v) s).2.toNat=s.1*ρ v.toNat^s.2.toNat+qQ ρ v l
 |[],s,_,_,_=>by simp only[List.foldl_nil,qQ];grind
 |g::r,s,hp,hl,h0=>by
  obtain⟨h1,h2⟩:=List.pairwise_cons.1 hp;obtain⟨g1,g2⟩:=hl g (by simp);simp only[List.foldl_cons];rw[wM ρ v r _ h2 (fun a ha=>⟨(hl a (by simp[ha])).1,by have:=h1 a ha;simp only[mR];omega⟩) (by simpa[mR]using g1)];simp only[mR,qQ];rw[show s.2.toNat=(s.2-g.1).toNat+g.1.toNat by omega,zY]
  grind
end Go.Proofs.YtmenbpmciblnlaaGreatDoor
/- Fractions that are not reduced, in plain words: their sums over the least denominator, their products by powers; how great a value may be. -/
namespace Go.Proofs.YtmenbpmciblnlaaGreatDoor
theorem LH {x d y c:Int} (hd:0<d) (hc:0<c):Rat.divInt (x*c.tdiv ((d.gcd c:Nat):Int)+y*d.tdiv ((d.gcd c:Nat):Int)) (d*c.tdiv ((d.gcd c:Nat):Int))=Rat.divInt x d+Rat.divInt y c/\
  0<d*c.tdiv ((d.gcd c:Nat):Int)/\∀m:Int,d ∣ m->c ∣ m->d*c.tdiv ((d.gcd c:Nat):Int) ∣ m:=by
 have hg0:0<Int.gcd d c:=Int.gcd_pos_of_ne_zero_left _ (by omega);obtain⟨a,ha⟩:=Int.gcd_dvd_left d c;obtain⟨b,hb⟩:=Int.gcd_dvd_right d c;obtain⟨g,hg⟩:∃g:Int,((d.gcd c:Nat):Int)=g:=⟨_,rfl⟩
 have hco:Int.gcd a b=1:=by
  have h1:Int.gcd d c=Int.gcd ((d.gcd c:Nat)*a) ((d.gcd c:Nat)*b):=by rw[<-ha,<-hb]
  rw[Int.gcd_mul_left,Int.natAbs_natCast]at h1;exact Nat.eq_of_mul_eq_mul_left hg0 (by omega)
 rw[hg]at ha hb ⊢;have hgp:0<g:=by omega
 have ea:d.tdiv g=a:=by rw[ha];exact Int.mul_tdiv_cancel_left _ (by omega)
 have eb:c.tdiv g=b:=by rw[hb];exact Int.mul_tdiv_cancel_left _ (by omega)
 rw[ea,eb];have hap:0<a:=Int.pos_of_mul_pos_right (a:=g) (by rw[<-ha];exact hd) (by omega);have hbp:0<b:=Int.pos_of_mul_pos_right (a:=g) (by rw[<-hb];exact hc) (by omega);have hdb:0<d*b:=Int.mul_pos hd hbp;refine⟨?_,hdb,fun m h1 h2=>?_⟩
 ·rw[Rat.divInt_add_divInt _ _ (by omega) (by omega),Rat.divInt_eq_divInt_iff (by omega) (Int.ne_of_gt (Int.mul_pos hd hc))];rw[ha,hb]
  grind
 ·obtain⟨k,rfl⟩:=h1;refine Int.mul_dvd_mul_left d ?_;rw[ha,hb,Int.mul_assoc]at h2;have h3:b ∣ a*k:=(Int.mul_dvd_mul_iff_left (by omega)).1 h2;have h4:b.natAbs ∣ a.natAbs*k.natAbs:=by rw[<-Int.natAbs_mul];exact Int.natAbs_dvd_natAbs.2 h3
  exact Int.natAbs_dvd_natAbs.1 (Nat.Coprime.dvd_of_dvd_mul_left (show Nat.Coprime b.natAbs a.natAbs by rw[Nat.coprime_comm];exact hco) h4)
theorem Ip {x d y c:Int} (hd:0<d) (hc:0<c) (n:Nat):Rat.divInt (x*y^n) (d*c^n)=Rat.divInt x d*Rat.divInt y c^n/\ 0<d*c^n:=by
 refine⟨?_,Int.mul_pos hd (Int.pow_pos hc)⟩;rw[<-Rat.divInt_mul_divInt]
 congr 1
 induction n with
 |zero=>rw[Int.pow_zero,Int.pow_zero,Rat.pow_zero];exact Rat.divInt_self' (by decide)
 |succ n ih=>rw[Rat.pow_succ,<-ih,Rat.divInt_mul_divInt,Int.pow_succ,Int.pow_succ]
def Le (q:Rat) (b:Int):Prop:=∃x d:Int,0<d/\ q=Rat.divInt x d/\ (x.natAbs:Int)<=b*d
theorem Le.num {q:Rat} {b y c:Int} (h:Le q b) (hc:0<c) (hq:Rat.divInt y c=q):(y.natAbs:Int)<=b*c:=by
 obtain⟨x,d,hd,e,hx⟩:=h;rw[e,Rat.divInt_eq_divInt_iff (by omega) (by omega)]at hq
 have h1:(y.natAbs:Int)*d=(x.natAbs:Int)*c:=by
  have:=congrArg Int.natAbs hq;rw[Int.natAbs_mul,Int.natAbs_mul]at this;have e1:(d.natAbs:Int)=d:=by omega
  have e2:(c.natAbs:Int)=c:=by omega
  rw[<-e1,<-e2,<-Int.natCast_mul,<-Int.natCast_mul,this]
 have h2:(y.natAbs:Int)*d<=b*c*d:=by
  rw[h1,show b*c*d=b*d*c by grind];exact Int.mul_le_mul_of_nonneg_right hx (by omega)
 exact Int.le_of_mul_le_mul_right h2 hd
theorem Le.mk' {q:Rat} {b x d:Int} (hd:0<d) (hq:Rat.divInt x d=q) (h:(x.natAbs:Int)<=b*d):Le q b:=⟨x,d,hd,hq.symm,h⟩
theorem Le.nonneg {q:Rat} {b:Int} (h:Le q b):0<=b:=by
 obtain⟨x,d,hd,_,hx⟩:=h;by_cases hb:0<=b
 ·exact hb
 ·have:b*d<0:=Int.mul_neg_of_neg_of_pos (by omega) hd;omega
theorem Le.mul {q r:Rat} {a b:Int} (h:Le q a) (k:Le r b):Le (q*r) (a*b):=by
 have ha:=h.nonneg;obtain⟨x,d,hd,e,hx⟩:=h;obtain⟨y,c,hc,f,hy⟩:=k;refine⟨x*y,d*c,Int.mul_pos hd hc,by rw[e,f,Rat.divInt_mul_divInt],?_⟩;rw[Int.natAbs_mul,Int.natCast_mul,show a*b*(d*c)=(a*d)*(b*c)by grind];exact Int.mul_le_mul hx hy (by omega) (Int.mul_nonneg ha (by omega))
theorem Le.add {q r:Rat} {a b:Int} (h:Le q a) (k:Le r b):Le (q+r) (a+b):=by
 obtain⟨x,d,hd,e,hx⟩:=h;obtain⟨y,c,hc,f,hy⟩:=k;refine⟨x*c+y*d,d*c,Int.mul_pos hd hc,by rw[e,f,Rat.divInt_add_divInt _ _ (by omega) (by omega)],?_⟩
 have h1:((x*c+y*d).natAbs:Int)<=(x.natAbs:Int)*c+(y.natAbs:Int)*d:=by
  have:=Int.natAbs_add_le (x*c) (y*d);rw[Int.natAbs_mul,Int.natAbs_mul]at this;have e1:(d.natAbs:Int)=d:=by omega
  have e2:(c.natAbs:Int)=c:=by omega
  have h3:(x.natAbs:Int)*c+(y.natAbs:Int)*d=((x.natAbs*c.natAbs+y.natAbs*d.natAbs:Nat):Int):=by
   rw[Int.natCast_add,Int.natCast_mul,Int.natCast_mul,e1,e2]
  rw[h3];omega
 have h2:(x.natAbs:Int)*c<=a*d*c:=Int.mul_le_mul_of_nonneg_right hx (by omega);have h3:(y.natAbs:Int)*d<=b*c*d:=Int.mul_le_mul_of_nonneg_right hy (by omega);have h4:(a+b)*(d*c)=a*d*c+b*c*d:=by grind
 omega
theorem Le.one:Le 1 1:=⟨1,1,by decide,by decide+kernel,by decide⟩
theorem Le.pow {q:Rat} {b:Int} (h:Le q b):∀n:Nat,Le (q^n) (b^n)
 |0=>by rw[Rat.pow_zero,Int.pow_zero];exact Le.one
 |n+1=>by rw[Rat.pow_succ,Int.pow_succ];exact(h.pow n).mul h
theorem Ev (z:Int):Rat.divInt z 1=(z:Rat):=Rat.num_divInt_den (z:Rat)
theorem Le.int (z:Int):Le (z:Rat) (z.natAbs:Int):=⟨z,1,by decide,(Ev z).symm,by omega⟩
theorem Le.mono {q:Rat} {a b:Int} (h:Le q a) (hb:a<=b):Le q b:=by
 obtain⟨x,d,hd,e,hx⟩:=h;refine⟨x,d,hd,e,?_⟩;have:=Int.mul_le_mul_of_nonneg_right hb (show 0<=d by omega);omega
theorem Le.zero {b:Int} (h:0<=b):Le 0 b:=⟨0,1,by decide,by decide+kernel,by simpa using h⟩
theorem kY {δ:Nat->Int} (hδ:∀u,0<δ u) (f:Nat->Nat):∀n,0<lC f δ n
 |0=>by simp[lC]
 |n+1=>by simp only[lC];exact Int.mul_pos (kY hδ f n) (Int.pow_pos (hδ n))
theorem Cs {f g:Nat->Nat} (h:∀u,f u<=g u) (δ:Nat->Int):∀n,lC f δ n ∣ lC g δ n
 |0=>Int.dvd_refl _
 |n+1=>by
  simp only[lC];exact Int.mul_dvd_mul (Cs h δ n) ⟨δ n^(g n-f n),by rw[<-Int.pow_add];congr 1;have:=h n;omega⟩
theorem yX {f g:Nat->Nat} (h:∀u,f u<=g u) {μ:Nat->Int} (hμ:∀u,0<μ u) (n:Nat):lC f μ n<=lC g μ n:=
 Int.le_of_dvd (kY hμ g n) (Cs h μ n)
theorem TM {ρ:Nat->Rat} {μ:Nat->Int} (h:∀u,Le (ρ u) (μ u)) (f:Nat->Nat):∀n,Le (rE f ρ n) (lC f μ n)
 |0=>Le.one
 |n+1=>(TM h f n).mul ((h n).pow _)
def gD (p:List Term) (u:Nat):Nat:=(fK p (u:Int)).toNat
theorem Nw {p:List Term} {t:Term} (h:t∈p) (u:Nat):O0 t.2 u<=gD p u:=by
 have:=mQ h (u:Int);unfold O0 gD;omega
theorem Tx {ρ:Nat->Rat} {μ:Nat->Int} (h:∀u,Le (ρ u) (μ u)) (hμ:∀u,0<μ u) (f:Nat->Nat):∀{p:List Term},(∀t∈p,∀u,O0 t.2 u<=f u)->Le (rv ρ p) ((iI p:Int)*lC f μ 201)
 |[],_=>Le.zero (by simp[iI])
 |t::r,hp=>by
  have h1:=((Le.int t.1).mul (TM h (O0 t.2) 201)).mono (Int.mul_le_mul_of_nonneg_left (yX (hp t (by simp)) hμ 201) (by omega));have h2:=Tx h hμ f (p:=r) (fun s hs=>hp s (by simp[hs]));refine(h1.add h2).mono ?_;simp only[iI,Int.natCast_add]
  grind
end Go.Proofs.YtmenbpmciblnlaaGreatDoor
/- The value of a polynomial by Horner's way, in plain words: numerators and denominators on the way, and how great they may be. -/
namespace Go.Proofs.YtmenbpmciblnlaaGreatDoor
def uI (p:List Term) (v:Int) (u:Nat):Nat:=if (u:Int)<v then gD p u else 0
theorem Jv (v e:Nat) (ρ:Nat->Int):∀n,lC (fun u=>if u=v then e else 0) ρ n=if v<n then ρ v^e else 1
 |0=>by simp[lC]
 |n+1=>by
  simp only[lC];rw[Jv v e ρ n];by_cases h:n=v
  ·subst h;rw[if_neg (by omega),if_pos rfl,if_pos (by omega)];grind
  ·rw[if_neg h,Int.pow_zero];by_cases h2:v<n
   ·rw[if_pos h2,if_pos (by omega)];grind
   ·rw[if_neg h2,if_neg (by omega)];grind
theorem Cr {p:List Term} (h:fall p) (δ:Nat->Int) (hc:0<bF p):lC (gD p) δ 201=lC (uI p (bF p)) δ 201*δ (bF p).toNat^(fK p (bF p)).toNat:=by
 have hb:=o5 h;rw[wm (f:=gD p) (g:=fun u=>uI p (bF p) u+(fun u=>if u=(bF p).toNat then(fK p (bF p)).toNat else 0) u) δ 201 (fun u _=>?_),Db,Jv,if_pos (by omega)];unfold uI;by_cases h1:(u:Int)<bF p
 ·simp only[if_pos h1];rw[if_neg (by omega)];omega
 ·simp only[if_neg h1];by_cases h2:u=(bF p).toNat
  ·rw[if_pos h2];unfold gD;rw[h2,Int.toNat_of_nonneg (by omega)];omega
  ·rw[if_neg h2];unfold gD;rw[zZ h (by omega)];rfl
theorem Bh (p:List Term) (v e:Int) (u:Nat):gD (gW p v e) u<=if (u:Int)=v then 0 else gD p u:=by
 have hb:fK (gW p v e) (u:Int)=0∨ ∃t∈gW p v e,fK (gW p v e) (u:Int)=aH t.2 u:=uJ _ _;unfold gD;rcases hb with hb|⟨t,ht,hb⟩
 ·rw[hb];exact Nat.zero_le _
 ·obtain⟨s,hs,rfl⟩:=List.mem_map.1 ht;have hs:=(List.mem_filter.1 hs).1;rw[hb];simp only[je];by_cases hu:(u:Int)=v
  ·rw[if_pos hu,if_pos hu];exact Nat.le_refl _
  ·rw[if_neg hu,if_neg hu];have:=mQ hs (u:Int);omega
theorem Eu {p:List Term} (h:fall p) (e:Int) (u:Nat):gD (gW p (bF p) e) u<=uI p (bF p) u:=by
 have h1:=Bh p (bF p) e u;unfold uI;by_cases h2:(u:Int)<bF p
 ·rw[if_pos h2];rw[if_neg (by omega)]at h1;exact h1
 ·rw[if_neg h2];by_cases h3:(u:Int)=bF p
  ·rw[if_pos h3]at h1;exact h1
  ·rw[if_neg h3]at h1;unfold gD at h1 ⊢;rw[zZ h (v:=(u:Int)) (by omega)]at h1;exact h1
def pQ:List (Int×List Term)->Nat
 |[]=>0
 |g::r=>iI g.2+pQ r
theorem z8 (q:List Term):∀p:List Term,iI (p++q)=iI p+iI q
 |[]=>by simp[iI]
 |t::r=>by simp only[List.cons_append,iI,z8 q r];omega
theorem og (b:List (Int×List Term)):∀a,pQ (a++b)=pQ a+pQ b
 |[]=>by simp[pQ]
 |g::r=>by simp only[List.cons_append,pQ,og b r];omega
theorem LJ (v:Int) (acc:List (Int×List Term)) (t:Term):pQ (jI v acc t)=pQ acc+t.1.natAbs:=by
 unfold jI;rcases iH acc with rfl|⟨xs,g,rfl⟩
 ·simp[pQ,iI]
 ·rw[List.getLast?_concat];simp only;by_cases h:g.1=aH t.2 v
  ·rw[if_pos h,List.dropLast_concat,og,og];simp only[pQ,z8,iI];omega
  ·rw[if_neg h,og];simp[pQ,iI]
theorem yY (v:Int) (p:List Term):pQ (bg v p)=iI p:=by
 suffices H:∀(k:Nat),k<=p.length->pQ (bg v (p.take k))=iI (p.take k)by
  have:=H p.length (Nat.le_refl _);rwa[List.take_length]at this
 intro k;induction k with
 |zero=>intro _;simp[bg,pQ,iI]
 |succ k ih=>
  intro hk;rw[List.take_succ_eq_append_getElem hk,mP,LJ,ih (by omega),z8];simp[iI]
structure Hn (μ δ:Int) (L D:Int) (e0:Int) (S:Nat) (e:Int) (s:Rat) (x d:Int):Prop where
 le:e<=e0
 pos:0<d
 val:Rat.divInt x d=s
 dvd:d ∣ D*δ^(e0-e).toNat
 big:Le s ((S:Int)*L*μ^(e0-e).toNat)
theorem Hn.start (μ δ:Int) (L D:Int) (e0:Int):Hn μ δ L D e0 0 e0 0 0 1:=
 ⟨Int.le_refl _,by decide,by decide+kernel,Int.one_dvd _,Le.zero (by simp)⟩
theorem Hn.times {μ δ L D e0:Int} {S:Nat} {e:Int} {s:Rat} {x d:Int} (h:Hn μ δ L D e0 S e s x d) {ν:Int} {r:Rat} (hδ:0<δ) (hr:Rat.divInt ν δ=r) (hμ:Le r μ) {e1:Int} (he:e1<=e):
  Hn μ δ L D e0 S e1 (s*r^(e-e1).toNat) (x*ν^(e-e1).toNat) (d*δ^(e-e1).toNat):=by
 have hf:=Ip (x:=x) (y:=ν) h.pos hδ (e-e1).toNat;have h0:=h.le;have ee:(e0-e1).toNat=(e0-e).toNat+(e-e1).toNat:=by omega
 refine⟨by omega,hf.2,by rw[hf.1,h.val,hr],?_,?_⟩
 ·rw[ee,Int.pow_add,<-Int.mul_assoc];exact Int.mul_dvd_mul h.dvd (Int.dvd_refl _)
 ·rw[ee,Int.pow_add,<-Int.mul_assoc];exact h.big.mul (hμ.pow _)
theorem Hn.plus {μ δ L D e0:Int} {S:Nat} {e:Int} {s:Rat} {x d:Int} (h:Hn μ δ L D e0 S e s x d) {y c:Int} {t:Rat} {k:Nat} (hc:0<c) (ht:Rat.divInt y c=t) (hd:c ∣ D) (hL:0<=L) (hμ:0<μ) (hb:Le t ((k:Int)*L)):
  Hn μ δ L D e0 (S+k) e (s+t) (x*c.tdiv ((d.gcd c:Nat):Int)+y*d.tdiv ((d.gcd c:Nat):Int)) (d*c.tdiv ((d.gcd c:Nat):Int)):=by
 obtain⟨h1,h2,h3⟩:=LH (x:=x) (y:=y) h.pos hc;refine⟨h.le,h2,by rw[h1,h.val,ht],h3 _ h.dvd (Int.dvd_trans hd (Int.dvd_mul_right ..)),(h.big.add hb).mono ?_⟩;have hp:1<=μ^(e0-e).toNat:=Int.pow_pos hμ;have hk:0<=(k:Int)*L:=Int.mul_nonneg (by omega) hL;have:=Int.mul_le_mul_of_nonneg_left hp hk;rw[Int.natCast_add]
 grind
theorem Hn.num {μ δ L D e0:Int} {S:Nat} {e:Int} {s:Rat} {x d:Int} (h:Hn μ δ L D e0 S e s x d):(x.natAbs:Int)<=(S:Int)*L*μ^(e0-e).toNat*d:=h.big.num h.pos h.val
theorem Hn.den {μ δ L D e0:Int} {S:Nat} {e:Int} {s:Rat} {x d:Int} (h:Hn μ δ L D e0 S e s x d) (hD:0<D) (hδ:0<δ):d<=D*δ^(e0-e).toNat:=Int.le_of_dvd (Int.mul_pos hD (Int.pow_pos hδ)) h.dvd
end Go.Proofs.YtmenbpmciblnlaaGreatDoor
