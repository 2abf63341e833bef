import Derived.Test.YtmenbpmciblnlaaGreatDoorGV
set_option maxHeartbeats 0
set_option maxRecDepth 100000
open Int renaming dvd_refl->aj0,gcd->ah6,le_of_dvd->aj3,le_refl->ah5,mul_assoc->ai0,mul_dvd_mul->aj1,mul_le_mul_of_nonneg_left->aj4,mul_le_mul_of_nonneg_right->ai7,mul_nonneg->ai8,mul_pos->ah9,mul_tdiv_cancel_left->ah7,natAbs_dvd_natAbs->ai2,natAbs_mul->ai1,natCast_add->ai9,natCast_mul->ai6,pos_of_mul_pos_right->ah8,pow_add->aj2,pow_pos->ai3,pow_succ->ai5,pow_zero->ai4
open List renaming append_nil->ak3,cons_append->aj6,dropLast_concat->aj9,getLast?_concat->aj8,mem_append->ak2,mem_append_right->ak6,mem_cons->aj7,mem_singleton->ak4,nil_append->aj5,pairwise_append->ak5,take_length->ak0,take_succ_eq_append_getElem->ak1
open Nat renaming le_refl->ak7
open Rat renaming divInt->al0,divInt_add_divInt->al1,divInt_eq_divInt_iff->al2,divInt_mul_divInt->al3,pow_succ->ak9,pow_zero->ak8
namespace Go.Proofs.YtmenbpmciblnlaaGreatDoor
section
open Go.RowKit
theorem oz {p q:List ai} (hp:bD p) (hq:bD q) (hf:kC p q):bD (df p q):=(ux (bG hp) (bG hq) hf).1
end
section
def rE (f:Nat->Nat) (ρ:Nat->Rat):Nat->Rat
 |0=>1
 |n+1=>rE f ρ n*ρ n^f n
def rM (ρ:Nat->Rat) (ps:List (Int×Int)):Rat:=rE (EN ps) ρ 201
def gB (φ:List (Int×Int)->Rat):List ai->Rat
 |[]=>0
 |t::r=>(t.1:Rat)*φ t.2+gB φ r
def rv (ρ:Nat->Rat) (p:List ai):Rat:=gB (rM ρ) p
theorem sR {f g:Nat->Nat} {ρ σ:Nat->Rat}:∀n,(∀u,u<n->f u=g u)->(∀u,u<n->f u≠0->ρ u=σ u)->rE f ρ n=rE g σ n
 |0,_,_=>rfl
 |n+1,h,k=>by
  simp only[rE];rw[sR n (λu hu=>h u (by omega)) (λu hu=>k u (by omega)),<-h n (by omega)];by_cases h0:f n=0
  ·rw[h0,ak8,ak8]
  ·rw[k n (by omega) h0]
theorem xJ (x:Rat) (a:Nat):∀b:Nat,x^(a+b)=x^a*x^b
 |0=>by rw[ak8,Nat.add_zero];grind
 |b+1=>by rw[<-Nat.add_assoc,ak9,ak9,xJ x a b];grind
theorem O0 (f g:Nat->Nat) (ρ:Nat->Rat):∀n,rE (λu=>f u+g u) ρ n=rE f ρ n*rE g ρ n
 |0=>by simp only[rE];grind
 |n+1=>by
  simp only[rE];rw[O0 f g ρ n,xJ]
  grind
theorem I4 (ρ:Nat->Rat):∀n,rE (λ_=>0) ρ n=1
 |0=>rfl
 |n+1=>by simp only[rE];rw[I4 ρ n,ak8];grind
theorem UL (ρ:Nat->Rat):rM ρ []=1:=
 (sR (f:=EN []) (g:=λ_=>0) 201 (λ_ _=>rfl) (λ_ _ _=>rfl)).trans (I4 ρ 201)
theorem O1 {a b:List (Int×Int)} (ha:aQ 0 a=true) (hb:aQ 0 b=true) (ρ:Nat->Rat):rM ρ (fL a b)=rM ρ a*rM ρ b:=by
 unfold rM;rw[<-O0];refine sR 201 (λu _=>?_) (λ_ _ _=>rfl);have h1:=(eE ha u).1;have h2:=(eE hb u).1;unfold EN;rw[fg ha hb];omega
theorem uN (φ:List (Int×Int)->Rat) (p q:List ai):gB φ (p++q)=gB φ p+gB φ q:=by
 induction p with
 |nil=>simp only[aj5,gB];grind
 |cons t r ih=>simp only[aj6,gB,ih];grind
theorem Ad (φ:List (Int×Int)->Rat) (c:Int) {m:List (Int×Int)} (hm:aQ 0 m=true):∀{p:List ai},bD p->gB φ (eR p c m)=gB φ p+(c:Rat)*φ m
 |[],_=>by
  unfold eR;by_cases h:c=0
  ·rw[if_pos h,h];simp only[gB];grind
  ·rw[if_neg h];simp only[gB];grind
 |t::r,hp=>by
  have ih:=Ad φ c hm (p:=r) hp.2.2.2;unfold eR;by_cases h1:0<iq t.2 m
  ·rw[if_pos h1];simp only[gB,ih];grind
  ·rw[if_neg h1];by_cases h2:iq t.2 m=0
   ·rw[if_pos h2];have he:=Cg hp.2.1 hm h2;by_cases h3:c+t.1=0
    ·rw[if_pos h3];simp only[gB];rw[he,show t.1= -c by omega,Rat.intCast_neg]
     grind
    ·rw[if_neg h3];simp only[gB];rw[he,Rat.intCast_add]
     grind
   ·rw[if_neg h2];by_cases h:c=0
    ·rw[if_pos h,h];simp only[gB];grind
    ·rw[if_neg h];simp only[gB];grind
theorem tW (φ:List (Int×Int)->Rat):∀{q p:List ai},bD p->gG q->gB φ (eu p q)=gB φ p+gB φ q
 |[],p,_,_=>by simp only[eu,gB];grind
 |t::r,p,hp,hq=>by
  have h1:=mr t.1 hp (hq t (by simp));simp only[eu,gB];rw[tW φ (q:=r) h1.1 (λs hs=>hq s (by simp[hs])),Ad φ t.1 (hq t (by simp)) hp]
  grind
theorem O2 (φ:List (Int×Int)->Rat) {l:List ai} (h:gG l):gB φ (H7 l)=gB φ l:=by
 rw[H7,tW φ (p:=[]) trivial h];simp only[gB];grind
theorem Ae {φ:List (Int×Int)->Rat} {t:ai}:∀{q:List ai},(∀s∈q,φ (fL t.2 s.2)=φ t.2*φ s.2)->gB φ (qM t q)=(t.1:Rat)*φ t.2*gB φ q
 |[],_=>by simp only[qM,gB,List.map_nil];grind
 |s::r,h=>by
  have ih:=Ae (t:=t) (q:=r) (λx hx=>h x (by simp[hx]));unfold qM at ih ⊢;simp only[List.map_cons,gB];rw[ih,h s (by simp),Rat.intCast_mul]
  grind
theorem Af {φ:List (Int×Int)->Rat} {q:List ai}:∀{p:List ai},(∀t∈p,∀s∈q,φ (fL t.2 s.2)=φ t.2*φ s.2)->gB φ (jX p q)=gB φ p*gB φ q
 |[],_=>by simp only[jX,gB];grind
 |t::r,h=>by
  simp only[jX,gB];rw[uN,Ae (h t (by simp)),Af (p:=r) (λx hx=>h x (by simp[hx]))]
  grind
theorem Ag (ρ:Nat->Rat) (p q:List ai):rv ρ (p++q)=rv ρ p+rv ρ q:=uN _ p q
theorem Qa (ρ:Nat->Rat) {p q:List ai} (hp:bD p) (hq:gG q):rv ρ (eu p q)=rv ρ p+rv ρ q:=tW _ hp hq
theorem I' (ρ:Nat->Rat) {p q:List ai} (hp:gG p) (hq:gG q) (h:kC p q):rv ρ (df p q)=rv ρ p*rv ρ q:=by
 unfold rv;rw[df,O2 _ (pS h),Af (λt ht s hs=>O1 (hp t ht) (hq s hs) ρ)]
theorem O3 (v:Nat) (e:Nat) (ρ:Nat->Rat):∀n,rE (λu=>if u=v then e else 0) ρ n=if v<n then ρ v^e else 1
 |0=>by simp[rE]
 |n+1=>by
  simp only[rE];rw[O3 v e ρ n];by_cases h:n=v
  ·subst h;rw[if_neg (by omega),if_pos rfl,if_pos (by omega)];grind
  ·rw[if_neg h,ak8];by_cases h2:v<n
   ·rw[if_pos h2,if_pos (by omega)];grind
   ·rw[if_neg h2,if_neg (by omega)];grind
theorem VJ {v:Int} (hv:1<=v/\ v<=200) (e:Int) (ρ:Nat->Rat):rM ρ (BQ v e)=ρ v.toNat^e.toNat:=by
 unfold rM;rw[sR (f:=EN (BQ v e)) (g:=λu=>if u=v.toNat then e.toNat else 0) (σ:=ρ) 201 (λu _=>?_) (λ_ _ _=>rfl),O3,if_pos (by omega)];unfold EN;rw[El];by_cases h:(u:Int)=v
 ·rw[if_pos h,if_pos (by omega)]
 ·rw[if_neg h,if_neg (by omega)];rfl
theorem VK {m:List (Int×Int)} (hm:aQ 0 m=true) {v:Int} (hv:1<=v/\ v<=200) (ρ:Nat->Rat):rM ρ m=rM ρ (fy v m)*ρ v.toNat^(aI m v).toNat:=by
 rw[<-VJ hv,<-O1 (BR hm v) (I5 hv (eE hm v)),O4 hm hv]
end
section
theorem fX {α:Type} (l:List α):l=[]∨ ∃xs a,l=xs++[a]:=by
 rcases List.eq_nil_or_concat l with h|⟨xs,a,h⟩
 ·exact .inl h
 ·exact .inr ⟨xs,a,by rw[h,List.concat_eq_append]⟩
def zw (v:Int) (m:List (Int×Int)):Int×List (Int×Int):=
 match m.getLast? with
 |some w=>if w.1=v then(w.2,m.dropLast)else(0,m)
 |none=>(0,m)
theorem Ah:∀{ps:List (Int×Int)} {lo:Int},ic lo ps->∀p∈ps,lo<p.1
 |q::r,lo,h,p,hp=>by
  rcases aj7.1 hp with hp|hp
  ·rw[hp];exact h.1
  ·have:=Ah h.2.2.2 p hp;have:=h.1;omega
theorem Em {w:Int×Int}:∀{xs:List (Int×Int)} {lo:Int},ic lo (xs++[w])->∀p∈xs,p.1<w.1
 |q::r,lo,h,p,hp=>by
  rcases aj7.1 hp with hp|hp
  ·rw[hp];exact Ah h.2.2.2 w (by simp)
  ·exact Em h.2.2.2 p hp
theorem Eo (w:Int×Int):∀xs:List (Int×Int),fU (xs++[w])=w.1
 |[]=>by simp[fU]
 |q::r=>by
  simp only[aj6,fU];rw[if_neg (by simp),Eo w r]
theorem Ep {v:Int} {ys:List (Int×Int)}:∀{xs:List (Int×Int)},(∀p∈xs,p.1≠v)->aI (xs++ys) v=aI ys v
 |[],_=>rfl
 |q::r,h=>by
  simp only[aj6,aI];rw[if_neg (h q (by simp)),Ep (λp hp=>h p (by simp[hp]))]
theorem Sr (v:Int) (xs ys:List (Int×Int)):fy v (xs++ys)=fy v xs++fy v ys:=by simp[fy]
theorem O5 {v:Int} {xs:List (Int×Int)} (h:∀p∈xs,p.1≠v):fy v xs=xs:=List.filter_eq_self.2 λp hp=>by simpa using h p hp
theorem Nl {m:List (Int×Int)} (hm:aQ 0 m=true) {v:Int} (hc:fU m<=v):zw v m=(aI m v,fy v m):=by
 rcases fX m with rfl|⟨xs,w,rfl⟩
 ·rfl
 ·have hl:=Em (fw hm);rw[Eo]at hc;have hx:∀p∈xs,p.1≠v:=λp hp=>by have:=hl p hp;omega
  unfold zw;rw[aj8,Ep hx,Sr,O5 hx];simp only;by_cases h:w.1=v
  ·rw[if_pos h,aj9];simp[aI,fy,h]
  ·rw[if_neg h];simp[aI,fy,h]
def iI (v:Int) (acc:List (Int×List ai)) (t:ai):List (Int×List ai):=
 match acc.getLast? with
 |some g=>if g.1=aI t.2 v then acc.dropLast++[(g.1,g.2++[(t.1,fy v t.2)])]else acc++[(aI t.2 v,[(t.1,fy v t.2)])]
 |none=>acc++[(aI t.2 v,[(t.1,fy v t.2)])]
def bs (v:Int) (p:List ai):List (Int×List ai):=p.foldl (iI v) []
theorem lK (v:Int) (p:List ai) (t:ai):bs v (p++[t])=iI v (bs v p) t:=by simp[bs]
def pJ (ρ:Nat->Rat) (v:Int):List (Int×List ai)->Rat
 |[]=>0
 |g::r=>rv ρ g.2*ρ v.toNat^g.1.toNat+pJ ρ v r
theorem sS (ρ:Nat->Rat) (v:Int) (b:List (Int×List ai)):∀a,pJ ρ v (a++b)=pJ ρ v a+pJ ρ v b
 |[]=>by simp only[aj5,pJ];grind
 |g::r=>by simp only[aj6,pJ,sS ρ v b r];grind
theorem Lm (ρ:Nat->Rat) (v:Int) (acc:List (Int×List ai)) (t:ai):pJ ρ v (iI v acc t)=pJ ρ v acc+(t.1:Rat)*(rM ρ (fy v t.2)*ρ v.toNat^(aI t.2 v).toNat):=by
 unfold iI;rcases fX acc with rfl|⟨xs,g,rfl⟩
 ·simp only[List.getLast?_nil,aj5,pJ,rv,gB];grind
 ·rw[aj8];simp only;by_cases h:g.1=aI t.2 v
  ·rw[if_pos h,aj9,sS,sS];simp only[pJ];rw[Ag,<-h];simp only[rv,gB];grind
  ·rw[if_neg h,sS];simp only[pJ,rv,gB];grind
theorem F7 (ρ:Nat->Rat) {v:Int} (hv:1<=v/\ v<=200) {p:List ai} (h:gG p):pJ ρ v (bs v p)=rv ρ p:=by
 suffices H:∀(k:Nat),k<=p.length->pJ ρ v (bs v (p.take k))=rv ρ (p.take k)by
  have:=H p.length (ak7 _);rwa[ak0]at this
 intro k;induction k with
 |zero=>intro _;simp[bs,pJ,rv,gB]
 |succ k ih=>
  intro hk;rw[ak1 hk,lK,Lm,ih (by omega),Ag]
  congr 1
  have hm:=h p[k] (List.getElem_mem _);simp only[rv,gB];rw[<-VK hm hv];grind
structure Ap (v:Int) (q:List ai) (acc:List (Int×List ai)):Prop where
 Q9:∀g∈acc,g.2=fQ q v g.1/\ g.2≠[]
 down:acc.Pairwise λg h=>h.1<g.1
 all:∀s∈q,∃g∈acc,g.1=aI s.2 v
 some:∀g∈acc,∃s∈q,aI s.2 v=g.1
theorem nS (q:List ai) (t:ai) (v e:Int):fQ (q++[t]) v e=fQ q v e++if aI t.2 v=e then[(t.1,fy v t.2)]else[]:=by
 unfold fQ;by_cases h:aI t.2 v=e<;>simp[h]
theorem GY {q:List ai} {v e:Int} (h:∀s∈q,aI s.2 v≠e):fQ q v e=[]:=by
 unfold fQ;rw[List.filter_eq_nil_iff.2 (λs hs=>by simpa using h s hs)];rfl
theorem Ap.step {v:Int} {q:List ai} {acc:List (Int×List ai)} (h:Ap v q acc) {t:ai} (ht:∀s∈q,aI t.2 v<=aI s.2 v):Ap v (q++[t]) (iI v acc t):=by
 have fresh:(∀g∈acc,aI t.2 v<g.1)->Ap v (q++[t]) (acc++[(aI t.2 v,[(t.1,fy v t.2)])]):=λhg=>by
  refine⟨λg hm=>?_,?_,λs hs=>?_,λg hm=>?_⟩
  ·rcases ak2.1 hm with hm|hm
   ·have:=hg g hm;rw[nS,if_neg (by omega),ak3];exact h.Q9 g hm
   ·obtain rfl:=ak4.1 hm;rw[nS,if_pos rfl,GY (λs hs e=>?_)]
    ·simp
    ·obtain⟨g,hm,he⟩:=h.all s hs;have:=hg g hm;simp only at e;omega
  ·rw[ak5];refine⟨h.down,by simp,λg hm g2 hm2=>?_⟩;obtain rfl:=ak4.1 hm2;exact hg g hm
  ·rcases ak2.1 hs with hs|hs
   ·obtain⟨g,hm,he⟩:=h.all s hs;exact⟨g,by simp[hm],he⟩
   ·obtain rfl:=ak4.1 hs;exact⟨(_,_),ak6 _ (ak4.2 rfl),rfl⟩
  ·rcases ak2.1 hm with hm|hm
   ·obtain⟨s,hs,he⟩:=h.some g hm;exact⟨s,by simp[hs],he⟩
   ·obtain rfl:=ak4.1 hm;exact⟨t,by simp,rfl⟩
 unfold iI;rcases fX acc with rfl|⟨xs,g,rfl⟩
 ·exact fresh (by simp)
 ·rw[aj8];simp only;have hx:=(ak5.1 h.down).2.2;have hxg:∀a∈xs,g.1<a.1:=λa ha=>hx a ha g (by simp)
  by_cases he:g.1=aI t.2 v
  ·rw[if_pos he,aj9];refine⟨λa hm=>?_,?_,λs hs=>?_,λa hm=>?_⟩
   ·rcases ak2.1 hm with hm|hm
    ·have:=hxg a hm;rw[nS,if_neg (by omega),ak3];exact h.Q9 a (by simp[hm])
    ·obtain rfl:=ak4.1 hm;rw[nS,if_pos he.symm,<-(h.Q9 g (by simp)).1];simp
   ·rw[ak5];refine⟨(ak5.1 h.down).1,by simp,λa hm b hm2=>?_⟩;obtain rfl:=ak4.1 hm2;exact hxg a hm
   ·rcases ak2.1 hs with hs|hs
    ·obtain⟨a,hm,e⟩:=h.all s hs;rcases ak2.1 hm with hm|hm
     ·exact⟨a,by simp[hm],e⟩
     ·obtain rfl:=ak4.1 hm;exact⟨(_,_),ak6 _ (ak4.2 rfl),e⟩
    ·obtain rfl:=ak4.1 hs;exact⟨(_,_),ak6 _ (ak4.2 rfl),he⟩
   ·rcases ak2.1 hm with hm|hm
    ·obtain⟨s,hs,e⟩:=h.some a (by simp[hm]);exact⟨s,by simp[hs],e⟩
    ·obtain rfl:=ak4.1 hm;exact⟨t,by simp,he.symm⟩
  ·rw[if_neg he];refine fresh λa ha=>?_
   obtain⟨s,hs,e⟩:=h.some g (by simp);have:=ht s hs;rcases ak2.1 ha with ha|ha
   ·have:=hxg a ha;omega
   ·obtain rfl:=ak4.1 ha;omega
theorem Ai {v:Int}:∀{p:List ai},bD p->(∀t∈p,fU t.2<=v)->p.Pairwise λs t=>aI t.2 v<=aI s.2 v
 |[],_,_=> .nil
 |t::r,h,hc=>by
  refine .cons (λs hs=>?_) (Ai h.2.2.2 (λx hx=>hc x (by simp[hx])));have hg:ni t.2 s.2:=h.2.2.1 s hs;have hs2:=cC h s (by simp[hs]);rcases hg with⟨h,_⟩|⟨_,h,_⟩|⟨u,_,g1,g2⟩
  ·omega
  ·omega
  ·by_cases hu:u=v
   ·subst hu;omega
   ·by_cases h2:u<v
    ·rw[g2 v h2];exact ah5 _
    ·have e1:=mg h.2.1 (v:=u) (by have:=hc t (by simp);omega);have e2:=eE hs2 u;omega
theorem tK {v:Int} {p:List ai} (h:bD p) (hc:∀t∈p,fU t.2<=v):Ap v p (bs v p):=by
 suffices H:∀(k:Nat),k<=p.length->Ap v (p.take k) (bs v (p.take k))by
  have:=H p.length (ak7 _);rwa[ak0]at this
 intro k;induction k with
 |zero=>intro _;exact⟨by simp[bs],by simp[bs],by simp,by simp[bs]⟩
 |succ k ih=>
  intro hk;rw[ak1 hk,lK];refine(ih (by omega)).step λs hs=>?_
  obtain⟨i,hi,rfl⟩:=List.mem_take_iff_getElem.1 hs;exact List.pairwise_iff_getElem.1 (Ai h hc) i k (by omega) hk (by omega)
def lM (ρ:Nat->Rat) (v:Int) (s:Rat×Int) (g:Int×List ai):Rat×Int:=(s.1*ρ v.toNat^(s.2-g.1).toNat+rv ρ g.2,g.1)
theorem uB (ρ:Nat->Rat) (v:Int):∀(l:List (Int×List ai)) (s:Rat×Int),l.Pairwise (λg h=>h.1<g.1)->(∀g∈l,0<=g.1/\ g.1<=s.2)->0<=s.2->
  (l.foldl (lM ρ v) s).1*ρ v.toNat^(l.foldl (lM ρ v) s).2.toNat=s.1*ρ v.toNat^s.2.toNat+pJ ρ v l
 |[],s,_,_,_=>by simp only[List.foldl_nil,pJ];grind
 |g::r,s,hp,hl,h0=>by
  obtain⟨h1,h2⟩:=List.pairwise_cons.1 hp;obtain⟨g1,g2⟩:=hl g (by simp);simp only[List.foldl_cons];rw[uB ρ v r _ h2 (λa ha=>⟨(hl a (by simp[ha])).1,by have:=h1 a ha;simp only[lM];omega⟩) (by simpa[lM]using g1)];simp only[lM,pJ];rw[show s.2.toNat=(s.2-g.1).toNat+g.1.toNat by omega,xJ]
  grind
end
section
theorem Ln {x d y c:Int} (hd:0<d) (hc:0<c):al0 (x*c.tdiv ((d.gcd c:Nat):Int)+y*d.tdiv ((d.gcd c:Nat):Int)) (d*c.tdiv ((d.gcd c:Nat):Int))=al0 x d+al0 y c/\
  0<d*c.tdiv ((d.gcd c:Nat):Int)/\∀m:Int,d ∣ m->c ∣ m->d*c.tdiv ((d.gcd c:Nat):Int) ∣ m:=by
 have hg0:0<ah6 d c:=Int.gcd_pos_of_ne_zero_left _ (by omega);obtain⟨a,ha⟩:=Int.gcd_dvd_left d c;obtain⟨b,hb⟩:=Int.gcd_dvd_right d c;obtain⟨g,hg⟩:∃g:Int,((d.gcd c:Nat):Int)=g:=⟨_,rfl⟩
 have hco:ah6 a b=1:=by
  have h1:ah6 d c=ah6 ((d.gcd c:Nat)*a) ((d.gcd c:Nat)*b):=by rw[<-ha,<-hb]
  rw[Int.gcd_mul_left,Int.natAbs_natCast]at h1;exact Nat.eq_of_mul_eq_mul_left hg0 (by omega)
 rw[hg]at ha hb ⊢;have hgp:0<g:=by omega
 have ea:d.tdiv g=a:=by rw[ha];exact ah7 _ (by omega)
 have eb:c.tdiv g=b:=by rw[hb];exact ah7 _ (by omega)
 rw[ea,eb];have hap:0<a:=ah8 (a:=g) (by rw[<-ha];exact hd) (by omega);have hbp:0<b:=ah8 (a:=g) (by rw[<-hb];exact hc) (by omega);have hdb:0<d*b:=ah9 hd hbp;refine⟨?_,hdb,λm h1 h2=>?_⟩
 ·rw[al1 _ _ (by omega) (by omega),al2 (by omega) (Int.ne_of_gt (ah9 hd hc))];rw[ha,hb]
  grind
 ·obtain⟨k,rfl⟩:=h1;refine Int.mul_dvd_mul_left d ?_;rw[ha,hb,ai0]at h2;have h3:b ∣ a*k:=(Int.mul_dvd_mul_iff_left (by omega)).1 h2;have h4:b.natAbs ∣ a.natAbs*k.natAbs:=by rw[<-ai1];exact ai2.2 h3
  exact ai2.1 (Nat.Coprime.dvd_of_dvd_mul_left (show Nat.Coprime b.natAbs a.natAbs by rw[Nat.coprime_comm];exact hco) h4)
theorem GZ {x d y c:Int} (hd:0<d) (hc:0<c) (n:Nat):al0 (x*y^n) (d*c^n)=al0 x d*al0 y c^n/\ 0<d*c^n:=by
 refine⟨?_,ah9 hd (ai3 hc)⟩;rw[<-al3]
 congr 1
 induction n with
 |zero=>rw[ai4,ai4,ak8];exact Rat.divInt_self' (by decide)
 |succ n ih=>rw[ak9,<-ih,al3,ai5,ai5]
def Le (q:Rat) (b:Int):Prop:=∃x d:Int,0<d/\ q=al0 x d/\ (x.natAbs:Int)<=b*d
theorem Le.num {q:Rat} {b y c:Int} (h:Le q b) (hc:0<c) (hq:al0 y c=q):(y.natAbs:Int)<=b*c:=by
 obtain⟨x,d,hd,e,hx⟩:=h;rw[e,al2 (by omega) (by omega)]at hq
 have h1:(y.natAbs:Int)*d=(x.natAbs:Int)*c:=by
  have:=congrArg Int.natAbs hq;rw[ai1,ai1]at this;have e1:(d.natAbs:Int)=d:=by omega
  have e2:(c.natAbs:Int)=c:=by omega
  rw[<-e1,<-e2,<-ai6,<-ai6,this]
 have h2:(y.natAbs:Int)*d<=b*c*d:=by
  rw[h1,show b*c*d=b*d*c by grind];exact ai7 hx (by omega)
 exact Int.le_of_mul_le_mul_right h2 hd
theorem Le.mk' {q:Rat} {b x d:Int} (hd:0<d) (hq:al0 x d=q) (h:(x.natAbs:Int)<=b*d):Le q b:=⟨x,d,hd,hq.symm,h⟩
theorem Le.Wn {q:Rat} {b:Int} (h:Le q b):0<=b:=by
 obtain⟨x,d,hd,_,hx⟩:=h;by_cases hb:0<=b
 ·exact hb
 ·have:b*d<0:=Int.mul_neg_of_neg_of_pos (by omega) hd;omega
theorem Le.mul {q r:Rat} {a b:Int} (h:Le q a) (k:Le r b):Le (q*r) (a*b):=by
 have ha:=h.Wn;obtain⟨x,d,hd,e,hx⟩:=h;obtain⟨y,c,hc,f,hy⟩:=k;refine⟨x*y,d*c,ah9 hd hc,by rw[e,f,al3],?_⟩;rw[ai1,ai6,show a*b*(d*c)=(a*d)*(b*c)by grind];exact Int.mul_le_mul hx hy (by omega) (ai8 ha (by omega))
theorem Le.add {q r:Rat} {a b:Int} (h:Le q a) (k:Le r b):Le (q+r) (a+b):=by
 obtain⟨x,d,hd,e,hx⟩:=h;obtain⟨y,c,hc,f,hy⟩:=k;refine⟨x*c+y*d,d*c,ah9 hd hc,by rw[e,f,al1 _ _ (by omega) (by omega)],?_⟩
 have h1:((x*c+y*d).natAbs:Int)<=(x.natAbs:Int)*c+(y.natAbs:Int)*d:=by
  have:=Int.natAbs_add_le (x*c) (y*d);rw[ai1,ai1]at this;have e1:(d.natAbs:Int)=d:=by omega
  have e2:(c.natAbs:Int)=c:=by omega
  have h3:(x.natAbs:Int)*c+(y.natAbs:Int)*d=((x.natAbs*c.natAbs+y.natAbs*d.natAbs:Nat):Int):=by
   rw[ai9,ai6,ai6,e1,e2]
  rw[h3];omega
 have h2:(x.natAbs:Int)*c<=a*d*c:=ai7 hx (by omega);have h3:(y.natAbs:Int)*d<=b*c*d:=ai7 hy (by omega);have h4:(a+b)*(d*c)=a*d*c+b*c*d:=by grind
 omega
theorem Le.one:Le 1 1:=⟨1,1,by decide,by decide+kernel,by decide⟩
theorem Le.TN {q:Rat} {b:Int} (h:Le q b):∀n:Nat,Le (q^n) (b^n)
 |0=>by rw[ak8,ai4];exact Le.one
 |n+1=>by rw[ak9,ai5];exact(h.TN n).mul h
theorem Df (z:Int):al0 z 1=(z:Rat):=Rat.num_divInt_den (z:Rat)
theorem Le.int (z:Int):Le (z:Rat) (z.natAbs:Int):=⟨z,1,by decide,(Df z).symm,by omega⟩
theorem Le.mono {q:Rat} {a b:Int} (h:Le q a) (hb:a<=b):Le q b:=by
 obtain⟨x,d,hd,e,hx⟩:=h;refine⟨x,d,hd,e,?_⟩;have:=ai7 hb (show 0<=d by omega);omega
theorem Le.zero {b:Int} (h:0<=b):Le 0 b:=⟨0,1,by decide,by decide+kernel,by simpa using h⟩
theorem kh {δ:Nat->Int} (hδ:∀u,0<δ u) (f:Nat->Nat):∀n,0<jU f δ n
 |0=>by simp[jU]
 |n+1=>by simp only[jU];exact ah9 (kh hδ f n) (ai3 (hδ n))
theorem Ba {f g:Nat->Nat} (h:∀u,f u<=g u) (δ:Nat->Int):∀n,jU f δ n ∣ jU g δ n
 |0=>aj0 _
 |n+1=>by
  simp only[jU];exact aj1 (Ba h δ n) ⟨δ n^(g n-f n),by rw[<-aj2];congr 1;have:=h n;omega⟩
theorem wN {f g:Nat->Nat} (h:∀u,f u<=g u) {μ:Nat->Int} (hμ:∀u,0<μ u) (n:Nat):jU f μ n<=jU g μ n:=
 aj3 (kh hμ g n) (Ba h μ n)
theorem TF {ρ:Nat->Rat} {μ:Nat->Int} (h:∀u,Le (ρ u) (μ u)) (f:Nat->Nat):∀n,Le (rE f ρ n) (jU f μ n)
 |0=>Le.one
 |n+1=>(TF h f n).mul ((h n).TN _)
def dK (p:List ai) (u:Nat):Nat:=(iN p (u:Int)).toNat
theorem Nu {p:List ai} {t:ai} (h:t∈p) (u:Nat):EN t.2 u<=dK p u:=by
 have:=lL h (u:Int);unfold EN dK;omega
theorem Tm {ρ:Nat->Rat} {μ:Nat->Int} (h:∀u,Le (ρ u) (μ u)) (hμ:∀u,0<μ u) (f:Nat->Nat):∀{p:List ai},(∀t∈p,∀u,EN t.2 u<=f u)->Le (rv ρ p) ((bY p:Int)*jU f μ 201)
 |[],_=>Le.zero (by simp[bY])
 |t::r,hp=>by
  have h1:=((Le.int t.1).mul (TF h (EN t.2) 201)).mono (aj4 (wN (hp t (by simp)) hμ 201) (by omega));have h2:=Tm h hμ f (p:=r) (λs hs=>hp s (by simp[hs]));refine(h1.add h2).mono ?_;simp only[bY,ai9]
  grind
end
section
def sA (p:List ai) (v:Int) (u:Nat):Nat:=if (u:Int)<v then dK p u else 0
theorem I6 (v e:Nat) (ρ:Nat->Int):∀n,jU (λu=>if u=v then e else 0) ρ n=if v<n then ρ v^e else 1
 |0=>by simp[jU]
 |n+1=>by
  simp only[jU];rw[I6 v e ρ n];by_cases h:n=v
  ·subst h;rw[if_neg (by omega),if_pos rfl,if_pos (by omega)];grind
  ·rw[if_neg h,ai4];by_cases h2:v<n
   ·rw[if_pos h2,if_pos (by omega)];grind
   ·rw[if_neg h2,if_neg (by omega)];grind
theorem A8 {p:List ai} (h:bD p) (δ:Nat->Int) (hc:0<bA p):jU (dK p) δ 201=jU (sA p (bA p)) δ 201*δ (bA p).toNat^(iN p (bA p)).toNat:=by
 have hb:=nK h;rw[tH (f:=dK p) (g:=λu=>sA p (bA p) u+(λu=>if u=(bA p).toNat then(iN p (bA p)).toNat else 0) u) δ 201 (λu _=>?_),AU,I6,if_pos (by omega)];unfold sA;by_cases h1:(u:Int)<bA p
 ·simp only[if_pos h1];rw[if_neg (by omega)];omega
 ·simp only[if_neg h1];by_cases h2:u=(bA p).toNat
  ·rw[if_pos h2];unfold dK;rw[h2,Int.toNat_of_nonneg (by omega)];omega
  ·rw[if_neg h2];unfold dK;rw[xK h (by omega)];rfl
theorem zB (p:List ai) (v e:Int) (u:Nat):dK (fQ p v e) u<=if (u:Int)=v then 0 else dK p u:=by
 have hb:iN (fQ p v e) (u:Int)=0∨ ∃t∈fQ p v e,iN (fQ p v e) (u:Int)=aI t.2 u:=pR _ _;unfold dK;rcases hb with hb|⟨t,ht,hb⟩
 ·rw[hb];exact Nat.zero_le _
 ·obtain⟨s,hs,rfl⟩:=List.mem_map.1 ht;have hs:=(List.mem_filter.1 hs).1;rw[hb];simp only[iJ];by_cases hu:(u:Int)=v
  ·rw[if_pos hu,if_pos hu];exact ak7 _
  ·rw[if_neg hu,if_neg hu];have:=lL hs (u:Int);omega
theorem Dd {p:List ai} (h:bD p) (e:Int) (u:Nat):dK (fQ p (bA p) e) u<=sA p (bA p) u:=by
 have h1:=zB p (bA p) e u;unfold sA;by_cases h2:(u:Int)<bA p
 ·rw[if_pos h2];rw[if_neg (by omega)]at h1;exact h1
 ·rw[if_neg h2];by_cases h3:(u:Int)=bA p
  ·rw[if_pos h3]at h1;exact h1
  ·rw[if_neg h3]at h1;unfold dK at h1 ⊢;rw[xK h (v:=(u:Int)) (by omega)]at h1;exact h1
def ou:List (Int×List ai)->Nat
 |[]=>0
 |g::r=>bY g.2+ou r
theorem xL (q:List ai):∀p:List ai,bY (p++q)=bY p+bY q
 |[]=>by simp[bY]
 |t::r=>by simp only[aj6,bY,xL q r];omega
theorem mN (b:List (Int×List ai)):∀a,ou (a++b)=ou a+ou b
 |[]=>by simp[ou]
 |g::r=>by simp only[aj6,ou,mN b r];omega
theorem Lp (v:Int) (acc:List (Int×List ai)) (t:ai):ou (iI v acc t)=ou acc+t.1.natAbs:=by
 unfold iI;rcases fX acc with rfl|⟨xs,g,rfl⟩
 ·simp[ou,bY]
 ·rw[aj8];simp only;by_cases h:g.1=aI t.2 v
  ·rw[if_pos h,aj9,mN,mN];simp only[ou,xL,bY];omega
  ·rw[if_neg h,mN];simp[ou,bY]
theorem wO (v:Int) (p:List ai):ou (bs v p)=bY p:=by
 suffices H:∀(k:Nat),k<=p.length->ou (bs v (p.take k))=bY (p.take k)by
  have:=H p.length (ak7 _);rwa[ak0]at this
 intro k;induction k with
 |zero=>intro _;simp[bs,ou,bY]
 |succ k ih=>
  intro hk;rw[ak1 hk,lK,Lp,ih (by omega),xL];simp[bY]
structure Hn (μ δ:Int) (L D:Int) (e0:Int) (S:Nat) (e:Int) (s:Rat) (x d:Int):Prop where
 le:e<=e0
 TK:0<d
 au:al0 x d=s
 dvd:d ∣ D*δ^(e0-e).toNat
 big:Le s ((S:Int)*L*μ^(e0-e).toNat)
theorem Hn.start (μ δ:Int) (L D:Int) (e0:Int):Hn μ δ L D e0 0 e0 0 0 1:=
 ⟨ah5 _,by decide,by decide+kernel,Int.one_dvd _,Le.zero (by simp)⟩
theorem Hn.Ao {μ δ L D e0:Int} {S:Nat} {e:Int} {s:Rat} {x d:Int} (h:Hn μ δ L D e0 S e s x d) {ν:Int} {r:Rat} (hδ:0<δ) (hr:al0 ν δ=r) (hμ:Le r μ) {e1:Int} (he:e1<=e):
  Hn μ δ L D e0 S e1 (s*r^(e-e1).toNat) (x*ν^(e-e1).toNat) (d*δ^(e-e1).toNat):=by
 have hf:=GZ (x:=x) (y:=ν) h.TK hδ (e-e1).toNat;have h0:=h.le;have ee:(e0-e1).toNat=(e0-e).toNat+(e-e1).toNat:=by omega
 refine⟨by omega,hf.2,by rw[hf.1,h.au,hr],?_,?_⟩
 ·rw[ee,aj2,<-ai0];exact aj1 h.dvd (aj0 _)
 ·rw[ee,aj2,<-ai0];exact h.big.mul (hμ.TN _)
theorem Hn.ae7 {μ δ L D e0:Int} {S:Nat} {e:Int} {s:Rat} {x d:Int} (h:Hn μ δ L D e0 S e s x d) {y c:Int} {t:Rat} {k:Nat} (hc:0<c) (ht:al0 y c=t) (hd:c ∣ D) (hL:0<=L) (hμ:0<μ) (hb:Le t ((k:Int)*L)):
  Hn μ δ L D e0 (S+k) e (s+t) (x*c.tdiv ((d.gcd c:Nat):Int)+y*d.tdiv ((d.gcd c:Nat):Int)) (d*c.tdiv ((d.gcd c:Nat):Int)):=by
 obtain⟨h1,h2,h3⟩:=Ln (x:=x) (y:=y) h.TK hc;refine⟨h.le,h2,by rw[h1,h.au,ht],h3 _ h.dvd (Int.dvd_trans hd (Int.dvd_mul_right ..)),(h.big.add hb).mono ?_⟩;have hp:1<=μ^(e0-e).toNat:=ai3 hμ;have hk:0<=(k:Int)*L:=ai8 (by omega) hL;have:=aj4 hp hk;rw[ai9]
 grind
theorem Hn.num {μ δ L D e0:Int} {S:Nat} {e:Int} {s:Rat} {x d:Int} (h:Hn μ δ L D e0 S e s x d):(x.natAbs:Int)<=(S:Int)*L*μ^(e0-e).toNat*d:=h.big.num h.TK h.au
theorem Hn.den {μ δ L D e0:Int} {S:Nat} {e:Int} {s:Rat} {x d:Int} (h:Hn μ δ L D e0 S e s x d) (hD:0<D) (hδ:0<δ):d<=D*δ^(e0-e).toNat:=aj3 (ah9 hD (ai3 hδ)) h.dvd
end
end Go.Proofs.YtmenbpmciblnlaaGreatDoor
