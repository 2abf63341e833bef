import Derived.Test.YtmenbpmciblnlaaGreatDoorGP9
set_option maxHeartbeats 0
set_option maxRecDepth 100000
open Int renaming le_refl->ah5
open List renaming mem_cons->ah6,mem_filter->ah7
namespace Go.Proofs.YtmenbpmciblnlaaGreatDoor
open Go.RowKit
def BQ (v e:Int):List (Int×Int):=if e=0 then[]else[(v,e)]
theorem I5 {v e:Int} (hv:1<=v/\ v<=200) (he:0<=e/\ e<=10000):aQ 0 (BQ v e)=true:=by
 unfold BQ;by_cases h:e=0
 ·rw[if_pos h];rfl
 ·rw[if_neg h];unfold aQ Cp;simp only[Bool.and_eq_true,decide_eq_true_eq];exact⟨⟨by omega,by omega,by omega,by omega⟩,rfl⟩
theorem El (v e u:Int):aI (BQ v e) u=if u=v then e else 0:=by
 unfold BQ;by_cases h:e=0
 ·rw[if_pos h,h];simp[aI]
 ·rw[if_neg h];simp only[aI];by_cases hu:u=v
  ·rw[if_pos hu,if_pos hu.symm]
  ·rw[if_neg hu,if_neg (λe=>hu e.symm)]
theorem BR {m:List (Int×Int)} (hm:aQ 0 m=true) (v:Int):aQ 0 (fy v m)=true:=
 qi.2 ⟨Du v (fw hm),λu=>by
  rw[iJ];by_cases hu:u=v
  ·rw[if_pos hu];omega
  ·rw[if_neg hu];exact eE hm u⟩
theorem O4 {m:List (Int×Int)} (hm:aQ 0 m=true) {v:Int} (hv:1<=v/\ v<=200):fL (fy v m) (BQ v (aI m v))=m:=by
 have h1:=BR hm v;have h2:=I5 hv (eE hm v)
 have he:∀u,aI (fL (fy v m) (BQ v (aI m v))) u=aI m u:=λu=>by
  rw[fg h1 h2,iJ,El];by_cases hu:u=v
  ·rw[if_pos hu,if_pos hu,hu];omega
  ·rw[if_neg hu,if_neg hu];omega
 have h3:aQ 0 (fL (fy v m) (BQ v (aI m v)))=true:=by
  rw[oO h1 h2];intro u;have:=he u;rw[fg h1 h2]at this;rw[this];exact(eE hm u).2
 exact wB h3 hm he
def iN (p:List ai) (v:Int):Int:=p.foldl (λa t=>max a (aI t.2 v)) 0
theorem vJ (v:Int):∀(p:List ai) (a:Int),a<=p.foldl (λa t=>max a (aI t.2 v)) a/\ (∀t∈p,aI t.2 v<=p.foldl (λa t=>max a (aI t.2 v)) a)/\
  (p.foldl (λa t=>max a (aI t.2 v)) a=a∨ ∃t∈p,p.foldl (λa t=>max a (aI t.2 v)) a=aI t.2 v)
 |[],a=>⟨ah5 _,(λ_ h=>by cases h),.inl rfl⟩
 |s::r,a=>by
  obtain⟨h1,h2,h3⟩:=vJ v r (max a (aI s.2 v));simp only[List.foldl_cons];refine⟨by omega,λt ht=>?_,?_⟩
  ·rcases ah6.1 ht with rfl|ht
   ·omega
   ·exact h2 t ht
  ·rcases h3 with h3|⟨t,ht,h3⟩
   ·by_cases h:a<=aI s.2 v
    ·exact .inr ⟨s,by simp,by rw[h3];omega⟩
    ·exact .inl (by rw[h3];omega)
   ·exact .inr ⟨t,by simp[ht],h3⟩
theorem lL {p:List ai} {t:ai} (h:t∈p) (v:Int):aI t.2 v<=iN p v:=(vJ v p 0).2.1 t h
theorem tL (p:List ai) (v:Int):0<=iN p v:=(vJ v p 0).1
theorem pR (p:List ai) (v:Int):iN p v=0∨ ∃t∈p,iN p v=aI t.2 v:=(vJ v p 0).2.2
theorem Nt {p:List ai} (h:gG p) (hn:p≠[]) (v:Int):∃t∈p,aI t.2 v=iN p v:=by
 rcases pR p v with h0|⟨t,ht,h1⟩
 ·cases p with
  |nil=>exact absurd rfl hn
  |cons t r=>
   refine⟨t,by simp,?_⟩;have h1:=(eE (h t (by simp)) v).1;have h2:=lL (p:=t::r) (t:=t) (by simp) v;omega
 ·exact⟨t,ht,h1.symm⟩
theorem SE {p:List ai} {v d:Int} (hn:0<=d) (h1:∀t∈p,aI t.2 v<=d) (h2:d=0∨ ∃t∈p,aI t.2 v=d):iN p v=d:=by
 have h0:=tL p v;rcases pR p v with h3|⟨t,ht,h3⟩
 ·rcases h2 with h2|⟨t,ht,h2⟩
  ·omega
  ·have:=lL ht v;omega
 ·have h4:=h1 t ht;rcases h2 with h2|⟨s,hs,h2⟩
  ·omega
  ·have:=lL hs v;omega
def bA:List ai->Int
 |[]=>0
 |t::_=>fU t.2
theorem Pq {m:List (Int×Int)} (hm:aQ 0 m=true):0<=fU m/\ fU m<=200:=by
 rcases oT (fw hm)with⟨_,h⟩|⟨h1,h2,_⟩<;>omega
theorem mg {m:List (Int×Int)} (hm:aQ 0 m=true) {v:Int} (h:fU m<v):aI m v=0:=by
 rcases oT (fw hm)with⟨h1,_⟩|⟨_,_,_,h4⟩
 ·rw[h1];rfl
 ·exact h4 v h
theorem EA {m:List (Int×Int)} (hm:aQ 0 m=true) (h:0<fU m):0<aI m (fU m):=by
 rcases oT (fw hm)with⟨_,h1⟩|⟨_,_,h3,_⟩
 ·omega
 ·have:=(eE hm (fU m)).1;omega
theorem SF {m:List (Int×Int)} (hm:aQ 0 m=true) {c:Int} (hc:0<=c) (h:∀v,c<v->aI m v=0):fU m<=c:=by
 rcases Int.lt_or_le c (fU m)with g|g
 ·have h1:=EA hm (by omega);rw[h _ g]at h1;omega
 ·exact g
theorem Wb {a b:List (Int×Int)} (ha:aQ 0 a=true) (hb:aQ 0 b=true) (h:ni a b):fU b<=fU a:=by
 refine SF hb (Pq ha).1 λv hv=>?_
 have h0:=mg ha hv;rcases h with⟨h,_⟩|⟨_,h,_⟩|⟨u,_,h1,h2⟩
 ·omega
 ·omega
 ·rcases Int.lt_trichotomy u v with g|g|g
  ·rw[<-h2 v g];exact h0
  ·subst g;rw[h0]at h1;have:=(eE hb u).1;omega
  ·have h3:=mg ha (show fU a<u by omega);rw[h3]at h1;have:=(eE hb u).1;omega
theorem np {p:List ai} (h:bD p) {t:ai} (ht:t∈p):fU t.2<=bA p:=by
 cases p with
 |nil=>cases ht
 |cons s r=>
  rcases ah6.1 ht with rfl|ht
  ·exact ah5 _
  ·exact Wb h.2.1 (cC h.2.2.2 t ht) (h.2.2.1 t ht)
theorem nK {p:List ai} (h:bD p):0<=bA p/\ bA p<=200:=by
 cases p with
 |nil=>exact⟨ah5 _,by decide⟩
 |cons s r=>exact Pq h.2.1
theorem xK {p:List ai} (h:bD p) {v:Int} (hv:bA p<v):iN p v=0:=
 SE (ah5 _) (λt ht=>by rw[mg (cC h t ht) (by have:=np h ht;omega)];exact ah5 _) (.inl rfl)
theorem yP {p:List ai} (h:bD p) (hc:0<bA p):0<iN p (bA p):=by
 cases p with
 |nil=>exact absurd hc (by decide)
 |cons s r=>
  have h1:=EA h.2.1 hc;have h2:=lL (p:=s::r) (t:=s) (by simp) (bA (s::r));have h3:bA (s::r)=fU s.2:=rfl;rw[h3]at h2 ⊢;omega
theorem Kb {p:List ai} (h:bD p) (hc:bA p=0):∀t∈p,t.2=[]:=λt ht=>by
 have h1:=np h ht;rcases oT (fw (cC h t ht))with⟨h2,_⟩|⟨h2,_⟩
 ·exact h2
 ·omega
theorem uQ (f:ai->Bool):∀{p:List ai},bD p->bD (p.filter f)
 |[],_=>trivial
 |t::r,h=>by
  have ih:=uQ f h.2.2.2;by_cases hf:f t=true
  ·rw[List.filter_cons_of_pos hf];exact⟨h.1,h.2.1,λs hs=>h.2.2.1 s ((ah7.1 hs).1),ih⟩
  ·rw[List.filter_cons_of_neg hf];exact ih
theorem EC (g:ai->ai):∀{p:List ai},bD p->(∀t∈p,(g t).1≠0/\ aQ 0 (g t).2=true)->(∀t∈p,∀s∈p,ni t.2 s.2->ni (g t).2 (g s).2)->bD (p.map g)
 |[],_,_,_=>trivial
 |t::r,h,h1,h2=>by
  refine⟨(h1 t (by simp)).1,(h1 t (by simp)).2,λs hs=>?_,EC g h.2.2.2 (λs hs=>h1 s (by simp[hs])) (λa ha b hb=>h2 a (by simp[ha]) b (by simp[hb]))⟩;obtain⟨u,hu,rfl⟩:=List.mem_map.1 hs;exact h2 t (by simp) u (by simp[hu]) (h.2.2.1 u hu)
def fQ (p:List ai) (v e:Int):List ai:=(p.filter λt=>aI t.2 v==e).map λt=>(t.1,fy v t.2)
theorem zA {p:List ai} (h:bD p) (v e:Int):bD (fQ p v e):=by
 refine EC _ (uQ _ h) (λt ht=>?_) (λt ht s hs hg=>?_)
 ·have hm:=(ah7.1 ht).1;exact⟨lG h t hm,BR (cC h t hm) v⟩
 ·have h1:aI t.2 v=e:=by simpa using(ah7.1 ht).2
  have h2:aI s.2 v=e:=by simpa using(ah7.1 hs).2
  rcases hg with⟨h,_⟩|⟨_,h,_⟩|⟨u,_,g1,g2⟩
  ·omega
  ·omega
  ·have hu:u≠v:=λe=>by subst e;omega
   refine .inr (.inr ⟨u,rfl,?_,λx hx=>?_⟩)
   ·show aI (fy v s.2) u<aI (fy v t.2) u;rw[iJ,iJ,if_neg hu,if_neg hu];exact g1
   ·show aI (fy v t.2) x=aI (fy v s.2) x;rw[iJ,iJ,g2 x hx]
section
variable {K:Nat} {ao:Option Addr} {n ae:Nat} {p:List ai} {ps:List kr} {w:World}
theorem Ps [Ol] (r:Bool) (hp:Pr w ao n ae ps) (hl:∀t∈ps,t.1.2.length<=1000) (h:jZ ps=r):
  Calls Tryz.prog 134 #[.slice ao n ae] w (cr (if r=true then .slice ao n ae else .slice none 0 0) w):=by
 cases r with
 |true=>
  go_enter Tryz.func134,Tryz.ntmps134;go_wp2_with fail;refine(mD true hp hl h).mono ?_;rintro e w1 ⟨rfl,hB⟩;go_wp2_with fail;go_ret;exact⟨rfl,hB⟩
 |false=>
  go_enter Tryz.func134,Tryz.ntmps134;go_wp2_with fail;refine(mD false hp hl h).mono ?_;rintro e w1 ⟨rfl,hB⟩;go_wp2_with fail;go_ret;exact⟨rfl,hB⟩
theorem SG [Ol] (hp:Pr w ao n ae ps) (hl:∀t∈ps,t.1.2.length<=K) (hK:K<=1000):Calls Tryz.prog 134 #[.slice ao n ae] w (OrZ K w n ps):=
 Wc hp hl λr hr=>Ps r hp (λt ht=>Nat.le_trans (hl t ht) hK) hr
theorem Hd [Ol] (z:Int) (hp:Pc K w ao n ae p) (hf:bD p) (hz:bA p=z):Calls Tryz.prog 146 #[.slice ao n ae] w (cr (.int .i64 z) w):=by
 rcases Nat.eq_zero_or_pos n with h0|h0
 ·subst h0;obtain rfl:p=[]:=List.eq_nil_of_length_eq_zero hp.len;subst hz;have hd:(((0:Nat):Int)==0)=true:=rfl;clear hp hf;go_enter Tryz.func146,Tryz.ntmps146;go_wp2_with fail;go_ret;exact⟨rfl,Below.refl _ _⟩
 ·obtain⟨b,off,xm,xa,xn,xc,xp,xq,xr,yx,hbl,hc,rL,hBd,lZ⟩:=hp.at (k:=0) h0;subst yx;rw[Nat.zero_mul,Nat.add_zero]at hc;obtain⟨c0,c1,c2⟩:=hc w (Below.refl _ _)
  have hM:Hid (Ml w xp xq xr (p.getD 0 (0,[])).2/\ fU (ET (p.getD 0 (0,[])).2)=z):=by
   refine⟨lZ,?_⟩;cases p with
   |nil=>have:=hp.len;simp at this;omega
   |cons t r=>rw[<-hz];show fU (ET t.2)=fU t.2;rw[qg hf.2.1]
  have hd:((n:Int)==0)=false:=by simpa using(show¬(n:Int)=0 by omega)
  clear hp hf hc rL hBd lZ hz;go_enter Tryz.func146,Tryz.ntmps146;go_wp2_with fail;refine(tM hM.o.1 z hM.o.2).mono ?_;rintro e w1 ⟨rfl,hB⟩;go_wp2_with fail;go_ret;exact⟨rfl,hB⟩
theorem F9 [Ol] (z:Int) (hp:Pr w ao n ae ps) (hl:∀t∈ps,t.1.2.length<=1000) (hz:bA (BZ ps)=z):Calls Tryz.prog 94 #[.slice ao n ae] w (cr (.int .i64 z) w):=by
 go_enter Tryz.func94,Tryz.ntmps94;go_wp2_with fail;refine(SG hp hl (Nat.le_refl _)).mono ?_;rintro e w1 ⟨bo,m,cb,rfl,hX,hmn,hB⟩;go_wp2_with fail;refine(Hd z hX (Pv hp.wfs) hz).mono ?_;rintro e w2 ⟨rfl,hB2⟩;go_wp2_with fail;go_ret;exact⟨rfl,Below.ar hB hB2⟩
end
end Go.Proofs.YtmenbpmciblnlaaGreatDoor
