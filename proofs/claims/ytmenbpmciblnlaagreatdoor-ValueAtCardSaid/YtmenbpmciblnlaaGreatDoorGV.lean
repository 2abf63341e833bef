/- VPlain, VDeg -/
import Derived.Test.YtmenbpmciblnlaaGreatDoorGP9
set_option maxHeartbeats 0
set_option maxRecDepth 100000
open Int renaming le_refl->a0a
open List renaming mem_cons->a0b,mem_filter->a0c
namespace Go.Proofs.YtmenbpmciblnlaaGreatDoor
open Go.RowKit
def uM (v e:Int):List (Int×Int):=if e=0 then[]else[(v,e)]
theorem vP {v e:Int} (hv:1<=v/\ v<=200) (he:0<=e/\ e<=10000):aZ 0 (uM v e)=true:=by
 unfold uM;by_cases h:e=0
 ·rw[if_pos h];rfl
 ·rw[if_neg h];unfold aZ El;simp only[Bool.and_eq_true,decide_eq_true_eq];exact⟨⟨by omega,by omega,by omega,by omega⟩,rfl⟩
theorem mU (v e u:Int):aJ (uM v e) u=if u=v then e else 0:=by
 unfold uM;by_cases h:e=0
 ·rw[if_pos h,h];simp[aJ]
 ·rw[if_neg h];simp only[aJ];by_cases hu:u=v
  ·rw[if_pos hu,if_pos hu.symm]
  ·rw[if_neg hu,if_neg (λe=>hu e.symm)]
theorem Et {m:List (Int×Int)} (hm:aZ 0 m=true) (v:Int):aZ 0 (gN v m)=true:=
 sQ.2 ⟨Gh v (fU hm),λu=>by
  rw[jD];by_cases hu:u=v
  ·rw[if_pos hu];omega
  ·rw[if_neg hu];exact fE hm u⟩
theorem Qf {m:List (Int×Int)} (hm:aZ 0 m=true) {v:Int} (hv:1<=v/\ v<=200):l6 (gN v m) (uM v (aJ m v))=m:=by
 have h1:=Et hm v;have h2:=vP hv (fE hm v)
 have he:∀u,aJ (l6 (gN v m) (uM v (aJ m v))) u=aJ m u:=λu=>by
  rw[kY h1 h2,jD,mU];by_cases hu:u=v
  ·rw[if_pos hu,if_pos hu,hu];omega
  ·rw[if_neg hu,if_neg hu];omega
 have h3:aZ 0 (l6 (gN v m) (uM v (aJ m v)))=true:=by
  rw[Aa h1 h2];intro u;have:=he u;rw[kY h1 h2]at this;rw[this];exact(fE hm u).2
 exact vQ h3 hm he
def fV (p:List Term) (v:Int):Int:=p.foldl (λa t=>max a (aJ t.2 v)) 0
theorem zA (v:Int):∀(p:List Term) (a:Int),a<=p.foldl (λa t=>max a (aJ t.2 v)) a/\ (∀t∈p,aJ t.2 v<=p.foldl (λa t=>max a (aJ t.2 v)) a)/\
  (p.foldl (λa t=>max a (aJ t.2 v)) a=a∨ ∃t∈p,p.foldl (λa t=>max a (aJ t.2 v)) a=aJ t.2 v)
 |[],a=>⟨a0a _,(λ_ h=>by cases h),.inl rfl⟩
 |s::r,a=>by
  obtain⟨h1,h2,h3⟩:=zA v r (max a (aJ s.2 v));simp only[List.foldl_cons];refine⟨by omega,λt ht=>?_,?_⟩
  ·rcases a0b.1 ht with rfl|ht
   ·omega
   ·exact h2 t ht
  ·rcases h3 with h3|⟨t,ht,h3⟩
   ·by_cases h:a<=aJ s.2 v
    ·exact .inr ⟨s,by simp,by rw[h3];omega⟩
    ·exact .inl (by rw[h3];omega)
   ·exact .inr ⟨t,by simp[ht],h3⟩
theorem nV {p:List Term} {t:Term} (h:t∈p) (v:Int):aJ t.2 v<=fV p v:=(zA v p 0).2.1 t h
theorem xk (p:List Term) (v:Int):0<=fV p v:=(zA v p 0).1
theorem qd (p:List Term) (v:Int):fV p v=0∨ ∃t∈p,fV p v=aJ t.2 v:=(zA v p 0).2.2
theorem Qg {p:List Term} (h:jJ p) (hn:p≠[]) (v:Int):∃t∈p,aJ t.2 v=fV p v:=by
 rcases qd p v with h0|⟨t,ht,h1⟩
 ·cases p with
  |nil=>exact absurd rfl hn
  |cons t r=>
   refine⟨t,by simp,?_⟩;have h1:=(fE (h t (by simp)) v).1;have h2:=nV (p:=t::r) (t:=t) (by simp) v;omega
 ·exact⟨t,ht,h1.symm⟩
theorem Lp {p:List Term} (h:jJ p) (v:Int):fV p v<=10000:=by
 rcases qd p v with h0|⟨t,ht,h1⟩
 ·omega
 ·rw[h1];exact(fE (h t ht) v).2
theorem Uq {p:List Term} {v d:Int} (hn:0<=d) (h1:∀t∈p,aJ t.2 v<=d) (h2:d=0∨ ∃t∈p,aJ t.2 v=d):fV p v=d:=by
 have h0:=xk p v;rcases qd p v with h3|⟨t,ht,h3⟩
 ·rcases h2 with h2|⟨t,ht,h2⟩
  ·omega
  ·have:=nV ht v;omega
 ·have h4:=h1 t ht;rcases h2 with h2|⟨s,hs,h2⟩
  ·omega
  ·have:=nV hs v;omega
def bC:List Term->Int
 |[]=>0
 |t::_=>fe t.2
theorem Qh {m:List (Int×Int)} (hm:aZ 0 m=true):0<=fe m/\ fe m<=200:=by
 rcases mV (fU hm)with⟨_,h⟩|⟨h1,h2,_⟩<;>omega
theorem mK {m:List (Int×Int)} (hm:aZ 0 m=true) {v:Int} (h:fe m<v):aJ m v=0:=by
 rcases mV (fU hm)with⟨h1,_⟩|⟨_,_,_,h4⟩
 ·rw[h1];rfl
 ·exact h4 v h
theorem Gi {m:List (Int×Int)} (hm:aZ 0 m=true) (h:0<fe m):0<aJ m (fe m):=by
 rcases mV (fU hm)with⟨_,h1⟩|⟨_,_,h3,_⟩
 ·omega
 ·have:=(fE hm (fe m)).1;omega
theorem Ur {m:List (Int×Int)} (hm:aZ 0 m=true) {c:Int} (hc:0<=c) (h:∀v,c<v->aJ m v=0):fe m<=c:=by
 rcases Int.lt_or_le c (fe m)with g|g
 ·have h1:=Gi hm (by omega);rw[h _ g]at h1;omega
 ·exact g
theorem XP {a b:List (Int×Int)} (ha:aZ 0 a=true) (hb:aZ 0 b=true) (h:xg a b):fe b<=fe a:=by
 refine Ur hb (Qh ha).1 λv hv=>?_
 have h0:=mK ha hv;rcases h with⟨h,_⟩|⟨_,h,_⟩|⟨u,_,h1,h2⟩
 ·omega
 ·omega
 ·rcases Int.lt_trichotomy u v with g|g|g
  ·rw[<-h2 v g];exact h0
  ·subst g;rw[h0]at h1;have:=(fE hb u).1;omega
  ·have h3:=mK ha (show fe a<u by omega);rw[h3]at h1;have:=(fE hb u).1;omega
theorem mr {p:List Term} (h:fall p) {t:Term} (ht:t∈p):fe t.2<=bC p:=by
 cases p with
 |nil=>cases ht
 |cons s r=>
  rcases a0b.1 ht with rfl|ht
  ·exact a0a _
  ·exact XP h.2.1 (iF h.2.2.2 t ht) (h.2.2.1 t ht)
theorem nU {p:List Term} (h:fall p):0<=bC p/\ bC p<=200:=by
 cases p with
 |nil=>exact⟨a0a _,by decide⟩
 |cons s r=>exact Qh h.2.1
theorem Ab {p:List Term} (h:fall p) {v:Int} (hv:bC p<v):fV p v=0:=
 Uq (a0a _) (λt ht=>by rw[mK (iF h t ht) (by have:=mr h ht;omega)];exact a0a _) (.inl rfl)
theorem CW {p:List Term} (h:fall p) (hc:0<bC p):0<fV p (bC p):=by
 cases p with
 |nil=>exact absurd hc (by decide)
 |cons s r=>
  have h1:=Gi h.2.1 hc;have h2:=nV (p:=s::r) (t:=s) (by simp) (bC (s::r));have h3:bC (s::r)=fe s.2:=rfl;rw[h3]at h2 ⊢;omega
theorem MS {p:List Term} (h:fall p) (hc:bC p=0):∀t∈p,t.2=[]:=λt ht=>by
 have h1:=mr h ht;rcases mV (fU (iF h t ht))with⟨h2,_⟩|⟨h2,_⟩
 ·exact h2
 ·omega
theorem yw (f:Term->Bool):∀{p:List Term},fall p->fall (p.filter f)
 |[],_=>trivial
 |t::r,h=>by
  have ih:=yw f h.2.2.2;by_cases hf:f t=true
  ·rw[List.filter_cons_of_pos hf];exact⟨h.1,h.2.1,λs hs=>h.2.2.1 s ((a0c.1 hs).1),ih⟩
  ·rw[List.filter_cons_of_neg hf];exact ih
theorem Gj (g:Term->Term):∀{p:List Term},fall p->(∀t∈p,(g t).1≠0/\ aZ 0 (g t).2=true)->(∀t∈p,∀s∈p,xg t.2 s.2->xg (g t).2 (g s).2)->fall (p.map g)
 |[],_,_,_=>trivial
 |t::r,h,h1,h2=>by
  refine⟨(h1 t (by simp)).1,(h1 t (by simp)).2,λs hs=>?_,Gj g h.2.2.2 (λs hs=>h1 s (by simp[hs])) (λa ha b hb=>h2 a (by simp[ha]) b (by simp[hb]))⟩;obtain⟨u,hu,rfl⟩:=List.mem_map.1 hs;exact h2 t (by simp) u (by simp[hu]) (h.2.2.1 u hu)
def iB (p:List Term) (v e:Int):List Term:=(p.filter λt=>aJ t.2 v==e).map λt=>(t.1,gN v t.2)
theorem Db {p:List Term} (h:fall p) (v e:Int):fall (iB p v e):=by
 refine Gj _ (yw _ h) (λt ht=>?_) (λt ht s hs hg=>?_)
 ·have hm:=(a0c.1 ht).1;exact⟨sS h t hm,Et (iF h t hm) v⟩
 ·have h1:aJ t.2 v=e:=by simpa using(a0c.1 ht).2
  have h2:aJ s.2 v=e:=by simpa using(a0c.1 hs).2
  rcases hg with⟨h,_⟩|⟨_,h,_⟩|⟨u,_,g1,g2⟩
  ·omega
  ·omega
  ·have hu:u≠v:=λe=>by subst e;omega
   refine .inr (.inr ⟨u,rfl,?_,λx hx=>?_⟩)
   ·show aJ (gN v s.2) u<aJ (gN v t.2) u;rw[jD,jD,if_neg hu,if_neg hu];exact g1
   ·show aJ (gN v t.2) x=aJ (gN v s.2) x;rw[jD,jD,g2 x hx]
section
variable {K:Nat} {ao:Option Addr} {n cap:Nat} {p:List Term} {ps:List Raw} {w:World}
theorem Qi [Ol] (r:Bool) (hp:Pr w ao n cap ps) (hl:∀t∈ps,t.1.2.length<=1000) (h:kX ps=r):
  Calls Tryz.prog 134 #[.slice ao n cap] w (cu (if r=true then .slice ao n cap else .slice none 0 0) w):=by
 cases r with
 |true=>
  go_enter Tryz.func134,Tryz.ntmps134;go_wp2_with fail;refine(oW true hp hl h).mono ?_;rintro e w1 ⟨rfl,hB⟩;go_wp2_with fail;go_ret;exact⟨rfl,hB⟩
 |false=>
  go_enter Tryz.func134,Tryz.ntmps134;go_wp2_with fail;refine(oW false hp hl h).mono ?_;rintro e w1 ⟨rfl,hB⟩;go_wp2_with fail;go_ret;exact⟨rfl,hB⟩
theorem Us [Ol] (hp:Pr w ao n cap ps) (hl:∀t∈ps,t.1.2.length<=K) (hK:K<=1000):Calls Tryz.prog 134 #[.slice ao n cap] w (OrZ K w n ps):=
 XQ hp hl λr hr=>Qi r hp (λt ht=>Nat.le_trans (hl t ht) hK) hr
theorem JC [Ol] (z:Int) (hp:Pc K w ao n cap p) (hf:fall p) (hz:bC p=z):Calls Tryz.prog 146 #[.slice ao n cap] w (cu (.int .i64 z) w):=by
 rcases Nat.eq_zero_or_pos n with h0|h0
 ·subst h0;obtain rfl:p=[]:=List.eq_nil_of_length_eq_zero hp.len;subst hz;have hd:(((0:Nat):Int)==0)=true:=rfl;clear hp hf;go_enter Tryz.func146,Tryz.ntmps146;go_wp2_with fail;go_ret;exact⟨rfl,Below.refl _ _⟩
 ·obtain⟨b,off,xm,xa,xn,xc,xp,xq,xr,Cj,hbl,hc,Jz,hBd,zw⟩:=hp.at (k:=0) h0;subst Cj;rw[Nat.zero_mul,Nat.add_zero]at hc;obtain⟨c0,c1,c2⟩:=hc w (Below.refl _ _)
  have hM:Hid (Ml w xp xq xr (p.getD 0 (0,[])).2/\ fe (orM (p.getD 0 (0,[])).2)=z):=by
   refine⟨zw,?_⟩;cases p with
   |nil=>have:=hp.len;simp at this;omega
   |cons t r=>rw[<-hz];show fe (orM t.2)=fe t.2;rw[qg hf.2.1]
  have hd:((n:Int)==0)=false:=by simpa using(show¬(n:Int)=0 by omega)
  clear hp hf hc Jz hBd zw hz;go_enter Tryz.func146,Tryz.ntmps146;go_wp2_with fail;refine(xu hM.out.1 z hM.out.2).mono ?_;rintro e w1 ⟨rfl,hB⟩;go_wp2_with fail;go_ret;exact⟨rfl,hB⟩
theorem JD [Ol] (z:Int) (hp:Pr w ao n cap ps) (hl:∀t∈ps,t.1.2.length<=1000) (hz:bC (Eu ps)=z):Calls Tryz.prog 94 #[.slice ao n cap] w (cu (.int .i64 z) w):=by
 go_enter Tryz.func94,Tryz.ntmps94;go_wp2_with fail;refine(Us hp hl (Nat.le_refl _)).mono ?_;rintro e w1 ⟨bo,m,cb,rfl,hX,hmn,hB⟩;go_wp2_with fail;refine(JC z hX (Qj hp.wfs) hz).mono ?_;rintro e w2 ⟨rfl,hB2⟩;go_wp2_with fail;go_ret;exact⟨rfl,Below.steps hB hB2⟩
end
end Go.Proofs.YtmenbpmciblnlaaGreatDoor
