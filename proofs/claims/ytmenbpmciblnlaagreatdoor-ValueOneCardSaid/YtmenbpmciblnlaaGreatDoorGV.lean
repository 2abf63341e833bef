/- VPlain, VDeg -/
import Derived.Test.YtmenbpmciblnlaaGreatDoorGP9
set_option maxHeartbeats 40000000
set_option maxRecDepth 100000
namespace Go.Proofs.YtmenbpmciblnlaaGreatDoor
open Go.RowKit
def tN (v e:Int):List (Int×Int):=if e=0 then[]else[(v,e)]
theorem vk {v e:Int} (hv:1<=v/\ v<=200) (he:0<=e/\ e<=10000):bA 0 (tN v e)=true:=by
 unfold tN;by_cases h:e=0
 ·rw[if_pos h];rfl
 ·rw[if_neg h];unfold bA DL;simp only[Bool.and_eq_true,decide_eq_true_eq];exact⟨⟨by omega,by omega,by omega,by omega⟩,rfl⟩
theorem mr (v e u:Int):aH (tN v e) u=if u=v then e else 0:=by
 unfold tN;by_cases h:e=0
 ·rw[if_pos h,h];simp[aH]
 ·rw[if_neg h];simp only[aH];by_cases hu:u=v
  ·rw[if_pos hu,if_pos hu.symm]
  ·rw[if_neg hu,if_neg (fun e=>hu e.symm)]
theorem Di {m:List (Int×Int)} (hm:bA 0 m=true) (v:Int):bA 0 (gB v m)=true:=
 rF.2 ⟨FO v (gP hm),fun u=>by
  rw[je];by_cases hu:u=v
  ·rw[if_pos hu];omega
  ·rw[if_neg hu];exact fT hm u⟩
theorem Pp {m:List (Int×Int)} (hm:bA 0 m=true) {v:Int} (hv:1<=v/\ v<=200):mh (gB v m) (tN v (aH m v))=m:=by
 have h1:=Di hm v;have h2:=vk hv (fT hm v)
 have he:∀u,aH (mh (gB v m) (tN v (aH m v))) u=aH m u:=fun u=>by
  rw[ow h1 h2,je,mr];by_cases hu:u=v
  ·rw[if_pos hu,if_pos hu,hu];omega
  ·rw[if_neg hu,if_neg hu];omega
 have h3:bA 0 (mh (gB v m) (tN v (aH m v)))=true:=by
  rw[zH h1 h2];intro u;have:=he u;rw[ow h1 h2]at this;rw[this];exact(fT hm u).2
 exact zI h3 hm he
def fK (p:List Term) (v:Int):Int:=p.foldl (fun a t=>max a (aH t.2 v)) 0
theorem xX (v:Int):∀(p:List Term) (a:Int),a<=p.foldl (fun a t=>max a (aH t.2 v)) a/\ (∀t∈p,aH t.2 v<=p.foldl (fun a t=>max a (aH t.2 v)) a)/\
  (p.foldl (fun a t=>max a (aH t.2 v)) a=a∨ ∃t∈p,p.foldl (fun a t=>max a (aH t.2 v)) a=aH t.2 v)
 |[],a=>⟨Int.le_refl _,(fun _ h=>by cases h),.inl rfl⟩
 |s::r,a=>by
  obtain⟨h1,h2,h3⟩:=xX v r (max a (aH s.2 v));simp only[List.foldl_cons];refine⟨by omega,fun t ht=>?_,?_⟩
  ·rcases List.mem_cons.1 ht with rfl|ht
   ·omega
   ·exact h2 t ht
  ·rcases h3 with h3|⟨t,ht,h3⟩
   ·by_cases h:a<=aH s.2 v
    ·exact .inr ⟨s,by simp,by rw[h3];omega⟩
    ·exact .inl (by rw[h3];omega)
   ·exact .inr ⟨t,by simp[ht],h3⟩
theorem mQ {p:List Term} {t:Term} (h:t∈p) (v:Int):aH t.2 v<=fK p v:=(xX v p 0).2.1 t h
theorem vQ (p:List Term) (v:Int):0<=fK p v:=(xX v p 0).1
theorem uJ (p:List Term) (v:Int):fK p v=0∨ ∃t∈p,fK p v=aH t.2 v:=(xX v p 0).2.2
theorem Nv {p:List Term} (h:mJ p) (hn:p≠[]) (v:Int):∃t∈p,aH t.2 v=fK p v:=by
 rcases uJ p v with h0|⟨t,ht,h1⟩
 ·cases p with
  |nil=>exact absurd rfl hn
  |cons t r=>
   refine⟨t,by simp,?_⟩;have h1:=(fT (h t (by simp)) v).1;have h2:=mQ (p:=t::r) (t:=t) (by simp) v;omega
 ·exact⟨t,ht,h1.symm⟩
theorem Jl {p:List Term} (h:mJ p) (v:Int):fK p v<=10000:=by
 rcases uJ p v with h0|⟨t,ht,h1⟩
 ·omega
 ·rw[h1];exact(fT (h t ht) v).2
theorem Sz {p:List Term} {v d:Int} (hn:0<=d) (h1:∀t∈p,aH t.2 v<=d) (h2:d=0∨ ∃t∈p,aH t.2 v=d):fK p v=d:=by
 have h0:=vQ p v;rcases uJ p v with h3|⟨t,ht,h3⟩
 ·rcases h2 with h2|⟨t,ht,h2⟩
  ·omega
  ·have:=mQ ht v;omega
 ·have h4:=h1 t ht;rcases h2 with h2|⟨s,hs,h2⟩
  ·omega
  ·have:=mQ hs v;omega
def bF:List Term->Int
 |[]=>0
 |t::_=>iC t.2
theorem PL {m:List (Int×Int)} (hm:bA 0 m=true):0<=iC m/\ iC m<=200:=by
 rcases qL (gP hm)with⟨_,h⟩|⟨h1,h2,_⟩<;>omega
theorem rR {m:List (Int×Int)} (hm:bA 0 m=true) {v:Int} (h:iC m<v):aH m v=0:=by
 rcases qL (gP hm)with⟨h1,_⟩|⟨_,_,_,h4⟩
 ·rw[h1];rfl
 ·exact h4 v h
theorem FR {m:List (Int×Int)} (hm:bA 0 m=true) (h:0<iC m):0<aH m (iC m):=by
 rcases qL (gP hm)with⟨_,h1⟩|⟨_,_,h3,_⟩
 ·omega
 ·have:=(fT hm (iC m)).1;omega
theorem SA {m:List (Int×Int)} (hm:bA 0 m=true) {c:Int} (hc:0<=c) (h:∀v,c<v->aH m v=0):iC m<=c:=by
 rcases Int.lt_or_le c (iC m)with g|g
 ·have h1:=FR hm (by omega);rw[h _ g]at h1;omega
 ·exact g
theorem VB {a b:List (Int×Int)} (ha:bA 0 a=true) (hb:bA 0 b=true) (h:BH a b):iC b<=iC a:=by
 refine SA hb (PL ha).1 fun v hv=>?_
 have h0:=rR ha hv;rcases h with⟨h,_⟩|⟨_,h,_⟩|⟨u,_,h1,h2⟩
 ·omega
 ·omega
 ·rcases Int.lt_trichotomy u v with g|g|g
  ·rw[<-h2 v g];exact h0
  ·subst g;rw[h0]at h1;have:=(fT hb u).1;omega
  ·have h3:=rR ha (show iC a<u by omega);rw[h3]at h1;have:=(fT hb u).1;omega
theorem rq {p:List Term} (h:fall p) {t:Term} (ht:t∈p):iC t.2<=bF p:=by
 cases p with
 |nil=>cases ht
 |cons s r=>
  rcases List.mem_cons.1 ht with rfl|ht
  ·exact Int.le_refl _
  ·exact VB h.2.1 (jQ h.2.2.2 t ht) (h.2.2.1 t ht)
theorem o5 {p:List Term} (h:fall p):0<=bF p/\ bF p<=200:=by
 cases p with
 |nil=>exact⟨Int.le_refl _,by decide⟩
 |cons s r=>exact PL h.2.1
theorem zZ {p:List Term} (h:fall p) {v:Int} (hv:bF p<v):fK p v=0:=
 Sz (Int.le_refl _) (fun t ht=>by rw[rR (jQ h t ht) (by have:=rq h ht;omega)];exact Int.le_refl _) (.inl rfl)
theorem Kw {p:List Term} (h:fall p) (hc:0<bF p):0<fK p (bF p):=by
 cases p with
 |nil=>exact absurd hc (by decide)
 |cons s r=>
  have h1:=FR h.2.1 hc;have h2:=mQ (p:=s::r) (t:=s) (by simp) (bF (s::r));have h3:bF (s::r)=iC s.2:=rfl;rw[h3]at h2 ⊢;omega
theorem KC {p:List Term} (h:fall p) (hc:bF p=0):∀t∈p,t.2=[]:=fun t ht=>by
 have h1:=rq h ht;rcases qL (gP (jQ h t ht))with⟨h2,_⟩|⟨h2,_⟩
 ·exact h2
 ·omega
theorem xh (f:Term->Bool):∀{p:List Term},fall p->fall (p.filter f)
 |[],_=>trivial
 |t::r,h=>by
  have ih:=xh f h.2.2.2;by_cases hf:f t=true
  ·rw[List.filter_cons_of_pos hf];exact⟨h.1,h.2.1,fun s hs=>h.2.2.1 s ((List.mem_filter.1 hs).1),ih⟩
  ·rw[List.filter_cons_of_neg hf];exact ih
theorem FT (g:Term->Term):∀{p:List Term},fall p->(∀t∈p,(g t).1≠0/\ bA 0 (g t).2=true)->(∀t∈p,∀s∈p,BH t.2 s.2->BH (g t).2 (g s).2)->fall (p.map g)
 |[],_,_,_=>trivial
 |t::r,h,h1,h2=>by
  refine⟨(h1 t (by simp)).1,(h1 t (by simp)).2,fun s hs=>?_,FT g h.2.2.2 (fun s hs=>h1 s (by simp[hs])) (fun a ha b hb=>h2 a (by simp[ha]) b (by simp[hb]))⟩;obtain⟨u,hu,rfl⟩:=List.mem_map.1 hs;exact h2 t (by simp) u (by simp[hu]) (h.2.2.1 u hu)
def gW (p:List Term) (v e:Int):List Term:=(p.filter fun t=>aH t.2 v==e).map fun t=>(t.1,gB v t.2)
theorem Bg {p:List Term} (h:fall p) (v e:Int):fall (gW p v e):=by
 refine FT _ (xh _ h) (fun t ht=>?_) (fun t ht s hs hg=>?_)
 ·have hm:=(List.mem_filter.1 ht).1;exact⟨uq h t hm,Di (jQ h t hm) v⟩
 ·have h1:aH t.2 v=e:=by simpa using(List.mem_filter.1 ht).2
  have h2:aH s.2 v=e:=by simpa using(List.mem_filter.1 hs).2
  rcases hg with⟨h,_⟩|⟨_,h,_⟩|⟨u,_,g1,g2⟩
  ·omega
  ·omega
  ·have hu:u≠v:=fun e=>by subst e;omega
   refine .inr (.inr ⟨u,rfl,?_,fun x hx=>?_⟩)
   ·show aH (gB v s.2) u<aH (gB v t.2) u;rw[je,je,if_neg hu,if_neg hu];exact g1
   ·show aH (gB v t.2) x=aH (gB v s.2) x;rw[je,je,g2 x hx]
section
variable {K:Nat} {ao:Option Addr} {n cap:Nat} {p:List Term} {ps:List Raw} {w:World}
theorem PN [Ol] (r:Bool) (hp:Pr w ao n cap ps) (hl:∀t∈ps,t.1.2.length<=1000) (h:nK ps=r):
  Calls Tryz.prog 134 #[.slice ao n cap] w (dI (if r=true then .slice ao n cap else .slice none 0 0) w):=by
 cases r with
 |true=>
  go_enter Tryz.func134,Tryz.ntmps134;go_wp2_with fail;refine(p9 true hp hl h).mono ?_;rintro e w1 ⟨rfl,hB⟩;go_wp2_with fail;go_ret;exact⟨rfl,hB⟩
 |false=>
  go_enter Tryz.func134,Tryz.ntmps134;go_wp2_with fail;refine(p9 false hp hl h).mono ?_;rintro e w1 ⟨rfl,hB⟩;go_wp2_with fail;go_ret;exact⟨rfl,hB⟩
theorem SB [Ol] (hp:Pr w ao n cap ps) (hl:∀t∈ps,t.1.2.length<=K) (hK:K<=1000):Calls Tryz.prog 134 #[.slice ao n cap] w (OrZ K w n ps):=
 VD hp hl fun r hr=>PN r hp (fun t ht=>Nat.le_trans (hl t ht) hK) hr
theorem IE [Ol] (z:Int) (hp:Pc K w ao n cap p) (hf:fall p) (hz:bF p=z):Calls Tryz.prog 146 #[.slice ao n cap] w (dI (.int .i64 z) w):=by
 rcases Nat.eq_zero_or_pos n with h0|h0
 ·subst h0;obtain rfl:p=[]:=List.eq_nil_of_length_eq_zero hp.len;subst hz;have hd:(((0:Nat):Int)==0)=true:=rfl;clear hp hf;go_enter Tryz.func146,Tryz.ntmps146;go_wp2_with fail;go_ret;exact⟨rfl,Below.refl _ _⟩
 ·obtain⟨b,off,xm,xa,xn,xc,xp,xq,xr,QB,hbl,hc,JX,hBd,IZ⟩:=hp.at (k:=0) h0;subst QB;rw[Nat.zero_mul,Nat.add_zero]at hc;obtain⟨c0,c1,c2⟩:=hc w (Below.refl _ _)
  have hM:Hid (Ml w xp xq xr (p.getD 0 (0,[])).2/\ iC (orM (p.getD 0 (0,[])).2)=z):=by
   refine⟨IZ,?_⟩;cases p with
   |nil=>have:=hp.len;simp at this;omega
   |cons t r=>rw[<-hz];show iC (orM t.2)=iC t.2;rw[rz hf.2.1]
  have hd:((n:Int)==0)=false:=by simpa using(show¬(n:Int)=0 by omega)
  clear hp hf hc JX hBd IZ hz;go_enter Tryz.func146,Tryz.ntmps146;go_wp2_with fail;refine(vR hM.out.1 z hM.out.2).mono ?_;rintro e w1 ⟨rfl,hB⟩;go_wp2_with fail;go_ret;exact⟨rfl,hB⟩
theorem G9 [Ol] (z:Int) (hp:Pr w ao n cap ps) (hl:∀t∈ps,t.1.2.length<=1000) (hz:bF (Dq ps)=z):Calls Tryz.prog 94 #[.slice ao n cap] w (dI (.int .i64 z) w):=by
 go_enter Tryz.func94,Tryz.ntmps94;go_wp2_with fail;refine(SB hp hl (Nat.le_refl _)).mono ?_;rintro e w1 ⟨bo,m,cb,rfl,hX,hmn,hB⟩;go_wp2_with fail;refine(IE z hX (PO hp.wfs) hz).mono ?_;rintro e w2 ⟨rfl,hB2⟩;go_wp2_with fail;go_ret;exact⟨rfl,Below.steps hB hB2⟩
end
end Go.Proofs.YtmenbpmciblnlaaGreatDoor
