/- PsA, PsC, PsF -/
import Derived.Test.YtmenbpmciblnlaaGreatDoorGVa0
set_option maxHeartbeats 0
set_option maxRecDepth 100000
/- Pseudo-division in plain words: heads and tails; one step: its value, its degree, its exponents. -/
namespace Go.Proofs.YtmenbpmciblnlaaGreatDoor
section
def hdP (p:List Term) (v:Int):List Term:=iB p v (fV p v)
theorem YZ {p:List Term} {v:Int} {a:Term} (h:a∈hdP p v):∃s∈p,aJ s.2 v=fV p v/\ a=(s.1,gN v s.2):=by
 obtain⟨s,hs,rfl⟩:=List.mem_map.1 h;obtain⟨h1,h2⟩:=List.mem_filter.1 hs;exact⟨s,h1,by simpa using h2,rfl⟩
def EB (p:List Term) (E:Int):Prop:=∀t∈p,∀u,aJ t.2 u<=E
theorem EB.mono {p:List Term} {E F:Int} (h:EB p E) (hE:E<=F):EB p F:=λt ht u=>Int.le_trans (h t ht u) hE
theorem EB.fit {p q:List Term} {E F:Int} (hp:jJ p) (hq:jJ q) (h:EB p E) (k:EB q F) (hEF:E+F<=10000):rf p q:=λt ht s hs=>by
 rw[Aa (hp t ht) (hq s hs)];intro u;have:=h t ht u;have:=k s hs u;omega
theorem EB.hd {p:List Term} {E:Int} (hp:jJ p) (h:EB p E) (v:Int):EB (hdP p v) E:=λa ha u=>by
 obtain⟨s,hs,_,rfl⟩:=YZ ha;show aJ (gN v s.2) u<=E;rw[jD];have h1:=h s hs u;split
 ·have h2:=h s hs v;have:=(fE (hp s hs) v).1;omega
 ·exact h1
theorem Lc {p q:List Term} (hp:fall p) (hq:jJ q) {x:Term} (hx:x∈jk p q):∃y,(y∈p∨y∈q)/\ y.2=x.2:=by
 have hf:=(sU hp hq).1;have h:=EW hf x hx;have h0:=sS hf x hx;rw[EU _ hp hq]at h;by_cases h1:cf p x.2=0
 ·obtain⟨y,hy,e⟩:=J3 (p:=q) (m:=x.2) (by omega);exact⟨y,.inr hy,e⟩
 ·obtain⟨y,hy,e⟩:=J3 h1;exact⟨y,.inl hy,e⟩
structure FN (g r:List Term) (v E F:Int):Prop where
 fg:fall g
 fr:fall r
 hv:1<=v/\ v<=200
 h1:1<=fV g v
 hd:fV g v<=fV r v
 eg:EB g E
 er:EB r F
 e0:0<=E
 f0:0<=F
 ef:E+F<=10000
section
variable {g r q:List Term} {v E F:Int}
theorem FN.k (h:FN g r v E F):0<=fV r v-fV g v/\ fV r v-fV g v<=10000:=by
 have:=Lp (bU h.fr) v;have:=h.h1;have:=h.hd;omega
theorem FN.pw (h:FN g r v E F) (ρ:Nat->Int):Jj (uM v (fV r v)) ρ=Jj (uM v (fV r v-fV g v)) ρ*Jj (uM v (fV g v)) ρ:=by
 have hk:=h.k;have h1:=h.h1;have hd:=h.hd;have hr:=Lp (bU h.fr) v;have a:=vP h.hv hk;have b:=vP h.hv (e:=fV g v) ⟨by omega,by omega⟩
 have e:l6 (uM v (fV r v-fV g v)) (uM v (fV g v))=uM v (fV r v):=by
  refine vQ ((Aa a b).2 λu=>?_) (vP h.hv ⟨by omega,hr⟩) λu=>?_
  ·rw[mU,mU];split<;>omega
  ·rw[kY a b,mU,mU,mU];split<;>omega
 rw[<-e,LJ a b]
end
end
/- Pseudo-division in plain words: how many terms, and how great numbers, it makes at most. -/
section
def ak2 (a b:Int->Int):Int->Int:=λu=>a u+b u
def cbn (g:Int->Int) (R:Nat->List (Int->Int)):Nat->List (Int->Int)
 |0=>[λ_=>0]
 |s+1=>(cbn g R s).map (ak2 g)++R (s+1)
def cb:List (Int->Int)->Nat->List (Int->Int)
 |[],0=>[λ_=>0]
 |[],_+1=>[]
 |g::gs,s=>cbn g (cb gs) s
def cnn (R:Nat->Nat):Nat->Nat
 |0=>1
 |s+1=>cnn R s+R (s+1)
def cn:Nat->Nat->Nat
 |0,0=>1
 |0,_+1=>0
 |n+1,s=>cnn (cn n) s
theorem NU (v d:Int) (p:List Term):fA (iB p v d)+fA (p.filter λt=> !(aJ t.2 v==d))=fA p:=by
 induction p with
 |nil=>rfl
 |cons t r ih=>
  by_cases e:aJ t.2 v=d
  ·have e1:iB (t::r) v d=(t.1,gN v t.2)::iB r v d:=by simp[iB,e]
   have e2:((t::r).filter λt=> !(aJ t.2 v==d))=r.filter λt=> !(aJ t.2 v==d):=by simp[e]
   rw[e1,e2];simp only[fA];omega
  ·have e1:iB (t::r) v d=iB r v d:=by simp[iB,e]
   have e2:((t::r).filter λt=> !(aJ t.2 v==d))=t::r.filter λt=> !(aJ t.2 v==d):=by simp[e]
   rw[e1,e2];simp only[fA];omega
section
variable {g r q:List Term} {v E F:Int}
end
end
/- A block of a variable is written: what is read elsewhere stays, since it lies in no such block. -/
section
open Go.RowKit
structure af7 [Ol] (w w':World) (b:Nat):Prop where
 kp:∀c,Kp w c->c≠b
 g:w.grownBy w' (some b)
 u:∀(ad:Addr) (x:Int),w.cell? ad=some (.int .u32 x)->w'.cell? ad=some (.int .u32 x)
def isU (v:Value):Bool:=match v with| .int .u32 _=>true| _=>false
theorem LQ {w:World} {b:Nat} {vs:List Value} {T:TypeId} (hA:bD w b vs T) {ad:Addr} {x:Value} (hc:w.cell? ad=some x) (hb:ad.block=b):x∈vs:=by
 obtain⟨b',o,s⟩:=ad;obtain rfl:b'=b:=hb;have hs:s=none:=World.cell?_spot hc
 subst hs;rw[hA.cell]at hc;exact List.mem_of_getElem? hc
theorem af7.mk' [Ol] {w w':World} {b:Nat} {vs:List Value} {T:TypeId} (hlo:Ol.lo<=b) (hA:bD w b vs T) (hT:JE.contains T=true) (hI:∃u∈vs,bF u=false) (hU:∀u∈vs,isU u=false) (hG:w.grownBy w' (some b)):af7 w w' b:=by
 refine⟨λc hc=>hc.far hlo hA hT (by simpa using hI),hG,λad x hx=>hG.cell hx λe=>?_⟩;have:=hU _ (LQ hA hx (Option.some.inj e));simp[isU]at this
theorem BH [Ol] {K K':Nat} {w:World}:∀{X:List (List Value)} {p:List Term},cB (kD K' w) X p->(∀t∈p,Bd t.1 K)->cB (kD K w) X p
 |[],[],_,_=>trivial
 | _::_,_::_,h,hb=>by
  obtain⟨m,ao,n,cap,bo,k,cb,h1,h2,_,h4⟩:=h.1;exact⟨⟨m,ao,n,cap,bo,k,cb,h1,h2,hb _ (by simp),h4⟩,BH h.2 λt ht=>hb t (by simp[ht])⟩
 |[],_::_,h,_=>h.elim
 | _::_,[],h,_=>h.elim
theorem Pc.lower [Ol] {K K':Nat} {w:World} {ao:Option Addr} {n cap:Nat} {p:List Term} (h:Pc K' w ao n cap p) (hb:∀t∈p,Bd t.1 K):Pc K w ao n cap p:=by
 obtain⟨X,h1,h2⟩:=h.ex;exact⟨X,h1,BH h2 hb⟩
end
end Go.Proofs.YtmenbpmciblnlaaGreatDoor
