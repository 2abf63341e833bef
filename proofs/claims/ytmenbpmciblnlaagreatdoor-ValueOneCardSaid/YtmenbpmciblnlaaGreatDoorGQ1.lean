/- PsA, PsC, PsF -/
import Derived.Test.YtmenbpmciblnlaaGreatDoorGVa0
set_option maxHeartbeats 40000000
set_option maxRecDepth 100000
/- Pseudo-division in plain words: heads and tails; one step: its value, its degree, its exponents. -/
namespace Go.Proofs.YtmenbpmciblnlaaGreatDoor
def hdP (p:List Term) (v:Int):List Term:=gW p v (fK p v)
theorem U9 {p:List Term} {v:Int} {a:Term} (h:a∈hdP p v):∃s∈p,aH s.2 v=fK p v/\ a=(s.1,gB v s.2):=by
 obtain⟨s,hs,rfl⟩:=List.mem_map.1 h;obtain⟨h1,h2⟩:=List.mem_filter.1 hs;exact⟨s,h1,by simpa using h2,rfl⟩
def EB (p:List Term) (E:Int):Prop:=∀t∈p,∀u,aH t.2 u<=E
theorem EB.mono {p:List Term} {E F:Int} (h:EB p E) (hE:E<=F):EB p F:=fun t ht u=>Int.le_trans (h t ht u) hE
theorem EB.fit {p q:List Term} {E F:Int} (hp:mJ p) (hq:mJ q) (h:EB p E) (k:EB q F) (hEF:E+F<=10000):xD p q:=fun t ht s hs=>by
 rw[zH (hp t ht) (hq s hs)];intro u;have:=h t ht u;have:=k s hs u;omega
theorem EB.hd {p:List Term} {E:Int} (hp:mJ p) (h:EB p E) (v:Int):EB (hdP p v) E:=fun a ha u=>by
 obtain⟨s,hs,_,rfl⟩:=U9 ha;show aH (gB v s.2) u<=E;rw[je];have h1:=h s hs u;split
 ·have h2:=h s hs v;have:=(fT (hp s hs) v).1;omega
 ·exact h1
structure C8 (g r:List Term) (v E F:Int):Prop where
 fg:fall g
 fr:fall r
 hv:1<=v/\ v<=200
 h1:1<=fK g v
 hd:fK g v<=fK r v
 eg:EB g E
 er:EB r F
 e0:0<=E
 f0:0<=F
 ef:E+F<=10000
section
variable {g r q:List Term} {v E F:Int}
theorem C8.k (h:C8 g r v E F):0<=fK r v-fK g v/\ fK r v-fK g v<=10000:=by
 have:=Jl (eF h.fr) v;have:=h.h1;have:=h.hd;omega
theorem C8.pw (h:C8 g r v E F) (ρ:Nat->Int):NC (tN v (fK r v)) ρ=NC (tN v (fK r v-fK g v)) ρ*NC (tN v (fK g v)) ρ:=by
 have hk:=h.k;have h1:=h.h1;have hd:=h.hd;have hr:=Jl (eF h.fr) v;have a:=vk h.hv hk;have b:=vk h.hv (e:=fK g v) ⟨by omega,by omega⟩
 have e:mh (tN v (fK r v-fK g v)) (tN v (fK g v))=tN v (fK r v):=by
  refine zI ((zH a b).2 fun u=>?_) (vk h.hv ⟨by omega,hr⟩) fun u=>?_
  ·rw[mr,mr];split<;>omega
  ·rw[ow a b,mr,mr,mr];split<;>omega
 rw[<-e,RP a b]
end
end Go.Proofs.YtmenbpmciblnlaaGreatDoor
/- Pseudo-division in plain words: how many terms, and how great numbers, it makes at most. -/
namespace Go.Proofs.YtmenbpmciblnlaaGreatDoor
def ab2 (a b:Int->Int):Int->Int:=fun u=>a u+b u
def cbn (g:Int->Int) (R:Nat->List (Int->Int)):Nat->List (Int->Int)
 |0=>[fun _=>0]
 |s+1=>(cbn g R s).map (ab2 g)++R (s+1)
def cb:List (Int->Int)->Nat->List (Int->Int)
 |[],0=>[fun _=>0]
 |[],_+1=>[]
 |g::gs,s=>cbn g (cb gs) s
def cnn (R:Nat->Nat):Nat->Nat
 |0=>1
 |s+1=>cnn R s+R (s+1)
def cn:Nat->Nat->Nat
 |0,0=>1
 |0,_+1=>0
 |n+1,s=>cnn (cn n) s
theorem Ky (v d:Int) (p:List Term):iI (gW p v d)+iI (p.filter fun t=> !(aH t.2 v==d))=iI p:=by
 induction p with
 |nil=>rfl
 |cons t r ih=>
  by_cases e:aH t.2 v=d
  ·have e1:gW (t::r) v d=(t.1,gB v t.2)::gW r v d:=by simp[gW,e]
   have e2:((t::r).filter fun t=> !(aH t.2 v==d))=r.filter fun t=> !(aH t.2 v==d):=by simp[e]
   rw[e1,e2];simp only[iI];omega
  ·have e1:gW (t::r) v d=gW r v d:=by simp[gW,e]
   have e2:((t::r).filter fun t=> !(aH t.2 v==d))=t::r.filter fun t=> !(aH t.2 v==d):=by simp[e]
   rw[e1,e2];simp only[iI];omega
section
variable {g r q:List Term} {v E F:Int}
end
end Go.Proofs.YtmenbpmciblnlaaGreatDoor
/- A block of a variable is written: what is read elsewhere stays, since it lies in no such block. -/
namespace Go.Proofs.YtmenbpmciblnlaaGreatDoor
open Go.RowKit
structure Yx [Ol] (w w':World) (b:Nat):Prop where
 kp:∀c,Kp w c->c≠b
 g:w.grownBy w' (some b)
 u:∀(ad:Addr) (x:Int),w.cell? ad=some (.int .u32 x)->w'.cell? ad=some (.int .u32 x)
def Xn (v:Value):Bool:=match v with| .int .u32 _=>true| _=>false
theorem I6 {w:World} {b:Nat} {vs:List Value} {T:TypeId} (hA:bD w b vs T) {ad:Addr} {x:Value} (hc:w.cell? ad=some x) (hb:ad.block=b):x∈vs:=by
 obtain⟨b',o,s⟩:=ad;obtain rfl:b'=b:=hb;have hs:s=none:=World.cell?_spot hc
 subst hs;rw[hA.cell]at hc;exact List.mem_of_getElem? hc
theorem Yx.mk' [Ol] {w w':World} {b:Nat} {vs:List Value} {T:TypeId} (hlo:Ol.lo<=b) (hA:bD w b vs T) (hT:Gu.contains T=true) (hI:∃u∈vs,bB u=false) (hU:∀u∈vs,Xn u=false) (hG:w.grownBy w' (some b)):Yx w w' b:=by
 refine⟨fun c hc=>hc.far hlo hA hT (by simpa using hI),hG,fun ad x hx=>hG.cell hx fun e=>?_⟩;have:=hU _ (I6 hA hx (Option.some.inj e));simp[Xn]at this
theorem zJ [Ol] {K K':Nat} {w:World}:∀{X:List (List Value)} {p:List Term},bY (jV K' w) X p->(∀t∈p,Bd t.1 K)->bY (jV K w) X p
 |[],[],_,_=>trivial
 | _::_,_::_,h,hb=>by
  obtain⟨m,ao,n,cap,bo,k,cb,h1,h2,_,h4⟩:=h.1;exact⟨⟨m,ao,n,cap,bo,k,cb,h1,h2,hb _ (by simp),h4⟩,zJ h.2 fun t ht=>hb t (by simp[ht])⟩
 |[],_::_,h,_=>h.elim
 | _::_,[],h,_=>h.elim
theorem Pc.lower [Ol] {K K':Nat} {w:World} {ao:Option Addr} {n cap:Nat} {p:List Term} (h:Pc K' w ao n cap p) (hb:∀t∈p,Bd t.1 K):Pc K w ao n cap p:=by
 obtain⟨X,h1,h2⟩:=h.ex;exact⟨X,h1,zJ h2 hb⟩
end Go.Proofs.YtmenbpmciblnlaaGreatDoor
