import Derived.Test.YtmenbpmciblnlaaGreatDoorGVa0
set_option maxHeartbeats 0
set_option maxRecDepth 100000
namespace Go.Proofs.YtmenbpmciblnlaaGreatDoor
section
def EB (p:List ai) (E:Int):Prop:=∀t∈p,∀u,aI t.2 u<=E
theorem EB.fit {p q:List ai} {E F:Int} (hp:gG p) (hq:gG q) (h:EB p E) (k:EB q F) (hEF:E+F<=10000):kC p q:=λt ht s hs=>by
 rw[oO (hp t ht) (hq s hs)];intro u;have:=h t ht u;have:=k s hs u;omega
theorem Ht {p q:List ai} (hp:bD p) (hq:gG q) {x:ai} (hx:x∈eu p q):∃y,(y∈p∨y∈q)/\ y.2=x.2:=by
 have hf:=(iG hp hq).1;have h:=AX hf x hx;have h0:=lG hf x hx;rw[AW _ hp hq]at h;by_cases h1:cf p x.2=0
 ·obtain⟨y,hy,e⟩:=FJ (p:=q) (m:=x.2) (by omega);exact⟨y,.inr hy,e⟩
 ·obtain⟨y,hy,e⟩:=FJ h1;exact⟨y,.inl hy,e⟩
section
variable {g r q:List ai} {v E F:Int}
end
end
section
def ad4 (a b:Int->Int):Int->Int:=λu=>a u+b u
def cbn (g:Int->Int) (R:Nat->List (Int->Int)):Nat->List (Int->Int)
 |0=>[λ_=>0]
 |s+1=>(cbn g R s).map (ad4 g)++R (s+1)
def cb:List (Int->Int)->Nat->List (Int->Int)
 |[],0=>[λ_=>0]
 |[],_+1=>[]
 |g::gs,s=>cbn g (cb gs) s
def cnn (R:Nat->Nat):Nat->Nat
 |0=>1
 |s+1=>cnn R s+R (s+1)
def cn:Nat->Nat->Nat
 |0,0=>1
 |0,_+1=>0
 |n+1,s=>cnn (cn n) s
theorem DV (p q:List ai):bY (p++q)=bY p+bY q:=by
 induction p with
 |nil=>simp[bY]
 |cons t r ih=>simp only[List.cons_append,bY,ih];omega
theorem DW (c:Int) (m:List (Int×Int)):∀p:List ai,bY (eR p c m)<=bY p+c.natAbs
 |[]=>by
  unfold eR;split<;>simp[bY]
 |t::r=>by
  have ih:=DW c m r;unfold eR;split
  ·simp only[bY];omega
  ·split
   ·split
    ·simp only[bY];omega
    ·simp only[bY];omega
   ·split
    ·simp only[bY];omega
    ·simp only[bY];omega
theorem vQ:∀(q p:List ai),bY (eu p q)<=bY p+bY q
 |[],p=>by simp[eu,bY]
 |t::r,p=>by
  have h1:=DW t.1 t.2 p;have h2:=vQ r (eR p t.1 t.2);simp only[eu,bY];omega
theorem K5 (t:ai) (q:List ai):bY (qM t q)=t.1.natAbs*bY q:=by
 induction q with
 |nil=>rfl
 |cons s r ih=>
  unfold qM at ih ⊢;simp only[List.map_cons,bY,ih,Int.natAbs_mul,Nat.mul_add]
theorem zR (q:List ai):∀p:List ai,bY (jX p q)=bY p*bY q
 |[]=>by simp[jX,bY]
 |t::r=>by simp only[jX,DV,K5,zR q r,bY,Nat.add_mul]
theorem E8 (p q:List ai):bY (df p q)<=bY p*bY q:=by
 have:=vQ (jX p q) [];rw[zR]at this;simpa[bY,df,H7]using this
theorem J8 (v d:Int) (p:List ai):bY (fQ p v d)+bY (p.filter λt=> !(aI t.2 v==d))=bY p:=by
 induction p with
 |nil=>rfl
 |cons t r ih=>
  by_cases e:aI t.2 v=d
  ·have e1:fQ (t::r) v d=(t.1,fy v t.2)::fQ r v d:=by simp[fQ,e]
   have e2:((t::r).filter λt=> !(aI t.2 v==d))=r.filter λt=> !(aI t.2 v==d):=by simp[e]
   rw[e1,e2];simp only[bY];omega
  ·have e1:fQ (t::r) v d=fQ r v d:=by simp[fQ,e]
   have e2:((t::r).filter λt=> !(aI t.2 v==d))=t::r.filter λt=> !(aI t.2 v==d):=by simp[e]
   rw[e1,e2];simp only[bY];omega
section
variable {g r q:List ai} {v E F:Int}
end
end
section
open Go.RowKit
def isU (v:Value):Bool:=match v with| .int .u32 _=>true| _=>false
theorem Q5 {w:World} {b:Nat} {vs:List Value} {T:TypeId} (hA:aS w b vs T) {ad:Addr} {x:Value} (hc:w.cell? ad=some x) (hb:ad.block=b):x∈vs:=by
 obtain⟨b',o,s⟩:=ad;obtain rfl:b'=b:=hb;have hs:s=none:=World.cell?_spot hc
 subst hs;rw[hA.cell]at hc;exact List.mem_of_getElem? hc
end
end Go.Proofs.YtmenbpmciblnlaaGreatDoor
