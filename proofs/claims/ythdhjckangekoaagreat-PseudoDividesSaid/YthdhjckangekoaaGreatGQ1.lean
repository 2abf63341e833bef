/- PsA, PsC, PsI, PsF, PlDelS, PsD, PsP, PsT, PsS -/
import Derived.Test.YthdhjckangekoaaGreatGPc
set_option maxHeartbeats 40000000
set_option maxRecDepth 100000
namespace Go.Proofs.YthdhjckangekoaaGreat
def bQ (p:List Term) (v:Int):List Term:=bZ p v (aI p v)
def gy (p:List Term) (v:Int):List Term:=p.filter fun t=> !(av t.2 v==aI p v)
theorem bP {p:List Term} (h:fall p) (v:Int):fall (bQ p v):=vF h _ _
theorem mM {p:List Term} (h:fall p) (v:Int):fall (gy p v):=qM _ h
theorem vD {p:List Term} {v:Int} {a:Term} (h:a∈bQ p v):∃s∈p,av s.2 v=aI p v/\ a=(s.1,eF v s.2):=by
 obtain⟨s,hs,rfl⟩:=List.mem_map.1 h;obtain⟨h1,h2⟩:=List.mem_filter.1 hs;exact⟨s,h1,by simpa using h2,rfl⟩
theorem Io {p:List Term} {v:Int} {a:Term} (h:a∈gy p v):a∈p/\ av a.2 v<aI p v:=by
 obtain⟨h1,h2⟩:=List.mem_filter.1 h;have h3:=CV h1 v;have h4:av a.2 v≠aI p v:=by simpa using h2
 exact⟨h1,by omega⟩
theorem wF {v:Int} (hv:1<=v/\ v<=200) (d:Int) (ρ:Nat->Int):∀{p:List Term},dX p->ev p ρ=ev (bZ p v d) ρ*wm (gQ v d) ρ+ev (p.filter fun t=> !(av t.2 v==d)) ρ
 |[],_=>by simp[bZ,ev]
 |t::r,h=>by
  have ih:=wF hv d ρ (p:=r) fun s hs=>h s (by simp[hs])
  by_cases e:av t.2 v=d
  ·have e1:bZ (t::r) v d=(t.1,eF v t.2)::bZ r v d:=by simp[bZ,e]
   have e2:((t::r).filter fun t=> !(av t.2 v==d))=r.filter fun t=> !(av t.2 v==d):=by simp[e]
   rw[e1,e2];have e3:=Sn (h t (by simp)) hv ρ;rw[e]at e3;simp only[ev];rw[e3,ih]
   grind
  ·have e1:bZ (t::r) v d=bZ r v d:=by simp[bZ,e]
   have e2:((t::r).filter fun t=> !(av t.2 v==d))=t::r.filter fun t=> !(av t.2 v==d):=by simp[e]
   rw[e1,e2];simp only[ev];rw[ih];omega
theorem Fe {p:List Term} (h:fall p) {v:Int} (hv:1<=v/\ v<=200) (ρ:Nat->Int):ev p ρ=ev (bQ p v) ρ*wm (gQ v (aI p v)) ρ+ev (gy p v) ρ:=wF hv _ ρ (ah h)
def EB (p:List Term) (E:Int):Prop:=∀t∈p,∀u,av t.2 u<=E
theorem EB.mono {p:List Term} {E F:Int} (h:EB p E) (hE:E<=F):EB p F:=fun t ht u=>Int.le_trans (h t ht u) hE
theorem EB.fit {p q:List Term} {E F:Int} (hp:dX p) (hq:dX q) (h:EB p E) (k:EB q F) (hEF:E+F<=10000):iA p q:=fun t ht s hs=>by
 rw[kg (hp t ht) (hq s hs)];intro u;have:=h t ht u;have:=k s hs u;omega
theorem EB.hd {p:List Term} {E:Int} (hp:dX p) (h:EB p E) (v:Int):EB (bQ p v) E:=fun a ha u=>by
 obtain⟨s,hs,_,rfl⟩:=vD ha;show av (eF v s.2) u<=E;rw[dN];have h1:=h s hs u;split
 ·have h2:=h s hs v;have:=(eD (hp s hs) v).1;omega
 ·exact h1
theorem EB.tl {p:List Term} {E:Int} (h:EB p E) (v:Int):EB (gy p v) E:=fun a ha u=>h a (Io ha).1 u
theorem JP {p q:List Term} (hp:fall p) (hq:dX q) {x:Term} (hx:x∈fD p q):∃y,(y∈p∨y∈q)/\ y.2=x.2:=by
 have hf:=(fU hp hq).1;have h:=Ca hf x hx;have h0:=mG hf x hx;rw[BZ _ hp hq]at h;by_cases h1:cf p x.2=0
 ·obtain⟨y,hy,e⟩:=GJ (p:=q) (m:=x.2) (by omega);exact⟨y,.inr hy,e⟩
 ·obtain⟨y,hy,e⟩:=GJ h1;exact⟨y,.inl hy,e⟩
theorem Sq {p q:List Term} (hp:fall p) (hq:dX q) {x:Term} (hx:x∈uU p q):∃y,(y∈p∨y∈q)/\ y.2=x.2:=by
 obtain⟨y,hy|hy,e⟩:=JP hp (xR hq) hx
 ·exact⟨y,.inl hy,e⟩
 ·obtain⟨z,hz,rfl⟩:=xX hy;exact⟨z,.inr hz,e⟩
theorem uy {v k:Int} (hv:1<=v/\ v<=200) (hk:0<=k/\ k<=10000):fall [((1:Int),gQ v k)]:=⟨by omega,jZ hv hk,(fun _ h=>by cases h),trivial⟩
def iI (g r:List Term) (v:Int):List Term:=aU (bQ r v) (mE [(1,gQ v (aI r v-aI g v))])
def zT (g:List Term) (v:Int) (r:List Term):List Term:=uU (aU (bQ g v) (gy r v)) (aU (iI g r v) (gy g v))
def E5 (g:List Term) (v:Int) (q r:List Term):List Term:=fD (aU (bQ g v) q) (iI g r v)
structure bg (g r:List Term) (v E F:Int):Prop where
 fg:fall g
 fr:fall r
 hv:1<=v/\ v<=200
 h1:1<=aI g v
 hd:aI g v<=aI r v
 eg:EB g E
 er:EB r F
 e0:0<=E
 f0:0<=F
 ef:E+F<=10000
section
variable {g r q:List Term} {v E F:Int}
theorem bg.k (h:bg g r v E F):0<=aI r v-aI g v/\ aI r v-aI g v<=10000:=by
 have:=JQ (ah h.fr) v;have:=h.h1;have:=h.hd;omega
theorem bg.Ef (h:bg g r v E F):iA (bQ r v) [((1:Int),gQ v (aI r v-aI g v))]:=fun a ha s hs=>by
 rw[List.mem_singleton.1 hs,kg (ah (bP h.fr v) a ha) (jZ h.hv h.k)];intro u;obtain⟨t,ht,_,rfl⟩:=vD ha;show av (eF v t.2) u+_<=_;rw[dN,kD];have:=(eD (ah h.fr t ht) u).2;have:=h.k;split<;>omega
theorem bg.mv (h:bg g r v E F):iI g r v=aU (bQ r v) [((1:Int),gQ v (aI r v-aI g v))]:=by
 unfold iI;rw[jw (uy h.hv h.k)]
theorem bg.fF (h:bg g r v E F):fall (iI g r v):=by
 rw[h.mv];exact bY (bP h.fr v) (uy h.hv h.k) h.Ef
theorem bg.Ip (h:bg g r v E F) {x:Term} (hx:x∈iI g r v):∃t∈r,av t.2 v=aI r v/\∀u,av x.2 u=av t.2 u-if u=v then aI g v else 0:=by
 have hf:=h.fF;rw[h.mv]at hx hf;obtain⟨a,ha,s,hs,e⟩:=rf h.Ef hx hf;rw[List.mem_singleton.1 hs]at e;obtain⟨t,ht,hd,rfl⟩:=vD ha;refine⟨t,ht,hd,fun u=>?_⟩;rw[e,dM (pz (ah h.fr t ht) v) (jZ h.hv h.k)];show av (eF v t.2) u+_=_;rw[dN,kD];split
 ·subst_vars;omega
 ·omega
theorem bg.ad6 (h:bg g r v E F) (ρ:Nat->Int):ev (iI g r v) ρ=ev (bQ r v) ρ*wm (gQ v (aI r v-aI g v)) ρ:=by
 rw[h.mv,(eO (ah (bP h.fr v)) (ah (uy h.hv h.k)) h.Ef).2];simp[ev]
theorem bg.Vl (h:bg g r v E F):EB (iI g r v) F:=fun x hx u=>by
 obtain⟨t,ht,_,e⟩:=h.Ip hx;rw[e];have:=h.er t ht u;have:=h.h1;split<;>omega
theorem bg.Sr (h:bg g r v E F):iA (bQ g v) (gy r v):=EB.fit (ah (bP h.fg v)) (ah (mM h.fr v)) (h.eg.hd (ah h.fg) v) (h.er.tl v) h.ef
theorem bg.Sv (h:bg g r v E F):iA (iI g r v) (gy g v):=EB.fit (ah h.fF) (ah (mM h.fg v)) h.Vl (h.eg.tl v) (by have:=h.ef;omega)
theorem bg.ai3 (h:bg g r v E F):iA (bQ g v) (bQ r v):=EB.fit (ah (bP h.fg v)) (ah (bP h.fr v)) (h.eg.hd (ah h.fg) v) (h.er.hd (ah h.fr) v) h.ef
theorem bg.nX (h:bg g r v E F):fall (aU (bQ g v) (gy r v)):=bY (bP h.fg v) (mM h.fr v) h.Sr
theorem bg.nY (h:bg g r v E F):fall (aU (iI g r v) (gy g v)):=bY h.fF (mM h.fg v) h.Sv
theorem bg.OY (h:bg g r v E F):fall (zT g v r):=(q9 h.nX (ah h.nY)).1
theorem bg.pw (h:bg g r v E F) (ρ:Nat->Int):wm (gQ v (aI r v)) ρ=wm (gQ v (aI r v-aI g v)) ρ*wm (gQ v (aI g v)) ρ:=by
 have hk:=h.k;have h1:=h.h1;have hd:=h.hd;have hr:=JQ (ah h.fr) v;have a:=jZ h.hv hk;have b:=jZ h.hv (e:=aI g v) ⟨by omega,by omega⟩
 have e:gH (gQ v (aI r v-aI g v)) (gQ v (aI g v))=gQ v (aI r v):=by
  refine qw ((kg a b).2 fun u=>?_) (jZ h.hv ⟨by omega,hr⟩) fun u=>?_
  ·rw[kD,kD];split<;>omega
  ·rw[dM a b,kD,kD,kD];split<;>omega
 rw[<-e,wW a b]
theorem bg.ZP (h:bg g r v E F) (ρ:Nat->Int):ev (zT g v r) ρ=ev (bQ g v) ρ*ev r ρ-ev (iI g r v) ρ*ev g ρ:=by
 unfold zT;rw[(q9 h.nX (ah h.nY)).2,(eO (ah (bP h.fg v)) (ah (mM h.fr v)) h.Sr).2,(eO (ah h.fF) (ah (mM h.fg v)) h.Sv).2];have e1:=Fe h.fr h.hv ρ;have e2:=Fe h.fg h.hv ρ;have e3:=h.ad6 ρ;have e4:=h.pw ρ
 grind
theorem bg.P6 (h:bg g r v E F) {x:Term} (hx:x∈zT g v r):av x.2 v<aI r v/\∃t∈r,∃s∈g,∀u,av x.2 u=av t.2 u+av s.2 u-if u=v then aI g v else 0:=by
 obtain⟨y,hy,e⟩:=Sq h.nX (ah h.nY) hx;rw[<-e];rcases hy with hy|hy
 ·obtain⟨a,ha,b,hb,e2⟩:=rf h.Sr hy h.nX;obtain⟨s,hs,hd,rfl⟩:=vD ha;obtain⟨hb1,hb2⟩:=Io hb
  have hx2:∀u,av y.2 u=av b.2 u+av s.2 u-if u=v then aI g v else 0:=fun u=>by
   rw[e2,dM (pz (ah h.fg s hs) v) (ah h.fr b hb1)];show av (eF v s.2) u+_=_;rw[dN];split
   ·subst_vars;omega
   ·omega
  refine⟨?_,b,hb1,s,hs,hx2⟩;rw[hx2 v,if_pos rfl];omega
 ·obtain⟨a,ha,b,hb,e2⟩:=rf h.Sv hy h.nY;obtain⟨t,ht,hd,e3⟩:=h.Ip ha;obtain⟨hb1,hb2⟩:=Io hb
  have hx2:∀u,av y.2 u=av t.2 u+av b.2 u-if u=v then aI g v else 0:=fun u=>by
   rw[e2,dM (ah h.fF a ha) (ah h.fg b hb1),e3 u];omega
  refine⟨?_,t,ht,b,hb1,hx2⟩;rw[hx2 v,if_pos rfl];omega
theorem bg.ad7 (h:bg g r v E F):aI (zT g v r) v<aI r v:=by
 rcases uw (zT g v r) v with e|⟨x,hx,e⟩
 ·have:=h.h1;have:=h.hd;omega
 ·rw[e];exact(h.P6 hx).1
theorem bg.ai4 (h:bg g r v E F):EB (zT g v r) (E+F):=fun x hx u=>by
 obtain⟨_,t,ht,s,hs,e⟩:=h.P6 hx;rw[e];have:=h.er t ht u;have:=h.eg s hs u;have:=h.h1;split<;>omega
theorem bg.zK (h:bg g r v E F) (hq:fall q) (MK:EB q F):iA (bQ g v) q:=EB.fit (ah (bP h.fg v)) (ah hq) (h.eg.hd (ah h.fg) v) MK h.ef
theorem bg.Xk (h:bg g r v E F) (hq:fall q) (MK:EB q F):fall (E5 g v q r):=(fU (bY (bP h.fg v) hq (h.zK hq MK)) (ah h.fF)).1
theorem bg.ai5 (h:bg g r v E F) (hq:fall q) (MK:EB q F) (ρ:Nat->Int):ev (E5 g v q r) ρ=ev (bQ g v) ρ*ev q ρ+ev (iI g r v) ρ:=by
 unfold E5;rw[(fU (bY (bP h.fg v) hq (h.zK hq MK)) (ah h.fF)).2,(eO (ah (bP h.fg v)) (ah hq) (h.zK hq MK)).2]
theorem bg.Vt (h:bg g r v E F) (hq:fall q) (MK:EB q F) {x:Term} (hx:x∈E5 g v q r):(∃t∈q,∃s∈g,av s.2 v=aI g v/\∀u,av x.2 u=av t.2 u+av s.2 u-if u=v then aI g v else 0)∨ ∃t∈r,av t.2 v=aI r v/\∀u,av x.2 u=av t.2 u-if u=v then aI g v else 0:=by
 have hT:=bY (bP h.fg v) hq (h.zK hq MK);obtain⟨y,hy,e⟩:=JP hT (ah h.fF) hx;rw[<-e];rcases hy with hy|hy
 ·obtain⟨a,ha,b,hb,e2⟩:=rf (h.zK hq MK) hy hT;obtain⟨s,hs,hd,rfl⟩:=vD ha;refine .inl ⟨b,hb,s,hs,hd,fun u=>?_⟩;rw[e2,dM (pz (ah h.fg s hs) v) (ah hq b hb)];show av (eF v s.2) u+_=_;rw[dN];split
  ·subst_vars;omega
  ·omega
 ·exact .inr (h.Ip hy)
theorem bg.ai6 (h:bg g r v E F) (hq:fall q) (MK:EB q F):EB (E5 g v q r) (E+F):=fun x hx u=>by
 rcases h.Vt hq MK hx with⟨t,ht,s,hs,_,e⟩|⟨t,ht,_,e⟩
 ·rw[e];have:=MK t ht u;have:=h.eg s hs u;have:=h.h1;split<;>omega
 ·rw[e];have:=h.er t ht u;have:=h.h1;have:=h.e0;split<;>omega
end
theorem P7 {α β:Type} {R:α->β->Prop}:∀(L:List α) (K:List β),(∀x∈L,∃k∈K,R x k)->L.Pairwise (fun x y=>∀k,R x k->R y k->False)->L.length<=K.length
 |[],_,_,_=>Nat.zero_le _
 |x::L,K,h,hp=>by
  obtain⟨k,hk,hx⟩:=h x (by simp);obtain⟨a,b,rfl⟩:=List.append_of_mem hk;rw[List.pairwise_cons]at hp
  have:=P7 L (a++b) (fun y hy=>by
   obtain⟨k',hk',hy'⟩:=h y (by simp[hy]);rcases List.mem_append.1 hk' with h1|h1
   ·exact⟨k',by simp[h1],hy'⟩
   ·rcases List.mem_cons.1 h1 with h2|h2
    ·rw[h2]at hy';exact(hp.1 y hy _ hx hy').elim
    ·exact⟨k',by simp[h2],hy'⟩) hp.2
  simp at this ⊢;omega
theorem Ba:∀{p:List Term},fall p->p.Pairwise (fun x y=>kY x.2 y.2)
 |[],_=>List.Pairwise.nil
 | _::_,h=>List.pairwise_cons.2 ⟨h.2.2.1,Ba h.2.2.2⟩
theorem count_le {β:Type} {p:List Term} (hp:fall p) (K:List β) (F:β->Int->Int) (h:∀x∈p,∃k∈K,∀u,av x.2 u=F k u):p.length<=K.length:=by
 refine P7 (R:=fun x k=>aJ 0 x.2=true/\∀u,av x.2 u=F k u) p K (fun x hx=>?_) ((Ba hp).imp fun{x y} hxy k h1 h2=>?_)
 ·obtain⟨k,hk,e⟩:=h x hx;exact⟨k,hk,ah hp x hx,e⟩
 ·have e:x.2=y.2:=qw h1.1 h2.1 fun u=>(h1.2 u).trans (h2.2 u).symm
  rw[e]at hxy;exact iX hxy
def yT {α β:Type}:List α->List β->List (α×β)
 |[],_=>[]
 |a::r,l=>l.map (fun b=>(a,b))++yT r l
theorem vG {α β:Type} (l:List β):∀r:List α,(yT r l).length=r.length*l.length
 |[]=>by simp[yT]
 |a::r=>by simp only[yT,List.length_append,List.length_map,vG l r,List.length_cons,Nat.add_mul];omega
theorem vH {α β:Type} {a:α} {b:β} {l:List β} (hb:b∈l):∀{r:List α},a∈r->(a,b)∈yT r l
 |c::r,h=>by
  rcases List.mem_cons.1 h with rfl|h
  ·exact List.mem_append_left _ (List.mem_map.2 ⟨b,hb,rfl⟩)
  ·exact List.mem_append_right _ (vH hb h)
def zX (a b:Int->Int):Int->Int:=fun u=>a u+b u
def cbn (g:Int->Int) (R:Nat->List (Int->Int)):Nat->List (Int->Int)
 |0=>[fun _=>0]
 |s+1=>(cbn g R s).map (zX g)++R (s+1)
def cb:List (Int->Int)->Nat->List (Int->Int)
 |[],0=>[fun _=>0]
 |[],_+1=>[]
 |g::gs,s=>cbn g (cb gs) s
theorem JR:∀gs,cb gs 0=[fun _=>0]
 |[]=>rfl
 | _::_=>rfl
theorem CW {h:Int->Int}:∀{gs:List (Int->Int)} (s:Nat) (e:Int->Int),e∈cb gs s->h∈gs->zX h e∈cb gs (s+1)
 |g::gs,s,e,he,hh=>by
  rcases List.mem_cons.1 hh with rfl|hh
  ·exact List.mem_append_left _ (List.mem_map.2 ⟨e,he,rfl⟩)
  ·induction s generalizing e with
   |zero=>
    have he':e∈cb gs 0:=by rw[JR];exact he
    exact List.mem_append_right _ (CW 0 e he' hh)
   |succ s ih=>
    have he':e∈(cbn g (cb gs) s).map (zX g)++cb gs (s+1):=he;rcases List.mem_append.1 he' with h1|h1
    ·obtain⟨e',h2,rfl⟩:=List.mem_map.1 h1;refine List.mem_append_left _ (List.mem_map.2 ⟨zX h e',ih e' h2,?_⟩)
     funext u
     unfold zX;omega
    ·exact List.mem_append_right _ (CW (s+1) e h1 hh)
def cnn (R:Nat->Nat):Nat->Nat
 |0=>1
 |s+1=>cnn R s+R (s+1)
def cn:Nat->Nat->Nat
 |0,0=>1
 |0,_+1=>0
 |n+1,s=>cnn (cn n) s
theorem Iq:∀(gs:List (Int->Int)) (s:Nat),(cb gs s).length=cn gs.length s
 |[],0=>rfl
 |[],_+1=>rfl
 |g::gs,s=>by
  show(cbn g (cb gs) s).length=cnn (cn gs.length) s;induction s with
  |zero=>rfl
  |succ s ih=>
   show((cbn g (cb gs) s).map (zX g)++cb gs (s+1)).length=cnn (cn gs.length) s+cn gs.length (s+1);rw[List.length_append,List.length_map,ih,Iq gs (s+1)]
theorem mK (p q:List Term):aD (p++q)=aD p+aD q:=by
 induction p with
 |nil=>simp[aD]
 |cons t r ih=>simp only[List.cons_append,aD,ih];omega
theorem Ff (c:Int) (m:List (Int×Int)):∀p:List Term,aD (fC p c m)<=aD p+c.natAbs
 |[]=>by
  unfold fC;split<;>simp[aD]
 |t::r=>by
  have ih:=Ff c m r;unfold fC;split
  ·simp only[aD];omega
  ·split
   ·split
    ·simp only[aD];omega
    ·simp only[aD];omega
   ·split
    ·simp only[aD];omega
    ·simp only[aD];omega
theorem lQ:∀(q p:List Term),aD (fD p q)<=aD p+aD q
 |[],p=>by simp[fD,aD]
 |t::r,p=>by
  have h1:=Ff t.1 t.2 p;have h2:=lQ r (fC p t.1 t.2);simp only[fD,aD];omega
theorem Ez (p:List Term):aD (kP p)=aD p:=by
 induction p with
 |nil=>rfl
 |cons t r ih=>
  unfold kP at ih ⊢;simp only[List.map_cons,aD,ih,Int.natAbs_neg]
theorem P8 (p q:List Term):aD (uU p q)<=aD p+aD q:=by
 have:=lQ (kP q) p;rw[Ez]at this;exact this
theorem AQ (t:Term) (q:List Term):aD (uQ t q)=t.1.natAbs*aD q:=by
 induction q with
 |nil=>rfl
 |cons s r ih=>
  unfold uQ at ih ⊢;simp only[List.map_cons,aD,ih,Int.natAbs_mul,Nat.mul_add]
theorem vg (q:List Term):∀p:List Term,aD (mulL p q)=aD p*aD q
 |[]=>by simp[mulL,aD]
 |t::r=>by simp only[mulL,mK,AQ,vg q r,aD,Nat.add_mul]
theorem fJ (p q:List Term):aD (aU p q)<=aD p*aD q:=by
 have:=lQ (mulL p q) [];rw[vg]at this;simpa[aD,aU,mE]using this
theorem yU:∀{p:List Term} {t:Term},t∈p->t.1.natAbs<=aD p
 |s::r,t,h=>by
  rcases List.mem_cons.1 h with rfl|h
  ·simp only[aD];omega
  ·have:=yU h;simp only[aD];omega
theorem LM (v d:Int) (p:List Term):aD (bZ p v d)+aD (p.filter fun t=> !(av t.2 v==d))=aD p:=by
 induction p with
 |nil=>rfl
 |cons t r ih=>
  by_cases e:av t.2 v=d
  ·have e1:bZ (t::r) v d=(t.1,eF v t.2)::bZ r v d:=by simp[bZ,e]
   have e2:((t::r).filter fun t=> !(av t.2 v==d))=r.filter fun t=> !(av t.2 v==d):=by simp[e]
   rw[e1,e2];simp only[aD];omega
  ·have e1:bZ (t::r) v d=bZ r v d:=by simp[bZ,e]
   have e2:((t::r).filter fun t=> !(av t.2 v==d))=t::r.filter fun t=> !(av t.2 v==d):=by simp[e]
   rw[e1,e2];simp only[aD];omega
theorem fe (p:List Term) (v:Int):aD (bQ p v)+aD (gy p v)=aD p:=LM v _ p
section
variable {g r q:List Term} {v E F:Int}
theorem bg.CX (h:bg g r v E F):aD (iI g r v)<=aD (bQ r v):=by
 rw[h.mv];have:=fJ (bQ r v) [((1:Int),gQ v (aI r v-aI g v))];simpa[aD]using this
theorem bg.P9 (_:bg g r v E F):aD (aU (bQ g v) (gy r v))<=aD g*aD r:=
 Nat.le_trans (fJ _ _) (Nat.mul_le_mul (by have:=fe g v;omega) (by have:=fe r v;omega))
theorem bg.Qa (h:bg g r v E F):aD (aU (iI g r v) (gy g v))<=aD g*aD r:=by
 rw[Nat.mul_comm];exact Nat.le_trans (fJ _ _) (Nat.mul_le_mul (by have:=fe r v;have:=h.CX;omega) (by have:=fe g v;omega))
theorem bg.Vu (h:bg g r v E F):aD (zT g v r)<=aD g*aD r:=by
 have h1:=P8 (aU (bQ g v) (gy r v)) (aU (iI g r v) (gy g v));have h2:=fJ (bQ g v) (gy r v);have h3:=fJ (iI g r v) (gy g v);have h4:aD (iI g r v)*aD (gy g v)<=aD (gy g v)*aD (bQ r v):=by rw[Nat.mul_comm];exact Nat.mul_le_mul_left _ h.CX
 have h5:=fe g v;have h6:=fe r v
 have h7:aD g*aD r=aD (bQ g v)*aD (bQ r v)+aD (bQ g v)*aD (gy r v)+(aD (gy g v)*aD (bQ r v)+aD (gy g v)*aD (gy r v)):=by
  rw[<-h5,<-h6,Nat.add_mul,Nat.mul_add,Nat.mul_add]
 unfold zT;omega
theorem bg.yV (_:bg g r v E F):aD (aU (bQ g v) q)<=aD g*aD q:=
 Nat.le_trans (fJ _ _) (Nat.mul_le_mul_right _ (by have:=fe g v;omega))
theorem bg.Vv (h:bg g r v E F):aD (E5 g v q r)<=aD g*aD q+aD r:=by
 have h1:=lQ (iI g r v) (aU (bQ g v) q);have h2:=h.yV (q:=q);have h3:=h.CX;have h4:=fe r v;unfold E5;omega
end
def bF (g:List Term) (v:Int) (f:List Term):Nat->List Term×List Term
 |0=>([],f)
 |n+1=>(E5 g v (bF g v f n).1 (bF g v f n).2,zT g v (bF g v f n).2)
structure lI (g f:List Term) (v E F:Int) (N:Nat):Prop where
 fg:fall g
 ff:fall f
 hv:1<=v/\ v<=200
 h1:1<=aI g v
 eg:EB g E
 ef:EB f F
 e0:0<=E
 f0:0<=F
 df:aI f v<=N
 sm:F+(N+1)*E<=10000
def Long (g:List Term) (v:Int) (f:List Term) (n:Nat):Prop:=∀j,j<n->aI g v<=aI (bF g v f j).2 v
structure LP (g f:List Term) (v E F:Int) (n:Nat):Prop where
 fr:fall (bF g v f n).2
 fq:fall (bF g v f n).1
 er:EB (bF g v f n).2 (F+n*E)
 eq:EB (bF g v f n).1 (F+n*E)
 dg:aI (bF g v f n).2 v+n<=aI f v∨n=0
 ev:∀ρ,ev (bQ g v) ρ^n*ev f ρ=ev (bF g v f n).1 ρ*ev g ρ+ev (bF g v f n).2 ρ
 sr:∀x∈(bF g v f n).2,∃t∈f,∃e∈cb (g.map fun s=>av s.2) n,∀u,av x.2 u=av t.2 u+e u-if u=v then n*aI g v else 0
 sq:∀x∈(bF g v f n).1,0<n/\∃t∈f,∃e∈cb (g.map fun s=>av s.2) (n-1),∀u,av x.2 u=av t.2 u+e u-if u=v then n*aI g v else 0
 cr:aD (bF g v f n).2<=aD g^n*aD f
 cq:aD (bF g v f n).1<=n*(aD g^n*aD f)
section
variable {g f:List Term} {v E F:Int} {N:Nat}
theorem lI.ZL (h:lI g f v E F N):1<=aD g:=by
 rcases uw g v with e|⟨t,ht,e⟩
 ·have:=h.h1;omega
 ·have h2:=yU ht;have:=mG h.fg t ht;omega
theorem lI.mX (h:lI g f v E F N) {n:Nat} (hi:LP g f v E F n) (hl:aI g v<=aI (bF g v f n).2 v):bg g (bF g v f n).2 v E (F+n*E)/\ n<=N:=by
 have hn:n<=N:=by
  have:=h.h1;have:=h.df;rcases hi.dg with e|e<;>omega
 have hm:(n:Int)*E<=N*E:=Int.mul_le_mul_of_nonneg_right (by omega) h.e0;have hm0:0<=(n:Int)*E:=Int.mul_nonneg (by omega) h.e0;have h1:=h.sm;have h2:((N:Int)+1)*E=N*E+E:=by rw[Int.add_mul,Int.one_mul]
 exact⟨⟨h.fg,hi.fr,h.hv,h.h1,hl,h.eg,hi.er,h.e0,by have:=h.f0;omega,by omega⟩,hn⟩
theorem lI.it (h:lI g f v E F N):∀n:Nat,Long g v f n->LP g f v E F n
 |0,_=>by
  refine⟨h.ff,trivial,h.ef.mono (by simp),(fun t ht=>by cases ht),.inr rfl,(fun ρ=>by simp[bF,ev]),(fun x hx=>⟨x,hx,fun _=>0,by rw[JR];simp,fun u=>by simp⟩),(fun x hx=>by cases hx),(by simp[bF]),(by simp[bF,aD])⟩
 |n+1,hl=>by
  have hi:=h.it n fun j hj=>hl j (by omega)
  obtain⟨hs,hn⟩:=h.mX hi (hl n (by omega))
  have e1:F+((n+1:Nat):Int)*E=E+(F+n*E):=by
   rw[show((n+1:Nat):Int)=n+1 from rfl,Int.add_mul,Int.one_mul];omega
  have hG:=h.ZL;refine⟨hs.OY,hs.Xk hi.fq hi.eq,?_,?_,.inl ?_,fun ρ=>?_,fun x hx=>?_,fun x hx=>⟨by omega,?_⟩,?_,?_⟩
  ·rw[e1];exact hs.ai4
  ·rw[e1];exact hs.ai6 hi.fq hi.eq
  ·have h2:=hs.ad7;show aI (zT g v (bF g v f n).2) v+((n+1:Nat):Int)<=aI f v;rcases hi.dg with e|e
   ·omega
   ·subst e;have h3:aI (bF g v f 0).2 v=aI f v:=rfl;rw[h3]at h2;omega
  ·have a:=hi.ev ρ;have b:=hs.ZP ρ;have c:=hs.ai5 hi.fq hi.eq ρ;show ev (bQ g v) ρ^(n+1)*ev f ρ=ev (E5 g v (bF g v f n).1 (bF g v f n).2) ρ*ev g ρ+ev (zT g v (bF g v f n).2) ρ;rw[b,c,Int.pow_succ]
   grind
  ·obtain⟨_,t,ht,s,hsg,e⟩:=hs.P6 hx;obtain⟨t0,ht0,e0,he0,h0⟩:=hi.sr t ht;refine⟨t0,ht0,zX (av s.2) e0,CW n e0 he0 (List.mem_map.2 ⟨s,hsg,rfl⟩),fun u=>?_⟩;rw[e,h0];unfold zX;rw[show((n+1:Nat):Int)*aI g v=n*aI g v+aI g v by rw[show((n+1:Nat):Int)=n+1 from rfl,Int.add_mul,Int.one_mul]];split<;>omega
  ·rw[show n+1-1=n from rfl];rcases hs.Vt hi.fq hi.eq hx with⟨t,ht,s,hsg,_,e⟩|⟨t,ht,_,e⟩
   ·obtain⟨hn0,t0,ht0,e0,he0,h0⟩:=hi.sq t ht;have hm:=CW (n-1) e0 he0 (List.mem_map.2 ⟨s,hsg,rfl⟩:av s.2∈g.map fun s=>av s.2);rw[show n-1+1=n by omega]at hm;refine⟨t0,ht0,zX (av s.2) e0,hm,fun u=>?_⟩;rw[e,h0];unfold zX;rw[show((n+1:Nat):Int)*aI g v=n*aI g v+aI g v by rw[show((n+1:Nat):Int)=n+1 from rfl,Int.add_mul,Int.one_mul]];split<;>omega
   ·obtain⟨t0,ht0,e0,he0,h0⟩:=hi.sr t ht;refine⟨t0,ht0,e0,he0,fun u=>?_⟩;rw[e,h0];rw[show((n+1:Nat):Int)*aI g v=n*aI g v+aI g v by rw[show((n+1:Nat):Int)=n+1 from rfl,Int.add_mul,Int.one_mul]];split<;>omega
  ·show aD (zT g v (bF g v f n).2)<=_;rw[Nat.pow_succ,Nat.mul_comm (aD g^n),Nat.mul_assoc];exact Nat.le_trans hs.Vu (Nat.mul_le_mul_left _ hi.cr)
  ·show aD (E5 g v (bF g v f n).1 (bF g v f n).2)<=_;have h2:=hs.Vv (q:=(bF g v f n).1);have h3:aD g*aD (bF g v f n).1<=aD g*(n*(aD g^n*aD f)):=Nat.mul_le_mul_left _ hi.cq;have h4:=hi.cr;have h5:aD g^n*aD f<=aD g^(n+1)*aD f:=Nat.mul_le_mul_right _ (Nat.pow_le_pow_right hG (by omega));have h6:aD g*(n*(aD g^n*aD f))=n*(aD g^(n+1)*aD f):=by rw[Nat.pow_succ];ac_rfl
   rw[Nat.add_mul,Nat.one_mul];omega
theorem lI.steps (h:lI g f v E F N) {n:Nat} (hl:Long g v f n):n<=N:=by
 rcases n with _|n
 ·omega
 ·exact Nat.lt_of_lt_of_le (Nat.lt_succ_self n) (by
   have hi:=h.it (n+1) hl;have:=uM (bF g v f (n+1)).2 v;have:=h.df;rcases hi.dg with e|e<;>omega)
theorem LP.ah2 {n:Nat} (h:LP g f v E F n):(bF g v f n).2.length<=f.length*cn g.length n:=by
 have:=count_le h.fr (yT f (cb (g.map fun s=>av s.2) n)) (fun k u=>av k.1.2 u+k.2 u-if u=v then n*aI g v else 0) (fun x hx=>by
  obtain⟨t,ht,e,he,h0⟩:=h.sr x hx;exact⟨(t,e),vH he ht,h0⟩)
 rwa[vG,Iq,List.length_map]at this
theorem LP.ah3 {n:Nat} (h:LP g f v E F n):(bF g v f n).1.length<=f.length*cn g.length (n-1):=by
 have:=count_le h.fq (yT f (cb (g.map fun s=>av s.2) (n-1))) (fun k u=>av k.1.2 u+k.2 u-if u=v then n*aI g v else 0) (fun x hx=>by
  obtain⟨_,t,ht,e,he,h0⟩:=h.sq x hx;exact⟨(t,e),vH he ht,h0⟩)
 rwa[vG,Iq,List.length_map]at this
end
open Go.RowKit
structure l8 [Ol] (w w':World) (b:Nat):Prop where
 kp:∀c,Kp w c->c≠b
 g:w.grownBy w' (some b)
 u:∀(ad:Addr) (x:Int),w.cell? ad=some (.int .u32 x)->w'.cell? ad=some (.int .u32 x)
def isU (v:Value):Bool:=match v with| .int .u32 _=>true| _=>false
theorem Sw {w:World} {b:Nat} {vs:List Value} {T:TypeId} (hA:aN w b vs T) {ad:Addr} {x:Value} (hc:w.cell? ad=some x) (hb:ad.block=b):x∈vs:=by
 obtain⟨b',o,s⟩:=ad;obtain rfl:b'=b:=hb;have hs:s=none:=World.cell?_spot hc
 subst hs;rw[hA.cell]at hc;exact List.mem_of_getElem? hc
theorem l8.mk' [Ol] {w w':World} {b:Nat} {vs:List Value} {T:TypeId} (hlo:Ol.lo<=b) (hA:aN w b vs T) (hT:G5.contains T=true) (hI:∃u∈vs,aX u=false) (hU:∀u∈vs,isU u=false) (hG:w.grownBy w' (some b)):l8 w w' b:=by
 refine⟨fun c hc=>hc.far hlo hA hT (by simpa using hI),hG,fun ad x hx=>hG.cell hx fun e=>?_⟩;have:=hU _ (Sw hA hx (Option.some.inj e));simp[isU]at this
theorem Gl.di [Ol] {sz:Nat} {w w':World} {ao:Option Addr} {n cap:Nat} {aW:List (List Value)} {b:Nat} (h:Gl sz w ao n cap aW) (hF:l8 w w' b):Gl sz w' ao n cap aW:=by
 have hk:∀ad,ao=some ad->0<n->w'.heap[ad.block]? =w.heap[ad.block]? :=fun ad had h0=>hF.g.block _ (h.lt ad had h0) fun e=>hF.kp _ (h.kp h0 ad had) (Option.some.inj e)
 refine⟨h.len,h.le,h.big,h.each,h.nil,h.spot,fun ad had h0=>Nat.lt_of_lt_of_le (h.lt ad had h0) hF.g.size,fun ad had t ht j hj=>?_,fun h0 ad had=>(h.kp h0 ad had).keep (hk ad had h0)⟩;rw[<-h.cells ad had t ht j hj];exact World.cell?_of_block (by rw[gG];exact hk ad had (by omega))
theorem Ml.di [Ol] {w w':World} {ao:Option Addr} {n cap:Nat} {ps:List (Int×Int)} {b:Nat} (h:Ml w ao n cap ps) (hF:l8 w w' b):Ml w' ao n cap ps:=by
 have hk:∀ad,ao=some ad->0<n->w'.heap[ad.block]? =w.heap[ad.block]? :=fun ad had h0=>hF.g.block _ (h.blt h0 had) fun e=>hF.kp _ (h.kp h0 ad had) (Option.some.inj e)
 refine⟨h.len,h.le,h.big,h.wf,h.nil,fun ad had t ht=>?_,fun h0 ad had=>(h.kp h0 ad had).keep (hk ad had h0)⟩;have hc:=h.cells ad had t ht;rw[<-hc.1,<-hc.2];exact⟨World.cell?_of_block (by rw[gG];exact hk ad had (by omega)),World.cell?_of_block (by rw[gG];exact hk ad had (by omega))⟩
theorem Qb [Ol] {w w':World} {ao:Option Addr} {n cap:Nat} {ps:List Nat} {b:Nat} (h:Dg.Sl w ao n cap ps) (hF:l8 w w' b):Dg.Sl w' ao n cap ps:=by
 have hk:∀ad,ao=some ad->0<n->w'.heap[ad.block]? =w.heap[ad.block]? :=fun ad had h0=>hF.g.block _ (h.blt h0 had) fun e=>hF.kp _ (h.kp h0 ad had) (Option.some.inj e)
 refine⟨h.len,h.le,h.big,h.wf,h.nil,fun ad had t ht=>?_,fun h0 ad had=>(h.kp h0 ad had).keep (hk ad had h0)⟩;rw[<-h.cells ad had t ht];exact World.cell?_of_block (by rw[gG];exact hk ad had (by omega))
theorem Sl.di [Ol] {w w':World} {ao:Option Addr} {n cap:Nat} {xs:List Nat} {b:Nat} (h:Sl w ao n cap xs) (hF:l8 w w' b):Sl w' ao n cap xs:=
 ⟨h.len,h.le,h.big,h.wf,h.nil,fun ad had t ht=>hF.u _ _ (h.cells ad had t ht)⟩
theorem In.di [Ol] {w w':World} {m:Bool} {ao:Option Addr} {n cap:Nat} {z:Int} {b:Nat} (h:In w m ao n cap z) (hF:l8 w w' b):In w' m ao n cap z:=by
 obtain⟨xs,hs,hz⟩:=h;exact⟨xs,hs.di hF,hz⟩
theorem Cn.di [Ol] {w w':World} {m:Bool} {ao:Option Addr} {n cap:Nat} {z:Int} {b:Nat} (h:Cn w m ao n cap z) (hF:l8 w w' b):Cn w' m ao n cap z:=⟨h.neg,h.sl.di hF⟩
theorem Zd.di [Ol] {w w':World} {m:Bool} {ao:Option Addr} {n cap:Nat} {z:Int} {b:Nat} (h:Zd w m ao n cap z) (hF:l8 w w' b):Zd w' m ao n cap z:=⟨h.neg,Qb h.sl hF⟩
theorem Pc.di [Ol] {K:Nat} {w w':World} {ao:Option Addr} {n cap:Nat} {p:List Term} {b:Nat} (h:Pc K w ao n cap p) (hF:l8 w w' b):Pc K w' ao n cap p:=by
 obtain⟨aW,h1,h2⟩:=h.ex
 exact⟨aW,h1.di hF,h2.imp fun v a h=>by
  obtain⟨m,ao,n,cap,bo,k,cb,h1,h2,h3,h4⟩:=h;exact⟨m,ao,n,cap,bo,k,cb,h1,h2.di hF,h3,h4.di hF⟩⟩
theorem Pz.di [Ol] {K:Nat} {w w':World} {ao:Option Addr} {n cap:Nat} {p:List Term} {b:Nat} (h:Pz K w ao n cap p) (hF:l8 w w' b):Pz K w' ao n cap p:=by
 obtain⟨aW,h1,h2⟩:=h.ex
 exact⟨aW,h1.di hF,h2.imp fun v a h=>by
  obtain⟨m,ao,n,cap,bo,k,cb,h1,h2,h3,h4⟩:=h;exact⟨m,ao,n,cap,bo,k,cb,h1,h2.di hF,h3,h4.di hF⟩⟩
theorem Pr.di [Ol] {w w':World} {ao:Option Addr} {n cap:Nat} {ps:List Raw} {b:Nat} (h:Pr w ao n cap ps) (hF:l8 w w' b):Pr w' ao n cap ps:=by
 obtain⟨aW,h1,h2⟩:=h.ex
 exact⟨aW,h1.di hF,h2.imp fun v a h=>by
  obtain⟨ao,n,cap,bo,k,cb,h1,h2,h4⟩:=h;exact⟨ao,n,cap,bo,k,cb,h1,h2.di hF,h4.di hF⟩⟩
theorem yX [Ol] {K K':Nat} {w:World}:∀{X:List (List Value)} {p:List Term},bG (fP K' w) X p->(∀t∈p,Bd t.1 K)->bG (fP K w) X p
 |[],[],_,_=>trivial
 | _::_,_::_,h,hb=>by
  obtain⟨m,ao,n,cap,bo,k,cb,h1,h2,_,h4⟩:=h.1;exact⟨⟨m,ao,n,cap,bo,k,cb,h1,h2,hb _ (by simp),h4⟩,yX h.2 fun t ht=>hb t (by simp[ht])⟩
 |[],_::_,h,_=>h.elim
 | _::_,[],h,_=>h.elim
theorem Pc.lower [Ol] {K K':Nat} {w:World} {ao:Option Addr} {n cap:Nat} {p:List Term} (h:Pc K' w ao n cap p) (hb:∀t∈p,Bd t.1 K):Pc K w ao n cap p:=by
 obtain⟨X,h1,h2⟩:=h.ex;exact⟨X,h1,yX h2 hb⟩
open Lib (hid)
open Go.RowKit
section
variable {G:Nat} {lb:Array Value} {f:Term->Bool}
def ad8 [Ol] (S:World->Prop) (G:Nat) (lb:Array Value) (f:Term->Bool) (K:Nat):Prop:=∀(m:Bool) (ao:Option Addr) (n cap:Nat) (bo:Option Addr) (l cb:Nat) (t:Term) (w:World),S w->Cn w m ao n cap t.1->Bd t.1 K->Ml w bo l cb t.2->
 Calls Tryz.prog G (#[.agg #[.bool m,.slice ao n cap,.slice bo l cb]]++lb) w (bN (.bool (f t)) w)
theorem Ir [Ol] {S:World->Prop} (eg:∀args w,(callFunc G args).run Tryz.prog w= .ok (.enter G args) w) {K:Nat} (hV:ad8 S G lb f K)
  {ao:Option Addr} {n cap:Nat} {p:List Term} {w:World} (h:Pc K w ao n cap p) (hn:n<=1000000) (hS:∀V,w.grownBy V (blk ao)->S V):
  Calls Tryz.prog 116 #[.slice ao n cap,.func (.func G) #[] lb] w (fun e w'=>∃z:Int,e= .returned (.int .i64 z)/\ Below w.heap.size w w'/\
   ((z= -1/\∀t,t<n->f (p.getD t (0,[]))=false)∨ ∃k:Nat,z=k/\ k<n/\ f (p.getD k (0,[]))=true/\∀t,t<k->f (p.getD t (0,[]))=false)):=by
 have HM:=hid h;have HV:=hid hV;have HS:=hid hS;clear h hV hS;go_enter Tryz.func116,Tryz.ntmps116;go_wp2;go_loopw [8] (fun i wr=>∃k:Nat,k<=n/\ i= .int .i64 k/\ Hid (∀t,t<k->f (p.getD t (0,[]))=false)/\ Hid (Pc K wr ao n cap p/\ Below w.heap.size w wr)) (fun i _=>n-(intOf i).toNat)
 case atStart=>exact⟨0,Nat.zero_le _,rfl,fun t ht=>by omega,HM.out,Below.refl _ _⟩
 case round=>
  clear HM;obtain⟨k,hk,rfl,HT,HW⟩:=hrel;by_cases hkn:k<n
  ·obtain⟨b,off,xm,xa,xn,xc,xp,xq,xr,rfl,hb,hc,h1,h2,h3⟩:=HW.out.1.at hkn;obtain⟨c0,c1,c2⟩:=hc wr (Below.refl _ _);clear hc;have hcall:=HV.out xm xa xn xc xp xq xr _ _ (HS.out _ (aH _ HW.out.2)) h1 h2 h3;clear h1 h2 h3;cases hq:f (p.getD k (0,[]))with
   |true=>
    rw[hq]at hcall;have HC:=hid hcall;have HQ:=hid hq;clear hcall hq;go_wp2_with (go_at_fn G;refine HC.out.mono ?_;rintro e w2 ⟨rfl,hB⟩;have HB2:=hid hB;clear hB);go_ret;exact⟨k,rfl,Below.steps HW.out.2 HB2.out,.inr ⟨k,rfl,hkn,HQ.out,HT.out⟩⟩
   |false=>
    rw[hq]at hcall;have HC:=hid hcall;have HQ:=hid hq;clear hcall hq;go_wp2_with (go_at_fn G;refine HC.out.mono ?_;rintro e w2 ⟨rfl,hB⟩;have HB2:=hid hB;clear hB);go_roundw
    case rel=>
     refine⟨k+1,by omega,by go_num,fun t ht=>?_,HW.out.1.below HB2.out,Below.steps HW.out.2 HB2.out⟩;by_cases htk:t<k
     ·exact HT.out t htk
     ·obtain rfl:t=k:=by omega
      exact HQ.out
    case measure=>simp[intOf];omega
  ·obtain rfl:k=n:=by omega
   go_wp2;go_ret;exact⟨-1,rfl,HW.out.2,.inl ⟨rfl,HT.out⟩⟩
end
theorem Fg [Ol] {S:World->Prop} {G:Nat} {lb:Array Value} {f:Term->Bool} (eg:∀args w,(callFunc G args).run Tryz.prog w= .ok (.enter G args) w) {B K:Nat} (hV:ad8 S G lb f K)
  {ao:Option Addr} {n cap:Nat} {p:List Term} {w:World} (h:Pw B K w ao n cap p) (hn:n<=1000000) (hS:∀V,w.grownBy V (blk ao)->S V):
  Calls Tryz.prog 82 #[.slice ao n cap,.func (.func G) #[] lb] w (fun e w'=>∃m,e= .returned (.slice ao m cap)/\ Pw B K w' ao m cap (l9 f p)/\ w.grownBy w' (blk ao)):=by
 have HI:=hid (Ir eg hV h.pc hn hS);have HM:=hid h;have HV:=hid hV;have HS:=hid hS;clear h hV hS;go_enter Tryz.func82,Tryz.ntmps82;go_wp2_with fail;refine HI.out.mono ?_;rintro e w1 ⟨z,rfl,hB,hz⟩;have rE:=hid (HM.out.below hB);have qg:=hid (aH (blk ao) hB);have HZ:=hid hz;clear HI HM hB hz;rcases HZ.out with⟨rfl,hz⟩|⟨k,rfl,hk,hkv,hkl⟩
 ·have HO:Hid (l9 f p=p):=uz (by rw[rE.out.len];exact hz);clear HZ hz;go_wp2;go_ret;exact⟨n,rfl,by rw[HO.out];exact rE.out,qg.out⟩
 ·have f0:((k:Int)== -1)=false:=beq_eq_false_iff_ne.2 (by omega);have hl:=rE.out.len
  have HT:Hid (p.take k=l9 f (p.take (k+1))):=by
   rw[Hid,uD (by omega) hkv,uz];intro t ht;have htk:t<k:=by simp at ht;omega
   have:=hkl t htk;simpa[List.getD,List.getElem?_take,htk]using this
  have wU:Hid (p.length=n):=hl;clear HZ hkv hkl hl;obtain⟨g,off,_,_,_,_,_,_,_,rfl,_,_,_,_,_⟩:=rE.out.pc.at hk;go_wp2;go_loopw [5,6,7] (fun i j _ wr=>∃(a b:Nat) (zs:List Term),i= .int .i64 a/\ j= .int .i64 b/\ a<b/\ b<=n/\ Hid (zs.take a=l9 f (p.take b)/\ zs.drop b=p.drop b)/\ Hid (Pw B K wr (some ⟨g,off,none⟩) n cap zs)/\ Hid (w.grownBy wr (some g))) (fun _ j _ _=>n-(intOf j).toNat)
  case atStart=>exact⟨k,k+1,p,rfl,by go_num,by omega,by omega,⟨HT.out,rfl⟩,rE.out,qg.out⟩
  case round=>
   clear rE qg HT;obtain⟨a,b,zs,rfl,rfl,hab,hbn,HT,HM,HW⟩:=hrel;by_cases hlt:b<n
   ·obtain⟨g2,off2,xm,xa,xn,xc,xp,xq,xr,hge,hgl,hc,h1,h2,h3⟩:=HM.out.pc.at hlt;cases hge;obtain⟨c0,c1,c2⟩:=hc wr (Below.refl _ _);clear hc;have hzl:zs.length=n:=HM.out.len;obtain⟨e1,e2⟩:=Bb HT.out.2;obtain⟨t,ht⟩:∃t,t=zs.getD b (0,[]):=⟨_,rfl⟩;rw[<-ht]at h1 h2 h3 e1;have HE:=hid (And.intro e1 e2);have QL:=hid h1;have wR:=hid h2;have Ct:=hid h3;clear ht e1 e2 h1 h2 h3;have hal:=af wr (.cells #[.bool xm,.slice xa xn xc,.slice xp xq xr] 54);have hcall:=HV.out xm xa xn xc xp xq xr t _ (HS.out _ (ay HW.out (aH _ hal))) (QL.out.below hal) wR.out (Ct.out.below hal);have HAL:=hid hal;clear hal;cases hq:f t with
    |true=>
     rw[hq]at hcall;have HC:=hid hcall;have HQ:=hid hq;clear hcall hq;go_wp2_with (go_at_fn G;refine HC.out.mono ?_;rintro e w2 ⟨rfl,hB⟩;have HB2:=hid hB;clear hB);go_roundw
     case rel=>
      refine⟨a,b+1,zs,rfl,by go_num,by omega,by omega,⟨?_,HE.out.2⟩,HM.out.below (aA HB2.out),ay HW.out (aH _ (aA HB2.out))⟩;rw[uD (by rw[wU.out];exact hlt) (by rw[<-HE.out.1];exact HQ.out)];exact HT.out.1
     case measure=>simp[intOf];omega
    |false=>
     rw[hq]at hcall;have HC:=hid hcall;have HQ:=hid hq;clear hcall hq;go_wp2_with (go_at_fn G;refine HC.out.mono ?_;rintro e w2 ⟨rfl,hB⟩;have HB2:=hid hB;have yC:=hid (HM.out.below (aA hB));obtain⟨_,_,_,_,_,_,_,_,_,hge,_,hc,_,_,_⟩:=yC.out.pc.at (k:=a) (by omega);cases hge;obtain⟨d0,d1,d2⟩:=hc w2 (Below.refl _ _);clear hc;obtain⟨d3,d4,d5⟩:=yC.out.fz3 (k:=a) (by omega);have d6:=hB.cell (p:=⟨wr.heap.size,0,none⟩) (by simp);have d7:=hB.cell (p:=⟨wr.heap.size,1,none⟩) (by simp);have d8:=hB.cell (p:=⟨wr.heap.size,2,none⟩) (by simp);simp at d6 d7 d8;clear hB);go_roundw
     case rel=>
      have hst:=yC.out.ad9 (Below.refl _ _) (k:=a) (t:=t) (by omega) (a:= .bool xm) (b:= .slice xa xn xc) (c:= .slice xp xq xr) ⟨_,_,_,_,_,_,_,rfl,QL.out.below (aA HB2.out),wR.out,Ct.out.below (aA HB2.out)⟩;refine⟨a+1,b+1,zs.set a t,by go_num,by go_num,by omega,by omega,⟨?_,?_⟩,hst.1,ay (ay HW.out (aH _ (aA HB2.out))) hst.2⟩
      ·rw[JS (by rw[wU.out];exact hlt) (by rw[<-HE.out.1];exact HQ.out),Bc (by omega),HT.out.1,<-HE.out.1]
      ·rw[Be (by omega)];exact HE.out.2
     case measure=>simp[intOf];omega
   ·obtain rfl:b=n:=by omega
    obtain⟨_,_,hbc,hcm,hrm⟩:=HM.out.room;have hca:¬cap=a:=by omega
    obtain⟨cs,hq1,hq3,hq2⟩:=pE wr g (off+a*3) (b-a) (cap-a) (by omega) (fun j hj=>by rw[Nat.add_assoc];exact(hrm (a*3+j) (by omega)).1) (fun j hj=>by rw[Nat.add_assoc];exact(hrm (a*3+j) (by omega)).2);have hcut:=HM.out.ae0 (k:=a) (by omega) hq3
    have HR:Hid (Pw B K (wr.setCells g (off+a*3) cs) (some ⟨g,off,none⟩) a cap (l9 f p)):=by
     have h1:zs.take a=l9 f p:=HT.out.1.trans (by rw[List.take_of_length_le (by rw[wU.out];exact Nat.le_refl _)]);rw[Hid,<-h1];exact hcut.1
    have HGW:=hid (ay HW.out hcut.2);have hbig:cap<=9223372036854775807:=by unfold maxLen at hcm;omega
    clear hrm hcut hq1 hcm;go_wp2;go_ret;exact⟨a,rfl,HR.out,HGW.out⟩
open Lib (hid)
open Go.RowKit
theorem uE [Ol] {K:Nat} {ao:Option Addr} {n cap:Nat} {p:List Term} {w:World} (hp:Pc K w ao n cap p) (hf:fall p) (hn:n<=1000000):
  Calls Tryz.prog 89 #[.slice ao n cap] w (ae1 w p):=by
 have HP:=hid hp;have HF:=hid hf;clear hp hf;go_enter Tryz.func89,Tryz.ntmps89;go_wp2;go_loopw [3,8] (fun s3 s8 wr=>∃(k:Nat) (mo:Option Addr) (mn mc:Nat) (m:List (Int×Int)),s3= .slice mo mn mc/\ s8= .int .i64 k/\ k<=n/\ Hid (Ml wr mo mn mc m/\ kM (p.take k) m/\ Below w.heap.size w wr)) (fun _ s8 _=>n-(intOf s8).toNat)
 case atStart=>exact⟨0,none,0,0,[],rfl,rfl,Nat.zero_le _,Ml.zero _,kM.nil,Below.refl _ _⟩
 case round=>
  obtain⟨k,mo,mn,mc,m,rfl,rfl,hk,HI⟩:=hrel;by_cases hkm:k<n
  ·have hkp:k<p.length:=by rw[HP.out.len];exact hkm
   obtain⟨t,ht⟩:∃t,t=p.getD k (0,[]):=⟨_,rfl⟩;obtain⟨b,off,xm,xa,xn,xc,xp,xq,xr,Fh,hbl,hc,rH,hBd,kU⟩:=(HP.out.below HI.out.2.2).at (k:=k) hkm;subst Fh;rw[<-ht]at kU;obtain⟨c0,c1,c2⟩:=hc wr (Below.refl _ _);have hD:=HI.out.2.1.next (bM HF.out t (by rw[ht];exact getD_in _ hkp));rw[ht,bJ _ hkp,<-List.take_succ_eq_append_getElem hkp,<-bJ (0,[]) hkp,<-ht]at hD;have HT:=hid (And.intro kU hD);clear hc rH hBd kU hbl ht hD;go_upto_region 5 with(fail)
   refine au (fun W hW=>?_);obtain⟨a1,hB⟩:=pF wr [.bool xm,.slice xa xn xc,.slice xp xq xr] 54;rw[<-hW]at a1 hB;clear hW c0 c1 c2;have HB1:=hid (Below.steps HI.out.2.2 hB);have rE:=hid (And.intro (HI.out.1.below hB) (HT.out.1.below hB));have HD:=hid HT.out.2;obtain⟨c0,c1,c2⟩:=a1.c3;clear a1 hB HT HI;go_wp2_with fail;refine(AO rE.out.1 rE.out.2).mono ?_;rintro e w2 ⟨ro,rn,rc,rfl,h1,hB⟩;have HI2:Hid (Ml w2 ro rn rc _/\ kM (p.take (k+1)) _/\ Below w.heap.size w w2):=⟨h1,HD.out,Below.steps HB1.out hB⟩;clear h1 hB HB1 rE HD c0 c1 c2;go_wp2;go_roundw
   case rel=>exact⟨k+1,ro,rn,rc,_,rfl,by go_num,by omega,HI2.out⟩
   case measure=>simp[intOf];omega
  ·obtain rfl:n=k:=by omega
   have h:=HI.out;rw[List.take_of_length_le (by rw[HP.out.len];exact Nat.le_refl _)]at h;have HH:=hid h;clear h HI;go_wp2;go_ret;exact⟨_,_,_,_,rfl,HH.out.1,HH.out.2.1,HH.out.2.2⟩
open Lib (hid)
open Go.RowKit
theorem Fj [Ol] {x y:Nat} {v d z:Int} {m:Bool} {ao:Option Addr} {n cap:Nat} {bo:Option Addr} {l cb:Nat} {ps:List (Int×Int)} {r:Bool} {w:World} (hx:iG w x (.int .i64 v) 3) (hy:iG w y (.int .i64 d) 3) (hm:Ml w bo l cb ps) (hz:jv ps v=z) (hr:(z==d)=r):
  Calls Tryz.prog 79 #[.agg #[.bool m,.slice ao n cap,.slice bo l cb],.pointer (some ⟨x,0,none⟩),.pointer (some ⟨y,0,none⟩)] w (bN (.bool r) w):=by
 have HX:=hid hx;have HY:=hid hy;have HM:=hid (And.intro hm hz);clear hx hy hm hz;go_enter Tryz.func79,Tryz.ntmps79;go_upto_region 1 with(fail)
 refine au (fun W hW=>?_);obtain⟨a1,hB⟩:=pF w [.bool m,.slice ao n cap,.slice bo l cb] 54;rw[<-hW]at a1 hB;clear hW;have HA:=hid (And.intro a1 (And.intro (HX.out.below hB) (HY.out.below hB)));have yC:=hid (And.intro (HM.out.1.below hB) HM.out.2);have HB:=hid hB;clear a1 hB HM HX HY;refine wp_region_held_drew (S:=fun w'=>(w'.cell? ⟨w.heap.size,0,none⟩=some (.bool m)/\ w'.cell? ⟨w.heap.size,1,none⟩=some (.slice ao n cap)/\ w'.cell? ⟨w.heap.size,2,none⟩=some (.slice bo l cb))/\ w'.cell? ⟨x,0,none⟩=some (.int .i64 v)/\ w'.cell? ⟨y,0,none⟩=some (.int .i64 d)) (by kernel_rfl) ⟨(HA.out.1.below (Below.refl _ _).drew).c3,(HA.out.2.1.below (Below.refl _ _).drew).cell,(HA.out.2.2.below (Below.refl _ _).drew).cell⟩ (fun hH=>?_);refine ak (fun w1 hW=>?_);have ig:Hid (Below W.heap.size W w1):=by rw[hW];exact(Below.refl _ _).drew
 rw[<-hW]at hH;clear hW;refine aB 0 hH ?_;try simp only[ai]
 refine aB 1 hH ?_;try simp only[ai]
 refine aB 2 hH ?_;try simp only[ai]
 refine aB 4 hH ?_;try simp only[ai]
 refine aj 3 rfl (by kernel_rfl) (fun KK hK=>?_);go_simp;refine(o5 (yC.out.1.below ig.out) v z yC.out.2).mono ?_;rintro e w2 ⟨rfl,hB⟩;have HS2:=hid (Below.steps ig.out hB);clear hB ig;go_wp2_with fail;clear hH;refine hK.out _ _ ⟨(HA.out.1.below HS2.out).c3,(HA.out.2.1.below HS2.out).cell,(HA.out.2.2.below HS2.out).cell⟩ fun hH=>?_;clear hK KK
 try simp only[ai]
 refine aB 5 hH ?_;try simp only[ai]
 refine aB 6 hH ?_;try simp only[ai]
 refine wpAnyH_done (by kernel_rfl) ?_ _
 go_wp2_with fail;go_ret;exact⟨rfl,Below.steps HB.out HS2.out⟩
section
variable {K:Nat} {ao:Option Addr} {n cap:Nat} {p:List Term} {w:World}
theorem ul [Ol] (v z:Int) (hp:Pc K w ao n cap p) (hf:fall p) (hK:K<=1000) (hz:aI p v=z):Calls Tryz.prog 46 #[.slice ao n cap,.int .i64 v] w (bN (.int .i64 z) w):=
 wE v z hp.raw (fun t ht=>Nat.le_trans (hp.lens t ht) hK) (by rw[BM hf];exact hz)
theorem Iu [Ol] (v e0:Int) (hp:Pc K w ao n cap p) (hf:fall p) (hv:1<=v/\ v<=200) (hn:n<=1000000) (hK:K<=1000):Calls Tryz.prog 81 #[.slice ao n cap,.int .i64 v,.int .i64 e0] w (qN (K+1) w (bZ p v e0)):=by
 have h:=LQ v e0 hp.raw hp.lens hn hK;rw[BM hf,JU,if_pos hv]at h;exact h
def Qc [Ol] (K:Nat) (w:World) (p:List Term) (v:Int) (e:Ending) (w':World):Prop:=∃ho hn hc ta tn tc,e= .returned (.agg #[.int .i64 (aI p v),.slice ho hn hc,.slice ta tn tc])/\ Pc (K+1) w' ho hn hc (bQ p v)/\ Pc K w' ta tn tc (gy p v)/\ Below w.heap.size w w'
theorem Sy {p:List Term} (hf:dX p) (v:Int):l9 (fun t=>jv t.2 v==aI p v) p=gy p v:=by
 unfold l9 gy;refine List.filter_congr fun t ht=>?_
 show(!(jv t.2 v==aI p v))=_;rw[iT (hf t ht)]
theorem qL [Ol] (v:Int) (hp:Pc K w ao n cap p) (hf:fall p) (hv:1<=v/\ v<=200) (hn:n<=1000000) (hK:K<=1000) (hlo:Ol.lo<=w.heap.size):Calls Tryz.prog 48 #[.slice ao n cap,.int .i64 v] w (Qc K w p v):=by
 have hz:∃z,aI p v=z:=⟨_,rfl⟩;obtain⟨z,hz⟩:=hz;have HZ:=hid hz;have HF:=hid hf;have HV:=hid hv;have eg:∀args w,(callFunc 79 args).run Tryz.prog w= .ok (.enter 79 args) w:=enters_of Tryz.func79 (by kernel_rfl) rfl;have Vb:∀(fn:Fn) (first cap:Array Value) (w:World),(Instr.makeFunc fn first cap).run Tryz.prog w= .ok (.func fn first cap) w:=fun _ _ _ _=>rfl
 have EG:=hid eg;have HP:=hid hp;have nu:=hid hlo;clear eg hz hf hv hp hlo;go_enter Tryz.func48,Tryz.ntmps48;go_upto_region 1 with(fail)
 refine au (fun W hW=>?_);obtain⟨a1,a2,hB⟩:=Fp w [.int .i64 v] [.int .i64 0,.slice none 0 0,.slice none 0 0] 3 68;rw[<-hW]at a1 a2 hB;clear hW;obtain⟨g,hg⟩:∃g,g=w.heap.size:=⟨_,rfl⟩;have HS:Hid (iG W g (.int .i64 v) 3/\ aN W (g+1) [.int .i64 0,.slice none 0 0,.slice none 0 0] 68/\ Pc K W ao n cap p/\ Below g w W/\ g<=W.heap.size):=by rw[hg];exact⟨a1,a2,HP.out.below hB,hB,hB.size⟩
 have HGL:Hid (Ol.lo<=g):=by rw[hg];exact nu.out
 have HGS:Hid (g=w.heap.size):=hg;rw[<-hg];have c0:=HS.out.1.cell;clear a1 a2 hB hg HP nu;go_wp2_with fail;refine(ul v z HS.out.2.2.1 HF.out (by omega) HZ.out).mono ?_;rintro e w1 ⟨rfl,hB⟩;have ig:Hid (iG w1 g (.int .i64 v) 3/\ aN w1 (g+1) [.int .i64 0,.slice none 0 0,.slice none 0 0] 68/\ Pc K w1 ao n cap p/\ Below g w w1/\ g<=w1.heap.size):=⟨HS.out.1.below hB,HS.out.2.1.below hB,HS.out.2.2.1.below hB,HS.out.2.2.2.1.trans (hB.mono HS.out.2.2.2.2),Nat.le_trans HS.out.2.2.2.2 hB.size⟩;clear hB HS c0;go_upto_region 2 with(fail)
 refine au (fun W2 hW=>?_);obtain⟨y,hy⟩:∃y,y=w1.heap.size:=⟨_,rfl⟩
 have HS2:Hid ((iG W2 g (.int .i64 v) 3/\ iG W2 y (.int .i64 z) 3)/\ aN W2 (g+1) [.int .i64 0,.slice none 0 0,.slice none 0 0] 68/\ Pc K W2 ao n cap p/\ Below g w W2/\ g<=W2.heap.size):=by
  have hB:=af w1 (.cells #[.int .i64 z] 3);rw[<-hW]at hB;exact⟨⟨ig.out.1.below hB,by rw[hW,hy];exact iG.new w1 _ _⟩,ig.out.2.1.below hB,ig.out.2.2.1.below hB,ig.out.2.2.2.1.trans (hB.mono ig.out.2.2.2.2),Nat.le_trans ig.out.2.2.2.2 hB.size⟩
 have HYG:Hid (g+1<y):=by rw[hy];exact ig.out.2.1.lt
 rw[<-hy];clear hW hy ig;go_upto_region 3 with(fail)
 refine wp_region_held_drew (S:=fun w'=>w'.cell? ⟨g,0,none⟩=some (.int .i64 v)/\ w'.cell? ⟨y,0,none⟩=some (.int .i64 z)) (by kernel_rfl) ⟨(HS2.out.1.1.below (Below.refl _ _).drew).cell,(HS2.out.1.2.below (Below.refl _ _).drew).cell⟩ (fun hH=>?_);refine ak (fun w3 hW=>?_);have hB:Below W2.heap.size W2 w3:=by rw[hW];exact(Below.refl _ _).drew
 have nA:Hid ((iG w3 g (.int .i64 v) 3/\ iG w3 y (.int .i64 z) 3)/\ aN w3 (g+1) [.int .i64 0,.slice none 0 0,.slice none 0 0] 68/\ Pc K w3 ao n cap p/\ Below g w w3/\ g<=w3.heap.size):=⟨⟨HS2.out.1.1.below hB,HS2.out.1.2.below hB⟩,HS2.out.2.1.below hB,HS2.out.2.2.1.below hB,HS2.out.2.2.2.1.trans (hB.mono HS2.out.2.2.2.2),Nat.le_trans HS2.out.2.2.2.2 hB.size⟩;rw[<-hW]at hH;clear hB HS2;clear hW;refine aB 0 hH ?_;try simp only[ai]
 refine aB 1 hH ?_;try simp only[ai]
 refine aB 2 hH ?_;try simp only[ai]
 refine aB 3 hH ?_;try simp only[ai]
 refine aB 5 hH ?_;try simp only[ai]
 refine aB 7 hH ?_;try simp only[ai]
 refine aj 4 rfl (by kernel_rfl) (fun KK hK=>?_);go_simp;refine(Iu v z nA.out.2.2.1 HF.out HV.out (by omega) (by omega)).mono ?_;rintro e w4 ⟨ho,hn2,hc,rfl,hH4,hB⟩;have eU:Hid ((iG w4 g (.int .i64 v) 3/\ iG w4 y (.int .i64 z) 3)/\ aN w4 (g+1) [.int .i64 0,.slice none 0 0,.slice none 0 0] 68/\ Pc K w4 ao n cap p/\ Below g w w4/\ g<=w4.heap.size):=⟨⟨nA.out.1.1.below hB,nA.out.1.2.below hB⟩,nA.out.2.1.below hB,nA.out.2.2.1.below hB,nA.out.2.2.2.1.trans (hB.mono nA.out.2.2.2.2),Nat.le_trans nA.out.2.2.2.2 hB.size⟩;have HH4:=hid hH4.pc;clear hB hH4 nA;go_wp2_with fail;clear hH;refine hK.out _ _ ⟨eU.out.1.1.cell,eU.out.1.2.cell⟩ fun hH=>?_;clear hK KK
 try simp only[ai]
 refine aj 6 rfl (by kernel_rfl) (fun KK hK=>?_);go_simp;refine(zY eU.out.2.2.1 (by omega)).mono ?_;rintro e w5 ⟨ta,tn,tc,rfl,hT5,hB⟩;have fT:Hid ((iG w5 g (.int .i64 v) 3/\ iG w5 y (.int .i64 z) 3)/\ aN w5 (g+1) [.int .i64 0,.slice none 0 0,.slice none 0 0] 68/\ Pc K w5 ao n cap p/\ Below g w w5/\ g<=w5.heap.size):=⟨⟨eU.out.1.1.below hB,eU.out.1.2.below hB⟩,eU.out.2.1.below hB,eU.out.2.2.1.below hB,eU.out.2.2.2.1.trans (hB.mono eU.out.2.2.2.2),Nat.le_trans eU.out.2.2.2.2 hB.size⟩;have HH5:=hid (HH4.out.below hB);have HT5:=hid hT5;have lY:=hid hB;have hl5:tn<=1000000:=by have:=hT5.len;have:=eU.out.2.2.1.len;omega
 clear hB hT5;go_wp2_with fail;clear hH;refine hK.out _ _ ⟨fT.out.1.1.cell,fT.out.1.2.cell⟩ fun hH=>?_;clear hK KK
 try simp only[ai]
 have hlt:=HT5.out.lt;have HDS:Hid (∀V,w5.grownBy V (blk ta)->iG V g (.int .i64 v) 3/\ iG V y (.int .i64 z) 3):=fun V hG=>⟨fT.out.1.1.keep (hG.block _ fT.out.1.1.lt fun e=>by have h1:=(hlt _ e.symm).1;have h2:=eU.out.1.1.lt;omega),fT.out.1.2.keep (hG.block _ fT.out.1.2.lt fun e=>by have h1:=(hlt _ e.symm).1;have h2:=eU.out.1.2.lt;omega)⟩
 clear hlt;refine aj 8 rfl (by kernel_rfl) (fun KK hK=>?_);go_simp;refine(Fg (S:=fun V=>iG V g (.int .i64 v) 3/\ iG V y (.int .i64 z) 3) (f:=fun t=>jv t.2 v==z) (lb:= #[.pointer (some ⟨g,0,none⟩),.pointer (some ⟨y,0,none⟩)]) EG.out (fun m ao n cap bo l cb t W hs h1 h2 h3=>Fj hs.1 hs.2 h3 rfl rfl) HT5.out hl5 HDS.out).mono ?_;rintro e w6 ⟨tm,rfl,hT6,hG⟩;have hB:Below w4.heap.size w4 w6:=lY.out.grown hG lY.out.size (fun r e=>(HT5.out.lt r e).1);have jg:Hid ((iG w6 g (.int .i64 v) 3/\ iG w6 y (.int .i64 z) 3)/\ aN w6 (g+1) [.int .i64 0,.slice none 0 0,.slice none 0 0] 68/\ Pc K w6 ao n cap p/\ Below g w w6/\ g<=w6.heap.size):=⟨⟨eU.out.1.1.below hB,eU.out.1.2.below hB⟩,eU.out.2.1.below hB,eU.out.2.2.1.below hB,eU.out.2.2.2.1.trans (hB.mono eU.out.2.2.2.2),Nat.le_trans eU.out.2.2.2.2 hB.size⟩;have HH6:=hid (HH4.out.below hB);have HT6:=hid hT6.pc;clear hB hT6 hG HT5 lY HH5 HDS fT;go_wp2_with fail;clear hH;refine hK.out _ _ ⟨jg.out.1.1.cell,jg.out.1.2.cell⟩ fun hH=>?_;clear hK KK
 try simp only[ai]
 refine aB 9 hH ?_;try simp only[ai]
 refine aj 10 rfl (by kernel_rfl) (fun KK hK=>?_);obtain⟨d0,d1,d2⟩:=jg.out.2.1.c3;obtain⟨f0,f1,f2⟩:=jg.out.2.1.f3;go_simp;clear d0 d1 d2 f0 f1 f2;clear hH;refine hK.out _ _ ⟨(jg.out.1.1.keep (yY (by omega) _ _ _)).cell,(jg.out.1.2.keep (yY (by have:=HYG.out;omega) _ _ _)).cell⟩ fun hH=>?_;clear hK KK
 try simp only[ai]
 refine wpAnyH_done (by kernel_rfl) ?_ _
 go_wp2_with fail;clear hH;refine dS (Q:=bodyPost _ _ _ _ _) (fun W3 hW=>?_);have hG:w6.grownBy W3 (some (g+1)):=by rw[hW];exact dm _ _ _ _ _ _
 have A:aN W3 (g+1) [.int .i64 z,.slice ho hn2 hc,.slice ta tm tc] 68:=by rw[hW];exact((jg.out.2.1.set 0 _).set 1 _).set 2 _
 have Dp:l8 w6 W3 (g+1):=l8.mk' (Nat.le_succ_of_le HGL.out) jg.out.2.1 (by decide) ⟨.int .i64 0,by simp,rfl⟩ (fun u hu=>by simp at hu;rcases hu with rfl|rfl|rfl<;>rfl) hG;have h1:=HH6.out.di Dp;have h2:=HT6.out.di Dp;rw[<-HZ.out]at h1 h2;rw[Sy (ah HF.out)]at h2;have hBW:Below w.heap.size w W3:=by have h:=jg.out.2.2.2.1.trans (fw hG (Nat.le_succ g) jg.out.2.2.2.2);rwa[HGS.out]at h
 have HR:Hid (Qc K w p v (.returned (.agg #[.int .i64 z,.slice ho hn2 hc,.slice ta tm tc])) W3):=⟨_,_,_,_,_,_,by rw[HZ.out],h1,h2,hBW⟩;clear hW h1 h2 hBW Dp hG;obtain⟨d0,d1,d2⟩:=A.c3;refine bodyPost_ret (v:= .agg #[.int .i64 z,.slice ho hn2 hc,.slice ta tm tc]) (by simp[results,Tryz.results48,go_sem,d0,d1,d2]) rfl HR.out
end
open Lib (hid)
open Go.RowKit
theorem JV {q:List Term} (hq:dX q):iA [((1:Int),[])] q:=fun t ht s hs=>by
 rw[List.mem_singleton.1 ht,kg rfl (hq s hs)];intro v;have:=(eD (hq s hs) v).2;show av [] v+_<=_;rw[show av [] v=0 from rfl];omega
theorem LU {q:List Term} (hq:fall q):aU [((1:Int),[])] q=q:=by
 have h1:fall [((1:Int),([]:List (Int×Int)))]:=⟨by omega,rfl,(fun _ h=>by cases h),trivial⟩;refine iN (eO (ah h1) (ah hq) (JV (ah hq))).1 hq fun ρ=>?_
 rw[(eO (ah h1) (ah hq) (JV (ah hq))).2];simp[ev,Ro]
def nW (v dg:Int) (ho:Option Addr) (hn hc:Nat) (ta:Option Addr) (tn tc:Nat) (hq:Bool) (qo:Option Addr) (qn qc:Nat) (ro:Option Addr) (rn rc:Nat) (s:Int):List Value:=
 [.int .i64 v,.int .i64 dg,.slice ho hn hc,.slice ta tn tc,.bool hq,.slice qo qn qc,.slice ro rn rc,.int .i64 s]
section
variable {K KR:Nat} {ao bo:Option Addr} {n cap m cb:Nat} {p q:List Term} {w:World}
theorem CY [Ol] (b:Nat) (hp:Pc K w ao n cap p) (hq:Pc K w bo m cb q) (hfp:fall p) (jM:fall q) (hn:n<=300000) (hm:m<=300000) (hnm:n*m<=1000000) (hK:K<=900) (hf:iA p q) (hb:∀t∈aU p q,Bd t.1 KR):
  Calls Tryz.prog 91 #[.pointer (some ⟨b,0,none⟩),.slice ao n cap,.slice bo m cb] w (vY KR w (aU p q)):=by
 have HP:=hid hp;have HQ:=hid hq;have HF:=hid (And.intro hfp (And.intro jM (And.intro hf hb)));have h1:mE [((1:Int),([]:List (Int×Int)))]=[(1,[])]:=jw ⟨by omega,rfl,(fun _ h=>by cases h),trivial⟩;have H1:=hid h1;obtain⟨r,hr⟩:∃r,decide (p.map iL=[((1:Int),([]:List (Int×Int)))].map iL)=r:=⟨_,rfl⟩;have HR:=hid hr;clear hp hq hfp jM hf hb h1 hr;go_enter Tryz.func91,Tryz.ntmps91;go_wp2_with fail;refine(xu 1 _ ⟨by omega,by omega⟩).mono ?_;rintro e w1 ⟨xm,xa,xn,xc,rfl,hX,hB⟩;have HX:=hid hX;have zD:=hid (HP.out.below hB);have Ap:=hid (HQ.out.below hB);have HB1:=hid hB;have hxn:xn<=1:=HX.out.le (by unfold Bd;decide);clear hX hB HP HQ;go_wp2_with fail;refine(Fq HX.out.inn hxn (by omega)).mono ?_;rintro e w2 ⟨oa,on,oc,rfl,hO,hB⟩;rw[H1.out]at hO;have HO:=hid hO;have Dq:=hid (zD.out.below hB);have JW:=hid (Ap.out.below hB);have HB2:=hid (Below.steps HB1.out hB);clear hO hB zD Ap HB1 HX;go_wp2_with fail;refine(LV r Dq.out.raw HO.out.raw HR.out).mono ?_;rintro e w3 ⟨rfl,hB⟩;have Gf:=hid (Dq.out.below hB);have Fs:=hid (JW.out.below hB);have HB3:=hid (Below.steps HB2.out hB);clear hB Dq JW HB2 HO;cases r with
 |true=>
  have HE:Hid (aU p q=q):=by
   have h2:p.map iL=[((1:Int),([]:List (Int×Int)))].map iL:=of_decide_eq_true HR.out
   have h3:p=[((1:Int),[])]:=by
    have h4:=congrArg (List.map mQ) h2;rwa[List.map_map,List.map_map,show mQ ∘ iL=id from funext qY,List.map_id,List.map_id]at h4
   rw[h3];exact LU HF.out.2.1
  go_wp2_with fail;go_ret;refine⟨_,_,_,rfl,?_,HB3.out⟩;have h5:=HF.out.2.2.2;rw[HE.out]at h5 ⊢;exact Fs.out.lower h5
 |false=>
  go_wp2_with fail;refine(yZ Gf.out Fs.out HF.out.1 HF.out.2.1 hn hm hnm (by omega) (iM.2 HF.out.2.2.1)).mono ?_;rintro e w4 ⟨ro,rn,rc,rfl,h1,h2⟩;have HN:Hid (vY KR w (aU p q) (.returned (.slice ro rn rc)) w4):=⟨_,_,_,rfl,h1.lower HF.out.2.2.2,Below.steps HB3.out h2⟩;clear h1 h2;go_wp2_with fail;go_ret;exact HN.out
theorem LW [Ol] {D:Nat} {v dg a k s:Int} {ho':Option Addr} {hn' hc':Nat} {bt:Option Addr} {btn btc:Nat} {hq:Bool} {qo:Option Addr} {qn qc:Nat} {ro':Option Addr} {rn' rc':Nat} {ta:Option Addr} {tn tc:Nat}
  (hD:aN w D (nW v dg ho' hn' hc' bt btn btc hq qo qn qc ro' rn' rc' s) 70) (hp:Pc K w ao n cap p) (hfp:fall p) (hn:n<=300000) (hK:K<=900) (hv:1<=v/\ v<=200) (hk:0<=k/\ k<=10000) (ha:a-dg=k) (hf:iA p (mE [(1,gQ v k)])) (hb:∀t∈aU p (mE [(1,gQ v k)]),Bd t.1 KR):
  Calls Tryz.prog 90 #[.pointer (some ⟨D,0,none⟩),.agg #[.int .i64 a,.slice ao n cap,.slice ta tn tc]] w (vY KR w (aU p (mE [(1,gQ v k)]))):=by
 have hw:IntKind.i64.wrap (a-dg)=k:=by rw[ha];exact IntWalk.i64_in _ ⟨by omega,by omega⟩
 have HP:=hid hp;have HD:=hid hD;have HF:=hid (And.intro hfp (And.intro (jZ hv hk) (And.intro hf hb)));have HV:=hid (And.intro hv hk);clear hp hD hfp hf hb ha hv hk;go_enter Tryz.func90,Tryz.ntmps90;go_upto_region 2 with(fail)
 refine au (fun W hW=>?_);obtain⟨g,hg⟩:∃g,g=w.heap.size:=⟨_,rfl⟩;obtain⟨a1,hB⟩:=pF w [.int .i64 a,.slice ao n cap,.slice ta tn tc] 68;rw[<-hW,<-hg]at a1;rw[<-hW]at hB;rw[<-hg];have HS:Hid (aN W g [.int .i64 a,.slice ao n cap,.slice ta tn tc] 68/\ aN W D (nW v dg ho' hn' hc' bt btn btc hq qo qn qc ro' rn' rc' s) 70/\ Pc K W ao n cap p/\ Below w.heap.size w W):=⟨a1,HD.out.below hB,HP.out.below hB,hB⟩;clear hW a1 hB HP HD hg;have c0:=HS.out.1.c3.1;have c1:W.cell? ⟨D,1,none⟩=some (.int .i64 dg):=HS.out.2.1.cell 1;have c2:W.cell? ⟨D,0,none⟩=some (.int .i64 v):=HS.out.2.1.cell 0;go_quiet (fail);go_upto_region 3 with(fail)
 refine au (fun V hV=>?_)
 have Sz:Hid (aN V g [.int .i64 a,.slice ao n cap,.slice ta tn tc] 68/\ aN V D (nW v dg ho' hn' hc' bt btn btc hq qo qn qc ro' rn' rc' s) 70/\ Pc K V ao n cap p/\ Below w.heap.size w V):=by
  have hB:Below W.heap.size W V:=by rw[hV];exact _root_.Go.below_drewN (Below.refl _ _) _
  exact⟨HS.out.1.below hB,HS.out.2.1.below hB,HS.out.2.2.1.below hB,Below.steps HS.out.2.2.2 hB⟩
 clear hV HS c0 c1 c2;by_cases h0:k=0
 ·subst h0;have HS:Hid (aN V g [.int .i64 a,.slice ao n cap,.slice ta tn tc] 68/\ Pc K V ao n cap p/\ Ml V none 0 0 (gQ v 0)/\ Below w.heap.size w V):=⟨Sz.out.1,Sz.out.2.2.1,Ml.zero V,Sz.out.2.2.2⟩;clear Sz;have hd:decide ((0:Int)<0)=false:=rfl;go_upto_region 5 with(fail)
  refine wp_region_held_drew (S:=fun w'=>w'.cell? ⟨g,1,none⟩=some (.slice ao n cap)) (by kernel_rfl) (by have:=(HS.out.1.below (Below.refl _ _).drew).c3;exact this.2.1) (fun hH=>?_);refine ak (fun w1 hW=>?_);have hB:Below V.heap.size V w1:=by rw[hW];exact(Below.refl _ _).drew
  have ig:Hid (aN w1 g [.int .i64 a,.slice ao n cap,.slice ta tn tc] 68/\ Pc K w1 ao n cap p/\ Ml w1 none 0 0 (gQ v 0)/\ Below w.heap.size w w1):=⟨HS.out.1.below hB,HS.out.2.1.below hB,HS.out.2.2.1.below hB,Below.steps HS.out.2.2.2 hB⟩;rw[<-hW]at hH;clear hB HS;clear hW;refine aB 0 hH ?_;try simp only[ai]
  refine aB 1 hH ?_;try simp only[ai]
  refine aB 3 hH ?_;try simp only[ai]
  refine aj 2 rfl (by kernel_rfl) (fun KK hK=>?_);go_simp;refine(xu 1 _ ⟨by omega,by omega⟩).mono ?_;rintro e w2 ⟨xm,xa,xn,xc,rfl,hX,hB⟩;have HX:=hid hX;have hxn:xn<=1:=HX.out.le (by unfold Bd;decide);have HS2:Hid (aN w2 g [.int .i64 a,.slice ao n cap,.slice ta tn tc] 68/\ Pc K w2 ao n cap p/\ Ml w2 none 0 0 (gQ v 0)/\ Below w.heap.size w w2):=⟨ig.out.1.below hB,ig.out.2.1.below hB,ig.out.2.2.1.below hB,Below.steps ig.out.2.2.2 hB⟩;clear hX hB ig;go_wp2_with fail;clear hH;refine hK.out _ _ (by have:=HS2.out.1.c3;exact this.2.1) fun hH=>?_;clear hK KK
  try simp only[ai]
  refine aj 4 rfl (by kernel_rfl) (fun KK hK=>?_);go_simp;refine(y5 (HS2.out.2.1.mono (show K<=max K 1 from Nat.le_max_left _ _)) HF.out.1 hn HX.out.inn (Nat.le_trans hxn (Nat.le_max_right K 1)) (by omega) HS2.out.2.2.1 HF.out.2.1).mono ?_;rintro e w3 ⟨ro,rn,rc,rfl,h1,h2⟩;rw[qj HF.out.2.2.1,CZ HF.out.2.2.1]at*
  have HN:Hid (vY KR w (aU p (mE [(1,gQ v 0)])) (.returned (.slice ro rn rc)) w3):=⟨_,_,_,rfl,h1.lower HF.out.2.2.2,Below.steps HS2.out.2.2.2 h2⟩;have HSc:Hid (w3.cell? ⟨g,1,none⟩=some (.slice ao n cap)):=(HS2.out.1.below h2).c3.2.1;clear h1 h2;go_wp2_with fail;clear hH;refine hK.out _ _ HSc.out fun hH=>?_;clear hK KK
  try simp only[ai]
  refine aB 5 hH ?_;try simp only[ai]
  refine aB 6 hH ?_;try simp only[ai]
  refine aB 7 hH ?_;try simp only[ai]
  refine aB 8 hH ?_;try simp only[ai]
  refine aB 9 hH ?_;try simp only[ai]
  refine wpAnyH_done (by kernel_rfl) ?_ _
  go_wp2_with fail;go_ret;exact HN.out
 ·have hd:decide (0<k)=true:=decide_eq_true (by have:=HV.out.2.1;omega);have c2:V.cell? ⟨D,0,none⟩=some (.int .i64 v):=Sz.out.2.1.cell 0;go_upto_region 5 with(fail)
  refine au (fun V2 hW=>?_);obtain⟨y,hy⟩:∃y,y=V.heap.size:=⟨_,rfl⟩
  have mU:Hid (aN V2 g [.int .i64 a,.slice ao n cap,.slice ta tn tc] 68/\ Pc K V2 ao n cap p/\ Ml V2 (some ⟨y,0,none⟩) 1 1 (gQ v k)/\ Below w.heap.size w V2):=by
   have hB:=af V (.cells #[.int .i64 v,.int .i64 k] 56);rw[<-hW]at hB;have hM:=Ml.lit V v k 56 (by have:=HV.out;unfold dW;omega) (by have:=HV.out;unfold dW;omega);rw[<-hW,<-hy]at hM;exact⟨Sz.out.1.below hB,Sz.out.2.2.1.below hB,by unfold gQ;rw[if_neg h0];exact hM,Below.steps Sz.out.2.2.2 hB⟩
  rw[<-hy];clear hW hy Sz c2 hd;have HS:=hid mU.out;clear mU;refine wp_region_held_drew (S:=fun w'=>w'.cell? ⟨g,1,none⟩=some (.slice ao n cap)) (by kernel_rfl) (by have:=(HS.out.1.below (Below.refl _ _).drew).c3;exact this.2.1) (fun hH=>?_);refine ak (fun w1 hW=>?_);have hB:Below V2.heap.size V2 w1:=by rw[hW];exact(Below.refl _ _).drew
  have ig:Hid (aN w1 g [.int .i64 a,.slice ao n cap,.slice ta tn tc] 68/\ Pc K w1 ao n cap p/\ Ml w1 (some ⟨y,0,none⟩) 1 1 (gQ v k)/\ Below w.heap.size w w1):=⟨HS.out.1.below hB,HS.out.2.1.below hB,HS.out.2.2.1.below hB,Below.steps HS.out.2.2.2 hB⟩;rw[<-hW]at hH;clear hB HS;clear hW;refine aB 0 hH ?_;try simp only[ai]
  refine aB 1 hH ?_;try simp only[ai]
  refine aB 3 hH ?_;try simp only[ai]
  refine aj 2 rfl (by kernel_rfl) (fun KK hK=>?_);go_simp;refine(xu 1 _ ⟨by omega,by omega⟩).mono ?_;rintro e w2 ⟨xm,xa,xn,xc,rfl,hX,hB⟩;have HX:=hid hX;have hxn:xn<=1:=HX.out.le (by unfold Bd;decide);have HS2:Hid (aN w2 g [.int .i64 a,.slice ao n cap,.slice ta tn tc] 68/\ Pc K w2 ao n cap p/\ Ml w2 (some ⟨y,0,none⟩) 1 1 (gQ v k)/\ Below w.heap.size w w2):=⟨ig.out.1.below hB,ig.out.2.1.below hB,ig.out.2.2.1.below hB,Below.steps ig.out.2.2.2 hB⟩;clear hX hB ig;go_wp2_with fail;clear hH;refine hK.out _ _ (by have:=HS2.out.1.c3;exact this.2.1) fun hH=>?_;clear hK KK
  try simp only[ai]
  refine aj 4 rfl (by kernel_rfl) (fun KK hK=>?_);go_simp;refine(y5 (HS2.out.2.1.mono (show K<=max K 1 from Nat.le_max_left _ _)) HF.out.1 hn HX.out.inn (Nat.le_trans hxn (Nat.le_max_right K 1)) (by omega) HS2.out.2.2.1 HF.out.2.1).mono ?_;rintro e w3 ⟨ro,rn,rc,rfl,h1,h2⟩;rw[qj HF.out.2.2.1,CZ HF.out.2.2.1]at*
  have HN:Hid (vY KR w (aU p (mE [(1,gQ v k)])) (.returned (.slice ro rn rc)) w3):=⟨_,_,_,rfl,h1.lower HF.out.2.2.2,Below.steps HS2.out.2.2.2 h2⟩;have HSc:Hid (w3.cell? ⟨g,1,none⟩=some (.slice ao n cap)):=(HS2.out.1.below h2).c3.2.1;clear h1 h2;go_wp2_with fail;clear hH;refine hK.out _ _ HSc.out fun hH=>?_;clear hK KK
  try simp only[ai]
  refine aB 5 hH ?_;try simp only[ai]
  refine aB 6 hH ?_;try simp only[ai]
  refine aB 7 hH ?_;try simp only[ai]
  refine aB 8 hH ?_;try simp only[ai]
  refine aB 9 hH ?_;try simp only[ai]
  refine wpAnyH_done (by kernel_rfl) ?_ _
  go_wp2_with fail;go_ret;exact HN.out
end
open Lib (hid)
open Go.RowKit
structure zN (g q r:List Term) (K:Nat):Prop where
 lg:g.length<=100
 lr:g.length*r.length<=500000
 lq:g.length*q.length+r.length<=400000
 ll:r.length<=100000
 qq:q.length<=100000
 sr:aD g*aD r<4294967296^K
 sq:aD g*aD q+aD r<4294967296^K
theorem qC {p:List Term} {K:Nat} (h:aD p<4294967296^K):∀t∈p,Bd t.1 K:=fun _ ht=>Nat.lt_of_le_of_lt (yU ht) h
theorem SA {v dg:Int} {ho:Option Addr} {hn hc:Nat} {ta:Option Addr} {tn tc:Nat} {hq:Bool} {qo:Option Addr} {qn qc:Nat} {ro:Option Addr} {rn rc:Nat} {s:Int}:∀u∈nW v dg ho hn hc ta tn tc hq qo qn qc ro rn rc s,isU u=false:=by
 intro u hu;simp[nW]at hu;rcases hu with rfl|rfl|rfl|rfl|rfl|rfl|rfl|rfl<;>rfl
theorem rG [Ol] {v dg:Int} {ho:Option Addr} {hn hc:Nat} {ta:Option Addr} {tn tc:Nat} {hq:Bool} {qo:Option Addr} {qn qc:Nat} {ro:Option Addr} {rn rc:Nat} {s:Int} {w w':World} {D:Nat} (hlo:Ol.lo<=D) (hA:aN w D (nW v dg ho hn hc ta tn tc hq qo qn qc ro rn rc s) 70) (hG:w.grownBy w' (some D)):l8 w w' D:=
 l8.mk' hlo hA (by decide) ⟨.int .i64 v,by simp[nW],rfl⟩ SA hG
theorem Bf {α:Type} (f:α->Bool):∀p:List α,(p.filter f).length+(p.filter fun t=> !f t).length=p.length
 |[]=>rfl
 |t::r=>by
  have ih:=Bf f r;by_cases h:f t=true
  ·simp[h];omega
  ·simp[h];omega
theorem yg (p:List Term) (v:Int):(bQ p v).length+(gy p v).length=p.length:=by
 unfold bQ gy bZ;rw[List.length_map];exact Bf _ p
theorem bg.Xl {g r:List Term} {v E F:Int} (h:bg g r v E F):(iI g r v).length<=(bQ r v).length:=by
 rw[h.mv];simpa using eH (bQ r v) [((1:Int),gQ v (aI r v-aI g v))]
theorem zN.b {g q r:List Term} {K:Nat} (h:zN g q r K) {p:List Term} (hp:aD p<=aD g*aD r):∀t∈p,Bd t.1 K:=qC (Nat.lt_of_le_of_lt hp h.sr)
theorem zN.c {g q r:List Term} {K:Nat} (h:zN g q r K) {p:List Term} (hp:aD p<=aD g*aD q+aD r):∀t∈p,Bd t.1 K:=qC (Nat.lt_of_le_of_lt hp h.sq)
def ae2 [Ol] (w:World) (D:Nat) (v:Int) (g q r:List Term) (ho:Option Addr) (hn hc:Nat) (ta:Option Addr) (tn tc:Nat) (hq:Bool) (s K:Nat) (e:Ending) (w':World):Prop:=
 ∃qo qn qc ro rn rc,e= .returned (.int .i64 0)/\ aN w' D (nW v (aI g v) ho hn hc ta tn tc hq qo qn qc ro rn rc ((s+1:Nat):Int)) 70/\ Pc K w' ro rn rc (zT g v r)/\ Pc K w' qo qn qc (if hq=true then E5 g v q r else q)/\ w.grownBy w' (some D)
theorem PI [Ol] {K:Nat} {D:Nat} {v E0 F0:Int} {g q r:List Term} {ho:Option Addr} {hn hc:Nat} {ta:Option Addr} {tn tc:Nat} {hq:Bool} {qo:Option Addr} {qn qc:Nat} {ro:Option Addr} {rn rc:Nat} {xo:Option Addr} {xn xc:Nat} {yo:Option Addr} {yn yc:Nat} {s:Nat} {w:World}
  (hD:aN w D (nW v (aI g v) ho hn hc ta tn tc hq qo qn qc ro rn rc (s:Int)) 70) (hH:Pc K w ho hn hc (bQ g v)) (hT:Pc K w ta tn tc (gy g v)) (hQ:Pc K w qo qn qc q) (WU:Pc K w xo xn xc (bQ r v)) (Yp:Pc K w yo yn yc (gy r v))
  (hs:bg g r v E0 F0) (hqf:fall q) (hqE:EB q F0) (hz:zN g q r K) (hK9:K<=900) (hlo:Ol.lo<=D) (hsb:s<=1000000):
  Calls Tryz.prog 51 #[.pointer (some ⟨D,0,none⟩),.agg #[.int .i64 (aI r v),.slice xo xn xc,.slice yo yn yc]] w (ae2 w D v g q r ho hn hc ta tn tc hq s K):=by
 have HO:=hid hs;have HZ:=hid hz;have Yr:=hid (And.intro hqf hqE);have nu:=hid hlo;have HDL:=hid hD.lt;have hl1:=yg g v;have hl2:=yg r v;have HL:Hid (hn+tn=g.length/\ xn+yn=r.length/\ qn=q.length):=by have:=hH.len;have:=hT.len;have:=WU.len;have:=Yp.len;have:=hQ.len;exact⟨by omega,by omega,by omega⟩
 have HM:Hid (hn*yn<=500000/\ (iI g r v).length*tn<=500000/\ hn*yn+(iI g r v).length*tn<=500000/\ hn*qn<=400000/\ hn*qn+(iI g r v).length<=400000/\ (iI g r v).length<=100000):=by
  have h3:=hs.Xl;have h4:=hz.lr;have h5:=hz.lq;have h6:=hz.ll;have h7:=WU.len;have h8:g.length*r.length=hn*xn+hn*yn+(tn*xn+tn*yn):=by rw[<-HL.out.1,<-HL.out.2.1,Nat.add_mul,Nat.mul_add,Nat.mul_add]
  have h9:(iI g r v).length*tn<=tn*xn:=by rw[Nat.mul_comm];exact Nat.mul_le_mul_left _ (by omega)
  have h10:hn*qn<=g.length*q.length:=by rw[HL.out.2.2];exact Nat.mul_le_mul_right _ (by have:=HL.out.1;omega)
  exact⟨by omega,by omega,by omega,by omega,by omega,by omega⟩
 have PG:Hid (Pc K w ho hn hc (bQ g v)/\ Pc K w ta tn tc (gy g v)/\ Pc K w qo qn qc q/\ Pc K w xo xn xc (bQ r v)/\ Pc K w yo yn yc (gy r v)/\ aN w D (nW v (aI g v) ho hn hc ta tn tc hq qo qn qc ro rn rc (s:Int)) 70):=⟨hH,hT,hQ,WU,Yp,hD⟩;have hb1:hn<=100/\ tn<=100/\ xn<=100000/\ yn<=100000/\ qn<=100000:=by have:=HL.out;have:=hz.lg;have:=hz.ll;have:=hz.qq;omega
 clear hs hz hqf hqE hlo hH hT hQ WU Yp hD hl1 hl2;go_enter Tryz.func51,Tryz.ntmps51;go_upto_region 1 with(fail)
 refine au (fun W hW=>?_);obtain⟨X,hX⟩:∃X,X=w.heap.size:=⟨_,rfl⟩
 have ig:Hid ((aN W X [.int .i64 (aI r v),.slice xo xn xc,.slice yo yn yc] 68)/\ (aN W D (nW v (aI g v) ho hn hc ta tn tc hq qo qn qc ro rn rc (s:Int)) 70)/\ (Pc K W ho hn hc (bQ g v))/\ (Pc K W ta tn tc (gy g v))/\ (Pc K W qo qn qc q)/\ (Pc K W xo xn xc (bQ r v))/\ (Pc K W yo yn yc (gy r v))/\ Below w.heap.size w W):=by
  obtain⟨a1,hB⟩:=pF w [.int .i64 (aI r v),.slice xo xn xc,.slice yo yn yc] 68;rw[<-hW]at a1 hB;rw[hX];exact⟨a1,PG.out.2.2.2.2.2.below hB,PG.out.1.below hB,PG.out.2.1.below hB,PG.out.2.2.1.below hB,PG.out.2.2.2.1.below hB,PG.out.2.2.2.2.1.below hB,hB⟩
 rw[<-hX];have HX:Hid (w.heap.size<=X):=by rw[hX];exact Nat.le_refl _
 clear hW hX PG;refine wp_region_held_drew (S:=fun w'=>w'.cell? ⟨D,2,none⟩=some (.slice ho hn hc)/\ w'.cell? ⟨X,1,none⟩=some (.slice xo xn xc)) (by kernel_rfl) ⟨(ig.out.2.1.below (Below.refl _ _).drew).cell 2,(ig.out.1.below (Below.refl _ _).drew).cell 1⟩ (fun hH=>?_);refine ak (fun w1 hW=>?_);have hB:Below W.heap.size W w1:=by rw[hW];exact(Below.refl _ _).drew
 have HS2:Hid ((aN w1 X [.int .i64 (aI r v),.slice xo xn xc,.slice yo yn yc] 68)/\ (aN w1 D (nW v (aI g v) ho hn hc ta tn tc hq qo qn qc ro rn rc (s:Int)) 70)/\ (Pc K w1 ho hn hc (bQ g v))/\ (Pc K w1 ta tn tc (gy g v))/\ (Pc K w1 qo qn qc q)/\ (Pc K w1 xo xn xc (bQ r v))/\ (Pc K w1 yo yn yc (gy r v))/\ Below w.heap.size w w1):=⟨ig.out.1.below hB,ig.out.2.1.below hB,ig.out.2.2.1.below hB,ig.out.2.2.2.1.below hB,ig.out.2.2.2.2.1.below hB,ig.out.2.2.2.2.2.1.below hB,ig.out.2.2.2.2.2.2.1.below hB,Below.steps ig.out.2.2.2.2.2.2.2 hB⟩;rw[<-hW]at hH;clear hB ig;clear hW;refine aB 0 hH ?_;try simp only[ai]
 refine aB 1 hH ?_;try simp only[ai]
 refine aB 2 hH ?_;try simp only[ai]
 refine aB 3 hH ?_;try simp only[ai]
 refine aB 4 hH ?_;try simp only[ai]
 refine aB 6 hH ?_;try simp only[ai]
 refine aB 7 hH ?_;try simp only[ai]
 refine aj 5 rfl (by kernel_rfl) (fun KK hK=>?_);go_simp;refine(uE HS2.out.2.2.1 (bP HO.out.fg v) (by omega)).mono ?_;rintro e w2 ⟨m1o,m1n,m1c,m1,rfl,hM1,hD1,hB⟩;have nA:Hid ((aN w2 X [.int .i64 (aI r v),.slice xo xn xc,.slice yo yn yc] 68)/\ (aN w2 D (nW v (aI g v) ho hn hc ta tn tc hq qo qn qc ro rn rc (s:Int)) 70)/\ (Pc K w2 ho hn hc (bQ g v))/\ (Pc K w2 ta tn tc (gy g v))/\ (Pc K w2 qo qn qc q)/\ (Pc K w2 xo xn xc (bQ r v))/\ (Pc K w2 yo yn yc (gy r v))/\ (Ml w2 m1o m1n m1c m1)/\ Below w.heap.size w w2):=⟨HS2.out.1.below hB,HS2.out.2.1.below hB,HS2.out.2.2.1.below hB,HS2.out.2.2.2.1.below hB,HS2.out.2.2.2.2.1.below hB,HS2.out.2.2.2.2.2.1.below hB,HS2.out.2.2.2.2.2.2.1.below hB,hM1,Below.steps HS2.out.2.2.2.2.2.2.2 hB⟩;have HD1:=hid hD1;clear hM1 hD1;clear hB HS2;go_wp2_with fail;clear hH;refine hK.out _ _ ⟨nA.out.2.1.cell 2,nA.out.1.cell 1⟩ fun hH=>?_;clear hK KK
 try simp only[ai]
 refine aj 8 rfl (by kernel_rfl) (fun KK hK=>?_);go_simp;refine(uE nA.out.2.2.2.2.2.1 (bP HO.out.fr v) (by omega)).mono ?_;rintro e w3 ⟨m2o,m2n,m2c,m2,rfl,hM2,hD2,hB⟩;have eU:Hid ((aN w3 X [.int .i64 (aI r v),.slice xo xn xc,.slice yo yn yc] 68)/\ (aN w3 D (nW v (aI g v) ho hn hc ta tn tc hq qo qn qc ro rn rc (s:Int)) 70)/\ (Pc K w3 ho hn hc (bQ g v))/\ (Pc K w3 ta tn tc (gy g v))/\ (Pc K w3 qo qn qc q)/\ (Pc K w3 xo xn xc (bQ r v))/\ (Pc K w3 yo yn yc (gy r v))/\ (Ml w3 m1o m1n m1c m1)/\ (Ml w3 m2o m2n m2c m2)/\ Below w.heap.size w w3):=⟨nA.out.1.below hB,nA.out.2.1.below hB,nA.out.2.2.1.below hB,nA.out.2.2.2.1.below hB,nA.out.2.2.2.2.1.below hB,nA.out.2.2.2.2.2.1.below hB,nA.out.2.2.2.2.2.2.1.below hB,nA.out.2.2.2.2.2.2.2.1.below hB,hM2,Below.steps nA.out.2.2.2.2.2.2.2.2 hB⟩;have HJ:Hid ((gD (fun x y=>x+y) 8 m1 m2).2=0):=(y7 (bP HO.out.fg v) (bP HO.out.fr v) HD1.out hD2).trans (if_pos (iM.2 HO.out.ai3));clear hM2 hD2 HD1;clear hB nA;go_wp2_with fail;clear hH;refine hK.out _ _ ⟨eU.out.2.1.cell 2,eU.out.1.cell 1⟩ fun hH=>?_;clear hK KK
 try simp only[ai]
 refine aj 9 rfl (by kernel_rfl) (fun KK hK=>?_);go_simp;refine(lu eU.out.2.2.2.2.2.2.2.1 eU.out.2.2.2.2.2.2.2.2.1).mono ?_;rintro e w4 ⟨uo,un,uc,rfl,_,hB⟩;have fT:Hid ((aN w4 X [.int .i64 (aI r v),.slice xo xn xc,.slice yo yn yc] 68)/\ (aN w4 D (nW v (aI g v) ho hn hc ta tn tc hq qo qn qc ro rn rc (s:Int)) 70)/\ (Pc K w4 ho hn hc (bQ g v))/\ (Pc K w4 ta tn tc (gy g v))/\ (Pc K w4 qo qn qc q)/\ (Pc K w4 xo xn xc (bQ r v))/\ (Pc K w4 yo yn yc (gy r v))/\ (Ml w4 m1o m1n m1c m1)/\ (Ml w4 m2o m2n m2c m2)/\ Below w.heap.size w w4):=⟨eU.out.1.below hB,eU.out.2.1.below hB,eU.out.2.2.1.below hB,eU.out.2.2.2.1.below hB,eU.out.2.2.2.2.1.below hB,eU.out.2.2.2.2.2.1.below hB,eU.out.2.2.2.2.2.2.1.below hB,eU.out.2.2.2.2.2.2.2.1.below hB,eU.out.2.2.2.2.2.2.2.2.1.below hB,Below.steps eU.out.2.2.2.2.2.2.2.2.2 hB⟩;rw[HJ.out];clear hB eU;go_wp2_with fail;clear hH;refine hK.out _ _ ⟨fT.out.2.1.cell 2,fT.out.1.cell 1⟩ fun hH=>?_;clear hK KK
 try simp only[ai]
 refine aB 10 hH ?_;try simp only[ai]
 refine aB 11 hH ?_;try simp only[ai]
 refine aB 12 hH ?_;try simp only[ai]
 refine aB 13 hH ?_;try simp only[ai]
 refine aB 14 hH ?_;try simp only[ai]
 refine wpAnyH_done (by kernel_rfl) ?_ _
 clear hH;go_upto_region 5 with(fail)
 refine au (fun W5 hW=>?_);obtain⟨E,hE⟩:∃E,E=w4.heap.size:=⟨_,rfl⟩
 have jg:Hid ((aN W5 X [.int .i64 (aI r v),.slice xo xn xc,.slice yo yn yc] 68)/\ (aN W5 D (nW v (aI g v) ho hn hc ta tn tc hq qo qn qc ro rn rc (s:Int)) 70)/\ (Pc K W5 ho hn hc (bQ g v))/\ (Pc K W5 ta tn tc (gy g v))/\ (Pc K W5 qo qn qc q)/\ (Pc K W5 xo xn xc (bQ r v))/\ (Pc K W5 yo yn yc (gy r v))/\ (aN W5 E [.int .i64 0] 158)/\ Below w.heap.size w W5):=by
  have hB:=af w4 (.cells #[.int .i64 0] 158);rw[<-hW]at hB;exact⟨fT.out.1.below hB,fT.out.2.1.below hB,fT.out.2.2.1.below hB,fT.out.2.2.2.1.below hB,fT.out.2.2.2.2.1.below hB,fT.out.2.2.2.2.2.1.below hB,fT.out.2.2.2.2.2.2.1.below hB,by rw[hW,hE];exact aN.new w4 _ _,Below.steps fT.out.2.2.2.2.2.2.2.2.2 hB⟩
 rw[<-hE];clear hW hE fT;obtain⟨c0,c1,c2⟩:=jg.out.1.c3;go_wp2_with fail;refine(LW (KR:=K) jg.out.2.1 jg.out.2.2.2.2.2.1 (bP HO.out.fr v) (by omega) hK9 HO.out.hv HO.out.k rfl (by rw[jw (uy HO.out.hv HO.out.k)];exact HO.out.Ef) (HZ.out.c (p:=iI g r v) (by have:=HO.out.CX;have:=fe r v;omega))).mono ?_;rintro e w6 ⟨mo,mn,mc,rfl,hMv,hB⟩;have dG:Hid ((aN w6 X [.int .i64 (aI r v),.slice xo xn xc,.slice yo yn yc] 68)/\ (aN w6 D (nW v (aI g v) ho hn hc ta tn tc hq qo qn qc ro rn rc (s:Int)) 70)/\ (Pc K w6 ho hn hc (bQ g v))/\ (Pc K w6 ta tn tc (gy g v))/\ (Pc K w6 qo qn qc q)/\ (Pc K w6 xo xn xc (bQ r v))/\ (Pc K w6 yo yn yc (gy r v))/\ (aN w6 E [.int .i64 0] 158)/\ (Pc K w6 mo mn mc (iI g r v))/\ Below w.heap.size w w6):=⟨jg.out.1.below hB,jg.out.2.1.below hB,jg.out.2.2.1.below hB,jg.out.2.2.2.1.below hB,jg.out.2.2.2.2.1.below hB,jg.out.2.2.2.2.2.1.below hB,jg.out.2.2.2.2.2.2.1.below hB,jg.out.2.2.2.2.2.2.2.1.below hB,hMv,Below.steps jg.out.2.2.2.2.2.2.2.2 hB⟩;have hmn:mn<=100000:=by have h1:(iI g r v).length=mn:=hMv.len;have:=HM.out.2.2.2.2.2;omega
 have HMN:Hid (mn=(iI g r v).length):=hMv.len.symm;clear hB hMv c0 c1 c2 jg;go_upto_region 6 with(fail)
 refine wp_region_held_drew (S:=fun w'=>w'.cell? ⟨D,2,none⟩=some (.slice ho hn hc)/\ w'.cell? ⟨D,3,none⟩=some (.slice ta tn tc)/\ w'.cell? ⟨D,5,none⟩=some (.slice qo qn qc)/\ w'.cell? ⟨X,2,none⟩=some (.slice yo yn yc)) (by kernel_rfl) ⟨(dG.out.2.1.below (Below.refl _ _).drew).cell 2,(dG.out.2.1.below (Below.refl _ _).drew).cell 3,(dG.out.2.1.below (Below.refl _ _).drew).cell 5,(dG.out.1.below (Below.refl _ _).drew).cell 2⟩ (fun hH=>?_);refine ak (fun w7 hW=>?_);have hB:Below w6.heap.size w6 w7:=by rw[hW];exact(Below.refl _ _).drew
 have tH:Hid ((aN w7 X [.int .i64 (aI r v),.slice xo xn xc,.slice yo yn yc] 68)/\ (aN w7 D (nW v (aI g v) ho hn hc ta tn tc hq qo qn qc ro rn rc (s:Int)) 70)/\ (Pc K w7 ho hn hc (bQ g v))/\ (Pc K w7 ta tn tc (gy g v))/\ (Pc K w7 qo qn qc q)/\ (Pc K w7 xo xn xc (bQ r v))/\ (Pc K w7 yo yn yc (gy r v))/\ (aN w7 E [.int .i64 0] 158)/\ (Pc K w7 mo mn mc (iI g r v))/\ Below w.heap.size w w7):=⟨dG.out.1.below hB,dG.out.2.1.below hB,dG.out.2.2.1.below hB,dG.out.2.2.2.1.below hB,dG.out.2.2.2.2.1.below hB,dG.out.2.2.2.2.2.1.below hB,dG.out.2.2.2.2.2.2.1.below hB,dG.out.2.2.2.2.2.2.2.1.below hB,dG.out.2.2.2.2.2.2.2.2.1.below hB,Below.steps dG.out.2.2.2.2.2.2.2.2.2 hB⟩;rw[<-hW]at hH;clear hB dG;clear hW;refine aB 0 hH ?_;try simp only[ai]
 refine aB 1 hH ?_;try simp only[ai]
 refine aB 2 hH ?_;try simp only[ai]
 refine aB 3 hH ?_;try simp only[ai]
 refine aB 4 hH ?_;try simp only[ai]
 refine aB 5 hH ?_;try simp only[ai]
 refine aB 6 hH ?_;try simp only[ai]
 refine aB 8 hH ?_;try simp only[ai]
 refine aB 9 hH ?_;try simp only[ai]
 refine aB 10 hH ?_;try simp only[ai]
 refine aB 11 hH ?_;try simp only[ai]
 refine aB 12 hH ?_;try simp only[ai]
 refine aB 13 hH ?_;try simp only[ai]
 refine aB 15 hH ?_;try simp only[ai]
 refine aB 16 hH ?_;try simp only[ai]
 refine aB 17 hH ?_;try simp only[ai]
 refine aB 18 hH ?_;try simp only[ai]
 refine aB 19 hH ?_;try simp only[ai]
 refine aB 20 hH ?_;try simp only[ai]
 refine aB 21 hH ?_;try simp only[ai]
 refine aB 22 hH ?_;try simp only[ai]
 refine aB 23 hH ?_;try simp only[ai]
 refine aj 7 rfl (by kernel_rfl) (fun KK hK=>?_);go_simp;refine(CY (KR:=K) E tH.out.2.2.1 tH.out.2.2.2.2.2.2.1 (bP HO.out.fg v) (mM HO.out.fr v) (by omega) (by omega) (by have:=HM.out.1;omega) hK9 HO.out.Sr (HZ.out.b HO.out.P9)).mono ?_;rintro e w8 ⟨lo,ln,lc,rfl,hL,hB⟩;have vZ:Hid ((aN w8 X [.int .i64 (aI r v),.slice xo xn xc,.slice yo yn yc] 68)/\ (aN w8 D (nW v (aI g v) ho hn hc ta tn tc hq qo qn qc ro rn rc (s:Int)) 70)/\ (Pc K w8 ho hn hc (bQ g v))/\ (Pc K w8 ta tn tc (gy g v))/\ (Pc K w8 qo qn qc q)/\ (Pc K w8 xo xn xc (bQ r v))/\ (Pc K w8 yo yn yc (gy r v))/\ (aN w8 E [.int .i64 0] 158)/\ (Pc K w8 mo mn mc (iI g r v))/\ (Pc K w8 lo ln lc (aU (bQ g v) (gy r v)))/\ Below w.heap.size w w8):=⟨tH.out.1.below hB,tH.out.2.1.below hB,tH.out.2.2.1.below hB,tH.out.2.2.2.1.below hB,tH.out.2.2.2.2.1.below hB,tH.out.2.2.2.2.2.1.below hB,tH.out.2.2.2.2.2.2.1.below hB,tH.out.2.2.2.2.2.2.2.1.below hB,tH.out.2.2.2.2.2.2.2.2.1.below hB,hL,Below.steps tH.out.2.2.2.2.2.2.2.2.2 hB⟩;have Af:Hid (ln<=hn*yn):=by have h:=eH (bQ g v) (gy r v);rwa[hL.len,vZ.out.2.2.1.len,vZ.out.2.2.2.2.2.2.1.len]at h
 clear hL;clear hB tH;go_wp2_with fail;clear hH;refine hK.out _ _ ⟨vZ.out.2.1.cell 2,vZ.out.2.1.cell 3,vZ.out.2.1.cell 5,vZ.out.1.cell 2⟩ fun hH=>?_;clear hK KK
 try simp only[ai]
 refine aj 14 rfl (by kernel_rfl) (fun KK hK=>?_);go_simp;refine(CY (KR:=K) E vZ.out.2.2.2.2.2.2.2.2.1 vZ.out.2.2.2.1 HO.out.fF (mM HO.out.fg v) (by omega) (by omega) (by rw[HMN.out];have:=HM.out.2.1;omega) hK9 HO.out.Sv (HZ.out.b HO.out.Qa)).mono ?_;rintro e w9 ⟨so,sn,sc,rfl,hL,hB⟩;have nZ:Hid ((aN w9 X [.int .i64 (aI r v),.slice xo xn xc,.slice yo yn yc] 68)/\ (aN w9 D (nW v (aI g v) ho hn hc ta tn tc hq qo qn qc ro rn rc (s:Int)) 70)/\ (Pc K w9 ho hn hc (bQ g v))/\ (Pc K w9 ta tn tc (gy g v))/\ (Pc K w9 qo qn qc q)/\ (Pc K w9 xo xn xc (bQ r v))/\ (Pc K w9 yo yn yc (gy r v))/\ (aN w9 E [.int .i64 0] 158)/\ (Pc K w9 mo mn mc (iI g r v))/\ (Pc K w9 lo ln lc (aU (bQ g v) (gy r v)))/\ (Pc K w9 so sn sc (aU (iI g r v) (gy g v)))/\ Below w.heap.size w w9):=⟨vZ.out.1.below hB,vZ.out.2.1.below hB,vZ.out.2.2.1.below hB,vZ.out.2.2.2.1.below hB,vZ.out.2.2.2.2.1.below hB,vZ.out.2.2.2.2.2.1.below hB,vZ.out.2.2.2.2.2.2.1.below hB,vZ.out.2.2.2.2.2.2.2.1.below hB,vZ.out.2.2.2.2.2.2.2.2.1.below hB,vZ.out.2.2.2.2.2.2.2.2.2.1.below hB,hL,Below.steps vZ.out.2.2.2.2.2.2.2.2.2.2 hB⟩;have HSN:Hid (sn<=(iI g r v).length*tn):=by have h:=eH (iI g r v) (gy g v);rwa[hL.len,nZ.out.2.2.2.1.len]at h
 clear hL;clear hB vZ;go_wp2_with fail;clear hH;refine hK.out _ _ ⟨nZ.out.2.1.cell 2,nZ.out.2.1.cell 3,nZ.out.2.1.cell 5,nZ.out.1.cell 2⟩ fun hH=>?_;clear hK KK
 try simp only[ai]
 refine aj 24 rfl (by kernel_rfl) (fun KK hK=>?_);go_simp;refine(CY (KR:=K) E nZ.out.2.2.1 nZ.out.2.2.2.2.1 (bP HO.out.fg v) Yr.out.1 (by omega) (by omega) (by have:=HM.out.2.2.2.1;omega) hK9 (HO.out.zK Yr.out.1 Yr.out.2) (HZ.out.c (by have:=HO.out.yV (q:=q);omega))).mono ?_;rintro e Du ⟨bo,bn,bc,rfl,hL,hB⟩;have pY:Hid ((aN Du X [.int .i64 (aI r v),.slice xo xn xc,.slice yo yn yc] 68)/\ (aN Du D (nW v (aI g v) ho hn hc ta tn tc hq qo qn qc ro rn rc (s:Int)) 70)/\ (Pc K Du ho hn hc (bQ g v))/\ (Pc K Du ta tn tc (gy g v))/\ (Pc K Du qo qn qc q)/\ (Pc K Du xo xn xc (bQ r v))/\ (Pc K Du yo yn yc (gy r v))/\ (aN Du E [.int .i64 0] 158)/\ (Pc K Du mo mn mc (iI g r v))/\ (Pc K Du lo ln lc (aU (bQ g v) (gy r v)))/\ (Pc K Du so sn sc (aU (iI g r v) (gy g v)))/\ (Pc K Du bo bn bc (aU (bQ g v) q))/\ Below w.heap.size w Du):=⟨nZ.out.1.below hB,nZ.out.2.1.below hB,nZ.out.2.2.1.below hB,nZ.out.2.2.2.1.below hB,nZ.out.2.2.2.2.1.below hB,nZ.out.2.2.2.2.2.1.below hB,nZ.out.2.2.2.2.2.2.1.below hB,nZ.out.2.2.2.2.2.2.2.1.below hB,nZ.out.2.2.2.2.2.2.2.2.1.below hB,nZ.out.2.2.2.2.2.2.2.2.2.1.below hB,nZ.out.2.2.2.2.2.2.2.2.2.2.1.below hB,hL,Below.steps nZ.out.2.2.2.2.2.2.2.2.2.2.2 hB⟩;have HBN:Hid (bn<=hn*qn):=by have h:=eH (bQ g v) q;rwa[hL.len,pY.out.2.2.1.len,pY.out.2.2.2.2.1.len]at h
 clear hL;clear hB nZ;go_wp2_with fail;clear hH;refine hK.out _ _ ⟨pY.out.2.1.cell 2,pY.out.2.1.cell 3,pY.out.2.1.cell 5,pY.out.1.cell 2⟩ fun hH=>?_;clear hK KK
 try simp only[ai]
 refine aB 25 hH ?_;try simp only[ai]
 refine aB 26 hH ?_;try simp only[ai]
 refine aB 27 hH ?_;try simp only[ai]
 refine wpAnyH_done (by kernel_rfl) ?_ _
 clear hH;have cE:Du.cell? ⟨E,0,none⟩=some (.int .i64 0):=pY.out.2.2.2.2.2.2.2.1.cell 0;go_wp2_with fail;refine(Qd pY.out.2.2.2.2.2.2.2.2.2.1 pY.out.2.2.2.2.2.2.2.2.2.2.1 HO.out.nX HO.out.nY (by have:=Af.out;have:=HSN.out;have:=HM.out.2.2.1;omega) (by omega)).mono ?_;rintro e Dv ⟨no,nn,nc,rfl,hN,hB⟩;have Ym:=hN.lower (HZ.out.b HO.out.Vu);have wO:Hid ((aN Dv D (nW v (aI g v) ho hn hc ta tn tc hq qo qn qc ro rn rc (s:Int)) 70)/\ (Pc K Dv ho hn hc (bQ g v))/\ (Pc K Dv ta tn tc (gy g v))/\ (Pc K Dv qo qn qc q)/\ (aN Dv E [.int .i64 0] 158)/\ (Pc K Dv mo mn mc (iI g r v))/\ (Pc K Dv bo bn bc (aU (bQ g v) q))/\ (Pc K Dv no nn nc (zT g v r))/\ Below w.heap.size w Dv):=⟨pY.out.2.1.below hB,pY.out.2.2.1.below hB,pY.out.2.2.2.1.below hB,pY.out.2.2.2.2.1.below hB,pY.out.2.2.2.2.2.2.2.1.below hB,pY.out.2.2.2.2.2.2.2.2.1.below hB,pY.out.2.2.2.2.2.2.2.2.2.2.2.1.below hB,Ym,Below.steps pY.out.2.2.2.2.2.2.2.2.2.2.2.2 hB⟩;clear hB hN Ym cE Af HSN pY;have d6:Dv.cell? ⟨D,6,none⟩=some (.slice ro rn rc):=wO.out.1.cell 6;have f6:=wO.out.1.fz 6;go_upto_region 10 with(fail)
 refine au (fun ML hW=>?_);have hG:Dv.grownBy ML (some D):=by rw[hW];exact aY _ _ _ _
 have hF:=rG nu.out wO.out.1 hG;have kV:Hid ((aN ML D (nW v (aI g v) ho hn hc ta tn tc hq qo qn qc no nn nc (s:Int)) 70)/\ (Pc K ML ho hn hc (bQ g v))/\ (Pc K ML ta tn tc (gy g v))/\ (Pc K ML qo qn qc q)/\ (Pc K ML mo mn mc (iI g r v))/\ (Pc K ML bo bn bc (aU (bQ g v) q))/\ (Pc K ML no nn nc (zT g v r))/\ w.grownBy ML (some D)):=⟨(by rw[hW];exact wO.out.1.set 6 _),wO.out.2.1.di hF,wO.out.2.2.1.di hF,wO.out.2.2.2.1.di hF,wO.out.2.2.2.2.2.1.di hF,wO.out.2.2.2.2.2.2.1.di hF,wO.out.2.2.2.2.2.2.2.1.di hF,ay (aH (some D) wO.out.2.2.2.2.2.2.2.2) hG⟩;clear hW hG hF d6 f6 wO;have d4:ML.cell? ⟨D,4,none⟩=some (.bool hq):=kV.out.1.cell 4;cases hq with
 |false=>
  have hws:IntKind.i64.wrap ((s:Int)+1)=((s+1:Nat):Int):=by rw[show((s+1:Nat):Int)=(s:Int)+1 from rfl];exact IntWalk.i64_in _ ⟨by omega,by omega⟩
  have d7:ML.cell? ⟨D,7,none⟩=some (.int .i64 (s:Int)):=kV.out.1.cell 7;have f7:=kV.out.1.fz 7;go_upto_region 13 with(fail)
  refine au (fun Bg hW=>?_);have hG:ML.grownBy Bg (some D):=by rw[hW];exact aY _ _ _ _
  have hF:=rG nu.out kV.out.1 hG;have p8:Hid ((aN Bg D (nW v (aI g v) ho hn hc ta tn tc false qo qn qc no nn nc ((s+1:Nat):Int)) 70)/\ (Pc K Bg ho hn hc (bQ g v))/\ (Pc K Bg ta tn tc (gy g v))/\ (Pc K Bg qo qn qc q)/\ (Pc K Bg mo mn mc (iI g r v))/\ (Pc K Bg bo bn bc (aU (bQ g v) q))/\ (Pc K Bg no nn nc (zT g v r))/\ w.grownBy Bg (some D)):=⟨(by rw[hW];exact kV.out.1.set 7 _),kV.out.2.1.di hF,kV.out.2.2.1.di hF,kV.out.2.2.2.1.di hF,kV.out.2.2.2.2.1.di hF,kV.out.2.2.2.2.2.1.di hF,kV.out.2.2.2.2.2.2.1.di hF,ay kV.out.2.2.2.2.2.2.2 hG⟩;clear hW hG hF d7 f7 kV;go_wp2_with fail;go_ret;exact⟨_,_,_,_,_,_,rfl,p8.out.1,p8.out.2.2.2.2.2.2.1,p8.out.2.2.2.1,p8.out.2.2.2.2.2.2.2⟩
 |true=>
  go_wp2_with fail;refine(E8 kV.out.2.2.2.2.2.1 kV.out.2.2.2.2.1 (bY (bP HO.out.fg v) Yr.out.1 (HO.out.zK Yr.out.1 Yr.out.2)) HO.out.fF (by have:=HBN.out;have:=HM.out.2.2.2.2.1;rw[HMN.out];omega) (by omega)).mono ?_;rintro e Gb ⟨po,pn,pc,rfl,hN,hB⟩;have Ym:=hN.lower (HZ.out.c (p:=E5 g v q r) HO.out.Vv);have p8:Hid ((aN Gb D (nW v (aI g v) ho hn hc ta tn tc true qo qn qc no nn nc (s:Int)) 70)/\ (Pc K Gb ho hn hc (bQ g v))/\ (Pc K Gb ta tn tc (gy g v))/\ (Pc K Gb qo qn qc q)/\ (Pc K Gb mo mn mc (iI g r v))/\ (Pc K Gb bo bn bc (aU (bQ g v) q))/\ (Pc K Gb no nn nc (zT g v r))/\ (Pc K Gb po pn pc (E5 g v q r))/\ w.grownBy Gb (some D)):=⟨kV.out.1.below hB,kV.out.2.1.below hB,kV.out.2.2.1.below hB,kV.out.2.2.2.1.below hB,kV.out.2.2.2.2.1.below hB,kV.out.2.2.2.2.2.1.below hB,kV.out.2.2.2.2.2.2.1.below hB,Ym,ay kV.out.2.2.2.2.2.2.2 (aH (some D) hB)⟩;clear hB hN Ym kV;have d5:Gb.cell? ⟨D,5,none⟩=some (.slice qo qn qc):=p8.out.1.cell 5;have f5:=p8.out.1.fz 5;go_upto_region 12 with(fail)
  refine au (fun MN hW=>?_);have hG:Gb.grownBy MN (some D):=by rw[hW];exact aY _ _ _ _
  have hF:=rG nu.out p8.out.1 hG;have vI:Hid ((aN MN D (nW v (aI g v) ho hn hc ta tn tc true po pn pc no nn nc (s:Int)) 70)/\ (Pc K MN ho hn hc (bQ g v))/\ (Pc K MN ta tn tc (gy g v))/\ (Pc K MN qo qn qc q)/\ (Pc K MN mo mn mc (iI g r v))/\ (Pc K MN bo bn bc (aU (bQ g v) q))/\ (Pc K MN no nn nc (zT g v r))/\ (Pc K MN po pn pc (E5 g v q r))/\ w.grownBy MN (some D)):=⟨(by rw[hW];exact p8.out.1.set 5 _),p8.out.2.1.di hF,p8.out.2.2.1.di hF,p8.out.2.2.2.1.di hF,p8.out.2.2.2.2.1.di hF,p8.out.2.2.2.2.2.1.di hF,p8.out.2.2.2.2.2.2.1.di hF,p8.out.2.2.2.2.2.2.2.1.di hF,ay p8.out.2.2.2.2.2.2.2.2 hG⟩;clear hW hG hF d5 f5 d4 p8;have hws:IntKind.i64.wrap ((s:Int)+1)=((s+1:Nat):Int):=by rw[show((s+1:Nat):Int)=(s:Int)+1 from rfl];exact IntWalk.i64_in _ ⟨by omega,by omega⟩
  have d7:MN.cell? ⟨D,7,none⟩=some (.int .i64 (s:Int)):=vI.out.1.cell 7;have f7:=vI.out.1.fz 7;go_upto_region 13 with(fail)
  refine au (fun Bg hW=>?_);have hG:MN.grownBy Bg (some D):=by rw[hW];exact aY _ _ _ _
  have hF:=rG nu.out vI.out.1 hG;have SB:Hid ((aN Bg D (nW v (aI g v) ho hn hc ta tn tc true po pn pc no nn nc ((s+1:Nat):Int)) 70)/\ (Pc K Bg ho hn hc (bQ g v))/\ (Pc K Bg ta tn tc (gy g v))/\ (Pc K Bg qo qn qc q)/\ (Pc K Bg mo mn mc (iI g r v))/\ (Pc K Bg bo bn bc (aU (bQ g v) q))/\ (Pc K Bg no nn nc (zT g v r))/\ (Pc K Bg po pn pc (E5 g v q r))/\ w.grownBy Bg (some D)):=⟨(by rw[hW];exact vI.out.1.set 7 _),vI.out.2.1.di hF,vI.out.2.2.1.di hF,vI.out.2.2.2.1.di hF,vI.out.2.2.2.2.1.di hF,vI.out.2.2.2.2.2.1.di hF,vI.out.2.2.2.2.2.2.1.di hF,vI.out.2.2.2.2.2.2.2.1.di hF,ay vI.out.2.2.2.2.2.2.2.2 hG⟩;clear hW hG hF d7 f7 vI;go_wp2_with fail;go_ret;exact⟨_,_,_,_,_,_,rfl,SB.out.1,SB.out.2.2.2.2.2.2.1,SB.out.2.2.2.2.2.2.2.1,SB.out.2.2.2.2.2.2.2.2⟩
end Go.Proofs.YthdhjckangekoaaGreat
