import Derived.Test.YtmenbpmciblnlaaGreatDoorGLaw
import Derived.Test.YtmenbpmciblnlaaGreatDoorGSt
set_option maxHeartbeats 0
set_option maxRecDepth 100000
open Go renaming Value->ah6,World->ah5
open Go.RowKit renaming Below->ah7
open Go.Value renaming bool->ah9,slice->ah8
open Go.World renaming cell?_setCell_other->ai1,cell?_setCell_same->ai0
open List renaming eq_nil_of_length_eq_zero->ai2
open Nat renaming eq_zero_or_pos->ai3,lt_of_lt_of_le->ai4
namespace Go.Proofs.YtmenbpmciblnlaaGreatDoor
open Go.RowKit
def cV (m:Bool) (v:Nat):Int:=if m then-(v:Int)else(v:Int)
theorem fK (m:Bool) (v:Nat):(cV m v).natAbs=v:=by
 unfold cV;cases m<;>simp
theorem qj (m:Bool) (v:Nat):decide (cV m v<0)=(m&&decide (0<v)):=by
 unfold cV;cases m<;>simp<;>try omega
theorem vr (z:Int):cV (decide (z<0)) z.natAbs=z:=by
 unfold cV;by_cases h:z<0
 ·simp[h];omega
 ·simp[h];omega
theorem Dq (m:Bool):cV m 0=0:=by cases m<;>rfl
theorem vC (m:Bool) (v:Nat):cV (!m) v= -cV m v:=by cases m<;>simp[cV]
theorem Rp (m:Bool) (a b:Nat):cV m (a+b)=cV m a+cV m b:=by cases m<;>simp[cV]<;>omega
theorem IG (m:Bool) (a b:Nat) (h:b<=a):cV m (a-b)=cV m a+cV (!m) b:=by cases m<;>simp[cV]<;>omega
theorem Bn (m k:Bool) (a b:Nat):cV (m !=k) (a*b)=cV m a*cV k b:=by cases m<;>cases k<;>simp[cV,Int.neg_mul,Int.mul_neg]
def In (w:ah5) (m:Bool) (ao:Z') (n ae:Nat) (z:Int):Prop:=∃xs,Sl w ao n ae xs/\ cV m (au xs)=z
structure Cn (w:ah5) (m:Bool) (ao:Option Addr) (n ae:Nat) (z:Int):Prop where
 neg:m=decide (z<0)
 sl:Sl w ao n ae (aq z.natAbs)
theorem Cn.LB {w:ah5} {m:Bool} {ao:Z'} {n ae:Nat} {z:Int} (h:Cn w m ao n ae z):In w m ao n ae z:=
 ⟨_,h.sl,by rw[av,h.neg,vr]⟩
theorem In.below {w w':ah5} {m:Bool} {ao:Z'} {n ae:Nat} {z:Int} (h:In w m ao n ae z) (hb:ah7 w.heap.size w w'):In w' m ao n ae z:=by
 obtain⟨xs,hs,hz⟩:=h;exact⟨xs,hs.below hb,hz⟩
theorem Cn.below {w w':ah5} {m:Bool} {ao:Z'} {n ae:Nat} {z:Int} (h:Cn w m ao n ae z) (hb:ah7 w.heap.size w w'):Cn w' m ao n ae z:=⟨h.neg,h.sl.below hb⟩
theorem Cn.of {w:ah5} {m:Bool} {ao:Z'} {n ae v:Nat} {neg:Bool} (h:Sl w ao n ae (aq v)) (hm:neg=(m&&decide (0<n))):Cn w neg ao n ae (cV m v):=by
 refine⟨?_,by rw[fK];exact h⟩;rw[hm,qj]
 congr 1
 have h1:=h.len;by_cases hv:0<v
 ·have:0<n:=by
   rcases ai3 n with h0|h0
   ·rw[h0]at h1;have h2:aq v=[]:=ai2 h1;have h3:=av v;rw[h2,di]at h3;omega
   ·exact h0
  simp[hv,this]
 ·obtain rfl:v=0:=by omega
  have h2:n=0:=by rw[<-h1];rfl
  simp[h2]
def mA (w:ah5) (z:Int) (e:Ending) (w':ah5):Prop:=
 ∃m ao n ae,e= .returned (.agg #[ah9 m,ah8 ao n ae])/\ Cn w' m ao n ae z/\ ah7 w.heap.size w w'
def Bd (z:Int) (k:Nat):Prop:=z.natAbs<4294967296^k
theorem Bd.len {z:Int} {k:Nat} (h:Bd z k):(aq z.natAbs).length<=k:=fR h
theorem Bd.mono {z:Int} {j k:Nat} (h:Bd z j) (hk:j<=k):Bd z k:=uD h hk
theorem Bd.mul {x y:Int} {j k:Nat} (h:Bd x j) (h':Bd y k):Bd (x*y) (j+k):=by
 unfold Bd at*
 rw[Int.natAbs_mul,Nat.pow_add];exact Nat.mul_lt_mul_of_lt_of_lt h h'
theorem Bd.add {x y:Int} {j k:Nat} (h:Bd x j) (h':Bd y j) (hk:j+1<=k):Bd (x+y) k:=by
 refine Bd.mono (j:=j+1) ?_ hk
 unfold Bd at*
 have h1:=Int.natAbs_add_le x y;have hp:0<4294967296^j:=Nat.pow_pos (by omega);rw[Nat.pow_succ];omega
theorem Bd.neg {x:Int} {j:Nat} (h:Bd x j):Bd (-x) j:=by
 unfold Bd at*
 rwa[Int.natAbs_neg]
theorem Bd.sub {x y:Int} {j k:Nat} (h:Bd x j) (h':Bd y j) (hk:j+1<=k):Bd (x-y) k:=by
 rw[Int.sub_eq_add_neg];exact h.add h'.neg hk
theorem In.bd {w:ah5} {m:Bool} {ao:Z'} {n ae:Nat} {z:Int} {k:Nat} (h:In w m ao n ae z) (hk:n<=k):Bd z k:=by
 obtain⟨xs,hs,rfl⟩:=h;unfold Bd;rw[fK];exact qb k hs.wf hs.len hk
theorem Cn.le {w:ah5} {m:Bool} {ao:Z'} {n ae:Nat} {z:Int} {k:Nat} (h:Cn w m ao n ae z) (hb:Bd z k):n<=k:=by
 rw[<-h.sl.len];exact hb.len
structure bS (w:ah5) (b:Nat) (m:Bool) (ao:Option Addr) (n ae:Nat):Prop where
 lt:b<w.heap.size
 c0:w.cell? ⟨b,0,none⟩=some (ah9 m)
 c1:w.cell? ⟨b,1,none⟩=some (ah8 ao n ae)
 f0:w.frozen? ⟨b,0,none⟩=false
 f1:w.frozen? ⟨b,1,none⟩=false
 only:∀o v,w.cell? ⟨b,o,none⟩=some v->o=0∨o=1
theorem bS.below {w w':ah5} {b:Nat} {m:Bool} {ao:Z'} {n ae:Nat} (h:bS w b m ao n ae) (hb:ah7 w.heap.size w w'):bS w' b m ao n ae:=
 ⟨ai4 h.lt hb.size,(hb.cell h.lt).trans h.c0,(hb.cell h.lt).trans h.c1,(hb.frozen h.lt).trans h.f0,(hb.frozen h.lt).trans h.f1,λo v hv=>h.only o v ((hb.cell (p:=⟨b,o,none⟩) h.lt).symm.trans hv)⟩
theorem bS.cS (w:ah5) (b:Nat) (m:Bool) (ao:Z') (n ae:Nat) (T:TypeId) (hb:b=w.heap.size):bS (w.alloc (.cells #[ah9 m,ah8 ao n ae] T)) b m ao n ae:=by
 subst hb;refine⟨by simp,by simp[go_sem],by simp[go_sem],by simp[go_sem],by simp[go_sem],λo v hv=>?_⟩
 match o,hv with
 |0,_=>exact .inl rfl
 |1,_=>exact .inr rfl
 |o+2,hv=>
  have e:(w.alloc (.cells #[ah9 m,ah8 ao n ae] T)).heap[w.heap.size]? =some (.cells #[ah9 m,ah8 ao n ae] T (0,0)):=by show(w.heap.push _)[w.heap.size]? =_;rw[Array.getElem?_push_size]
  unfold World.cell? at hv;simp only[e]at hv;simp at hv
theorem bS.set {w:ah5} {b:Nat} {m:Bool} {ao:Z'} {n ae:Nat} (h:bS w b m ao n ae) (m':Bool) (eP:Z') (n' cap':Nat):bS ((w.setCell ⟨b,0,none⟩ (ah9 m')).setCell ⟨b,1,none⟩ (ah8 eP n' cap')) b m' eP n' cap':=by
 have h0:=ai0 _ _ (ah9 m') h.c0;have h1:(w.setCell ⟨b,0,none⟩ (ah9 m')).cell? ⟨b,1,none⟩=some (ah8 ao n ae):=by rw[ai1 _ _ _ _ (by simp)];exact h.c1
 refine⟨by simpa using h.lt,by rw[ai1 _ _ _ _ (by simp)];exact h0,ai0 _ _ _ h1,by simpa using h.f0,by simpa using h.f1,λo v hv=>?_⟩;by_cases ho:o=0∨o=1
 ·exact ho
 ·rw[ai1 _ _ _ _ (λe=>ho (.inr (congrArg Addr.off e).symm)),ai1 _ _ _ _ (λe=>ho (.inl (congrArg Addr.off e).symm))]at hv;exact h.only o v hv
theorem bS.dy {w:ah5} {b c:Nat} {m:Bool} {ao:Z'} {n ae:Nat} (h:bS w b m ao n ae) (hc:c≠b) (u' v':ah6):bS ((w.setCell ⟨c,0,none⟩ u').setCell ⟨c,1,none⟩ v') b m ao n ae:=by
 have e:∀(x:Nat) (y:Nat),(⟨c,x,none⟩:Addr)≠⟨b,y,none⟩:=λx y h=>hc (congrArg Addr.block h)
 have e2:∀o,((w.setCell ⟨c,0,none⟩ u').setCell ⟨c,1,none⟩ v').cell? ⟨b,o,none⟩=w.cell? ⟨b,o,none⟩:=λo=>by
  rw[ai1 _ _ _ _ (e _ _),ai1 _ _ _ _ (e _ _)]
 exact⟨by simpa using h.lt,(e2 _).trans h.c0,(e2 _).trans h.c1,by simpa using h.f0,by simpa using h.f1,λo v hv=>h.only o v ((e2 o).symm.trans hv)⟩
theorem bS.Gi {w:ah5} {b:Nat} {m:Bool} {bo:Z'} {l cb:Nat} (hb:bS w b m bo l cb) {k:IntKind} {x:Int} {ad:Addr} (h:w.cell? ad=some (.int k x)):ad.block≠b:=by
 intro e;obtain⟨b',o,s⟩:=ad;obtain rfl:b'=b:=e;have hs:s=none:=World.cell?_spot h
 subst hs;rcases hb.only o _ h with rfl|rfl
 ·rw[hb.c0]at h;cases h
 ·rw[hb.c1]at h;cases h
theorem kB (a:Addr) (t:Nat):(a.add t).block=a.block:=by unfold Addr.add;split<;>rfl
theorem bT {w:ah5} {b:Nat} {ad:Addr} (h:ad.block≠b) (u v:ah6):((w.setCell ⟨b,0,none⟩ u).setCell ⟨b,1,none⟩ v).cell? ad=w.cell? ad:=by
 have e:∀x,(⟨b,x,none⟩:Addr)≠ad:=λx he=>h (by rw[<-he])
 rw[ai1 _ _ _ _ (e _),ai1 _ _ _ _ (e _)]
theorem sG {w:ah5} {ao:Z'} {n ae:Nat} {xs:List Nat} (h:Sl w ao n ae xs) {b:Nat} {m:Bool} {bo:Z'} {l cb:Nat} (hb:bS w b m bo l cb) (u v:ah6):Sl ((w.setCell ⟨b,0,none⟩ u).setCell ⟨b,1,none⟩ v) ao n ae xs:=
 ⟨h.len,h.le,h.big,h.wf,h.nil,λad had t ht=>by
  have h0:=h.cells ad had t ht;rw[bT (hb.Gi h0)];exact h0⟩
theorem NQ [Ol] {w:ah5} {ao:Z'} {n ae:Nat} {xs:List Nat} (h:Dg.Sl w ao n ae xs) {b:Nat} {m:Bool} {bo:Z'} {l cb:Nat} (hb:bS w b m bo l cb) (u v:ah6):Dg.Sl ((w.setCell ⟨b,0,none⟩ u).setCell ⟨b,1,none⟩ v) ao n ae xs:=
 ⟨h.len,h.le,h.big,h.wf,h.nil,λad had t ht=>by
  have h0:=h.cells ad had t ht;rw[bT (hb.Gi h0)];exact h0,λh0 ad had=>by
  obtain⟨x,hx⟩:=h.int h0 had;have hne:=hb.Gi hx;exact(h.kp h0 ad had).ct ((Below.heap_setCell _ _ _ _ hne).trans (Below.heap_setCell _ _ _ _ hne))⟩
theorem Cn.ew {w:ah5} {m:Bool} {ao:Z'} {n ae:Nat} {z:Int} (h:Cn w m ao n ae z) {b:Nat} {k:Bool} {bo:Z'} {l cb:Nat} (hb:bS w b k bo l cb) (u v:ah6):Cn ((w.setCell ⟨b,0,none⟩ u).setCell ⟨b,1,none⟩ v) m ao n ae z:=⟨h.neg,sG h.sl hb u v⟩
theorem bj {B:Nat} {w w1:ah5} {b:Nat} (h:ah7 B w w1) (hb:B<=b) (u v:ah6):ah7 B w ((w1.setCell ⟨b,0,none⟩ u).setCell ⟨b,1,none⟩ v):=(h.setCell hb u).setCell hb v
structure Nx (w:ah5) (m:Bool) (ao:Option Addr) (n ae:Nat) (z:Int):Prop where
 LB:In w m ao n ae z
 le:n<=1000000
structure Cx (w:ah5) (m:Bool) (ao:Option Addr) (n ae:Nat) (z:Int):Prop where
 cn:Cn w m ao n ae z
 le:n<=1000000
theorem Cx.nx {w:ah5} {m:Bool} {ao:Z'} {n ae:Nat} {z:Int} (h:Cx w m ao n ae z):Nx w m ao n ae z:=⟨h.cn.LB,h.le⟩
theorem Nx.below {w w':ah5} {m:Bool} {ao:Z'} {n ae:Nat} {z:Int} (h:Nx w m ao n ae z) (hb:ah7 w.heap.size w w'):Nx w' m ao n ae z:=⟨h.LB.below hb,h.le⟩
theorem Cx.below {w w':ah5} {m:Bool} {ao:Z'} {n ae:Nat} {z:Int} (h:Cx w m ao n ae z) (hb:ah7 w.heap.size w w'):Cx w' m ao n ae z:=⟨h.cn.below hb,h.le⟩
theorem Cn.cx {w:ah5} {m:Bool} {ao:Z'} {n ae:Nat} {z:Int} {k:Nat} (h:Cn w m ao n ae z) (hb:Bd z k) (hk:k<=1000000):Cx w m ao n ae z:=⟨h,Nat.le_trans (h.le hb) hk⟩
structure Zd [Ol] (w:ah5) (m:Bool) (ao:Option Addr) (n ae:Nat) (z:Int):Prop where
 neg:m=decide (z<0)
 sl:Dg.Sl w ao n ae (Dg.aq z.natAbs)
structure Zx [Ol] (w:ah5) (m:Bool) (ao:Option Addr) (n ae:Nat) (z:Int):Prop where
 zd:Zd w m ao n ae z
 le:n<=1000000
theorem Zd.ew [Ol] {w:ah5} {m:Bool} {ao:Z'} {n ae:Nat} {z:Int} (h:Zd w m ao n ae z) {b:Nat} {k:Bool} {bo:Z'} {l cb:Nat} (hb:bS w b k bo l cb) (u v:ah6):Zd ((w.setCell ⟨b,0,none⟩ u).setCell ⟨b,1,none⟩ v) m ao n ae z:=⟨h.neg,NQ h.sl hb u v⟩
theorem Zd.below [Ol] {w w':ah5} {m:Bool} {ao:Z'} {n ae:Nat} {z:Int} (h:Zd w m ao n ae z) (hb:ah7 w.heap.size w w'):Zd w' m ao n ae z:=⟨h.neg,h.sl.below hb⟩
theorem Zx.below [Ol] {w w':ah5} {m:Bool} {ao:Z'} {n ae:Nat} {z:Int} (h:Zx w m ao n ae z) (hb:ah7 w.heap.size w w'):Zx w' m ao n ae z:=⟨h.zd.below hb,h.le⟩
def qz [Ol] (w:ah5) (z:Int) (e:Ending) (w':ah5):Prop:=
 ∃m ao n ae,e= .returned (.agg #[ah9 m,ah8 ao n ae])/\ Zd w' m ao n ae z/\ ah7 w.heap.size w w'
theorem Bd.Wo {z:Int} {k:Nat} (h:Bd z k):(Dg.aq z.natAbs).length<=10*k:=by
 refine Dg.fR (ai4 h ?_);rw[Nat.pow_mul];exact Nat.pow_le_pow_left (by omega) k
theorem Zd.zx [Ol] {w:ah5} {m:Bool} {ao:Z'} {n ae:Nat} {z:Int} {k:Nat} (h:Zd w m ao n ae z) (hb:Bd z k) (hk:k<=100000):Zx w m ao n ae z:=
 ⟨h,by have:=hb.Wo;rw[h.sl.len]at this;omega⟩
structure sH where
 kind:Nat
 b:Nat
 m:Bool
 ao:Option Addr
 n:Nat
 ae:Nat
 z:Int
 xs:List Nat
def sH.sl (ao:Z') (n ae:Nat) (xs:List Nat):sH:=⟨0,0,false,ao,n,ae,0,xs⟩
def sH.num (m:Bool) (ao:Z') (n ae:Nat) (z:Int):sH:=⟨1,0,m,ao,n,ae,z,[]⟩
def sH.lz (m:Bool) (ao:Z') (n ae:Nat) (z:Int):sH:=⟨3,0,m,ao,n,ae,z,[]⟩
def sH.box (b:Nat) (m:Bool) (ao:Z') (n ae:Nat):sH:=⟨4,b,m,ao,n,ae,0,[]⟩
def sH.fn (b:Nat) (neg:Bool):sH:=⟨5,b,neg,none,0,0,0,[]⟩
def sH.ok [Ol] (w:ah5) (e:sH):Prop:=match e.kind with
 |0=>Sl w e.ao e.n e.ae e.xs
 |1=>Nx w e.m e.ao e.n e.ae e.z
 |2=>Cx w e.m e.ao e.n e.ae e.z
 |3=>Zx w e.m e.ao e.n e.ae e.z
 |4=>bS w e.b e.m e.ao e.n e.ae
 | _=>e.b<w.heap.size/\ w.cell? ⟨e.b,0,none⟩=some (ah9 e.m)
theorem sH.below [Ol] {w w':ah5} (hb:ah7 w.heap.size w w') {e:sH} (h:e.ok w):e.ok w':=by
 obtain⟨k,b,m,ao,n,ae,z,xs⟩:=e
 match k,h with
 |0,h=>exact Sl.below (show Sl w ao n ae xs from h) hb
 |1,h=>exact Nx.below (show Nx w m ao n ae z from h) hb
 |2,h=>exact Cx.below (show Cx w m ao n ae z from h) hb
 |3,h=>exact Zx.below (show Zx w m ao n ae z from h) hb
 |4,h=>exact bS.below (show bS w b m ao n ae from h) hb
 |k+5,h=>
  have h2:b<w.heap.size/\ w.cell? ⟨b,0,none⟩=some (ah9 m):=h;exact(show b<w'.heap.size/\ w'.cell? ⟨b,0,none⟩=some (ah9 m)from⟨ai4 h2.1 hb.size,(hb.cell h2.1).trans h2.2⟩)
def aA [Ol] (w:ah5):List sH->Prop
 |[]=>True
 |e::r=>e.ok w/\ aA w r
theorem aA.below [Ol] {w w':ah5} (hb:ah7 w.heap.size w w'):∀{l:List sH},aA w l->aA w' l
 |[],_=>trivial
 | _::_,h=>⟨sH.below hb h.1,aA.below hb h.2⟩
theorem aA.nil [Ol] (w:ah5):aA w []:=trivial
theorem aA.tl [Ol] {w:ah5} {e:sH} {r:List sH} (h:aA w (e::r)):aA w r:=h.2
theorem aA.sl [Ol] {w:ah5} {ao:Z'} {n ae:Nat} {xs:List Nat} {r:List sH} (h:aA w (.sl ao n ae xs::r)):Sl w ao n ae xs:=h.1
theorem aA.num [Ol] {w:ah5} {m:Bool} {ao:Z'} {n ae:Nat} {z:Int} {r:List sH} (h:aA w (.num m ao n ae z::r)):Nx w m ao n ae z:=h.1
theorem aA.lz [Ol] {w:ah5} {m:Bool} {ao:Z'} {n ae:Nat} {z:Int} {r:List sH} (h:aA w (.lz m ao n ae z::r)):Zx w m ao n ae z:=h.1
theorem aA.box [Ol] {w:ah5} {b:Nat} {m:Bool} {ao:Z'} {n ae:Nat} {r:List sH} (h:aA w (.box b m ao n ae::r)):bS w b m ao n ae:=h.1
theorem aA.fn [Ol] {w:ah5} {b:Nat} {neg:Bool} {r:List sH} (h:aA w (.fn b neg::r)):w.cell? ⟨b,0,none⟩=some (ah9 neg):=h.1.2
theorem aA.cT [Ol] {w:ah5} {ao:Z'} {n ae:Nat} {xs:List Nat} {r:List sH} (h:Sl w ao n ae xs) (hr:aA w r):aA w (.sl ao n ae xs::r):=⟨h,hr⟩
theorem aA.II [Ol] {w:ah5} {m:Bool} {ao:Z'} {n ae:Nat} {z:Int} {r:List sH} (h:Nx w m ao n ae z) (hr:aA w r):aA w (.num m ao n ae z::r):=⟨h,hr⟩
theorem aA.cg [Ol] {w:ah5} {m:Bool} {ao:Z'} {n ae:Nat} {z:Int} {r:List sH} (h:Zx w m ao n ae z) (hr:aA w r):aA w (.lz m ao n ae z::r):=⟨h,hr⟩
theorem aA.aD [Ol] {w:ah5} {b:Nat} {m:Bool} {ao:Z'} {n ae:Nat} {r:List sH} (h:bS w b m ao n ae) (hr:aA w r):aA w (.box b m ao n ae::r):=⟨h,hr⟩
theorem aA.kZ [Ol] {w:ah5} {b:Nat} {neg:Bool} {r:List sH} (hb:b<w.heap.size) (h:w.cell? ⟨b,0,none⟩=some (ah9 neg)) (hr:aA w r):aA w (.fn b neg::r):=⟨⟨hb,h⟩,hr⟩
theorem Zd.of [Ol] {w:ah5} {m:Bool} {ao:Z'} {n ae v:Nat} {neg:Bool} (h:Dg.Sl w ao n ae (Dg.aq v)) (hm:neg=(m&&decide (0<n))):Zd w neg ao n ae (cV m v):=by
 refine⟨?_,by rw[fK];exact h⟩;rw[hm,qj]
 congr 1
 have h1:=h.len;by_cases hv:0<v
 ·have:0<n:=by
   rcases ai3 n with h0|h0
   ·rw[h0]at h1;have h2:Dg.aq v=[]:=ai2 h1;have h3:=Dg.av v;rw[h2,Dg.di]at h3;omega
   ·exact h0
  simp[hv,this]
 ·obtain rfl:v=0:=by omega
  have h2:n=0:=by rw[<-h1];rfl
  simp[h2]
theorem Zd.au [Ol] {w:ah5} {m:Bool} {ao:Z'} {n ae:Nat} {z:Int} (h:Zd w m ao n ae z):cV m z.natAbs=z:=by rw[h.neg,vr]
theorem Zd.TK [Ol] {w:ah5} {ao:Z'} {n ae:Nat} {z:Int} (h:Zd w true ao n ae z):0<n:=by
 rcases ai3 n with h0|h0
 ·have h1:=h.sl.len;rw[h0]at h1;have h2:Dg.aq z.natAbs=[]:=ai2 h1;have h3:=Dg.av z.natAbs;rw[h2,Dg.di]at h3;have h4:=h.neg;simp at h4;omega
 ·exact h0
theorem Zd.zero [Ol] {w:ah5} {m:Bool} {ao:Z'} {n ae:Nat} {z:Int} (h:Zd w m ao n ae z):n=0↔z=0:=by
 have h1:=h.sl.len;constructor
 ·intro h0;rw[h0]at h1;have h2:Dg.aq z.natAbs=[]:=ai2 h1;have h3:=Dg.av z.natAbs;rw[h2,Dg.di]at h3;omega
 ·intro h0;rw[<-h1,h0];rfl
theorem ny (w:ah5):Cx w false none 0 0 0:=⟨⟨by simp,Sl.none w⟩,by omega⟩
theorem Bg:Bd 0 1:=by unfold Bd;decide
theorem Yz {n:Int} (h: -9223372036854775808<=n/\ n<=9223372036854775807):Bd n 2:=by
 unfold Bd;have e:(4294967296:Nat)^2=18446744073709551616:=by decide
 rw[e];omega
def tO (m:Bool) (n:Nat) (xs:List Nat):Bool:=if n=0 then !m else decide (xs.getD (n-1) 0≠0)
theorem PH (xs:List Nat) (k:Nat) (h:bE xs=xs) (hk:xs.length=k+1):xs.getD k 0≠0:=by
 intro e;have h1:=cv xs k (by omega);rw[cE xs (k+1) hk,e]at h1;have h2:=congrArg bE h1;rw[lN]at h2;have h3:=fV (xs.take k);unfold nl at h3;rw[<-h2,h,List.length_take]at h3;omega
end Go.Proofs.YtmenbpmciblnlaaGreatDoor
