/- PsM, PsN, PsE, PsR, PsV, PsZ, PsK, PsB -/
import Derived.Test.YthdhjckangekoaaGreatGMt
import Derived.Test.YthdhjckangekoaaGreatGQ1
import Derived.Test.YthdhjckangekoaaGreatVKn
set_option maxHeartbeats 40000000
set_option maxRecDepth 100000
namespace Go.Proofs.YthdhjckangekoaaGreat
open Go.RowKit
def yh (o:Option MS):Option MS:=o.map MS.step
def jN (o:Option MS):Int:=match o with|none=>0|some s=>s.j6
def kl (p:List Term):List (List Nat):=p.map fun t=>limbs t.1.natAbs
def jB (o:Option MS) (p:List Term):Option MS:=o.map fun s=>s.keep (kl p)
def bO (o:Option MS) (p:List Term):Int:=match o with|none=>0|some s=>s.je (kl p)
theorem lK {o:Option MS} {p:List Term} (h:bO o p=0):jB o p=o:=by
 cases o with
 |none=>rfl
 |some s=>
  simp only[bO,MS.je]at h;simp only[jB,Option.map_some,MS.keep];split at h
  ·omega
  ·rename_i h1;rw[if_neg h1];split at h
   ·omega
   ·rename_i h2;rw[if_neg h2]
def dB [Ol] (w:World) (mv:Value) (b0:Option Nat) (o:Option MS):Prop:=
 (mv= .pointer none/\ b0=none/\ o=none)∨ ∃b s,mv= .pointer (some ⟨b,0,none⟩)/\ b0=some b/\ o=some s/\ Cells w b (mc s)/\ s.Ok/\ Ol.lo<=b
theorem dB.lt [Ol] {w:World} {mv:Value} {b0:Option Nat} {o:Option MS} (h:dB w mv b0 o):∀b,b0=some b->b<w.heap.size:=by
 rintro b rfl;rcases h with⟨_,h,_⟩|⟨b',s,_,h,_,hc,_⟩
 ·cases h
 ·cases h;exact hc.lt
theorem dB.keep [Ol] {w w':World} {mv:Value} {b0:Option Nat} {o:Option MS} (h:dB w mv b0 o) (hk:∀b,b0=some b->w'.heap[b]? =w.heap[b]?):dB w' mv b0 o:=by
 rcases h with h|⟨b,s,h1,h2,h3,hc,h4⟩
 ·exact .inl h
 ·exact .inr ⟨b,s,h1,h2,h3,hc.keep (hk b h2),h4⟩
theorem dB.below [Ol] {w w':World} {mv:Value} {b0:Option Nat} {o:Option MS} (h:dB w mv b0 o) (hB:Below w.heap.size w w'):dB w' mv b0 o:=h.keep fun b hb=>hB.block b (h.lt b hb)
structure eZ [Ol] (w w':World) (b0:Option Nat):Prop where
 g:w.grownBy w' b0
 far:∀b,b0=some b->l8 w w' b
theorem eZ.none [Ol] {w w':World} {b0:Option Nat} (h:eZ w w' b0) (h0:b0=Option.none):Below w.heap.size w w':=by
 subst h0;exact⟨h.g.os,h.g.tape,h.g.output,h.g.size,fun k hk=>h.g.block k hk (by simp)⟩
theorem eZ.trans [Ol] {w v u:World} {b0:Option Nat} (h:eZ w v b0) (k:eZ v u b0):eZ w u b0:=
 ⟨ay h.g k.g,fun b hb=>⟨(h.far b hb).kp,ay (h.far b hb).g (k.far b hb).g,fun ad x hx=>(k.far b hb).u ad x ((h.far b hb).u ad x hx)⟩⟩
theorem Py [Ol] {w:World} {b:Nat} {s:MS} (h:Cells w b (mc s)) (hlo:Ol.lo<=b):∀c,Kp w c->c≠b:=fun c hc=>by
 obtain⟨T,hq,hh⟩:=h;exact hc.far hlo hh (hq (.inl rfl)) ⟨.int .i64 s.fu,by simp[mc,zH],rfl⟩
theorem eZ.of_below [Ol] {w w':World} {mv:Value} {b0:Option Nat} {o:Option MS} (h:dB w mv b0 o) (hB:Below w.heap.size w w'):eZ w w' b0:=by
 refine⟨aH _ hB,fun b hb=>⟨?_,aH _ hB,fun ad x hx=>by rw[hB.cell (World.block_lt_of_cell? w _ hx)];exact hx⟩⟩;rcases h with⟨_,h,_⟩|⟨b',s,_,h,_,hc,_,hl⟩
 ·rw[h]at hb;cases hb
 ·rw[h]at hb;cases hb;exact Py hc hl
theorem Pc.dY [Ol] {K:Nat} {w w':World} {ao:Option Addr} {n cap:Nat} {p:List Term} {b0:Option Nat} (h:Pc K w ao n cap p) (hF:eZ w w' b0):Pc K w' ao n cap p:=by
 cases h0:b0 with
 |none=>exact h.below (hF.none h0)
 |some b=>exact h.di (hF.far b h0)
theorem Pc.lp [Ol] {K:Nat} {w:World} {ao:Option Addr} {n cap:Nat} {p:List Term} (h:Pc K w ao n cap p):Lp w ao n cap (kl p):=by
 obtain⟨aW,h1,h2⟩:=h.ex;refine⟨aW,h1,bG.map (fun t=>limbs t.1.natAbs) (fun v a _ h=>?_) h2⟩;obtain⟨m,ao,n,cap,bo,k,cb,e1,e2,_,_⟩:=h;exact⟨m,ao,n,cap,bo,k,cb,e1,e2.sl⟩
theorem ag9 {w w':World} {b:Nat} {s t:MS} (h:Cells w b (mc s)) (h':Cells w' b (mc t)) (hw:s.wh=t.wh) (hG:w.grownBy w' (some b)):∀(ad:Addr) (x:Int),w.cell? ad=some (.int .u32 x)->w'.cell? ad=some (.int .u32 x):=fun ad x hx=>by
 by_cases hb:ad.block=b
 ·obtain⟨b',o,sp⟩:=ad;obtain rfl:b'=b:=hb;have hs:sp=none:=World.cell?_spot hx
  subst hs;rw[h.cell]at hx;rw[h'.cell];simp only[mc,zH,hw]at hx ⊢;rcases o with _| _| _| _| _| _| _| _| _| _| _|o
  all_goals first
   |(simp at hx;done)
   |exact hx
 ·exact hG.cell hx fun e=>hb (Option.some.inj e)
theorem GD [Ol] {w w':World} {b:Nat} {s t:MS} (h:Cells w b (mc s)) (h':Cells w' b (mc t)) (hw:s.wh=t.wh) (hG:w.grownBy w' (some b)) (hlo:Ol.lo<=b):l8 w w' b:=⟨Py h hlo,hG,ag9 h h' hw hG⟩
def aa8 [Ol] (w:World) (mv:Value) (b0:Option Nat) (o:Option MS) (e:Ending) (w':World):Prop:=e= .returned (.int .i64 (jN o))/\ dB w' mv b0 (yh o)/\ w.grownBy w' b0/\ (jN o=0->eZ w w' b0)
theorem Lx [Ol] {w:World} {mv:Value} {b0:Option Nat} {o:Option MS} (h:dB w mv b0 o):Calls Tryz.prog 50 #[mv] w (aa8 w mv b0 o):=by
 rcases h with⟨rfl,rfl,rfl⟩|⟨b,s,rfl,rfl,rfl,hc,hk,hl⟩
 ·refine Kr.mono fun e w' h=>?_
  obtain⟨rfl,rfl⟩:=h;exact⟨rfl,.inl ⟨rfl,rfl,rfl⟩,World.grownBy.refl _ _,fun _=>⟨World.grownBy.refl _ _,fun b hb=>by cases hb⟩⟩
 ·refine(Kt hc hk).mono fun e w' h=>?_
  obtain⟨rfl,hC,hG⟩:=h;refine⟨rfl,.inr ⟨b,_,rfl,rfl,rfl,hC,hk.step,hl⟩,hG,fun he=>⟨hG,fun b' hb'=>?_⟩⟩;cases hb';refine GD hc hC ?_ hG hl
  have he':s.j6=0:=he;unfold MS.j6 at he';unfold MS.step;split at he'
  ·omega
  ·rename_i h1;rw[if_neg h1]
def aa9 [Ol] (w:World) (mv:Value) (b0:Option Nat) (o:Option MS) (p:List Term) (e:Ending) (w':World):Prop:=e= .returned (.int .i64 (bO o p))/\ dB w' mv b0 (jB o p)/\ w.grownBy w' b0/\ (bO o p=0->eZ w w' b0)
theorem A7 [Ol] {w:World} {mv:Value} {b0:Option Nat} {o:Option MS} (h:dB w mv b0 o) {K:Nat} {ao:Option Addr} {n cap:Nat} {p:List Term} (hp:Pc K w ao n cap p):Calls Tryz.prog 49 #[mv,.slice ao n cap] w (aa9 w mv b0 o p):=by
 rcases h with⟨rfl,rfl,rfl⟩|⟨b,s,rfl,rfl,rfl,hc,hk,hl⟩
 ·refine Kw.mono fun e w' h=>?_
  obtain⟨rfl,hB⟩:=h;exact⟨rfl,.inl ⟨rfl,rfl,rfl⟩,aH _ hB,fun _=>⟨aH _ hB,fun b hb=>by cases hb⟩⟩
 ·refine(Ky hc hp.lp).mono fun e w' h=>?_
  obtain⟨rfl,hC,hG⟩:=h;refine⟨rfl,.inr ⟨b,_,rfl,rfl,rfl,hC,hk.keep _,hl⟩,hG,fun he=>⟨hG,fun b' hb'=>?_⟩⟩;cases hb';have h1:=lK (o:=some s) (p:=p) he;simp only[jB,Option.map_some,Option.some.injEq]at h1;rw[h1]at hC;exact GD hc hC rfl hG hl
def oN (o:Option MS):Nat->Option MS
 |0=>o
 |n+1=>yh (oN o n)
def qk (kq:Bool) (q:List Term):List Term:=if kq=true then q else[]
structure Out where
 q:List Term
 r:List Term
 s:Nat
 e:Int
 o:Option MS
section
variable (g f:List Term) (v:Int) (kq:Bool) (o:Option MS)
def Goes (j:Nat):Prop:=aI g v<=aI (bF g v f j).2 v/\ jN (oN o j)=0/\ bO (oN o (j+1)) (bF g v f (j+1)).2=0/\ bO (oN o (j+1)) (qk kq (bF g v f (j+1)).1)=0
def EZ (n:Nat) (u:Out):Prop:=
 (aI (bF g v f n).2 v<aI g v/\ u=⟨qk kq (bF g v f n).1,(bF g v f n).2,n,0,oN o n⟩)∨
 (aI g v<=aI (bF g v f n).2 v/\ ((jN (oN o n)≠0/\ u=⟨[],[],0,jN (oN o n),yh (oN o n)⟩)∨
  (jN (oN o n)=0/\ ((bO (oN o (n+1)) (bF g v f (n+1)).2≠0/\ u=⟨[],[],0,bO (oN o (n+1)) (bF g v f (n+1)).2,jB (oN o (n+1)) (bF g v f (n+1)).2⟩)∨
   (bO (oN o (n+1)) (bF g v f (n+1)).2=0/\ bO (oN o (n+1)) (qk kq (bF g v f (n+1)).1)≠0/\ u=⟨[],[],0,bO (oN o (n+1)) (qk kq (bF g v f (n+1)).1),jB (oN o (n+1)) (qk kq (bF g v f (n+1)).1)⟩)))))
def Ends (u:Out):Prop:=∃n,(∀j,j<n->Goes g f v kq o j)/\ EZ g f v kq o n u
end
section
variable {g f:List Term} {v:Int} {kq:Bool} {o:Option MS}
theorem Goes.PD {n:Nat} {u:Out} (h:Goes g f v kq o n) (k:EZ g f v kq o n u):False:=by
 obtain⟨h1,h2,h3,h4⟩:=h;rcases k with⟨k1,_⟩|⟨_,⟨k2,_⟩|⟨_,⟨k3,_⟩|⟨_,k4,_⟩⟩⟩
 ·omega
 ·exact k2 h2
 ·exact k3 h3
 ·exact k4 h4
theorem EZ.unique {n:Nat} {u u':Out} (h:EZ g f v kq o n u) (k:EZ g f v kq o n u'):u=u':=by
 rcases h with⟨h1,rfl⟩|⟨h1,⟨h2,rfl⟩|⟨h2,⟨h3,rfl⟩|⟨h3,h4,rfl⟩⟩⟩<;>rcases k with⟨k1,rfl⟩|⟨k1,⟨k2,rfl⟩|⟨k2,⟨k3,rfl⟩|⟨k3,k4,rfl⟩⟩⟩
 all_goals first
  |rfl
  |(exfalso;omega)
theorem Ends.unique {u u':Out} (h:Ends g f v kq o u) (k:Ends g f v kq o u'):u=u':=by
 obtain⟨n,h1,h2⟩:=h;obtain⟨m,k1,k2⟩:=k;rcases Nat.lt_trichotomy n m with h|h|h
 ·exact((k1 n h).PD h2).elim
 ·subst h;exact h2.unique k2
 ·exact((h1 m h).PD k2).elim
theorem kX {n:Nat} (h:∀j,j<n->Goes g f v kq o j):Long g v f n:=fun j hj=>(h j hj).1
end
open Lib (hid)
def WS [Ol] (w:World) (mv:Value) (b0:Option Nat) (o:Option MS) (r q:List Term) (e:Ending) (w':World):Prop:=
 ∃E o',e= .returned (.int .i64 E)/\ dB w' mv b0 o'/\ w.grownBy w' b0/\ ((E=0/\ o'=o/\ bO o r=0/\ bO o q=0/\ eZ w w' b0)∨(bO o r≠0/\ E=bO o r/\ o'=jB o r)∨(bO o r=0/\ bO o q≠0/\ E=bO o q/\ o'=jB o q))
theorem LA [Ol] {K L:Nat} {mv:Value} {b0:Option Nat} {o:Option MS} {ro qo:Option Addr} {rn rc qn qc:Nat} {r q:List Term} {w:World} (hM:dB w mv b0 o) (hL:aN w L [.slice ro rn rc,.slice qo qn qc] 23) (hLb:some L≠b0) (hr:Pc K w ro rn rc r) (hq:Pc K w qo qn qc q):
  Calls Tryz.prog 53 #[.func (.func 49) #[mv] #[],.slice (some ⟨L,0,none⟩) 2 2] w (WS w mv b0 o r q):=by
 have HI0:=hid hM;have HL:=hid (And.intro hLb hL);have HR:=hid hr;have HQ:=hid hq;clear hM hL hLb hr hq;go_enter Tryz.func53,Tryz.ntmps53;go_wp2;go_loopw [10] (fun i wr=>∃k:Nat,i= .int .i64 k/\ k<=2/\ Hid (dB wr mv b0 o/\ eZ w wr b0/\ (1<=k->bO o r=0)/\ (2<=k->bO o q=0))) (fun i _=>2-(intOf i).toNat)
 case atStart=>exact⟨0,rfl,by omega,HI0.out,eZ.of_below HI0.out (Below.refl _ _),(fun h=>by omega),fun h=>by omega⟩
 case round=>
  clear HI0;obtain⟨k,rfl,hk,HI⟩:=hrel;rcases(show k=0∨k=1∨k=2 by omega)with rfl|rfl|rfl
  ·have hLc:wr.cell? ⟨L,0,none⟩=some (.slice ro rn rc):=(HL.out.2.keep (HI.out.2.1.g.block _ HL.out.2.lt HL.out.1)).cell 0;obtain⟨E,hE⟩:∃E,bO o r=E:=⟨_,rfl⟩;have HE:=hid hE;clear hE;go_wp2_with fail;refine(A7 HI.out.1 (HR.out.dY HI.out.2.1)).mono ?_;rintro e w2 ⟨rfl,hM2,hG2,hF2⟩;rw[HE.out]at hF2 ⊢;have H2:=hid (And.intro hM2 (And.intro hG2 hF2));clear hM2 hG2 hF2 hLc;by_cases h0:E=0
   ·subst h0;have hok:=lK HE.out;go_wp2_with fail;go_roundw
    case rel=>exact⟨1,by go_num,by omega,by have:=H2.out.1;rwa[hok]at this,HI.out.2.1.trans (H2.out.2.2 (by first|rfl|trivial)),(fun _=>HE.out),fun h=>by omega⟩
    case measure=>simp[intOf]
   ·have hd:(E==0)=false:=by simpa using h0
    go_wp2_with fail;go_ret;exact⟨E,_,rfl,H2.out.1,ay HI.out.2.1.g H2.out.2.1,.inr (.inl ⟨by rw[HE.out];exact h0,HE.out.symm,rfl⟩)⟩
  ·have hLc:wr.cell? ⟨L,1,none⟩=some (.slice qo qn qc):=(HL.out.2.keep (HI.out.2.1.g.block _ HL.out.2.lt HL.out.1)).cell 1;obtain⟨E,hE⟩:∃E,bO o q=E:=⟨_,rfl⟩;have HE:=hid hE;clear hE;go_wp2_with fail;refine(A7 HI.out.1 (HQ.out.dY HI.out.2.1)).mono ?_;rintro e w2 ⟨rfl,hM2,hG2,hF2⟩;rw[HE.out]at hF2 ⊢;have H2:=hid (And.intro hM2 (And.intro hG2 hF2));clear hM2 hG2 hF2 hLc;by_cases h0:E=0
   ·subst h0;have hok:=lK HE.out;go_wp2_with fail;go_roundw
    case rel=>exact⟨2,by go_num,by omega,by have:=H2.out.1;rwa[hok]at this,HI.out.2.1.trans (H2.out.2.2 (by first|rfl|trivial)),(fun _=>HI.out.2.2.1 (by omega)),fun _=>HE.out⟩
    case measure=>simp[intOf]
   ·have hd:(E==0)=false:=by simpa using h0
    go_wp2_with fail;go_ret;exact⟨E,_,rfl,H2.out.1,ay HI.out.2.1.g H2.out.2.1,.inr (.inr ⟨HI.out.2.2.1 (by omega),by rw[HE.out];exact h0,HE.out.symm,rfl⟩)⟩
  ·go_wp2_with fail;go_ret;exact⟨0,o,rfl,HI.out.1,HI.out.2.1.g,.inl ⟨rfl,rfl,HI.out.2.2.1 (by omega),HI.out.2.2.2 (by omega),HI.out.2.1⟩⟩
open Lib (hid)
def dz:List Value:=nW 0 0 none 0 0 none 0 0 false none 0 0 none 0 0 0
def zV (a b:Int) (ho:Option Addr) (hn hc:Nat) (ta:Option Addr) (tn tc:Nat) (hq:Bool) (qo:Option Addr) (qn qc:Nat) (ro:Option Addr) (rn rc:Nat) (s:Int):Value:=
 .agg #[.int .i64 a,.int .i64 b,.slice ho hn hc,.slice ta tn tc,.bool hq,.slice qo qn qc,.slice ro rn rc,.int .i64 s]
def wL [Ol] (w:World) (mv:Value) (b0:Option Nat) (P:Out->Prop) (K:Nat) (e:Ending) (w':World):Prop:=
 ∃(u:Out) (a b:Int) (ho:Option Addr) (hn hc:Nat) (ta:Option Addr) (tn tc:Nat) (hq:Bool) (qo:Option Addr) (qn qc:Nat) (ro:Option Addr) (rn rc:Nat),P u/\ e= .returned (.tuple #[zV a b ho hn hc ta tn tc hq qo qn qc ro rn rc (u.s:Int),.int .i64 u.e])/\ Pc K w' qo qn qc u.q/\ Pc K w' ro rn rc u.r/\ dB w' mv b0 u.o/\ w.grownBy w' b0
def CS (w:World) (b:Nat) (v0 v1 v2 v3 v4 v5 v6 v7:Value):World:=(((((((w.setCell ⟨b,0,none⟩ v0).setCell ⟨b,1,none⟩ v1).setCell ⟨b,2,none⟩ v2).setCell ⟨b,3,none⟩ v3).setCell ⟨b,4,none⟩ v4).setCell ⟨b,5,none⟩ v5).setCell ⟨b,6,none⟩ v6).setCell ⟨b,7,none⟩ v7
theorem jS (w:World) (b:Nat) (v0 v1 v2 v3 v4 v5 v6 v7:Value):w.grownBy (CS w b v0 v1 v2 v3 v4 v5 v6 v7) (some b):=
 ay (ay (ay (ay (ay (ay (ay (aY _ _ _ _) (aY _ _ _ _)) (aY _ _ _ _)) (aY _ _ _ _)) (aY _ _ _ _)) (aY _ _ _ _)) (aY _ _ _ _)) (aY _ _ _ _)
theorem aN.CS {w:World} {b:Nat} {u0 u1 u2 u3 u4 u5 u6 u7:Value} {T:TypeId} (h:aN w b [u0,u1,u2,u3,u4,u5,u6,u7] T) (v0 v1 v2 v3 v4 v5 v6 v7:Value):aN (Go.Proofs.YthdhjckangekoaaGreat.CS w b v0 v1 v2 v3 v4 v5 v6 v7) b [v0,v1,v2,v3,v4,v5,v6,v7] T:=
 (((((((h.set 0 v0).set 1 v1).set 2 v2).set 3 v3).set 4 v4).set 5 v5).set 6 v6).set 7 v7
theorem aN.c8 {w:World} {b:Nat} {u0 u1 u2 u3 u4 u5 u6 u7:Value} {T:TypeId} (h:aN w b [u0,u1,u2,u3,u4,u5,u6,u7] T):w.cell? ⟨b,0,none⟩=some u0/\ w.cell? ⟨b,1,none⟩=some u1/\ w.cell? ⟨b,2,none⟩=some u2/\ w.cell? ⟨b,3,none⟩=some u3/\ w.cell? ⟨b,4,none⟩=some u4/\ w.cell? ⟨b,5,none⟩=some u5/\ w.cell? ⟨b,6,none⟩=some u6/\ w.cell? ⟨b,7,none⟩=some u7:=⟨h.cell 0,h.cell 1,h.cell 2,h.cell 3,h.cell 4,h.cell 5,h.cell 6,h.cell 7⟩
theorem aN.f8 {w:World} {b:Nat} {vs:List Value} {T:TypeId} (h:aN w b vs T):w.frozen? ⟨b,0,none⟩=false/\ w.frozen? ⟨b,1,none⟩=false/\ w.frozen? ⟨b,2,none⟩=false/\ w.frozen? ⟨b,3,none⟩=false/\ w.frozen? ⟨b,4,none⟩=false/\ w.frozen? ⟨b,5,none⟩=false/\ w.frozen? ⟨b,6,none⟩=false/\ w.frozen? ⟨b,7,none⟩=false:=⟨h.fz 0,h.fz 1,h.fz 2,h.fz 3,h.fz 4,h.fz 5,h.fz 6,h.fz 7⟩
theorem NM [Ol] {mv:Value} {b0:Option Nat} {o:Option MS} {fo Am:Option Addr} {fn fc gn gc:Nat} {fs:List Raw} {v:Int} {kq:Bool} {w:World} (hM:dB w mv b0 o) (hp:Pr w fo fn fc fs) (hl:∀t∈fs,t.1.2.length<=1000) (h:iV fs=false):
  Calls Tryz.prog 24 #[mv,.slice fo fn fc,.slice Am gn gc,.int .i64 v,.bool kq] w (wL w mv b0 (fun u=>u=⟨[],[],0,2,o⟩) 0):=by
 have HP:=hid hp;have HM:=hid hM;clear hp hM;go_enter Tryz.func24,Tryz.ntmps24;go_upto_region 1 with(fail)
 refine au (fun W hW=>?_);obtain⟨Z,hZ⟩:∃Z,Z=w.heap.size:=⟨_,rfl⟩
 have HZ:Hid (aN W Z dz 70/\ Below w.heap.size w W/\ w.heap.size<=Z):=by
  rw[hZ];exact⟨by rw[hW];exact aN.new w dz 70,by rw[hW];exact af _ _,Nat.le_refl _⟩
 rw[<-hZ];clear hW hZ;go_wp2_with fail;refine(qK false (HP.out.below HZ.out.2.1) hl h).mono ?_;rintro e w1 ⟨rfl,hB⟩;have HZ1:Hid (aN w1 Z dz 70/\ Below w.heap.size w w1/\ w.heap.size<=Z):=⟨HZ.out.1.below hB,Below.steps HZ.out.2.1 hB,HZ.out.2.2⟩;clear hB HZ;obtain⟨d0,d1,d2,d3,d4,d5,d6,d7⟩:=HZ1.out.1.c8;obtain⟨f0,f1,f2,f3,f4,f5,f6,f7⟩:=HZ1.out.1.f8;go_wp2_with fail;clear d0 d1 d2 d3 d4 d5 d6 d7 f0 f1 f2 f3 f4 f5 f6 f7;refine dS (Q:=bodyPost _ _ _ _ _) (fun W3 hW=>?_);have A:aN W3 Z dz 70:=by rw[hW];exact HZ1.out.1.CS _ _ _ _ _ _ _ _
 have hG:w1.grownBy W3 (some Z):=by rw[hW];exact jS _ _ _ _ _ _ _ _ _ _
 have hB:Below w.heap.size w W3:=HZ1.out.2.1.trans (fw hG HZ1.out.2.2 HZ1.out.2.1.size);have HR:Hid (wL w mv b0 (fun u=>u=⟨[],[],0,2,o⟩) 0 (.returned (.tuple #[zV 0 0 none 0 0 none 0 0 false none 0 0 none 0 0 0,.int .i64 2])) W3):=⟨⟨[],[],0,2,o⟩,_,_,_,_,_,_,_,_,_,_,_,_,_,_,_,rfl,rfl,Pc.zero _ _,Pc.zero _ _,HM.out.below hB,aH _ hB⟩;clear hW hG hB;obtain⟨d0,d1,d2,d3,d4,d5,d6,d7⟩:=A.c8;refine bodyPost_ret (v:= .tuple #[zV 0 0 none 0 0 none 0 0 false none 0 0 none 0 0 0,.int .i64 2]) (by simp[results,Tryz.results24,go_sem,d0,d1,d2,d3,d4,d5,d6,d7,zV]) rfl HR.out
theorem NN [Ol] {mv:Value} {b0:Option Nat} {o:Option MS} {fo Am:Option Addr} {fn fc gn gc:Nat} {fs:List Raw} {v:Int} {kq:Bool} {w:World} (hM:dB w mv b0 o) (hp:Pr w fo fn fc fs) (hl:∀t∈fs,t.1.2.length<=1000) (h:iV fs=true) {gs:List Raw} (hg:Pr w Am gn gc gs) (hlg:∀t∈gs,t.1.2.length<=1000) (hd:aI (ow gs) v=0):
  Calls Tryz.prog 24 #[mv,.slice fo fn fc,.slice Am gn gc,.int .i64 v,.bool kq] w (wL w mv b0 (fun u=>u=⟨[],[],0,2,o⟩) 0):=by
 have HP:=hid hp;have HM:=hid hM;have HG:=hid hg;have HD:=hid hd;clear hp hM hg hd;go_enter Tryz.func24,Tryz.ntmps24;go_upto_region 1 with(fail)
 refine au (fun W hW=>?_);obtain⟨Z,hZ⟩:∃Z,Z=w.heap.size:=⟨_,rfl⟩
 have HZ:Hid (aN W Z dz 70/\ Below w.heap.size w W/\ w.heap.size<=Z):=by
  rw[hZ];exact⟨by rw[hW];exact aN.new w dz 70,by rw[hW];exact af _ _,Nat.le_refl _⟩
 rw[<-hZ];clear hW hZ;go_wp2_with fail;refine(qK true (HP.out.below HZ.out.2.1) hl h).mono ?_;rintro e w0 ⟨rfl,hB⟩;have HB0:=hid hB;clear hB;go_wp2_with fail;refine(wE v 0 ((HG.out.below HZ.out.2.1).below HB0.out) hlg HD.out).mono ?_;rintro e w1 ⟨rfl,hB1⟩;have hB:=Below.steps HB0.out hB1;clear hB1 HB0;have HZ1:Hid (aN w1 Z dz 70/\ Below w.heap.size w w1/\ w.heap.size<=Z):=⟨HZ.out.1.below hB,Below.steps HZ.out.2.1 hB,HZ.out.2.2⟩;clear hB HZ;obtain⟨d0,d1,d2,d3,d4,d5,d6,d7⟩:=HZ1.out.1.c8;obtain⟨f0,f1,f2,f3,f4,f5,f6,f7⟩:=HZ1.out.1.f8;go_wp2_with fail;clear d0 d1 d2 d3 d4 d5 d6 d7 f0 f1 f2 f3 f4 f5 f6 f7;refine dS (Q:=bodyPost _ _ _ _ _) (fun W3 hW=>?_);have A:aN W3 Z dz 70:=by rw[hW];exact HZ1.out.1.CS _ _ _ _ _ _ _ _
 have hG:w1.grownBy W3 (some Z):=by rw[hW];exact jS _ _ _ _ _ _ _ _ _ _
 have hB:Below w.heap.size w W3:=HZ1.out.2.1.trans (fw hG HZ1.out.2.2 HZ1.out.2.1.size);have HR:Hid (wL w mv b0 (fun u=>u=⟨[],[],0,2,o⟩) 0 (.returned (.tuple #[zV 0 0 none 0 0 none 0 0 false none 0 0 none 0 0 0,.int .i64 2])) W3):=⟨⟨[],[],0,2,o⟩,_,_,_,_,_,_,_,_,_,_,_,_,_,_,_,rfl,rfl,Pc.zero _ _,Pc.zero _ _,HM.out.below hB,aH _ hB⟩;clear hW hG hB;obtain⟨d0,d1,d2,d3,d4,d5,d6,d7⟩:=A.c8;refine bodyPost_ret (v:= .tuple #[zV 0 0 none 0 0 none 0 0 false none 0 0 none 0 0 0,.int .i64 2]) (by simp[results,Tryz.results24,go_sem,d0,d1,d2,d3,d4,d5,d6,d7,zV]) rfl HR.out
open Lib (hid)
theorem lF {w V W:World} {b0:Option Nat} {D:Nat} (h:w.grownBy V b0) (k:V.grownBy W (some D)) (hD:w.heap.size<=D):w.grownBy W b0:=
 ⟨k.os.trans h.os,k.tape.trans h.tape,k.output.trans h.output,Nat.le_trans h.size k.size,fun i hi hne=>(k.block i (Nat.lt_of_lt_of_le hi h.size) (fun e=>by cases e;omega)).trans (h.block i hi hne)⟩
theorem Pc.QT [Ol] {K:Nat} {w:World} {ao:Option Addr} {n cap:Nat} {p:List Term} (h:Pc K w ao n cap p):∀t∈p,Bd t.1 K:=fun t ht=>by
 obtain⟨i,hi,rfl⟩:=List.mem_iff_getElem.1 ht;obtain⟨_,_,_,_,_,_,_,_,_,_,_,_,_,hb,_⟩:=h.at (k:=i) (by rw[<-h.len];exact hi);rwa[bJ _ hi]at hb
theorem Ik {K:Nat} {p:List Term} {v:Int} (h:∀t∈p,Bd t.1 K):∀t∈bQ p v,Bd t.1 K:=fun t ht=>by
 obtain⟨s,hs,_,rfl⟩:=vD ht;exact h s hs
theorem LB [Ol] {a:Int} {ho ta:Option Addr} {hn hc tn tc:Nat} {w w':World} {X:Nat} (hlo:Ol.lo<=X) (hA:aN w X [.int .i64 a,.slice ho hn hc,.slice ta tn tc] 68) (hG:w.grownBy w' (some X)):l8 w w' X:=
 l8.mk' hlo hA (by decide) ⟨.int .i64 a,by simp,rfl⟩ (fun u hu=>by simp at hu;rcases hu with rfl|rfl|rfl<;>rfl) hG
theorem Sj {kq:Bool} {g r q:List Term} {v:Int}:(if kq=true then E5 g v (qk kq q) r else qk kq q)=qk kq (E5 g v q r):=by cases kq<;>rfl
theorem Cj {kq:Bool} {q:List Term} (h:fall q):fall (qk kq q):=by cases kq<;>first|exact h|trivial
theorem Vj {kq:Bool} {q:List Term} {E:Int} (h:EB q E):EB (qk kq q) E:=by cases kq<;>first|exact h|(intro t ht;cases ht)
structure WT [Ol] (w:World) (g f:List Term) (v:Int) (kq:Bool) (o:Option MS) (mv:Value) (b0:Option Nat) (K Z D:Nat) (ho:Option Addr) (hn hc:Nat) (ta:Option Addr) (tn tc:Nat) (n X:Nat) (V:World):Prop where
 z:aN V Z dz 70
 d:∃qo qn qc ro rn rc,aN V D (nW v (aI g v) ho hn hc ta tn tc kq qo qn qc ro rn rc (n:Int)) 70/\ Pc K V qo qn qc (qk kq (bF g v f n).1)/\ Pc K V ro rn rc (bF g v f n).2
 x:∃xo xn xc yo yn yc,aN V X [.int .i64 (aI (bF g v f n).2 v),.slice xo xn xc,.slice yo yn yc] 68/\ Pc K V xo xn xc (bQ (bF g v f n).2 v)/\ Pc K V yo yn yc (gy (bF g v f n).2 v)
 h:Pc K V ho hn hc (bQ g v)
 t:Pc K V ta tn tc (gy g v)
 m:dB V mv b0 (oN o n)
 gr:w.grownBy V b0
 go:∀j,j<n->Goes g f v kq o j
 dx:D<X
theorem BL [Ol] {K N:Nat} {E F:Int} {mv:Value} {b0:Option Nat} {o:Option MS} {fo Am:Option Addr} {fn fc gn gc:Nat} {f g:List Term} {v:Int} {kq:Bool} {w:World} (hM:dB w mv b0 o) (hf:Pc K w fo fn fc f) (hg:Pc K w Am gn gc g) (hd:lI g f v E F N)
  (hsz:∀n,Long g v f n->zN g (qk kq (bF g v f n).1) (bF g v f n).2 K) (hK:K<=890) (hN:N<=1000) (hlo:Ol.lo<=w.heap.size):
  Calls Tryz.prog 24 #[mv,.slice fo fn fc,.slice Am gn gc,.int .i64 v,.bool kq] w (wL w mv b0 (Ends g f v kq o) K):=by
 have ou:=hid hd;have Kl:=hid hsz;have Wp:=hid hM;have PG:=hid (And.intro hf hg);have nu:=hid hlo;have hsz0:=hsz 0 (fun j hj=>by omega);have hfn:fn<=100000:=by have h1:=hsz0.ll;have h2:=hf.len;exact(show f.length<=100000 from h1)|>fun h=>by omega
 have hgn:gn<=100:=by have h1:=hsz0.lg;have h2:=hg.len;omega
 obtain⟨z,hz⟩:∃z,aI g v=z:=⟨_,rfl⟩;have Rt:Hid (aI g v=z/\ z≠0):=⟨hz,by have:=hd.h1;omega⟩;have hz0:(z==0)=false:=by have:=Rt.out.2;simpa using this
 have Vb:∀(fn:Fn) (first cap:Array Value) (w:World),(Instr.makeFunc fn first cap).run Tryz.prog w= .ok (.func fn first cap) w:=fun _ _ _ _=>rfl
 clear hd hsz hM hf hg hlo hsz0 hz;go_enter Tryz.func24,Tryz.ntmps24;go_upto_region 1 with(fail)
 refine au (fun W hW=>?_);obtain⟨Z,hZ⟩:∃Z,Z=w.heap.size:=⟨_,rfl⟩
 have iw:Hid ((aN W Z dz 70)/\ (Pc K W fo fn fc f)/\ (Pc K W Am gn gc g)/\ (dB W mv b0 o)/\ w.grownBy W b0):=by
  have hB:Below w.heap.size w W:=by rw[hW];exact af _ _
  exact⟨by rw[hW,hZ];exact aN.new w dz 70,PG.out.1.below hB,PG.out.2.below hB,Wp.out.below hB,aH _ hB⟩
 have NR:Hid (w.heap.size<=Z/\ Z<W.heap.size/\ w.heap.size<=W.heap.size):=⟨by omega,iw.out.1.lt,by rw[hW];simp⟩;have A8:Hid (∀c,w.heap.size<=c->some c≠b0):=fun c hc e=>by have:=Wp.out.lt c e.symm;omega
 rw[<-hZ];clear hW hZ PG Wp;go_wp2_with fail;refine(jF iw.out.2.1 ou.out.ff (by omega)).mono ?_;rintro e w1 ⟨rfl,hB⟩;have kL:Hid ((aN w1 Z dz 70)/\ (Pc K w1 fo fn fc f)/\ (Pc K w1 Am gn gc g)/\ (dB w1 mv b0 o)/\ w.grownBy w1 b0):=⟨iw.out.1.below hB,iw.out.2.1.below hB,iw.out.2.2.1.below hB,iw.out.2.2.2.1.below hB,ay iw.out.2.2.2.2 (aH _ hB)⟩;have ig:=hid (Nat.le_trans NR.out.2.2 hB.size);clear hB iw;go_wp2_with fail;refine(ul v z kL.out.2.2.1 ou.out.fg (by omega) Rt.out.1).mono ?_;rintro e w2 ⟨rfl,hB⟩;have kQ:Hid ((aN w2 Z dz 70)/\ (Pc K w2 fo fn fc f)/\ (Pc K w2 Am gn gc g)/\ (dB w2 mv b0 o)/\ w.grownBy w2 b0):=⟨kL.out.1.below hB,kL.out.2.1.below hB,kL.out.2.2.1.below hB,kL.out.2.2.2.1.below hB,ay kL.out.2.2.2.2 (aH _ hB)⟩;have HS2:=hid (Nat.le_trans ig.out hB.size);clear hB kL ig;go_wp2_with fail;refine(E8 kQ.out.2.1 (Pc.zero K w2) ou.out.ff trivial (by omega) (by omega)).mono ?_;rintro e w3 ⟨ro,rn,rc,rfl,hR,hB⟩;have hR2:=hR.lower (K:=K) (p:=f) (Pc.QT kQ.out.2.1);have mI:Hid ((aN w3 Z dz 70)/\ (Pc K w3 fo fn fc f)/\ (Pc K w3 Am gn gc g)/\ (dB w3 mv b0 o)/\ (Pc K w3 ro rn rc f)/\ w.grownBy w3 b0):=⟨kQ.out.1.below hB,kQ.out.2.1.below hB,kQ.out.2.2.1.below hB,kQ.out.2.2.2.1.below hB,hR2,ay kQ.out.2.2.2.2 (aH _ hB)⟩;have nA:=hid (Nat.le_trans HS2.out hB.size);have hgb:=Ik (v:=v) (Pc.QT mI.out.2.2.1);have HGB:=hid hgb;have hfb:=Ik (v:=v) (Pc.QT mI.out.2.1);have HFB:=hid hfb;clear hB hR hR2 hgb hfb kQ HS2;go_wp2_with fail;refine(qL v mI.out.2.2.1 ou.out.fg ou.out.hv (by omega) (by omega) (Nat.le_trans nu.out nA.out)).mono ?_;rintro e w4 ⟨ho,hn,hc,ta,tn,tc,rfl,hH,hT,hB⟩;have hH2:=hH.lower HGB.out;have rX:Hid ((aN w4 Z dz 70)/\ (dB w4 mv b0 o)/\ (Pc K w4 ro rn rc f)/\ (Pc K w4 ho hn hc (bQ g v))/\ (Pc K w4 ta tn tc (gy g v))/\ w.grownBy w4 b0):=⟨mI.out.1.below hB,mI.out.2.2.2.1.below hB,mI.out.2.2.2.2.1.below hB,hH2,hT,ay mI.out.2.2.2.2.2 (aH _ hB)⟩;have eU:=hid (Nat.le_trans nA.out hB.size);have ab0:=rX.out.1.lt;clear hB hH hH2 hT mI nA;go_upto_region 6 with(fail)
 refine au (fun W5 hW=>?_);obtain⟨D,hD⟩:∃D,D=w4.heap.size:=⟨_,rfl⟩
 have HV5:Hid ((aN W5 Z dz 70)/\ (dB W5 mv b0 o)/\ (Pc K W5 ro rn rc f)/\ (Pc K W5 ho hn hc (bQ g v))/\ (Pc K W5 ta tn tc (gy g v))/\ (aN W5 D (nW v (aI g v) ho hn hc ta tn tc kq none 0 0 ro rn rc 0) 70)/\ w.grownBy W5 b0):=by
  have hB:Below w4.heap.size w4 W5:=by rw[hW];exact af _ _
  exact⟨rX.out.1.below hB,rX.out.2.1.below hB,rX.out.2.2.1.below hB,rX.out.2.2.2.1.below hB,rX.out.2.2.2.2.1.below hB,by rw[hW,hD];exact aN.new w4 _ _,ay rX.out.2.2.2.2.2 (aH _ hB)⟩
 have vE:Hid (w.heap.size<=Z/\ w.heap.size<=D/\ Z<D):=⟨NR.out.1,by rw[hD];exact eU.out,by rw[hD];exact ab0⟩;have fT:Hid (w.heap.size<=W5.heap.size):=by rw[hW];exact Nat.le_trans eU.out (af _ _).size
 rw[<-hD];have c6:W5.cell? ⟨D,6,none⟩=some (.slice ro rn rc):=HV5.out.2.2.2.2.2.1.cell 6;clear hW hD ab0 rX eU;go_wp2_with fail;refine(qL v HV5.out.2.2.1 ou.out.ff ou.out.hv (by have:=HV5.out.2.2.1.len;have:=(Kl.out 0 (fun j hj=>by omega)).ll;exact(show f.length<=100000 from this)|>fun h=>by omega) (by omega) (Nat.le_trans nu.out fT.out)).mono ?_;rintro e w6 ⟨xo,xn,xc,yo,yn,yc,rfl,hH,hT,hB⟩;have hH2:=hH.lower HFB.out;have lZ:Hid ((aN w6 Z dz 70)/\ (dB w6 mv b0 o)/\ (Pc K w6 ro rn rc f)/\ (Pc K w6 ho hn hc (bQ g v))/\ (Pc K w6 ta tn tc (gy g v))/\ (aN w6 D (nW v (aI g v) ho hn hc ta tn tc kq none 0 0 ro rn rc 0) 70)/\ (Pc K w6 xo xn xc (bQ f v))/\ (Pc K w6 yo yn yc (gy f v))/\ w.grownBy w6 b0):=⟨HV5.out.1.below hB,HV5.out.2.1.below hB,HV5.out.2.2.1.below hB,HV5.out.2.2.2.1.below hB,HV5.out.2.2.2.2.1.below hB,HV5.out.2.2.2.2.2.1.below hB,hH2,hT,ay HV5.out.2.2.2.2.2.2 (aH _ hB)⟩;have jg:=hid (Nat.le_trans fT.out hB.size);have ab1:=lZ.out.2.2.2.2.2.1.lt;clear hB hH hH2 hT c6 HV5 fT
 have ax:Hid (∀W,W=w6.alloc (.cells #[.int .i64 (aI f v),.slice xo xn xc,.slice yo yn yc] 68)->WT w g f v kq o mv b0 K Z D ho hn hc ta tn tc 0 w6.heap.size W):=fun W hW=>by
  have hB:Below w6.heap.size w6 W:=by rw[hW];exact af _ _
  have e:qk kq (bF g v f 0).1=[]:=by cases kq<;>rfl
  exact⟨lZ.out.1.below hB,⟨none,0,0,ro,rn,rc,lZ.out.2.2.2.2.2.1.below hB,by rw[e];exact Pc.zero K W,lZ.out.2.2.1.below hB⟩,⟨xo,xn,xc,yo,yn,yc,by rw[hW];exact aN.new w6 _ _,lZ.out.2.2.2.2.2.2.1.below hB,lZ.out.2.2.2.2.2.2.2.1.below hB⟩,lZ.out.2.2.2.1.below hB,lZ.out.2.2.2.2.1.below hB,lZ.out.2.1.below hB,ay lZ.out.2.2.2.2.2.2.2.2 (aH _ hB),fun j hj=>by omega,ab1⟩
 clear ab1 jg HFB lZ;go_wp2;go_loopw [16] (fun s16 wr=>∃n X:Nat,s16= .pointer (some ⟨X,0,none⟩)/\ Hid (WT w g f v kq o mv b0 K Z D ho hn hc ta tn tc n X wr)) (fun _ wr=>N+1-(intOf ((wr.cell? ⟨D,7,none⟩).getD (.int .i64 0))).toNat)
 case atStart=>exact⟨0,_,rfl,ax.out _ rfl⟩
 case round=>
  clear ax;obtain⟨n,X,rfl,HI⟩:=hrel;have Ee:=hid HI.out.go;have HXG:Hid (D<X):=HI.out.dx;have hlong:Long g v f n:=kX Ee.out;have hit:=ou.out.it n hlong;have hnN:=ou.out.steps hlong;have hsz:=Kl.out n hlong;obtain⟨qo,qn,qc,ro,rn,rc,hD,hQ,hR⟩:=HI.out.d;obtain⟨xo,xn,xc,yo,yn,yc,hX,WU,Yp⟩:=HI.out.x;have iw:Hid ((aN wr Z dz 70)/\ (aN wr D (nW v (aI g v) ho hn hc ta tn tc kq qo qn qc ro rn rc (n:Int)) 70)/\ (aN wr X [.int .i64 (aI (bF g v f n).2 v),.slice xo xn xc,.slice yo yn yc] 68)/\ (Pc K wr ho hn hc (bQ g v))/\ (Pc K wr ta tn tc (gy g v))/\ (Pc K wr qo qn qc (qk kq (bF g v f n).1))/\ (Pc K wr ro rn rc (bF g v f n).2)/\ (Pc K wr xo xn xc (bQ (bF g v f n).2 v))/\ (Pc K wr yo yn yc (gy (bF g v f n).2 v))/\ (dB wr mv b0 (oN o n))/\ w.grownBy wr b0):=⟨HI.out.z,hD,hX,HI.out.h,HI.out.t,hQ,hR,WU,Yp,HI.out.m,HI.out.gr⟩;have HIT:=hid hit;have HS:=hid hsz;clear HI hlong hit hsz hD hQ hR hX WU Yp;obtain⟨y,hy⟩:∃y,aI (bF g v f n).2 v=y:=⟨_,rfl⟩;have HY:=hid hy;have x0:wr.cell? ⟨X,0,none⟩=some (.int .i64 y):=by rw[<-hy];exact iw.out.2.2.1.cell 0
  have e1:wr.cell? ⟨D,1,none⟩=some (.int .i64 (aI g v)):=iw.out.2.1.cell 1;clear hy;have HWR:Hid (wr.cell? ⟨D,7,none⟩=some (.int .i64 (n:Int))):=iw.out.2.1.cell 7;by_cases hyd:aI g v<=y
  ·have hge:decide (aI g v<=y)=true:=decide_eq_true hyd;have hln:aI g v<=aI (bF g v f n).2 v:=by rw[HY.out];exact hyd
   have hst:=ou.out.mX HIT.out hln;have HST:=hid hst.1;have Af:=hid hln;clear hst hln;obtain⟨E1,hE⟩:∃E1,jN (oN o n)=E1:=⟨_,rfl⟩;have HE:=hid hE;clear hE;go_wp2_with fail;refine(Lx iw.out.2.2.2.2.2.2.2.2.2.1).mono ?_;rintro e w1 ⟨rfl,hM1,hG1,hF1⟩;rw[HE.out]at hF1 ⊢;by_cases h0:E1=0
   ·subst h0;have zW:=hF1 (by first|rfl|trivial);have kL:Hid ((aN w1 Z dz 70)/\ (aN w1 D (nW v (aI g v) ho hn hc ta tn tc kq qo qn qc ro rn rc (n:Int)) 70)/\ (aN w1 X [.int .i64 (aI (bF g v f n).2 v),.slice xo xn xc,.slice yo yn yc] 68)/\ (Pc K w1 ho hn hc (bQ g v))/\ (Pc K w1 ta tn tc (gy g v))/\ (Pc K w1 qo qn qc (qk kq (bF g v f n).1))/\ (Pc K w1 ro rn rc (bF g v f n).2)/\ (Pc K w1 xo xn xc (bQ (bF g v f n).2 v))/\ (Pc K w1 yo yn yc (gy (bF g v f n).2 v))/\ (dB w1 mv b0 (oN o (n+1)))/\ w.grownBy w1 b0):=⟨iw.out.1.keep (zW.g.block _ iw.out.1.lt (A8.out _ vE.out.1)),iw.out.2.1.keep (zW.g.block _ iw.out.2.1.lt (A8.out _ vE.out.2.1)),iw.out.2.2.1.keep (zW.g.block _ iw.out.2.2.1.lt (A8.out _ (by have:=HXG.out;have:=vE.out;omega))),iw.out.2.2.2.1.dY zW,iw.out.2.2.2.2.1.dY zW,iw.out.2.2.2.2.2.1.dY zW,iw.out.2.2.2.2.2.2.1.dY zW,iw.out.2.2.2.2.2.2.2.1.dY zW,iw.out.2.2.2.2.2.2.2.2.1.dY zW,hM1,ay iw.out.2.2.2.2.2.2.2.2.2.2 zW.g⟩;clear hM1 hG1 hF1 zW x0 e1 iw;have x0:w1.cell? ⟨X,0,none⟩=some (.int .i64 y):=by rw[<-HY.out];exact kL.out.2.2.1.cell 0
    have x1:w1.cell? ⟨X,1,none⟩=some (.slice xo xn xc):=kL.out.2.2.1.cell 1;have x2:w1.cell? ⟨X,2,none⟩=some (.slice yo yn yc):=kL.out.2.2.1.cell 2;go_wp2_with fail;have hstep:=PI kL.out.2.1 kL.out.2.2.2.1 kL.out.2.2.2.2.1 kL.out.2.2.2.2.2.1 kL.out.2.2.2.2.2.2.2.1 kL.out.2.2.2.2.2.2.2.2.1 HST.out (Cj HIT.out.fq) (Vj HIT.out.eq) HS.out (by omega) (Nat.le_trans nu.out vE.out.2.1) (by omega);rw[HY.out]at hstep;refine hstep.mono ?_;rintro e w2 ⟨LC,LD,LF,JK,Il,JL,rfl,hD2,hR2,hQ2,hG2⟩;rw[Sj]at hQ2;have Dp:=rG (Nat.le_trans nu.out vE.out.2.1) kL.out.2.1 hG2;have kQ:Hid ((aN w2 Z dz 70)/\ (aN w2 D (nW v (aI g v) ho hn hc ta tn tc kq LC LD LF JK Il JL ((n+1:Nat):Int)) 70)/\ (aN w2 X [.int .i64 (aI (bF g v f n).2 v),.slice xo xn xc,.slice yo yn yc] 68)/\ (Pc K w2 ho hn hc (bQ g v))/\ (Pc K w2 ta tn tc (gy g v))/\ (Pc K w2 LC LD LF (qk kq (bF g v f (n+1)).1))/\ (Pc K w2 JK Il JL (bF g v f (n+1)).2)/\ (dB w2 mv b0 (oN o (n+1)))/\ w.grownBy w2 b0):=⟨kL.out.1.keep (hG2.block _ kL.out.1.lt (fun e=>by cases e;have:=vE.out;have:=HXG.out;omega)),hD2,kL.out.2.2.1.keep (hG2.block _ kL.out.2.2.1.lt (fun e=>by cases e;have:=vE.out;have:=HXG.out;omega)),kL.out.2.2.2.1.di Dp,kL.out.2.2.2.2.1.di Dp,hQ2,hR2,kL.out.2.2.2.2.2.2.2.2.2.1.keep (fun b hb=>hG2.block b (kL.out.2.2.2.2.2.2.2.2.2.1.lt b hb) (fun e=>A8.out _ vE.out.2.1 (by rw[<-e];exact hb.symm))),lF kL.out.2.2.2.2.2.2.2.2.2.2 hG2 vE.out.2.1⟩;clear hstep hD2 hR2 hQ2 hG2 Dp x0 x1 x2 kL;have c6:w2.cell? ⟨D,6,none⟩=some (.slice JK Il JL):=kQ.out.2.1.cell 6;have c5:w2.cell? ⟨D,5,none⟩=some (.slice LC LD LF):=kQ.out.2.1.cell 5;go_wp2_with fail;obtain⟨V3,hV3⟩:∃V3,V3=w2.alloc (.cells #[.slice JK Il JL,.slice LC LD LF] 23):=⟨_,rfl⟩;rw[<-hV3];obtain⟨L,hL⟩:∃L,L=w2.heap.size:=⟨_,rfl⟩;rw[<-hL];have hDl:=kQ.out.2.1.lt
    have mI:Hid ((aN V3 Z dz 70)/\ (aN V3 D (nW v (aI g v) ho hn hc ta tn tc kq LC LD LF JK Il JL ((n+1:Nat):Int)) 70)/\ (aN V3 X [.int .i64 (aI (bF g v f n).2 v),.slice xo xn xc,.slice yo yn yc] 68)/\ (Pc K V3 ho hn hc (bQ g v))/\ (Pc K V3 ta tn tc (gy g v))/\ (Pc K V3 LC LD LF (qk kq (bF g v f (n+1)).1))/\ (Pc K V3 JK Il JL (bF g v f (n+1)).2)/\ (dB V3 mv b0 (oN o (n+1)))/\ (aN V3 L [.slice JK Il JL,.slice LC LD LF] 23)/\ w.grownBy V3 b0):=by
     have hB:Below w2.heap.size w2 V3:=by rw[hV3];exact af _ _
     exact⟨kQ.out.1.below hB,kQ.out.2.1.below hB,kQ.out.2.2.1.below hB,kQ.out.2.2.2.1.below hB,kQ.out.2.2.2.2.1.below hB,kQ.out.2.2.2.2.2.1.below hB,kQ.out.2.2.2.2.2.2.1.below hB,kQ.out.2.2.2.2.2.2.2.1.below hB,by rw[hV3,hL];exact aN.new w2 _ _,ay kQ.out.2.2.2.2.2.2.2.2 (aH _ hB)⟩
    have hLg:w.heap.size<=L:=by have:=vE.out;omega
    clear hV3 hL hDl c6 c5 kQ;refine(LA mI.out.2.2.2.2.2.2.2.1 mI.out.2.2.2.2.2.2.2.2.1 (A8.out _ hLg) mI.out.2.2.2.2.2.2.1 mI.out.2.2.2.2.2.1).mono ?_;rintro e w3 ⟨E2,o2,rfl,Yq,hG3,hcase⟩;rcases hcase with⟨rfl,rfl,k1,k2,zW⟩|⟨k1,rfl,rfl⟩|⟨k1,k2,rfl,rfl⟩
    ·have rX:Hid ((aN w3 Z dz 70)/\ (aN w3 D (nW v (aI g v) ho hn hc ta tn tc kq LC LD LF JK Il JL ((n+1:Nat):Int)) 70)/\ (aN w3 X [.int .i64 (aI (bF g v f n).2 v),.slice xo xn xc,.slice yo yn yc] 68)/\ (Pc K w3 ho hn hc (bQ g v))/\ (Pc K w3 ta tn tc (gy g v))/\ (Pc K w3 LC LD LF (qk kq (bF g v f (n+1)).1))/\ (Pc K w3 JK Il JL (bF g v f (n+1)).2)/\ (dB w3 mv b0 (oN o (n+1)))/\ w.grownBy w3 b0):=⟨mI.out.1.keep (zW.g.block _ mI.out.1.lt (A8.out _ vE.out.1)),mI.out.2.1.keep (zW.g.block _ mI.out.2.1.lt (A8.out _ vE.out.2.1)),mI.out.2.2.1.keep (zW.g.block _ mI.out.2.2.1.lt (A8.out _ (by have:=HXG.out;have:=vE.out;omega))),mI.out.2.2.2.1.dY zW,mI.out.2.2.2.2.1.dY zW,mI.out.2.2.2.2.2.1.dY zW,mI.out.2.2.2.2.2.2.1.dY zW,Yq,ay mI.out.2.2.2.2.2.2.2.2.2 zW.g⟩
     have WV:Hid (∀j,j<n+1->Goes g f v kq o j):=fun j hj=>by
      rcases Nat.lt_succ_iff_lt_or_eq.1 hj with h|h
      ·exact Ee.out j h
      ·subst h;exact⟨Af.out,HE.out,k1,k2⟩
     clear Yq hG3 zW k1 k2 mI hLg;have x0:w3.cell? ⟨X,0,none⟩=some (.int .i64 y):=by rw[<-HY.out];exact rX.out.2.2.1.cell 0
     have x1:w3.cell? ⟨X,1,none⟩=some (.slice xo xn xc):=rX.out.2.2.1.cell 1;have x2:w3.cell? ⟨X,2,none⟩=some (.slice yo yn yc):=rX.out.2.2.1.cell 2;go_upto_region 8 with(fail)
     refine au (fun W4 hW=>?_);obtain⟨X2,hX2⟩:∃X2,X2=w3.heap.size:=⟨_,rfl⟩;have hDl:=rX.out.2.1.lt
     have HV5:Hid ((aN W4 Z dz 70)/\ (aN W4 D (nW v (aI g v) ho hn hc ta tn tc kq LC LD LF JK Il JL ((n+1:Nat):Int)) 70)/\ (Pc K W4 ho hn hc (bQ g v))/\ (Pc K W4 ta tn tc (gy g v))/\ (Pc K W4 LC LD LF (qk kq (bF g v f (n+1)).1))/\ (Pc K W4 JK Il JL (bF g v f (n+1)).2)/\ (dB W4 mv b0 (oN o (n+1)))/\ (aN W4 X2 [.int .i64 y,.slice xo xn xc,.slice yo yn yc] 68)/\ w.grownBy W4 b0):=by
      have hB:Below w3.heap.size w3 W4:=by rw[hW];exact af _ _
      exact⟨rX.out.1.below hB,rX.out.2.1.below hB,rX.out.2.2.2.1.below hB,rX.out.2.2.2.2.1.below hB,rX.out.2.2.2.2.2.1.below hB,rX.out.2.2.2.2.2.2.1.below hB,rX.out.2.2.2.2.2.2.2.1.below hB,by rw[hW,hX2];exact aN.new w3 _ _,ay rX.out.2.2.2.2.2.2.2.2 (aH _ hB)⟩
     have ah0:Hid (D<X2):=by rw[hX2];exact hDl
     have eU:Hid (w.heap.size<=W4.heap.size):=by have:=vE.out;have:=(show w3.heap.size<=W4.heap.size by rw[hW];exact(af _ _).size);rw[Hid];omega
     rw[<-hX2];clear hW hX2 hDl x0 x1 x2 rX;have c6:W4.cell? ⟨D,6,none⟩=some (.slice JK Il JL):=HV5.out.2.1.cell 6;have hit2:=ou.out.it (n+1) (kX WV.out);have al8:Il<=100000:=by have h1:=(Kl.out (n+1) (kX WV.out)).ll;have h2:=HV5.out.2.2.2.2.2.1.len;omega
     have ZM:=hid hit2;clear hit2;go_wp2_with fail;refine(qL v HV5.out.2.2.2.2.2.1 ZM.out.fr ou.out.hv (by omega) (by omega) (Nat.le_trans nu.out eU.out)).mono ?_;rintro e w5 ⟨uo,un,uc,zo,zn,zc,rfl,hH,hT,hB⟩;have hH2:=hH.lower (Ik (v:=v) (Pc.QT HV5.out.2.2.2.2.2.1));have lZ:Hid ((aN w5 Z dz 70)/\ (aN w5 D (nW v (aI g v) ho hn hc ta tn tc kq LC LD LF JK Il JL ((n+1:Nat):Int)) 70)/\ (Pc K w5 ho hn hc (bQ g v))/\ (Pc K w5 ta tn tc (gy g v))/\ (Pc K w5 LC LD LF (qk kq (bF g v f (n+1)).1))/\ (Pc K w5 JK Il JL (bF g v f (n+1)).2)/\ (dB w5 mv b0 (oN o (n+1)))/\ (aN w5 X2 [.int .i64 y,.slice xo xn xc,.slice yo yn yc] 68)/\ (Pc K w5 uo un uc (bQ (bF g v f (n+1)).2 v))/\ (Pc K w5 zo zn zc (gy (bF g v f (n+1)).2 v))/\ w.grownBy w5 b0):=⟨HV5.out.1.below hB,HV5.out.2.1.below hB,HV5.out.2.2.1.below hB,HV5.out.2.2.2.1.below hB,HV5.out.2.2.2.2.1.below hB,HV5.out.2.2.2.2.2.1.below hB,HV5.out.2.2.2.2.2.2.1.below hB,HV5.out.2.2.2.2.2.2.2.1.below hB,hH2,hT,ay HV5.out.2.2.2.2.2.2.2.2 (aH _ hB)⟩;clear hB hH hH2 hT c6 HV5;obtain⟨d0,d1,d2⟩:=lZ.out.2.2.2.2.2.2.2.1.c3;obtain⟨f0,f1,f2⟩:=lZ.out.2.2.2.2.2.2.2.1.f3
     have HK:Hid (∀W,W=((w5.setCell ⟨X2,0,none⟩ (.int .i64 (aI (bF g v f (n+1)).2 v))).setCell ⟨X2,1,none⟩ (.slice uo un uc)).setCell ⟨X2,2,none⟩ (.slice zo zn zc)->WT w g f v kq o mv b0 K Z D ho hn hc ta tn tc (n+1) X2 W):=fun W hW=>by
      have hG:w5.grownBy W (some X2):=by rw[hW];exact dm _ _ _ _ _ _
      have hX2:=ah0.out;have h0:=vE.out;have Dp:=LB (Nat.le_trans nu.out (by omega)) lZ.out.2.2.2.2.2.2.2.1 hG;exact⟨lZ.out.1.keep (hG.block _ lZ.out.1.lt (fun e=>by cases e;omega)),⟨_,_,_,_,_,_,lZ.out.2.1.keep (hG.block _ lZ.out.2.1.lt (fun e=>by cases e;omega)),lZ.out.2.2.2.2.1.di Dp,lZ.out.2.2.2.2.2.1.di Dp⟩,⟨_,_,_,_,_,_,by rw[hW];exact((lZ.out.2.2.2.2.2.2.2.1.set 0 _).set 1 _).set 2 _,lZ.out.2.2.2.2.2.2.2.2.1.di Dp,lZ.out.2.2.2.2.2.2.2.2.2.1.di Dp⟩,lZ.out.2.2.1.di Dp,lZ.out.2.2.2.1.di Dp,lZ.out.2.2.2.2.2.2.1.keep (fun b hb=>hG.block b (lZ.out.2.2.2.2.2.2.1.lt b hb) (fun e=>A8.out _ (show w.heap.size<=X2 by omega) (by rw[<-e];exact hb.symm))),lF lZ.out.2.2.2.2.2.2.2.2.2.2 hG (by omega),WV.out,hX2⟩
     have HMS:Hid (∀W,W=((w5.setCell ⟨X2,0,none⟩ (.int .i64 (aI (bF g v f (n+1)).2 v))).setCell ⟨X2,1,none⟩ (.slice uo un uc)).setCell ⟨X2,2,none⟩ (.slice zo zn zc)->W.cell? ⟨D,7,none⟩=some (.int .i64 ((n+1:Nat):Int))):=fun W hW=>by
      obtain⟨_,_,_,_,_,_,h,_⟩:=(HK.out W hW).d;exact h.cell 7
     have Wp:Hid (wr.cell? ⟨D,7,none⟩=some (.int .i64 (n:Int))):=HWR.out;go_wp2_with fail;go_roundw
     case rel=>exact⟨n+1,X2,rfl,HK.out _ rfl⟩
     case measure=>rw[HMS.out _ rfl,Wp.out];simp[intOf];omega
    ·obtain⟨E3,GY⟩:∃E3,E3=bO (oN o (n+1)) (bF g v f (n+1)).2:=⟨_,rfl⟩;rw[<-GY];have GZ:=hid GY;have A0:=hid (mI.out.1.keep (hG3.block _ mI.out.1.lt (A8.out _ vE.out.1)));have ME:=hid Yq;have GR:=hid (ay mI.out.2.2.2.2.2.2.2.2.2 hG3);have hd0:(E3==0)=false:=by rw[GY];simpa using k1
     have HKK:=hid k1;clear Yq hG3 GY mI hLg k1;obtain⟨d0,d1,d2,d3,d4,d5,d6,d7⟩:=A0.out.c8;obtain⟨f0,f1,f2,f3,f4,f5,f6,f7⟩:=A0.out.f8;go_wp2_with fail;clear d0 d1 d2 d3 d4 d5 d6 d7 f0 f1 f2 f3 f4 f5 f6 f7;refine dS (Q:=bodyPost _ _ _ _ _) (fun W3 hW=>?_);have A:aN W3 Z dz 70:=by rw[hW];exact A0.out.CS _ _ _ _ _ _ _ _
     have hG:w3.grownBy W3 (some Z):=by rw[hW];exact jS _ _ _ _ _ _ _ _ _ _
     have HR:Hid (wL w mv b0 (Ends g f v kq o) K (.returned (.tuple #[zV 0 0 none 0 0 none 0 0 false none 0 0 none 0 0 0,.int .i64 E3])) W3):=⟨⟨[],[],0,E3,jB (oN o (n+1)) (bF g v f (n+1)).2⟩,_,_,_,_,_,_,_,_,_,_,_,_,_,_,_,⟨n,Ee.out,.inr ⟨Af.out,.inr ⟨HE.out,.inl ⟨HKK.out,by rw[GZ.out]⟩⟩⟩⟩,rfl,Pc.zero _ _,Pc.zero _ _,ME.out.keep (fun b hb=>hG.block b (ME.out.lt b hb) (fun e=>A8.out _ vE.out.1 (by rw[<-e];exact hb.symm))),lF GR.out hG vE.out.1⟩;clear hW hG;obtain⟨d0,d1,d2,d3,d4,d5,d6,d7⟩:=A.c8;refine bodyPost_ret (v:= .tuple #[zV 0 0 none 0 0 none 0 0 false none 0 0 none 0 0 0,.int .i64 E3]) (by simp[results,Tryz.results24,go_sem,d0,d1,d2,d3,d4,d5,d6,d7,zV]) rfl HR.out
    ·obtain⟨E3,GY⟩:∃E3,E3=bO (oN o (n+1)) (qk kq (bF g v f (n+1)).1):=⟨_,rfl⟩;rw[<-GY];have GZ:=hid GY;have A0:=hid (mI.out.1.keep (hG3.block _ mI.out.1.lt (A8.out _ vE.out.1)));have ME:=hid Yq;have GR:=hid (ay mI.out.2.2.2.2.2.2.2.2.2 hG3);have hd0:(E3==0)=false:=by rw[GY];simpa using k2
     have HKK:=hid (And.intro k1 k2);clear Yq hG3 GY mI hLg k1 k2;obtain⟨d0,d1,d2,d3,d4,d5,d6,d7⟩:=A0.out.c8;obtain⟨f0,f1,f2,f3,f4,f5,f6,f7⟩:=A0.out.f8;go_wp2_with fail;clear d0 d1 d2 d3 d4 d5 d6 d7 f0 f1 f2 f3 f4 f5 f6 f7;refine dS (Q:=bodyPost _ _ _ _ _) (fun W3 hW=>?_);have A:aN W3 Z dz 70:=by rw[hW];exact A0.out.CS _ _ _ _ _ _ _ _
     have hG:w3.grownBy W3 (some Z):=by rw[hW];exact jS _ _ _ _ _ _ _ _ _ _
     have HR:Hid (wL w mv b0 (Ends g f v kq o) K (.returned (.tuple #[zV 0 0 none 0 0 none 0 0 false none 0 0 none 0 0 0,.int .i64 E3])) W3):=⟨⟨[],[],0,E3,jB (oN o (n+1)) (qk kq (bF g v f (n+1)).1)⟩,_,_,_,_,_,_,_,_,_,_,_,_,_,_,_,⟨n,Ee.out,.inr ⟨Af.out,.inr ⟨HE.out,.inr ⟨HKK.out.1,HKK.out.2,by rw[GZ.out]⟩⟩⟩⟩,rfl,Pc.zero _ _,Pc.zero _ _,ME.out.keep (fun b hb=>hG.block b (ME.out.lt b hb) (fun e=>A8.out _ vE.out.1 (by rw[<-e];exact hb.symm))),lF GR.out hG vE.out.1⟩;clear hW hG;obtain⟨d0,d1,d2,d3,d4,d5,d6,d7⟩:=A.c8;refine bodyPost_ret (v:= .tuple #[zV 0 0 none 0 0 none 0 0 false none 0 0 none 0 0 0,.int .i64 E3]) (by simp[results,Tryz.results24,go_sem,d0,d1,d2,d3,d4,d5,d6,d7,zV]) rfl HR.out
   ·have A0:=hid (iw.out.1.keep (hG1.block _ iw.out.1.lt (A8.out _ vE.out.1)));have ME:=hid hM1;have GR:=hid (ay iw.out.2.2.2.2.2.2.2.2.2.2 hG1);have hd0:(E1==0)=false:=by simpa using h0
    have OD:=hid h0;clear hM1 hG1 hF1 x0 e1 iw h0;obtain⟨d0,d1,d2,d3,d4,d5,d6,d7⟩:=A0.out.c8;obtain⟨f0,f1,f2,f3,f4,f5,f6,f7⟩:=A0.out.f8;go_wp2_with fail;clear d0 d1 d2 d3 d4 d5 d6 d7 f0 f1 f2 f3 f4 f5 f6 f7;refine dS (Q:=bodyPost _ _ _ _ _) (fun W3 hW=>?_);have A:aN W3 Z dz 70:=by rw[hW];exact A0.out.CS _ _ _ _ _ _ _ _
    have hG:w1.grownBy W3 (some Z):=by rw[hW];exact jS _ _ _ _ _ _ _ _ _ _
    have HR:Hid (wL w mv b0 (Ends g f v kq o) K (.returned (.tuple #[zV 0 0 none 0 0 none 0 0 false none 0 0 none 0 0 0,.int .i64 E1])) W3):=⟨⟨[],[],0,E1,yh (oN o n)⟩,_,_,_,_,_,_,_,_,_,_,_,_,_,_,_,⟨n,Ee.out,.inr ⟨Af.out,.inl ⟨by rw[HE.out];exact OD.out,by rw[HE.out]⟩⟩⟩,rfl,Pc.zero _ _,Pc.zero _ _,ME.out.keep (fun b hb=>hG.block b (ME.out.lt b hb) (fun e=>A8.out _ vE.out.1 (by rw[<-e];exact hb.symm))),lF GR.out hG vE.out.1⟩;clear hW hG;obtain⟨d0,d1,d2,d3,d4,d5,d6,d7⟩:=A.c8;refine bodyPost_ret (v:= .tuple #[zV 0 0 none 0 0 none 0 0 false none 0 0 none 0 0 0,.int .i64 E1]) (by simp[results,Tryz.results24,go_sem,d0,d1,d2,d3,d4,d5,d6,d7,zV]) rfl HR.out
  ·have hge:decide (aI g v<=y)=false:=decide_eq_false hyd;have HYD:Hid (aI (bF g v f n).2 v<aI g v):=by rw[HY.out];exact Int.not_le.1 hyd
   obtain⟨e0,_,e2,e3,e4,e5,e6,e7⟩:=aN.c8 iw.out.2.1;obtain⟨d0,d1,d2,d3,d4,d5,d6,d7⟩:=iw.out.1.c8;obtain⟨f0,f1,f2,f3,f4,f5,f6,f7⟩:=iw.out.1.f8;go_wp2_with fail;clear d0 d1 d2 d3 d4 d5 d6 d7 f0 f1 f2 f3 f4 f5 f6 f7 x0 e0 e1 e2 e3 e4 e5 e6 e7;refine dS (Q:=bodyPost _ _ _ _ _) (fun W3 hW=>?_);have A:aN W3 Z (nW v (aI g v) ho hn hc ta tn tc kq qo qn qc ro rn rc (n:Int)) 70:=by rw[hW];exact iw.out.1.CS _ _ _ _ _ _ _ _
   have hG:wr.grownBy W3 (some Z):=by rw[hW];exact jS _ _ _ _ _ _ _ _ _ _
   have Dp:=rG (Nat.le_trans nu.out vE.out.1) iw.out.1 hG;have HR:Hid (wL w mv b0 (Ends g f v kq o) K (.returned (.tuple #[zV v (aI g v) ho hn hc ta tn tc kq qo qn qc ro rn rc (n:Int),.int .i64 0])) W3):=⟨⟨_,_,n,0,_⟩,_,_,_,_,_,_,_,_,_,_,_,_,_,_,_,⟨n,Ee.out,.inl ⟨HYD.out,rfl⟩⟩,rfl,iw.out.2.2.2.2.2.1.di Dp,iw.out.2.2.2.2.2.2.1.di Dp,iw.out.2.2.2.2.2.2.2.2.2.1.keep (fun b hb=>hG.block b (iw.out.2.2.2.2.2.2.2.2.2.1.lt b hb) (fun e=>A8.out _ vE.out.1 (by rw[<-e];exact hb.symm))),lF iw.out.2.2.2.2.2.2.2.2.2.2 hG vE.out.1⟩;clear hW hG Dp;obtain⟨d0,d1,d2,d3,d4,d5,d6,d7⟩:=aN.c8 A;refine bodyPost_ret (v:= .tuple #[zV v (aI g v) ho hn hc ta tn tc kq qo qn qc ro rn rc (n:Int),.int .i64 0]) (by simp[results,Tryz.results24,go_sem,d0,d1,d2,d3,d4,d5,d6,d7,zV]) rfl HR.out
def ah1 [Ol] (w:World) (mv:Value) (b0:Option Nat) (P:Out->Prop) (K:Nat) (e:Ending) (w':World):Prop:=
 ∃(u:Out) (qo:Option Addr) (qn qc:Nat) (ro:Option Addr) (rn rc:Nat),P u/\ e= .returned (.tuple #[.slice qo qn qc,.slice ro rn rc,.int .i64 (u.s:Int),.int .i64 u.e])/\ Pc K w' qo qn qc u.q/\ Pc K w' ro rn rc u.r/\ dB w' mv b0 u.o/\ w.grownBy w' b0
def ab2 [Ol] (w:World) (mv:Value) (b0:Option Nat) (P:Out->Prop) (K:Nat) (e:Ending) (w':World):Prop:=
 ∃(u:Out) (ro:Option Addr) (rn rc:Nat),P u/\ e= .returned (.tuple #[.slice ro rn rc,.int .i64 (u.s:Int),.int .i64 u.e])/\ Pc K w' ro rn rc u.r/\ dB w' mv b0 u.o/\ w.grownBy w' b0
theorem uN [Ol] {mv:Value} {b0:Option Nat} {P:Out->Prop} {K:Nat} {fo Am:Option Addr} {fn fc gn gc:Nat} {v:Int} {w:World} (h:Calls Tryz.prog 24 #[mv,.slice fo fn fc,.slice Am gn gc,.int .i64 v,.bool true] w (wL w mv b0 P K)):
  Calls Tryz.prog 7 #[mv,.slice fo fn fc,.slice Am gn gc,.int .i64 v] w (ah1 w mv b0 P K):=by
 go_enter Tryz.func7,Tryz.ntmps7;go_wp2_with fail;refine h.mono ?_;rintro e w1 ⟨u,a,b,ho,hn,hc,ta,tn,tc,hq,qo,qn,qc,ro,rn,rc,hP,rfl,h1,h2,h3,h4⟩;have H1:Hid (P u/\ Pc K w1 qo qn qc u.q/\ Pc K w1 ro rn rc u.r/\ dB w1 mv b0 u.o/\ w.grownBy w1 b0):=⟨hP,h1,h2,h3,h4⟩;obtain⟨us,WW⟩:∃us,(u.s:Int)=us:=⟨_,rfl⟩;obtain⟨ue,hue⟩:∃ue,u.e=ue:=⟨_,rfl⟩;have HU:Hid ((u.s:Int)=us/\ u.e=ue):=⟨WW,hue⟩;rw[WW,hue];clear hP h1 h2 h3 h4 h WW hue;unfold zV;go_upto_region 2 with(fail)
 refine au (fun W hW=>?_);obtain⟨Y,hY⟩:∃Y,Y=w1.heap.size:=⟨_,rfl⟩;have HA:Hid (aN W Y (nW a b ho hn hc ta tn tc hq qo qn qc ro rn rc us) 70):=by rw[hW,hY];exact aN.new w1 _ _
 have HB:Hid (Below w1.heap.size w1 W):=by rw[hW];exact af _ _
 rw[<-hY];clear hW hY;have c5:W.cell? ⟨Y,5,none⟩=some (.slice qo qn qc):=HA.out.cell 5;have c6:W.cell? ⟨Y,6,none⟩=some (.slice ro rn rc):=HA.out.cell 6;have c7:W.cell? ⟨Y,7,none⟩=some (.int .i64 us):=HA.out.cell 7;go_quiet (fail);go_wp2_with fail;have hB2:Below W.heap.size W (W.drewN nq):=_root_.Go.below_drewN (Below.refl _ _) _;have hB3:=Below.steps HB.out hB2;refine bodyPost_ret (v:= .tuple #[.slice qo qn qc,.slice ro rn rc,.int .i64 us,.int .i64 ue]) (by simp[results,Tryz.results7,go_sem]) rfl ?_;rw[<-HU.out.1,<-HU.out.2];exact⟨u,_,_,_,_,_,_,H1.out.1,rfl,H1.out.2.1.below hB3,H1.out.2.2.1.below hB3,H1.out.2.2.2.1.below hB3,ay H1.out.2.2.2.2 (aH _ hB3)⟩
theorem rest_of [Ol] {mv:Value} {b0:Option Nat} {P:Out->Prop} {K:Nat} {fo Am:Option Addr} {fn fc gn gc:Nat} {v:Int} {w:World} (h:Calls Tryz.prog 24 #[mv,.slice fo fn fc,.slice Am gn gc,.int .i64 v,.bool false] w (wL w mv b0 P K)):
  Calls Tryz.prog 8 #[mv,.slice fo fn fc,.slice Am gn gc,.int .i64 v] w (ab2 w mv b0 P K):=by
 go_enter Tryz.func8,Tryz.ntmps8;go_wp2_with fail;refine h.mono ?_;rintro e w1 ⟨u,a,b,ho,hn,hc,ta,tn,tc,hq,qo,qn,qc,ro,rn,rc,hP,rfl,h1,h2,h3,h4⟩;have H1:Hid (P u/\ Pc K w1 qo qn qc u.q/\ Pc K w1 ro rn rc u.r/\ dB w1 mv b0 u.o/\ w.grownBy w1 b0):=⟨hP,h1,h2,h3,h4⟩;obtain⟨us,WW⟩:∃us,(u.s:Int)=us:=⟨_,rfl⟩;obtain⟨ue,hue⟩:∃ue,u.e=ue:=⟨_,rfl⟩;have HU:Hid ((u.s:Int)=us/\ u.e=ue):=⟨WW,hue⟩;rw[WW,hue];clear hP h1 h2 h3 h4 h WW hue;unfold zV;go_upto_region 2 with(fail)
 refine au (fun W hW=>?_);obtain⟨Y,hY⟩:∃Y,Y=w1.heap.size:=⟨_,rfl⟩;have HA:Hid (aN W Y (nW a b ho hn hc ta tn tc hq qo qn qc ro rn rc us) 70):=by rw[hW,hY];exact aN.new w1 _ _
 have HB:Hid (Below w1.heap.size w1 W):=by rw[hW];exact af _ _
 rw[<-hY];clear hW hY;have c6:W.cell? ⟨Y,6,none⟩=some (.slice ro rn rc):=HA.out.cell 6;have c7:W.cell? ⟨Y,7,none⟩=some (.int .i64 us):=HA.out.cell 7;go_quiet (fail);go_wp2_with fail;have hB2:Below W.heap.size W (W.drewN nq):=_root_.Go.below_drewN (Below.refl _ _) _;have hB3:=Below.steps HB.out hB2;refine bodyPost_ret (v:= .tuple #[.slice ro rn rc,.int .i64 us,.int .i64 ue]) (by simp[results,Tryz.results8,go_sem]) rfl ?_;rw[<-HU.out.1,<-HU.out.2];exact⟨u,_,_,_,H1.out.1,rfl,H1.out.2.2.1.below hB3,H1.out.2.2.2.1.below hB3,ay H1.out.2.2.2.2 (aH _ hB3)⟩
structure VX (g f:List Term) (N C Cq SG SF K:Nat):Prop where
 lg:g.length<=100
 cr:∀n,n<=N->f.length*cn g.length n<=C
 cq:∀n,n+1<=N->f.length*cn g.length n<=Cq
 c1:g.length*C<=500000
 c2:g.length*Cq+C<=400000
 c3:C<=100000
 c4:Cq<=100000
 g0:1<=SG
 sg:aD g<=SG
 sf:aD f<=SF
 sm:(N+1)*(SG^(N+1)*SF)<4294967296^K
theorem WX {kq:Bool} {q:List Term}:(qk kq q).length<=q.length:=by cases kq<;>simp[qk]
theorem WY {kq:Bool} {q:List Term}:aD (qk kq q)<=aD q:=by cases kq<;>simp[qk,aD]
theorem VX.all {g f:List Term} {v E F:Int} {N C Cq SG SF K:Nat} (h:VX g f N C Cq SG SF K) (hd:lI g f v E F N) {n:Nat} (hl:Long g v f n):
  (bF g v f n).2.length<=C/\ (bF g v f n).1.length<=Cq/\ aD (bF g v f n).2<=SG^n*SF/\ aD (bF g v f n).1<=n*(SG^n*SF)/\ n<=N:=by
 have hi:=hd.it n hl;have hn:=hd.steps hl;have h3:aD g^n*aD f<=SG^n*SF:=Nat.mul_le_mul (Nat.pow_le_pow_left h.sg n) h.sf;refine⟨Nat.le_trans hi.ah2 (h.cr n hn),?_,Nat.le_trans hi.cr h3,Nat.le_trans hi.cq (Nat.mul_le_mul_left _ h3),hn⟩;rcases n with _|n
 ·simp[bF]
 ·exact Nat.le_trans hi.ah3 (h.cq n hn)
theorem VX.ok {g f:List Term} {v E F:Int} {N C Cq SG SF K:Nat} (h:VX g f N C Cq SG SF K) (hd:lI g f v E F N) (kq:Bool) (n:Nat) (hl:Long g v f n):zN g (qk kq (bF g v f n).1) (bF g v f n).2 K:=by
 obtain⟨h1,h2,h3,h4,hn⟩:=h.all hd hl;have h5:=WX (kq:=kq) (q:=(bF g v f n).1);have h6:=WY (kq:=kq) (q:=(bF g v f n).1);have a1:g.length*(bF g v f n).2.length<=g.length*C:=Nat.mul_le_mul_left _ h1;have a2:g.length*(qk kq (bF g v f n).1).length<=g.length*Cq:=Nat.mul_le_mul_left _ (by omega);have b0:SG^(n+1)*SF<=SG^(N+1)*SF:=Nat.mul_le_mul_right _ (Nat.pow_le_pow_right h.g0 (by omega))
 have b1:aD g*aD (bF g v f n).2<=SG^(n+1)*SF:=by
  rw[Nat.pow_succ,Nat.mul_comm (SG^n),Nat.mul_assoc];exact Nat.mul_le_mul h.sg h3
 have b2:aD g*aD (qk kq (bF g v f n).1)<=n*(SG^(n+1)*SF):=by
  have:aD g*aD (qk kq (bF g v f n).1)<=SG*(n*(SG^n*SF)):=Nat.mul_le_mul h.sg (by omega);rw[Nat.pow_succ];rw[show SG*(n*(SG^n*SF))=n*(SG^n*SG*SF)by ac_rfl]at this;exact this
 have b3:SG^n*SF<=SG^(n+1)*SF:=Nat.mul_le_mul_right _ (Nat.pow_le_pow_right h.g0 (by omega));have b4:(n+1)*(SG^(n+1)*SF)<=(N+1)*(SG^(N+1)*SF):=Nat.mul_le_mul (by omega) b0;have b5:(n+1)*(SG^(n+1)*SF)=n*(SG^(n+1)*SF)+SG^(n+1)*SF:=by rw[Nat.add_mul,Nat.one_mul]
 have b6:SG^(N+1)*SF<=(N+1)*(SG^(N+1)*SF):=Nat.le_mul_of_pos_left _ (by omega);have:=h.sm;have:=h.c1;have:=h.c2;have:=h.c3;have:=h.c4;exact⟨h.lg,by omega,by omega,by omega,by omega,by omega,by omega⟩
open Lib (hid)
theorem Im {w w':World} (h:w.grownBy w' none):Below w.heap.size w w':=⟨h.os,h.tape,h.output,h.size,fun k hk=>h.block k hk (by simp)⟩
def GrW (w:World) (ps:List Raw) (e:Ending) (w':World):Prop:=∃r,e= .returned (.bool r)/\ Below w.heap.size w w'/\ (r=false->pq ps 8=false/\ (∀t∈ps,t.1.2.length<=8)/\∀t∈ps,∀p∈t.2,p.2<=8)
theorem oz [Ol] {ao:Option Addr} {n cap:Nat} {ps:List Raw} {w:World} (v:Int) (hp:Pr w ao n cap ps):Calls Tryz.prog 4 #[.slice ao n cap,.int .i64 v] w (GrW w ps):=by
 have HP:=hid hp;have HL:=hid hp.len;have hbig:n<=4398046511104:=by obtain⟨_,hG,_⟩:=hp.ex;exact hG.big
 clear hp;cases hg:pq ps 8 with
 |true=>
  go_enter Tryz.func4,Tryz.ntmps4;go_wp2_with fail;refine(yR true 8 HP.out hg).mono ?_;rintro e w1 ⟨rfl,hB⟩;go_wp2_with fail;go_ret;exact⟨true,rfl,hB,fun h=>by cases h⟩
 |false=>
  have HG:=hid hg;clear hg;go_enter Tryz.func4,Tryz.ntmps4;go_wp2_with fail;refine(yR false 8 HP.out HG.out).mono ?_;rintro e w1 ⟨rfl,hB⟩;have zD:=hid (HP.out.below hB);have HB:=hid hB;clear hB HP;go_wp2;go_loop [11] (fun i=>∃k:Nat,i= .int .i64 k/\ k<=n/\ Hid (∀t,t<k->(ps.getD t eu).1.2.length<=8/\∀p∈(ps.getD t eu).2,p.2<=8)) (fun i=>n-(intOf i).toNat)
  case atStart=>exact⟨0,rfl,Nat.zero_le _,fun t ht=>by omega⟩
  case round=>
   obtain⟨k,rfl,hk,HE⟩:=hrel;by_cases hkn:k<n
   ·obtain⟨b,off,xa,xn,xc,xp,xq,xr,rfl,_,hc,hs,hm⟩:=zD.out.at hkn;obtain⟨c0,c1,c2⟩:=hc w1 (Below.refl _ _);obtain⟨t,ht⟩:∃t,t=ps.getD k eu:=⟨_,rfl⟩;rw[<-ht]at hs hm c0;have HT:=hid ht;have HS:=hid hs.len;have HM:=hid hm;have hxb:=hs.big;have hmb:=hm.big;have hki:(k:Int)<(n:Int):=by omega
    clear hc hs hm ht;by_cases h8:8<xn
    ·have hd:decide ((8:Int)<(xn:Int))=true:=decide_eq_true (by omega);go_wp2_with fail;go_ret;exact⟨true,rfl,HB.out,fun h=>by cases h⟩
    ·have hd:decide ((8:Int)<(xn:Int))=false:=decide_eq_false (by omega);go_wp2_with fail;go_loop [28] (fun i=>∃j:Nat,i= .int .i64 j/\ j<=xq/\ Hid (∀u,u<j->(t.2.getD u (0,0)).2<=8)) (fun i=>xq-(intOf i).toNat)
     case atStart=>exact⟨0,rfl,Nat.zero_le _,fun u hu=>by omega⟩
     case round=>
      obtain⟨j,rfl,hj,HJ⟩:=hrel;by_cases hjq:j<xq
      ·obtain⟨b2,off2,rfl,_,hc2⟩:=HM.out.at (by omega);obtain⟨d0,d1⟩:=hc2 j hjq;have hji:(j:Int)<(xq:Int):=by omega
       obtain⟨x,hx⟩:∃x,x=(t.2.getD j (0,0)).2:=⟨_,rfl⟩;rw[<-hx]at d1;have HX:=hid hx;clear hc2 hx;by_cases hx8:8<x
       ·have hd2:decide ((8:Int)<x)=true:=decide_eq_true hx8;go_wp2_with fail;go_ret;exact⟨true,rfl,HB.out,fun h=>by cases h⟩
       ·have hd2:decide ((8:Int)<x)=false:=decide_eq_false hx8;go_wp2_with fail;go_round
        case rel=>exact⟨j+1,by go_num,by omega,fun u hu=>(Nat.lt_succ_iff_lt_or_eq.1 hu).elim (HJ.out u) fun e=>by rw[e,<-HX.out];omega⟩
        case measure=>simp[intOf];omega
      ·obtain rfl:j=xq:=by omega
       go_wp2_with fail;go_round
       case rel=>
        refine⟨k+1,by go_num,by omega,fun u hu=>(Nat.lt_succ_iff_lt_or_eq.1 hu).elim (HE.out u) fun e=>?_⟩;rw[e,<-HT.out];refine⟨by rw[HS.out];omega,fun p hp=>?_⟩;obtain⟨i,hi,rfl⟩:=List.mem_iff_getElem.1 hp;have h1:=HJ.out i (by rw[<-HM.out.len];exact hi);rwa[bJ _ hi]at h1
       case measure=>simp[intOf];omega
   ·obtain rfl:k=n:=by omega
    go_wp2_with fail;go_ret;refine⟨false,rfl,HB.out,fun _=>⟨HG.out,fun t ht=>?_,fun t ht=>?_⟩⟩
    ·obtain⟨i,hi,rfl⟩:=List.mem_iff_getElem.1 ht;have h1:=HE.out i (by rw[<-HL.out];exact hi);rw[bJ _ hi]at h1;exact h1.1
    ·obtain⟨i,hi,rfl⟩:=List.mem_iff_getElem.1 ht;have h1:=HE.out i (by rw[<-HL.out];exact hi);rw[bJ _ hi]at h1;exact h1.2
def E9:List Term:=[(1,[(2,2)])]
def JM:List Term:=[(1,[(1,1),(2,1)])]
def CU:List Term:=[(1,[(1,1),(2,1)]),(1,[])]
def WZ:List Term:=[(1,[(1,1),(2,1)]),(-1,[])]
theorem LH:fall E9:=kC (by decide+kernel) (by decide+kernel)
theorem yS:fall JM:=kC (by decide+kernel) (by decide+kernel)
theorem LJ:fall CU:=kC (by decide+kernel) (by decide+kernel)
theorem ab3:(uR ky ky).1=E9:=by decide+kernel
theorem PK:(uR kx ky).1=JM:=by decide+kernel
theorem ab4:fD JM (xP 1)=CU:=by decide+kernel
theorem ab5:uU JM (xP 1)=WZ:=by decide+kernel
theorem Fa:∀(m:List (Int×Int)) (u:Int),av m u=0∨ ∃x∈m,av m u=x.2
 |[],_=> .inl rfl
 |x::r,u=>by
  unfold av;split
  ·exact .inr ⟨x,by simp,rfl⟩
  ·rcases Fa r u with e|⟨y,hy,e⟩
   ·exact .inl e
   ·exact .inr ⟨y,by simp[hy],e⟩
theorem vz {p:List Term} {E:Int} (h:∀t∈p,∀x∈t.2,x.2<=E) (h0:0<=E):EB p E:=fun t ht u=>by
 rcases Fa t.2 u with e|⟨x,hx,e⟩
 ·omega
 ·rw[e];exact h t ht x hx
theorem PL:lI CU E9 2 2 2 2:=⟨LJ,LH,by omega,by decide+kernel,vz (by decide+kernel) (by omega),vz (by decide+kernel) (by omega),by omega,by omega,by decide+kernel,by decide⟩
theorem W9:∀n,n<2->E9.length*cn CU.length n<=10:=by decide+kernel
theorem iU:∀n,oN none n=none
 |0=>rfl
 |n+1=>by rw[oN,iU n];rfl
theorem Xa:VX CU E9 2 10 10 2 1 30:=⟨by decide+kernel,by decide+kernel,fun n hn=>W9 n (by omega),by decide+kernel,by decide+kernel,by decide,by decide,by decide,by decide+kernel,by decide+kernel,by decide+kernel⟩
theorem PN:bF CU 2 E9 2=(WZ,[(1,[])]):=by decide+kernel
theorem PO:∀j,j<2->aI CU 2<=aI (bF CU 2 E9 j).2 2:=by decide+kernel
theorem PS:Ends CU E9 2 true none ⟨WZ,[(1,[])],2,0,none⟩:=
 ⟨2,fun j hj=>⟨PO j hj,by rw[iU];rfl,by rw[iU];rfl,by rw[iU];rfl⟩,.inl ⟨by rw[PN];decide+kernel,by rw[PN];rfl⟩⟩
theorem eG [Ol] (w:World) (hlo:Ol.lo<=w.heap.size):Calls Tryz.prog 5 #[] w (bN (.bool true) w):=by
 have zG:=hid (Below.refl w.heap.size w);have ab6:∀V,dB V (.pointer none) none none:=fun V=> .inl ⟨rfl,rfl,rfl⟩
 have HMV:=hid ab6;have nu:=hid hlo;clear ab6 hlo;go_enter Tryz.func5,Tryz.ntmps5;go_wp2_with fail;refine(PU 1 _ (by unfold dW;omega)).mono ?_;rintro e w1 ⟨vxo,vxn,vxc,rfl,hX,hB⟩;rw[<-kx]at hX;obtain rfl:vxn=1:=hX.len.symm.trans (by decide+kernel);have rO:=hid (Below.steps zG.out hB);have Ga:=hid (hX);clear hB hX zG;go_wp2_with fail;refine(PU 2 _ (by unfold dW;omega)).mono ?_;rintro e w2 ⟨vyo,vyn,vyc,rfl,hX,hB⟩;rw[<-ky]at hX;obtain rfl:vyn=1:=hX.len.symm.trans (by decide+kernel);have Ag:=hid (Ga.out.below hB);have l6:=hid (Below.steps rO.out hB);have Y_2:=hid (hX);clear hB hX rO Ga;go_wp2_with fail;refine(xS Y_2.out Y_2.out (ah xC) (ah xC) (by omega)).mono ?_;rintro e w3 ⟨vfo,vfn,vfc,rfl,hX,hB⟩;rw[ab3]at hX;obtain rfl:vfn=1:=hX.len.symm.trans (by decide+kernel);have Gm:=hid (Ag.out.below hB);have Y_3:=hid (Y_2.out.below hB);have rP:=hid (Below.steps l6.out hB);have F_3:=hid (hX);clear hB hX l6 Ag Y_2;go_wp2_with fail;refine(xS Gm.out Y_3.out (ah JN) (ah xC) (by omega)).mono ?_;rintro e w4 ⟨vao,van,vac,rfl,hX,hB⟩;rw[PK]at hX;obtain rfl:van=1:=hX.len.symm.trans (by decide+kernel);have Yb:=hid (Gm.out.below hB);have Y_4:=hid (Y_3.out.below hB);have F_4:=hid (F_3.out.below hB);have sw:=hid (Below.steps rP.out hB);have ab7:=hid (hX);clear hB hX rP Gm Y_3 F_3;go_wp2_with fail;refine(oK 1 _ (by omega)).mono ?_;rintro e w5 ⟨vso,vsn,vsc,rfl,hX,hB⟩;obtain rfl:vsn=1:=hX.len.symm.trans (by decide+kernel);have X_5:=hid (Yb.out.below hB);have YA:=hid (Y_4.out.below hB);have F_5:=hid (F_4.out.below hB);have Xb:=hid (ab7.out.below hB);have sD:=hid (Below.steps sw.out hB);have Xc:=hid (hX);clear hB hX sw Yb Y_4 F_4 ab7;go_wp2_with fail;refine(NZ (K:=20) (Xb.out.mono (by omega)) (Xc.out.mono (by omega)) yS (ah (vX 1)) (by omega) (by omega)).mono ?_;rintro e w6 ⟨vgo,vgn,vgc,rfl,hX,hB⟩;rw[ab4]at hX;obtain rfl:vgn=2:=hX.len.symm.trans (by decide+kernel);have X_6:=hid (X_5.out.below hB);have YB:=hid (YA.out.below hB);have F_6:=hid (F_5.out.below hB);have ah4:=hid (Xb.out.below hB);have ah5:=hid (Xc.out.below hB);have l7:=hid (Below.steps sD.out hB);have G_6:=hid (hX);clear hB hX sD X_5 YA F_5 Xb Xc;clear ah4;clear ah5;go_wp2_with fail
 refine(jd F_6.out (by omega) (by omega)).mono ?_;rintro e w7 ⟨vpo,vpn,vpc,rfl,hX,hB⟩;obtain rfl:vpn=1:=hX.len.symm.trans (by decide+kernel);have X_7:=hid (X_6.out.below hB);have YG:=hid (YB.out.below hB);have F_7:=hid (F_6.out.below hB);have G_7:=hid (G_6.out.below hB);have j5:=hid (Below.steps l7.out hB);have ab8:=hid (hX);clear hB hX l7 X_6 YB F_6 G_6;clear F_7;go_wp2_with fail;refine(jd G_7.out (by omega) (by omega)).mono ?_;rintro e w8 ⟨vqo,vqn,vqc,rfl,hX,hB⟩;obtain rfl:vqn=2:=hX.len.symm.trans (by decide+kernel);have X_8:=hid (X_7.out.below hB);have YL:=hid (YG.out.below hB);have G_8:=hid (G_7.out.below hB);have Xd:=hid (ab8.out.below hB);have kG:=hid (Below.steps j5.out hB);have Xe:=hid (hX);clear hB hX j5 X_7 YG G_7 ab8;clear G_8;go_wp2_with fail;refine(uN (BL (kq:=true) (K:=30) (HMV.out _) (Xd.out.mono (by omega)) (Xe.out.mono (by omega)) PL (fun n hl=>Xa.ok PL true n hl) (by omega) (by omega) (Nat.le_trans nu.out kG.out.size))).mono ?_;rintro e w9 ⟨u,zo,zn,zc,ro,rn,rc,hu,rfl,hq,hr,hmv,hgr⟩;have hB:=Im hgr;obtain rfl:=Ends.unique hu PS;clear hu;have X_9:=hid (X_8.out.below hB);have YQ:=hid (YL.out.below hB);have ah6:=hid (Xd.out.below hB);have ah7:=hid (Xe.out.below hB);have sZ:=hid (Below.steps kG.out hB);have Q_9:=hid (hq);have R_9:=hid (hr);clear hB hgr hmv hq hr kG X_8 YL Xd Xe;clear ah6;clear ah7;go_wp2_with fail;refine(oK 1 _ (by omega)).mono ?_;rintro e Du ⟨vto,vtn,vtc,rfl,hX,hB⟩;obtain rfl:vtn=1:=hX.len.symm.trans (by decide+kernel);have ab9:=hid (X_9.out.below hB);have Ng:=hid (YQ.out.below hB);have ac0:=hid (Q_9.out.below hB);have ac1:=hid (R_9.out.below hB);have rV:=hid (Below.steps sZ.out hB);have PV:=hid (hX);clear hB hX sZ X_9 YQ Q_9 R_9;go_wp2_with fail;refine(jd PV.out (by omega) (by omega)).mono ?_;rintro e Dv ⟨vuo,vun,vuc,rfl,hX,hB⟩;obtain rfl:vun=1:=hX.len.symm.trans (by decide+kernel);have ac2:=hid (ab9.out.below hB);have Nh:=hid (Ng.out.below hB);have ac3:=hid (ac0.out.below hB);have Xf:=hid (ac1.out.below hB);have ac4:=hid (PV.out.below hB);have vQ:=hid (Below.steps rV.out hB);have PW:=hid (hX);clear hB hX rV ab9 Ng ac0 ac1 PV;clear ac4;go_wp2_with fail;refine(ny true Xf.out.raw PW.out.raw (decide_eq_true rfl)).mono ?_;rintro e w12 ⟨rfl,hB⟩;have Xg:=hid (ac2.out.below hB);have Kn:=hid (Nh.out.below hB)
 have ac5:=hid (ac3.out.below hB);have ah8:=hid (Xf.out.below hB);have ac6:=hid (PW.out.below hB);have Ah:=hid (Below.steps vQ.out hB);clear hB  vQ ac2 Nh ac3 Xf PW;clear ah8;clear ac6;go_wp2_with fail;refine(xS Xg.out Kn.out (ah JN) (ah xC) (by omega)).mono ?_;rintro e Gb ⟨vbo,vbn,vbc,rfl,hX,hB⟩;rw[PK]at hX;obtain rfl:vbn=1:=hX.len.symm.trans (by decide+kernel);have ac7:=hid (Xg.out.below hB);have Nj:=hid (Kn.out.below hB);have ac8:=hid (ac5.out.below hB);have Ai:=hid (Below.steps Ah.out hB);have Vs:=hid (hX);clear hB hX Ah Xg Kn ac5;go_wp2_with fail;refine(oK 1 _ (by omega)).mono ?_;rintro e w14 ⟨vco,vcn,vcc,rfl,hX,hB⟩;obtain rfl:vcn=1:=hX.len.symm.trans (by decide+kernel);have ac9:=hid (ac7.out.below hB);have Nk:=hid (Nj.out.below hB);have ad1:=hid (ac8.out.below hB);have PX:=hid (Vs.out.below hB);have Aj:=hid (Below.steps Ai.out hB);have PY:=hid (hX);clear hB hX Ai ac7 Nj ac8 Vs;go_wp2_with fail;refine(Og (K:=20) (PX.out.mono (by omega)) (PY.out.mono (by omega)) yS (ah (vX 1)) (by omega) (by omega)).mono ?_;rintro e w15 ⟨vdo,vdn,vdc,rfl,hX,hB⟩;rw[ab5]at hX;obtain rfl:vdn=2:=hX.len.symm.trans (by decide+kernel);have ah9:=hid (ac9.out.below hB);have QZ:=hid (Nk.out.below hB);have ad2:=hid (ad1.out.below hB);have ad3:=hid (PX.out.below hB);have ad4:=hid (PY.out.below hB);have Ak:=hid (Below.steps Aj.out hB);have Xh:=hid (hX);clear hB hX Aj ac9 Nk ad1 PX PY;clear ad3;clear ad4;clear ah9;clear QZ;go_wp2_with fail;refine(jd Xh.out (by omega) (by omega)).mono ?_;rintro e w16 ⟨vho,vhn,vhc,rfl,hX,hB⟩;obtain rfl:vhn=2:=hX.len.symm.trans (by decide+kernel);have Xi:=hid (ad2.out.below hB);have ai0:=hid (Xh.out.below hB);have Dx:=hid (Below.steps Ak.out hB);have PZ:=hid (hX);clear hB hX Ak ad2 Xh;clear ai0;go_wp2_with fail;refine(ny true Xi.out.raw PZ.out.raw (decide_eq_true rfl)).mono ?_;rintro e w17 ⟨rfl,hB⟩;have al9:=hid (Xi.out.below hB);have al0:=hid (PZ.out.below hB);have I7:=hid (Below.steps Dx.out hB);clear hB  Dx Xi PZ;go_wp2_with fail;go_ret;exact⟨rfl,I7.out⟩
structure Sm (L:Nat) (p:List Term):Prop where
 f:fall p
 l:p.length<=L
 b:∀t∈p,Bd t.1 8
 e:EB p 8
theorem Sm.mono {L M:Nat} {p:List Term} (h:Sm L p) (hl:L<=M):Sm M p:=⟨h.f,Nat.le_trans h.l hl,h.b,h.e⟩
theorem JO {X:Nat}:∀{p:List Term},(∀t∈p,t.1.natAbs<=X)->aD p<=p.length*X
 |[],_=>by simp[aD]
 |t::r,h=>by
  have h1:=h t (by simp);have h2:=JO (p:=r) fun s hs=>h s (by simp[hs])
  simp only[aD,List.length_cons,Nat.add_mul,Nat.one_mul];omega
theorem Sm.sum {L:Nat} {p:List Term} (h:Sm L p) (hl:L<=8):aD p<=4294967296^9:=by
 refine Nat.le_trans (JO (X:=4294967296^8) fun t ht=>Nat.le_of_lt (h.b t ht)) ?_;rw[Nat.pow_succ,Nat.mul_comm];exact Nat.mul_le_mul_left _ (by have:=h.l;omega)
theorem Xj {p:List Term} {E:Int} (h:EB p E) (h0:0<=E) (v:Int):aI p v<=E:=by
 rcases uw p v with e|⟨t,ht,e⟩
 ·omega
 ·rw[e];exact h t ht v
theorem ai1:∀k,k<9->∀n,n<9->cn k n<=6435:=by decide+kernel
theorem ai2:∀k,k<9->∀n,n<8->cn k n<=3432:=by decide+kernel
section
variable {p q:List Term} {v:Int}
theorem Sm.div (hp:Sm 8 p) (hq:Sm 8 q) (hv:1<=v/\ v<=200) (h1:1<=aI q v):lI q p v 8 8 8:=
 ⟨hq.f,hp.f,hv,h1,hq.e,hp.e,by omega,by omega,Xj hp.e (by omega) v,by omega⟩
theorem Sm.sz (hp:Sm 8 p) (hq:Sm 8 q):VX q p 8 51480 27456 (4294967296^9) (4294967296^9) 91:=by
 have hl1:=hp.l;have hl2:=hq.l;refine⟨by omega,fun n hn=>?_,fun n hn=>?_,by omega,by omega,by omega,by omega,Nat.pow_pos (by omega),hq.sum (by omega),hp.sum (by omega),by decide+kernel⟩
 ·exact Nat.mul_le_mul hl1 (ai1 _ (by omega) n (by omega))
 ·exact Nat.mul_le_mul hl1 (ai2 _ (by omega) n (by omega))
end
theorem KH {g f:List Term} {v:Int} {kq:Bool} {u:Out} (h:Ends g f v kq none u):∃n,Long g v f n/\ aI (bF g v f n).2 v<aI g v/\ u=⟨qk kq (bF g v f n).1,(bF g v f n).2,n,0,none⟩:=by
 obtain⟨n,h1,h2⟩:=h;refine⟨n,kX h1,?_⟩;rcases h2 with⟨k1,k2⟩|⟨_,⟨k2,_⟩|⟨_,⟨k3,_⟩|⟨_,k4,_⟩⟩⟩
 ·rw[iU]at k2;exact⟨k1,k2⟩
 ·rw[iU]at k2;exact absurd rfl k2
 ·rw[iU]at k3;exact absurd rfl k3
 ·rw[iU]at k4;exact absurd rfl k4
end Go.Proofs.YthdhjckangekoaaGreat
