/- VRd, VRdD, VRdS, VRdT, VRdP, VRdF, VRdQ, VRdN, VRdMP -/
import Derived.Test.YtmenbpmciblnlaaGreatDoorGTx
set_option maxHeartbeats 0
set_option maxRecDepth 100000
open Array renaming getElem?_eq_some_iff->a0a,getElem?_modify->a0b
open Go.Lib renaming hid->a0d,size_eq->a0c
open Go.RowKit.Below renaming heap_setCell->a0e
open Go.World renaming cell?->a0f,frozen?->a0g,setCell->a0h
open List renaming drop_zero->a0k,head?_cons->a0m,isPrefixOf->a0n,length->a0i,length_append->a0j,length_cons->a0p,size_toArray->a0o,take_left->a0l
open Nat renaming le_refl->a0s,le_trans->a0q,lt_of_lt_of_le->a0r,pow_le_pow_right->a0u,sub_zero->a0t
open Option renaming bind_eq_some_iff->a0v,bind_some->a0w
open Option.some renaming injEq->a0x
/- The reader of texts: its one cell, and the contracts of its small methods. -/
namespace Go.Proofs.YtmenbpmciblnlaaGreatDoor
section
open Go.RowKit Go.Lib
def Rd (w:World) (b:Nat) (s:ByteArray):Prop:=w.heap[b]? =some (.cells #[.string s] 111 (0,0))
theorem Rd.lt {w:World} {b:Nat} {s:ByteArray} (h:Rd w b s):b<w.heap.size:=by
 unfold Rd at h;exact(a0a.1 h).1
theorem Rd.cell {w:World} {b:Nat} {s:ByteArray} (h:Rd w b s):w.cell? ⟨b,0,none⟩=some (.string s):=by
 unfold Rd at h;simp[a0f,h]
theorem Rd.fz {w:World} {b:Nat} {s:ByteArray} (h:Rd w b s):w.frozen? ⟨b,0,none⟩=false:=by
 unfold Rd at h;simp[a0g,h]
theorem Rd.below {w w':World} {b:Nat} {s:ByteArray} (h:Rd w b s) (hb:Below w.heap.size w w'):Rd w' b s:=(hb.block b h.lt).trans h
theorem Rd.set {w:World} {b:Nat} {s:ByteArray} (h:Rd w b s) (u:ByteArray):Rd (w.setCell ⟨b,0,none⟩ (.string u)) b u:=by
 unfold Rd at h ⊢;simp[a0h,a0b,h]
theorem xQ (w:World) (b o:Nat) (v:Value):w.grownBy (w.setCell ⟨b,o,none⟩ v) (some b):=
 ⟨rfl,rfl,rfl,by simp[a0h],λk _ hne=>a0e _ _ _ _ (λe=>hne (by rw[e]))⟩
theorem aK {w v u:World} {r:Option Nat} (h:w.grownBy v r) (k:v.grownBy u r):w.grownBy u r:=
 ⟨k.os.trans h.os,k.tape.trans h.tape,k.output.trans h.output,a0q h.size k.size,λi hi hne=>(k.block i (a0r hi h.size) hne).trans (h.block i hi hne)⟩
theorem cK {w w1:World} (r:Option Nat) (h:Below w.heap.size w w1):w.grownBy w1 r:=⟨h.os,h.tape,h.output,h.size,λk hk _=>h.block k hk⟩
def yJ (b:Nat) (v:Value) (u:ByteArray) (w:World) (e:Ending) (w':World):Prop:=e= .returned v/\ Rd w' b u/\ w.grownBy w' (some b)
theorem Du {b:Nat} {s c:ByteArray} {w:World} (h:Rd w b s):
  Calls Tryz.prog 110 #[.pointer (some ⟨b,0,none⟩),.string c] w (yJ b (.bool (hasPrefix s.data.toList c.data.toList)) ⟨(trimPrefix s.data.toList c.data.toList).toArray⟩ w):=by
 have hc:=h.cell;go_enter Tryz.func110,Tryz.ntmps110;go_wp2_with fail;refine(Rj s c _).mono ?_;rintro e w1 ⟨rfl,hB⟩;have h1:=h.below hB;have hc1:=h1.cell;have hf1:=h1.fz;go_wp2_with fail;go_ret;exact⟨rfl,h1.set _,aK (cK _ hB) (xQ _ _ _ _)⟩
def uQ (b:Nat) (w:World) (e:Ending) (w':World):Prop:=e= .panicked [{ v:= .iface 32 (.int .i64 4),recovered:=false }]/\ w.grownBy w' (some b)
theorem jr {b:Nat} {w:World}:
  Calls Tryz.prog 111 #[.pointer (some ⟨b,0,none⟩)] w (uQ b w):=by
 go_enter Tryz.func111,Tryz.ntmps111;go_wp2_with fail;exact⟨rfl,rfl,cK _ (Below.refl _ _)⟩
end
/- The reader's digits. -/
section
open Go.RowKit Go.Lib
theorem uX (w:World) (b:Nat):w.grownBy w.drew (some b):=⟨rfl,rfl,rfl,a0s _,λ_ _ _=>rfl⟩
theorem qy (s:ByteArray) (a b:Nat):(s.extract a b).data.toList=(s.data.toList.drop a).take (b-a):=by
 have h:=ByteArray.extract_mk s.data.toList a b;have e:(ByteArray.mk s.data.toList.toArray)=s:=by simp
 rw[e]at h;rw[h]
theorem lT {s:ByteArray} {b:List UInt8} (h:s.data.toList=b):(s.toList==b)=true:=by
 rw[ByteArray.toList_eq,h];simp
theorem kE {s:ByteArray} {b:List UInt8} (h:s.data.toList≠b):(s.toList==b)=false:=by
 rw[ByteArray.toList_eq];simpa using h
theorem xG {b:Nat} {s:ByteArray} {d r:List UInt8} {w:World} (h:Rd w b s) (hs:s.size<=65536) (hd:mZ s.data.toList=some (d,r)):
  Calls Tryz.prog 166 #[.pointer (some ⟨b,0,none⟩)] w (yJ b (.string ⟨d.toArray⟩) ⟨r.toArray⟩ w):=by
 have hc:=h.cell
 have hdr:s.data.toList.dropWhile fJ=r/\ s.data.toList.takeWhile fJ=d:=by
  unfold mZ at hd;split at hd
  ·cases hd
  ·injection hd with hd;injection hd with h1 h2;exact⟨h2,h1⟩
 have hl:s.size=d.length+r.length:=by
  have:=congrArg a0i (gU hd).1;rw[a0j]at this;exact(a0c s).trans this
 go_enter Tryz.func166,Tryz.ntmps166;go_wp2_with fail;refine(Dv s _).mono ?_;rw[hdr.1];rintro e w1 ⟨rfl,hB⟩;have h1:=h.below hB;have hc1:=h1.cell;have hf1:=h1.fz;have i1:¬(((s.size:Nat):Int)-(r.length:Int)<0):=by omega
 have i2:((s.size:Nat):Int)-(r.length:Int)<=(s.size:Int):=by omega
 go_wp2_with fail;go_region;obtain⟨x,hx⟩:∃x:ByteArray,s.extract 0 d.length=x:=⟨_,rfl⟩
 have hxd:x.data.toList=d:=by
  rw[<-hx,qy,a0k,a0t,(gU hd).1,a0l]
 rw[hx];have hd0:d≠[]:=(gU hd).2.2;have e1:(x.toList==[])=false:=kE (by rw[hxd];exact hd0)
 have hh:d≠[48]->d.head? ≠some 48:=λh1 h2=>by
  unfold mZ at hd;rw[hdr.2]at hd;rw[if_pos (.inr ⟨h1,h2⟩)]at hd;cases hd
 have h2:Rd w1.drew b s:=h1;have hf2:=h2.fz;have hc2:=h2.cell;have JG:Hid (x=⟨d.toArray⟩):=by rw[Hid,<-hxd]
 have HXD:=a0d hxd;clear hx;by_cases hz:d=[48]
 ·have e2:(x.toList==[48])=true:=lT (by rw[hxd];exact hz);go_wp2_with fail;go_ret;exact⟨by rw[<-JG.out];rfl,h2.set _,aK (cK _ hB) (aK (xQ w1 b 0 _) ⟨rfl,rfl,rfl,a0s _,λ_ _ _=>rfl⟩)⟩
 ·have e2:(x.toList==[48])=false:=kE (by rw[hxd];exact hz);go_wp2_with fail
  have e3:hasPrefix x.data.toList (⟨#[48]⟩:ByteArray).data.toList=false:=by
   rw[HXD.out];cases d with
   |nil=>rfl
   |cons a l=>
    have:=hh hz;simp only[a0m,ne_eq,a0x]at this;simp[hasPrefix,a0n];exact λe=>this e.symm
  have hq:=vY x ⟨#[48]⟩ w1.drew;rw[e3]at hq;refine hq.mono ?_;rintro e w2 ⟨rfl,hB2⟩;have h3:Rd w2 b s:=h2.below hB2;have hf3:=h3.fz;have hc3:=h3.cell;go_wp2_with fail;go_ret;exact⟨by rw[<-JG.out];rfl,h3.set _,aK (cK _ hB) (aK (uX w1 b) (aK (cK (w:=w1.drew) _ hB2) (xQ w2 b 0 _)))⟩
theorem Ai {b:Nat} {s:ByteArray} {d r:List UInt8} {w:World} (h:Rd w b s) (hs:s.size<=65536) (hr:s.data.toList.dropWhile fJ=r) (hd:s.data.toList.takeWhile fJ=d) (hn:d=[]∨(d≠[48]/\ d.head? =some 48)):
  Calls Tryz.prog 166 #[.pointer (some ⟨b,0,none⟩)] w (uQ b w):=by
 have hc:=h.cell;have hs2:s.data.toList=d++r:=by rw[<-hd,<-hr];exact List.takeWhile_append_dropWhile.symm
 have hl:s.size=d.length+r.length:=by
  have:=congrArg a0i hs2;rw[a0j]at this;exact(a0c s).trans this
 have HR:=a0d hr;clear hr hd;go_enter Tryz.func166,Tryz.ntmps166;go_wp2_with fail;refine(Dv s _).mono ?_;rw[HR.out];rintro e w1 ⟨rfl,hB⟩;have h1:=h.below hB;have hc1:=h1.cell;have hf1:=h1.fz;have i1:¬(((s.size:Nat):Int)-(r.length:Int)<0):=by omega
 have i2:((s.size:Nat):Int)-(r.length:Int)<=(s.size:Int):=by omega
 go_wp2_with fail;go_region;obtain⟨x,hx⟩:∃x:ByteArray,s.extract 0 d.length=x:=⟨_,rfl⟩
 have hxd:x.data.toList=d:=by
  rw[<-hx,qy,a0k,a0t,hs2,a0l]
 rw[hx];have HXD:=a0d hxd;clear hx;by_cases h0:d=[]
 ·have e1:(x.toList==[])=true:=lT (by rw[hxd];exact h0);go_wp2_with fail;refine(jr (b:=b)).mono ?_;rintro e w2 ⟨rfl,hg⟩;go_wp2_with fail;exact⟨rfl,rfl,aK (cK _ hB) (aK (uX w1 b) hg)⟩
 ·have hz:d≠[48]/\ d.head? =some 48:=hn.resolve_left h0;have e1:(x.toList==[])=false:=kE (by rw[hxd];exact h0);have e2:(x.toList==[48])=false:=kE (by rw[hxd];exact hz.1);go_wp2_with fail
  have e3:hasPrefix x.data.toList (⟨#[48]⟩:ByteArray).data.toList=true:=by
   rw[HXD.out];cases d with
   |nil=>exact absurd rfl h0
   |cons a l=>
    have:=hz.2;simp only[a0m,a0x]at this;simp[hasPrefix,a0n,this]
  have hq:=vY x ⟨#[48]⟩ w1.drew;rw[e3]at hq;refine hq.mono ?_;rintro e w2 ⟨rfl,hB2⟩;go_wp2_with fail;refine(jr (b:=b)).mono ?_;rintro e w3 ⟨rfl,hg⟩;go_wp2_with fail;exact⟨rfl,rfl,aK (cK _ hB) (aK (uX w1 b) (aK (cK (w:=w1.drew) _ hB2) hg))⟩
end
/- The reader's small. -/
section
open Go.RowKit Go.Lib
theorem pJ {b:Nat} {s:ByteArray} {n:Int} {r:List UInt8} {w:World} (h:Rd w b s) (hs:s.size<=65536) (hd:gm s.data.toList=some (n,r)):
  Calls Tryz.prog 207 #[.pointer (some ⟨b,0,none⟩)] w (yJ b (.int .i64 n) ⟨r.toArray⟩ w):=by
 unfold gm at hd;obtain⟨⟨d,r0⟩,h1,h2⟩:=a0v.1 hd;obtain⟨e0,e1,e2⟩:=gU h1;split at h2
 ·rename_i hlt;injection h2 with h2
  injection h2 with h3 h4
  simp only at h3 h4 hlt;subst h4;have hall:dJ d=true:=by rw[<-e1];exact zD _
  have hsz:d.length<=65536:=by
   have:=congrArg a0i e0;rw[a0j]at this;have h9:=a0c s;omega
  have hat:=λW=>UY ⟨d.toArray⟩ W (show d.toArray.size<=1000000 by rw[a0o];omega) hall e2 hlt
  rw[show aR (⟨d.toArray⟩:ByteArray).data.toList=aR d from rfl,h3]at hat;have HR:=a0d h3;clear h3 e0 e1 e2 hall hlt hd;go_enter Tryz.func207,Tryz.ntmps207;go_wp2_with fail;refine(xG h hs h1).mono ?_;rintro e w1 ⟨rfl,hR,hg⟩;go_wp2_with fail;refine(hat _).mono ?_;rintro e w2 ⟨rfl,hB⟩;have hR2:=hR.below hB;go_wp2_with fail;go_ret;exact⟨rfl,hR2,aK hg (cK _ hB)⟩
 ·cases h2
theorem J4 {b:Nat} {s:ByteArray} {w:World} (h:Rd w b s) (hs:s.size<=65536) (hd:mZ s.data.toList=none):
  Calls Tryz.prog 207 #[.pointer (some ⟨b,0,none⟩)] w (uQ b w):=by
 have hn:s.data.toList.takeWhile fJ=[]∨(s.data.toList.takeWhile fJ≠[48]/\ (s.data.toList.takeWhile fJ).head? =some 48):=by
  unfold mZ at hd;split at hd
  ·assumption
  ·cases hd
 go_enter Tryz.func207,Tryz.ntmps207;go_wp2_with fail;refine(Ai h hs rfl rfl hn).mono ?_;rintro e w1 ⟨rfl,hg⟩;go_wp2_with fail;exact⟨rfl,rfl,hg⟩
end
/- The reader's takes, at one byte, as the plain reader has it. -/
section
open Go.RowKit Go.Lib
theorem UZ (c:UInt8) (l:List UInt8):hasPrefix (c::l) [c]=true/\ trimPrefix (c::l) [c]=l:=by
 have h:hasPrefix (c::l) [c]=true:=by simp[hasPrefix,a0n]
 exact⟨h,by unfold trimPrefix;rw[if_pos h];rfl⟩
theorem Rk {c:UInt8} {l:List UInt8} (h:takeB c l=none):hasPrefix l [c]=false/\ trimPrefix l [c]=l:=by
 have h1:hasPrefix l [c]=false:=by
  have:=J5.1 h;cases l with
  |nil=>rfl
  |cons a l=>
   simp only[a0m,ne_eq,a0x]at this;simp[hasPrefix,a0n];exact λe=>this e.symm
 exact⟨h1,by unfold trimPrefix;rw[if_neg (by rw[h1];decide)]⟩
theorem gy {b:Nat} {s:ByteArray} {c:UInt8} {l:List UInt8} {w:World} (h:Rd w b s) (e:takeB c s.data.toList=some l):
  Calls Tryz.prog 110 #[.pointer (some ⟨b,0,none⟩),.string ⟨#[c]⟩] w (yJ b (.bool true) ⟨l.toArray⟩ w):=by
 have h1:=Du (c:=⟨#[c]⟩) h;have h2:=UZ c l;rw[<-eY e]at h2;rw[show(⟨#[c]⟩:ByteArray).data.toList=[c]from rfl,h2.1,h2.2]at h1;exact h1
theorem jZ {b:Nat} {s:ByteArray} {c:UInt8} {w:World} (h:Rd w b s) (e:takeB c s.data.toList=none):
  Calls Tryz.prog 110 #[.pointer (some ⟨b,0,none⟩),.string ⟨#[c]⟩] w (yJ b (.bool false) s w):=by
 have h1:=Du (c:=⟨#[c]⟩) h;have h2:=Rk e;rw[show(⟨#[c]⟩:ByteArray).data.toList=[c]from rfl,h2.1,h2.2]at h1;exact h1
end
/- The reader's power. -/
section
open Go.RowKit Go.Lib
def P2 (w:World) (N:Nat) (x y:Int):Prop:=w.heap[N]? =some (.cells #[.int .i64 x,.int .i64 y] 72 (0,0))
theorem P2.c0 {w:World} {N:Nat} {x y:Int} (h:P2 w N x y):w.cell? ⟨N,0,none⟩=some (.int .i64 x):=by
 unfold P2 at h;simp[a0f,h]
theorem P2.c1 {w:World} {N:Nat} {x y:Int} (h:P2 w N x y):w.cell? ⟨N,1,none⟩=some (.int .i64 y):=by
 unfold P2 at h;simp[a0f,h]
theorem P2.fz {w:World} {N:Nat} {x y:Int} (h:P2 w N x y) (o:Nat):w.frozen? ⟨N,o,none⟩=false:=by
 unfold P2 at h;simp[a0g,h]
theorem P2.lt {w:World} {N:Nat} {x y:Int} (h:P2 w N x y):N<w.heap.size:=by
 unfold P2 at h;exact(a0a.1 h).1
theorem P2.keep {w w':World} {N b:Nat} {x y:Int} (h:P2 w N x y) (hg:w.grownBy w' (some b)) (hne:N≠b):P2 w' N x y:=(hg.block N h.lt (by simpa using hne)).trans h
theorem P2.set {w:World} {N:Nat} {x y:Int} (h:P2 w N x y) (a c:Int):P2 ((w.setCell ⟨N,0,none⟩ (.int .i64 a)).setCell ⟨N,1,none⟩ (.int .i64 c)) N a c:=by
 unfold P2 at h ⊢;simp[a0h,a0b,h]
theorem mY {w:World} {b N o:Nat} {s:ByteArray} (h:Rd w b s) (hne:N≠b) (u:Value):Rd (w.setCell ⟨N,o,none⟩ u) b s:=(a0e _ _ _ _ (λe=>hne e.symm)).trans h
theorem alloc_old (w:World) (o:Obj) {k:Nat} (hk:k<w.heap.size):(w.alloc o).heap[k]? =w.heap[k]? :=by
 show(w.heap.push o)[k]? =_;rw[Array.getElem?_push,if_neg (by omega)]
theorem jT {w:World} {b:Nat} {s:ByteArray} (h:Rd w b s) (o:Obj):Rd (w.alloc o) b s:=(alloc_old w o h.lt).trans h
theorem pK (w:World) (x y:Int):P2 (w.alloc (.cells #[.int .i64 x,.int .i64 y] 72)) w.heap.size x y:=by
 show(w.heap.push _)[w.heap.size]? =_;rw[Array.getElem?_push_size]
theorem je (w:World) (b:Nat) (o:Obj):w.grownBy (w.alloc o) (some b):=
 ⟨rfl,rfl,rfl,by show _<=(w.heap.push o).size;rw[Array.size_push];omega,λ_ hk _=>alloc_old w o hk⟩
theorem Ny {b:Nat} {s:ByteArray} {n:Int} {l1 r:List UInt8} {w:World} (h:Rd w b s) (hs:s.size<=65536) (h0:takeB 120 s.data.toList=some l1) (h1:gm l1=some (n,r)) (h2:takeB 94 r=none):
  Calls Tryz.prog 168 #[.pointer (some ⟨b,0,none⟩)] w (yJ b (.agg #[.int .i64 n,.int .i64 1]) ⟨r.toArray⟩ w):=by
 have hb:=h.lt
 have hl1:(⟨l1.toArray⟩:ByteArray).size<=65536:=by
  have e:=congrArg a0i (eY h0);have h9:=a0c s;have h8:=a0c (⟨l1.toArray⟩:ByteArray);simp only[a0p]at e;have h7:(⟨l1.toArray⟩:ByteArray).data.toList.length=l1.length:=rfl;omega
 go_enter Tryz.func168,Tryz.ntmps168;go_upto_region 1 with(fail)
 refine aj (λw1 hW=>?_);have r1:Rd w1 b s:=by rw[hW];exact jT h _
 have p1:P2 w1 w.heap.size 0 0:=by rw[hW];exact pK w 0 0
 have g1:w.grownBy w1 (some b):=by rw[hW];exact je w b _
 clear hW;go_wp2_with fail;refine(gy r1 h0).mono ?_;rintro e w2 ⟨rfl,r2,g2⟩;have p2:=p1.keep g2 (by omega);go_wp2_with fail;refine(pJ r2 hl1 h1).mono ?_;rintro e w3 ⟨rfl,r3,g3⟩;have p3:=p2.keep g3 (by omega);go_upto_region 4 with(fail)
 refine aj (λw4 hW=>?_);have r4:Rd w4 b ⟨r.toArray⟩:=by rw[hW];exact jT r3 _
 have p4:P2 w4 w3.heap.size n 1:=by rw[hW];exact pK w3 n 1
 have g4:w3.grownBy w4 (some b):=by rw[hW];exact je w3 b _
 have q4:=p3.keep g4 (by omega);have hlt:b<w3.heap.size:=r3.lt;have hN:w.heap.size<w3.heap.size:=p3.lt;clear hW;go_wp2_with fail;refine(jZ r4 h2).mono ?_;rintro e w5 ⟨rfl,r5,g5⟩;have p5:=p4.keep g5 (by omega);have q5:=q4.keep g5 (by omega);have c0:=p5.c0;have c1:=p5.c1;have d0:=q5.c0;have d1:=q5.c1;have f0:=q5.fz 0;have f1:=q5.fz 1;go_wp2_with fail;obtain⟨w6,Yt⟩:∃w6,(w5.setCell ⟨w.heap.size,0,none⟩ (.int .i64 n)).setCell ⟨w.heap.size,1,none⟩ (.int .i64 1)=w6:=⟨_,rfl⟩;have p6:P2 w6 w.heap.size n 1:=Yt▸q5.set n 1;have r6:Rd w6 b ⟨r.toArray⟩:=Yt▸mY (mY r5 (by omega) _) (by omega) _
 have g6:w.grownBy w6 (some b):=by
  have g5':=aK g1 (aK g2 (aK g3 (aK g4 g5)));refine⟨?_,?_,?_,?_,λk hk hne=>?_⟩
  ·rw[<-Yt];exact g5'.os
  ·rw[<-Yt];exact g5'.tape
  ·rw[<-Yt];exact g5'.output
  ·have:=p6.lt;omega
  ·rw[<-Yt,a0e _ _ _ _ (show k≠w.heap.size by omega),a0e _ _ _ _ (show k≠w.heap.size by omega)];exact g5'.block k hk hne
 rw[Yt];have z0:=p6.c0;have z1:=p6.c1;refine bodyPost_ret (v:= .agg #[.int .i64 n,.int .i64 1]) (by simp[results,Tryz.results168,go_sem,z0,z1]) rfl ?_;exact⟨rfl,r6,g6⟩
end
/- The reader's small, at digits that tell no int. -/
section
open Go.RowKit Go.Lib
def qW (w:World):Prop:=∃te pe,w.cell? ⟨6,0,none⟩=some (.iface te pe)
theorem qW.keep {w w':World} {b:Nat} (h:qW w) (hg:w.grownBy w' (some b)) (hb:6<b) (hw:b<w.heap.size):qW w':=by
 obtain⟨te,pe,h⟩:=h;exact⟨te,pe,(World.cell?_of_block (hg.block _ (by show 6<_;omega) (by simp;omega))).trans h⟩
theorem Nz {b:Nat} {s:ByteArray} {d r:List UInt8} {w:World} (h:Rd w b s) (hs:s.size<=65536) (hE:qW w) (hb:6<b) (hd:mZ s.data.toList=some (d,r)) (hf:9223372036854775808<=aR d):
  Calls Tryz.prog 207 #[.pointer (some ⟨b,0,none⟩)] w (uQ b w):=by
 have hlt:=h.lt;obtain⟨e0,e1,e2⟩:=gU hd;have hall:dJ d=true:=by rw[<-e1];exact zD _
 have hsz:d.length<=65536:=by
  have:=congrArg a0i e0;rw[a0j]at this;have h9:=a0c s;omega
 have hat:atoiAll (⟨d.toArray⟩:ByteArray).data.toList= .range:=by
  show atoiAll d= .range;rw[yK hall e2,if_neg (by omega)]
 go_enter Tryz.func207,Tryz.ntmps207;go_wp2_with fail;refine(xG h hs hd).mono ?_;rintro e w1 ⟨rfl,hR,hg⟩;obtain⟨te,pe,hE1⟩:=hE.keep hg hb hlt;go_wp2_with fail;refine(Any.strconv_Atoi_range Tryz.Ho ⟨d.toArray⟩ (show d.toArray.size<=281474976710656 by rw[a0o];omega) hat (.iface te pe) _ hE1 (.inr ⟨te,pe,rfl⟩)).mono ?_;rintro e w2 ⟨N,rfl,_,_,hB⟩;go_wp2_with fail;refine(jr (b:=b)).mono ?_;rintro e w3 ⟨rfl,hg3⟩;go_wp2_with fail;exact⟨rfl,rfl,aK hg (aK (cK _ hB) hg3)⟩
theorem Aw {b:Nat} {s:ByteArray} {w:World} (h:Rd w b s) (hs:s.size<=65536) (hE:qW w) (hb:6<b) (hd:gm s.data.toList=none):
  Calls Tryz.prog 207 #[.pointer (some ⟨b,0,none⟩)] w (uQ b w):=by
 cases h1:mZ s.data.toList with
 |none=>exact J4 h hs h1
 |some a=>
  obtain⟨d,r⟩:=a;refine Nz h hs hE hb h1 ?_;unfold gm at hd;rw[h1,a0w]at hd;split at hd
  ·cases hd
  ·rename_i hh;simp only at hh;omega
end
/- The reader's power with an exponent. -/
section
open Go.RowKit Go.Lib
theorem uY {s:ByteArray} {l:List UInt8} (hs:s.size<=65536) (h:l.length<=s.data.toList.length):(⟨l.toArray⟩:ByteArray).size<=65536:=by
 have h9:=a0c s;have h8:=a0c (⟨l.toArray⟩:ByteArray);have h7:(⟨l.toArray⟩:ByteArray).data.toList.length=l.length:=rfl;omega
theorem rU {l r:List UInt8} {n:Int} (h:gm l=some (n,r)):r.length<=l.length:=by
 have:=congrArg a0i (oK h).1;rw[a0j]at this;omega
theorem iH {c:UInt8} {l r:List UInt8} (h:takeB c l=some r):r.length<=l.length:=by
 have:=congrArg a0i (eY h);rw[a0p]at this;omega
theorem P2.set1 {w:World} {N:Nat} {x y:Int} (h:P2 w N x y) (c:Int):P2 (w.setCell ⟨N,1,none⟩ (.int .i64 c)) N x c:=by
 unfold P2 at h ⊢;simp[a0h,a0b,h]
theorem P2.far {w:World} {N M o:Nat} {x y:Int} (h:P2 w N x y) (hne:N≠M) (u:Value):P2 (w.setCell ⟨M,o,none⟩ u) N x y:=(a0e _ _ _ _ hne).trans h
theorem NA {b:Nat} {s:ByteArray} {n x:Int} {l1 r l2 rest:List UInt8} {w:World} (h:Rd w b s) (hs:s.size<=65536) (h0:takeB 120 s.data.toList=some l1) (h1:gm l1=some (n,r)) (h2:takeB 94 r=some l2) (h3:gm l2=some (x,rest)) (hx:x≠1):
  Calls Tryz.prog 168 #[.pointer (some ⟨b,0,none⟩)] w (yJ b (.agg #[.int .i64 n,.int .i64 x]) ⟨rest.toArray⟩ w):=by
 have hb:=h.lt
 have hl1:(⟨l1.toArray⟩:ByteArray).size<=65536:=by
  have e:=congrArg a0i (eY h0);have h9:=a0c s;have h8:=a0c (⟨l1.toArray⟩:ByteArray);simp only[a0p]at e;have h7:(⟨l1.toArray⟩:ByteArray).data.toList.length=l1.length:=rfl;omega
 go_enter Tryz.func168,Tryz.ntmps168;go_upto_region 1 with(fail)
 refine aj (λw1 hW=>?_);have r1:Rd w1 b s:=by rw[hW];exact jT h _
 have p1:P2 w1 w.heap.size 0 0:=by rw[hW];exact pK w 0 0
 have g1:w.grownBy w1 (some b):=by rw[hW];exact je w b _
 clear hW;go_wp2_with fail;refine(gy r1 h0).mono ?_;rintro e w2 ⟨rfl,r2,g2⟩;have p2:=p1.keep g2 (by omega);go_wp2_with fail;refine(pJ r2 hl1 h1).mono ?_;rintro e w3 ⟨rfl,r3,g3⟩;have p3:=p2.keep g3 (by omega);go_upto_region 4 with(fail)
 refine aj (λw4 hW=>?_);have r4:Rd w4 b ⟨r.toArray⟩:=by rw[hW];exact jT r3 _
 have p4:P2 w4 w3.heap.size n 1:=by rw[hW];exact pK w3 n 1
 have g4:w3.grownBy w4 (some b):=by rw[hW];exact je w3 b _
 have q4:=p3.keep g4 (by omega);have hlt:b<w3.heap.size:=r3.lt;have hN:w.heap.size<w3.heap.size:=p3.lt;clear hW;go_wp2_with fail;have hl2:(⟨l2.toArray⟩:ByteArray).size<=65536:=uY hs (a0q (iH h2) (a0q (rU h1) (iH h0)));refine(gy r4 h2).mono ?_;rintro e w5 ⟨rfl,r5,g5⟩;have p5:=p4.keep g5 (by omega);have q5:=q4.keep g5 (by omega);have hM:w3.heap.size<w5.heap.size:=p5.lt;go_wp2_with fail;refine(pJ r5 hl2 h3).mono ?_;rintro e w6 ⟨rfl,r6,g6⟩;have p6:=p5.keep g6 (by omega);have q6:=q5.keep g6 (by omega);have f1:=p6.fz 1;have u1:=p6.c1;have g0:=aK g1 (aK g2 (aK g3 (aK g4 (aK g5 g6))));go_upto_region 6 with(fail)
 refine aj (λw7 hW=>?_);have p7:P2 w7 w3.heap.size n x:=by rw[hW];exact p6.set1 x
 have q7:P2 w7 w.heap.size 0 0:=by rw[hW];exact q6.far (by omega) _
 have r7:Rd w7 b ⟨rest.toArray⟩:=by rw[hW];exact mY r6 (by omega) _
 have g7:w.grownBy w7 (some b):=by
  rw[hW];exact⟨g0.os,g0.tape,g0.output,by have:=g0.size;simpa[a0h]using this,λk hk hne=>(a0e _ _ _ _ (show k≠w3.heap.size by omega)).trans (g0.block k hk hne)⟩
 clear hW;have c0:=p7.c0;have c1:=p7.c1;have d0:=q7.c0;have d1:=q7.c1;have e0:=q7.fz 0;have e1:=q7.fz 1;go_wp2_with fail;obtain⟨w8,hw8⟩:∃w8,(w7.setCell ⟨w.heap.size,0,none⟩ (.int .i64 n)).setCell ⟨w.heap.size,1,none⟩ (.int .i64 x)=w8:=⟨_,rfl⟩;have p8:P2 w8 w.heap.size n x:=hw8▸q7.set n x;have r8:Rd w8 b ⟨rest.toArray⟩:=hw8▸mY (mY r7 (by omega) _) (by omega) _
 have g8:w.grownBy w8 (some b):=by
  refine⟨?_,?_,?_,?_,λk hk hne=>?_⟩
  ·rw[<-hw8];exact g7.os
  ·rw[<-hw8];exact g7.tape
  ·rw[<-hw8];exact g7.output
  ·have:=p8.lt;omega
  ·rw[<-hw8,a0e _ _ _ _ (show k≠w.heap.size by omega),a0e _ _ _ _ (show k≠w.heap.size by omega)];exact g7.block k hk hne
 rw[hw8];have z0:=p8.c0;have z1:=p8.c1;refine bodyPost_ret (v:= .agg #[.int .i64 n,.int .i64 x]) (by simp[results,Tryz.results168,go_sem,z0,z1]) rfl ?_;exact⟨rfl,r8,g8⟩
end
/- The reader's power where it gives up. -/
section
open Go.RowKit Go.Lib
theorem Rl {b:Nat} {s:ByteArray} {w:World} (h:Rd w b s) (h0:takeB 120 s.data.toList=none):
  Calls Tryz.prog 168 #[.pointer (some ⟨b,0,none⟩)] w (uQ b w):=by
 go_enter Tryz.func168,Tryz.ntmps168;go_upto_region 1 with(fail)
 refine aj (λw1 hW=>?_);have r1:Rd w1 b s:=by rw[hW];exact jT h _
 have g1:w.grownBy w1 (some b):=by rw[hW];exact je w b _
 clear hW;go_wp2_with fail;refine(jZ r1 h0).mono ?_;rintro e w2 ⟨rfl,_,g2⟩;go_wp2_with fail;refine(jr (b:=b)).mono ?_;rintro e w3 ⟨rfl,g3⟩;go_wp2_with fail;exact⟨rfl,rfl,aK g1 (aK g2 g3)⟩
theorem J6 {b:Nat} {s:ByteArray} {l1:List UInt8} {w:World} (h:Rd w b s) (hs:s.size<=65536) (h0:takeB 120 s.data.toList=some l1) (h1:gm l1=none) (hE:qW w) (hG:6<b):
  Calls Tryz.prog 168 #[.pointer (some ⟨b,0,none⟩)] w (uQ b w):=by
 have hl1:(⟨l1.toArray⟩:ByteArray).size<=65536:=by
  have e:=congrArg a0i (eY h0);have h9:=a0c s;have h8:=a0c (⟨l1.toArray⟩:ByteArray);simp only[a0p]at e;have h7:(⟨l1.toArray⟩:ByteArray).data.toList.length=l1.length:=rfl;omega
 go_enter Tryz.func168,Tryz.ntmps168;go_upto_region 1 with(fail)
 refine aj (λw1 hW=>?_);have r1:Rd w1 b s:=by rw[hW];exact jT h _
 have g1:w.grownBy w1 (some b):=by rw[hW];exact je w b _
 clear hW;go_wp2_with fail;refine(gy r1 h0).mono ?_;rintro e w2 ⟨rfl,r2,g2⟩;go_wp2_with fail;refine(Aw r2 hl1 (hE.keep (aK g1 g2) hG h.lt) hG h1).mono ?_;rintro e w3 ⟨rfl,g3⟩;go_wp2_with fail;exact⟨rfl,rfl,aK g1 (aK g2 g3)⟩
theorem J7 {b:Nat} {s:ByteArray} {n:Int} {l1 r l2:List UInt8} {w:World} (h:Rd w b s) (hs:s.size<=65536) (h0:takeB 120 s.data.toList=some l1) (h1:gm l1=some (n,r)) (h2:takeB 94 r=some l2) (h3:gm l2=none) (hE:qW w) (hG:6<b):
  Calls Tryz.prog 168 #[.pointer (some ⟨b,0,none⟩)] w (uQ b w):=by
 have hl1:(⟨l1.toArray⟩:ByteArray).size<=65536:=by
  have e:=congrArg a0i (eY h0);have h9:=a0c s;have h8:=a0c (⟨l1.toArray⟩:ByteArray);simp only[a0p]at e;have h7:(⟨l1.toArray⟩:ByteArray).data.toList.length=l1.length:=rfl;omega
 go_enter Tryz.func168,Tryz.ntmps168;go_upto_region 1 with(fail)
 refine aj (λw1 hW=>?_);have r1:Rd w1 b s:=by rw[hW];exact jT h _
 have g1:w.grownBy w1 (some b):=by rw[hW];exact je w b _
 clear hW;go_wp2_with fail;refine(gy r1 h0).mono ?_;rintro e w2 ⟨rfl,r2,g2⟩;go_wp2_with fail;refine(pJ r2 hl1 h1).mono ?_;rintro e w3 ⟨rfl,r3,g3⟩;go_upto_region 4 with(fail)
 refine aj (λw4 hW=>?_);have r4:Rd w4 b ⟨r.toArray⟩:=by rw[hW];exact jT r3 _
 have g4:w3.grownBy w4 (some b):=by rw[hW];exact je w3 b _
 clear hW;go_wp2_with fail;have hl2:(⟨l2.toArray⟩:ByteArray).size<=65536:=uY hs (a0q (iH h2) (a0q (rU h1) (iH h0)));refine(gy r4 h2).mono ?_;rintro e w5 ⟨rfl,r5,g5⟩;go_wp2_with fail;refine(Aw r5 hl2 (hE.keep (aK g1 (aK g2 (aK g3 (aK g4 g5)))) hG h.lt) hG h3).mono ?_;rintro e w6 ⟨rfl,g6⟩;go_wp2_with fail;exact⟨rfl,rfl,aK g1 (aK g2 (aK g3 (aK g4 (aK g5 g6))))⟩
theorem J8 {b:Nat} {s:ByteArray} {n:Int} {l1 r l2 rest:List UInt8} {w:World} (h:Rd w b s) (hs:s.size<=65536) (h0:takeB 120 s.data.toList=some l1) (h1:gm l1=some (n,r)) (h2:takeB 94 r=some l2) (h3:gm l2=some (1,rest)):
  Calls Tryz.prog 168 #[.pointer (some ⟨b,0,none⟩)] w (uQ b w):=by
 have hb:=h.lt
 have hl1:(⟨l1.toArray⟩:ByteArray).size<=65536:=by
  have e:=congrArg a0i (eY h0);have h9:=a0c s;have h8:=a0c (⟨l1.toArray⟩:ByteArray);simp only[a0p]at e;have h7:(⟨l1.toArray⟩:ByteArray).data.toList.length=l1.length:=rfl;omega
 go_enter Tryz.func168,Tryz.ntmps168;go_upto_region 1 with(fail)
 refine aj (λw1 hW=>?_);have r1:Rd w1 b s:=by rw[hW];exact jT h _
 have p1:P2 w1 w.heap.size 0 0:=by rw[hW];exact pK w 0 0
 have g1:w.grownBy w1 (some b):=by rw[hW];exact je w b _
 clear hW;go_wp2_with fail;refine(gy r1 h0).mono ?_;rintro e w2 ⟨rfl,r2,g2⟩;have p2:=p1.keep g2 (by omega);go_wp2_with fail;refine(pJ r2 hl1 h1).mono ?_;rintro e w3 ⟨rfl,r3,g3⟩;have p3:=p2.keep g3 (by omega);go_upto_region 4 with(fail)
 refine aj (λw4 hW=>?_);have r4:Rd w4 b ⟨r.toArray⟩:=by rw[hW];exact jT r3 _
 have p4:P2 w4 w3.heap.size n 1:=by rw[hW];exact pK w3 n 1
 have g4:w3.grownBy w4 (some b):=by rw[hW];exact je w3 b _
 have hlt:b<w3.heap.size:=r3.lt;have hN:w.heap.size<w3.heap.size:=p3.lt;clear hW;go_wp2_with fail;have hl2:(⟨l2.toArray⟩:ByteArray).size<=65536:=uY hs (a0q (iH h2) (a0q (rU h1) (iH h0)));refine(gy r4 h2).mono ?_;rintro e w5 ⟨rfl,r5,g5⟩;have p5:=p4.keep g5 (by omega);have hM:w3.heap.size<w5.heap.size:=p5.lt;go_wp2_with fail;refine(pJ r5 hl2 h3).mono ?_;rintro e w6 ⟨rfl,_,g6⟩;have p6:=p5.keep g6 (by omega);have f1:=p6.fz 1;have u1:=p6.c1;have g0:=aK g1 (aK g2 (aK g3 (aK g4 (aK g5 g6))));go_upto_region 6 with(fail)
 refine aj (λw7 hW=>?_);have p7:P2 w7 w3.heap.size n 1:=by rw[hW];exact p6.set1 1
 have g7:w.grownBy w7 (some b):=by
  rw[hW];exact⟨g0.os,g0.tape,g0.output,by have:=g0.size;simpa[a0h]using this,λk hk hne=>(a0e _ _ _ _ (show k≠w3.heap.size by omega)).trans (g0.block k hk hne)⟩
 clear hW;have c0:=p7.c0;have c1:=p7.c1;go_wp2_with fail;refine(jr (b:=b)).mono ?_;rintro e w8 ⟨rfl,g8⟩;go_wp2_with fail;exact⟨rfl,rfl,aK g7 g8⟩
theorem vZ {b:Nat} {s:ByteArray} {v:Int×Int} {rest:List UInt8} {w:World} (h:Rd w b s) (hs:s.size<=65536) (hd:pu s.data.toList=some (v,rest)):
  Calls Tryz.prog 168 #[.pointer (some ⟨b,0,none⟩)] w (yJ b (.agg #[.int .i64 v.1,.int .i64 v.2]) ⟨rest.toArray⟩ w):=by
 unfold pu at hd;obtain⟨l1,h0,hd⟩:=a0v.1 hd;obtain⟨⟨n,r⟩,h1,hd⟩:=a0v.1 hd;split at hd
 ·rename_i h2;injection hd with hd
  injection hd with e1 e2
  subst e1 e2;exact Ny h hs h0 h1 h2
 ·rename_i l2 h2;obtain⟨⟨x,r2⟩,h3,hd⟩:=a0v.1 hd;split at hd
  ·cases hd
  ·rename_i hx;injection hd with hd
   injection hd with e1 e2
   subst e1 e2;exact NA h hs h0 h1 h2 h3 hx
theorem qz {b:Nat} {s:ByteArray} {w:World} (h:Rd w b s) (hs:s.size<=65536) (hE:qW w) (hG:6<b) (hd:pu s.data.toList=none):
  Calls Tryz.prog 168 #[.pointer (some ⟨b,0,none⟩)] w (uQ b w):=by
 unfold pu at hd;cases h0:takeB 120 s.data.toList with
 |none=>exact Rl h h0
 |some l1=>
  rw[h0,a0w]at hd;cases h1:gm l1 with
  |none=>exact J6 h hs h0 h1 hE hG
  |some a=>
   obtain⟨n,r⟩:=a;rw[h1,a0w]at hd;simp only at hd;cases h2:takeB 94 r with
   |none=>rw[h2]at hd;cases hd
   |some l2=>
    rw[h2]at hd;simp only at hd;cases h3:gm l2 with
    |none=>exact J7 h hs h0 h1 h2 h3 hE hG
    |some c=>
     obtain⟨x,r2⟩:=c;rw[h3,a0w]at hd;by_cases hx:x=1
     ·subst hx;exact J8 h hs h0 h1 h2 h3
     ·simp only at hd;rw[if_neg hx]at hd;cases hd
end
/- The reader's numbers in plain words: a 1 ahead of digits; how great such numbers are. -/
section
open Go.Lib
theorem one_num {d:List UInt8} (h:dJ d=true):J9 (49::d)=true/\ Ka (49::d)=(10:Int)^d.length+(aR d:Int):=by
 have hp:hasPrefix (49::d) [45]=false:=by simp[hasPrefix,a0n]
 have hu:fw (49::d)=49::d:=by unfold fw trimPrefix;rw[if_neg (by rw[hp];decide)]
 refine⟨?_,?_⟩
 ·rw[rV,hu];exact⟨by simp,by rw[eZ,h];rfl,.inl (by simp)⟩
 ·unfold Ka;rw[hp,hu,jw];show(((49-48)*10^d.length+aR d:Nat):Int)=_;rw[Int.natCast_add,Nat.one_mul,Int.natCast_pow];rfl
theorem JM {N:Nat} (h:N<=1000):Bd ((10:Int)^N) 104:=by
 unfold Bd;rw[Int.natAbs_pow];exact Nat.lt_of_le_of_lt (a0u (by decide) h) (by decide+kernel)
theorem Ah {d:List UInt8} (h:dJ d=true) (hl:d.length<=9000):Bd (aR d:Int) 1000:=by
 unfold Bd;rw[Int.natAbs_natCast];exact a0r (tN h) (a0q (a0u (by decide) hl) (by decide+kernel))
theorem QC {d:List UInt8} {k z:Nat}:((aR (d.take k):Int)-1)*10^z+(10^z+(aR ((d.drop k).take z):Int))=(aR (d.take (k+z)):Int)∨((d.drop k).take z).length≠z:=by
 by_cases h:((d.drop k).take z).length=z
 ·left
  rw[show d.take (k+z)=d.take k++(d.drop k).take z by rw[List.take_add],lK,h,Int.natCast_add,Int.natCast_mul,Int.natCast_pow];have e:((10:Nat):Int)=10:=rfl;rw[e]
  grind
 ·exact .inr h
end
end Go.Proofs.YtmenbpmciblnlaaGreatDoor
