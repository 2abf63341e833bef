import Derived.Test.YtmenbpmciblnlaaGreatDoorGTx
set_option maxHeartbeats 0
set_option maxRecDepth 100000
open Array renaming getElem?_eq_some_iff->ah5,getElem?_modify->ah6
open Go renaming Value->ah8,World->ah7
open Go.Lib renaming hid->ai0,size_eq->ah9
open Go.RowKit.Below renaming heap_setCell->ai1
open Go.World renaming cell?->ai2,frozen?->ai3,setCell->ai4
open List renaming drop_zero->ai7,head?_cons->ai9,isPrefixOf->aj0,length->ai5,length_append->ai6,length_cons->aj2,size_toArray->aj1,take_left->ai8
open Nat renaming le_refl->aj5,le_trans->aj3,lt_of_lt_of_le->aj4,pow_le_pow_right->aj7,sub_zero->aj6
open Option renaming bind_eq_some_iff->aj8,bind_some->aj9
open Option.some renaming injEq->ak0
namespace Go.Proofs.YtmenbpmciblnlaaGreatDoor
section
open Go.RowKit Go.Lib
def Rd (w:ah7) (b:Nat) (s:ByteArray):Prop:=w.heap[b]? =some (.cells #[.string s] 111 (0,0))
theorem Rd.lt {w:ah7} {b:Nat} {s:ByteArray} (h:Rd w b s):b<w.heap.size:=by
 unfold Rd at h;exact(ah5.1 h).1
theorem Rd.cell {w:ah7} {b:Nat} {s:ByteArray} (h:Rd w b s):w.cell? ⟨b,0,none⟩=some (.string s):=by
 unfold Rd at h;simp[ai2,h]
theorem Rd.fz {w:ah7} {b:Nat} {s:ByteArray} (h:Rd w b s):w.frozen? ⟨b,0,none⟩=false:=by
 unfold Rd at h;simp[ai3,h]
theorem Rd.below {w w':ah7} {b:Nat} {s:ByteArray} (h:Rd w b s) (hb:Below w.heap.size w w'):Rd w' b s:=(hb.block b h.lt).trans h
theorem Rd.set {w:ah7} {b:Nat} {s:ByteArray} (h:Rd w b s) (u:ByteArray):Rd (w.setCell ⟨b,0,none⟩ (.string u)) b u:=by
 unfold Rd at h ⊢;simp[ai4,ah6,h]
theorem tJ (w:ah7) (b o:Nat) (v:ah8):w.grownBy (w.setCell ⟨b,o,none⟩ v) (some b):=
 ⟨rfl,rfl,rfl,by simp[ai4],λk _ hne=>ai1 _ _ _ _ (λe=>hne (by rw[e]))⟩
theorem aH {w v u:ah7} {r:Option Nat} (h:w.grownBy v r) (k:v.grownBy u r):w.grownBy u r:=
 ⟨k.os.trans h.os,k.tape.trans h.tape,k.output.trans h.output,aj3 h.size k.size,λi hi hne=>(k.block i (aj4 hi h.size) hne).trans (h.block i hi hne)⟩
theorem bZ {w w1:ah7} (r:Option Nat) (h:Below w.heap.size w w1):w.grownBy w1 r:=⟨h.os,h.tape,h.output,h.size,λk hk _=>h.block k hk⟩
def uz (b:Nat) (v:ah8) (u:ByteArray) (w:ah7) (e:Ending) (w':ah7):Prop:=e= .returned v/\ Rd w' b u/\ w.grownBy w' (some b)
theorem zk {b:Nat} {s c:ByteArray} {w:ah7} (h:Rd w b s):
  Calls Tryz.prog 110 #[.pointer (some ⟨b,0,none⟩),.string c] w (uz b (.bool (hasPrefix s.data.toList c.data.toList)) ⟨(trimPrefix s.data.toList c.data.toList).toArray⟩ w):=by
 have hc:=h.cell;go_enter Tryz.func110,Tryz.ntmps110;go_wp2_with fail;refine(M9 s c _).mono ?_;rintro e w1 ⟨rfl,hB⟩;have h1:=h.below hB;have hc1:=h1.cell;have hf1:=h1.fz;go_wp2_with fail;go_ret;exact⟨rfl,h1.set _,aH (bZ _ hB) (tJ _ _ _ _)⟩
def qO (b:Nat) (w:ah7) (e:Ending) (w':ah7):Prop:=e= .panicked [{ v:= .iface 32 (.int .i64 4),recovered:=false }]/\ w.grownBy w' (some b)
theorem gQ {b:Nat} {w:ah7}:
  Calls Tryz.prog 111 #[.pointer (some ⟨b,0,none⟩)] w (qO b w):=by
 go_enter Tryz.func111,Tryz.ntmps111;go_wp2_with fail;exact⟨rfl,rfl,bZ _ (Below.refl _ _)⟩
end
section
open Go.RowKit Go.Lib
theorem qW (w:ah7) (b:Nat):w.grownBy w.drew (some b):=⟨rfl,rfl,rfl,aj5 _,λ_ _ _=>rfl⟩
theorem nA (s:ByteArray) (a b:Nat):(s.extract a b).data.toList=(s.data.toList.drop a).take (b-a):=by
 have h:=ByteArray.extract_mk s.data.toList a b;have e:(ByteArray.mk s.data.toList.toArray)=s:=by simp
 rw[e]at h;rw[h]
theorem jJ {s:ByteArray} {b:List UInt8} (h:s.data.toList=b):(s.toList==b)=true:=by
 rw[ByteArray.toList_eq,h];simp
theorem iQ {s:ByteArray} {b:List UInt8} (h:s.data.toList≠b):(s.toList==b)=false:=by
 rw[ByteArray.toList_eq];simpa using h
theorem tB {b:Nat} {s:ByteArray} {d r:List UInt8} {w:ah7} (h:Rd w b s) (hs:s.size<=65536) (hd:kG s.data.toList=some (d,r)):
  Calls Tryz.prog 166 #[.pointer (some ⟨b,0,none⟩)] w (uz b (.string ⟨d.toArray⟩) ⟨r.toArray⟩ w):=by
 have hc:=h.cell
 have hdr:s.data.toList.dropWhile eG=r/\ s.data.toList.takeWhile eG=d:=by
  unfold kG at hd;split at hd
  ·cases hd
  ·injection hd with hd;injection hd with h1 h2;exact⟨h2,h1⟩
 have hl:s.size=d.length+r.length:=by
  have:=congrArg ai5 (fu hd).1;rw[ai6]at this;exact(ah9 s).trans this
 go_enter Tryz.func166,Tryz.ntmps166;go_wp2_with fail;refine(zl s _).mono ?_;rw[hdr.1];rintro e w1 ⟨rfl,hB⟩;have h1:=h.below hB;have hc1:=h1.cell;have hf1:=h1.fz;have i1:¬(((s.size:Nat):Int)-(r.length:Int)<0):=by omega
 have i2:((s.size:Nat):Int)-(r.length:Int)<=(s.size:Int):=by omega
 go_wp2_with fail;go_region;obtain⟨x,hx⟩:∃x:ByteArray,s.extract 0 d.length=x:=⟨_,rfl⟩
 have hxd:x.data.toList=d:=by
  rw[<-hx,nA,ai7,aj6,(fu hd).1,ai8]
 rw[hx];have hd0:d≠[]:=(fu hd).2.2;have e1:(x.toList==[])=false:=iQ (by rw[hxd];exact hd0)
 have hh:d≠[48]->d.head? ≠some 48:=λh1 h2=>by
  unfold kG at hd;rw[hdr.2]at hd;rw[if_pos (.inr ⟨h1,h2⟩)]at hd;cases hd
 have h2:Rd w1.drew b s:=h1;have hf2:=h2.fz;have hc2:=h2.cell;have Fb:Hid (x=⟨d.toArray⟩):=by rw[Hid,<-hxd]
 have HXD:=ai0 hxd;clear hx;by_cases hz:d=[48]
 ·have e2:(x.toList==[48])=true:=jJ (by rw[hxd];exact hz);go_wp2_with fail;go_ret;exact⟨by rw[<-Fb.o];rfl,h2.set _,aH (bZ _ hB) (aH (tJ w1 b 0 _) ⟨rfl,rfl,rfl,aj5 _,λ_ _ _=>rfl⟩)⟩
 ·have e2:(x.toList==[48])=false:=iQ (by rw[hxd];exact hz);go_wp2_with fail
  have e3:hasPrefix x.data.toList (⟨#[48]⟩:ByteArray).data.toList=false:=by
   rw[HXD.o];cases d with
   |nil=>rfl
   |cons a l=>
    have:=hh hz;simp only[ai9,ne_eq,ak0]at this;simp[hasPrefix,aj0];exact λe=>this e.symm
  have hq:=rZ x ⟨#[48]⟩ w1.drew;rw[e3]at hq;refine hq.mono ?_;rintro e w2 ⟨rfl,hB2⟩;have h3:Rd w2 b s:=h2.below hB2;have hf3:=h3.fz;have hc3:=h3.cell;go_wp2_with fail;go_ret;exact⟨by rw[<-Fb.o];rfl,h3.set _,aH (bZ _ hB) (aH (qW w1 b) (aH (bZ (w:=w1.drew) _ hB2) (tJ w2 b 0 _)))⟩
theorem wm {b:Nat} {s:ByteArray} {d r:List UInt8} {w:ah7} (h:Rd w b s) (hs:s.size<=65536) (hr:s.data.toList.dropWhile eG=r) (hd:s.data.toList.takeWhile eG=d) (hn:d=[]∨(d≠[48]/\ d.head? =some 48)):
  Calls Tryz.prog 166 #[.pointer (some ⟨b,0,none⟩)] w (qO b w):=by
 have hc:=h.cell;have hs2:s.data.toList=d++r:=by rw[<-hd,<-hr];exact List.takeWhile_append_dropWhile.symm
 have hl:s.size=d.length+r.length:=by
  have:=congrArg ai5 hs2;rw[ai6]at this;exact(ah9 s).trans this
 have HR:=ai0 hr;clear hr hd;go_enter Tryz.func166,Tryz.ntmps166;go_wp2_with fail;refine(zl s _).mono ?_;rw[HR.o];rintro e w1 ⟨rfl,hB⟩;have h1:=h.below hB;have hc1:=h1.cell;have hf1:=h1.fz;have i1:¬(((s.size:Nat):Int)-(r.length:Int)<0):=by omega
 have i2:((s.size:Nat):Int)-(r.length:Int)<=(s.size:Int):=by omega
 go_wp2_with fail;go_region;obtain⟨x,hx⟩:∃x:ByteArray,s.extract 0 d.length=x:=⟨_,rfl⟩
 have hxd:x.data.toList=d:=by
  rw[<-hx,nA,ai7,aj6,hs2,ai8]
 rw[hx];have HXD:=ai0 hxd;clear hx;by_cases h0:d=[]
 ·have e1:(x.toList==[])=true:=jJ (by rw[hxd];exact h0);go_wp2_with fail;refine(gQ (b:=b)).mono ?_;rintro e w2 ⟨rfl,hg⟩;go_wp2_with fail;exact⟨rfl,rfl,aH (bZ _ hB) (aH (qW w1 b) hg)⟩
 ·have hz:d≠[48]/\ d.head? =some 48:=hn.resolve_left h0;have e1:(x.toList==[])=false:=iQ (by rw[hxd];exact h0);have e2:(x.toList==[48])=false:=iQ (by rw[hxd];exact hz.1);go_wp2_with fail
  have e3:hasPrefix x.data.toList (⟨#[48]⟩:ByteArray).data.toList=true:=by
   rw[HXD.o];cases d with
   |nil=>exact absurd rfl h0
   |cons a l=>
    have:=hz.2;simp only[ai9,ak0]at this;simp[hasPrefix,aj0,this]
  have hq:=rZ x ⟨#[48]⟩ w1.drew;rw[e3]at hq;refine hq.mono ?_;rintro e w2 ⟨rfl,hB2⟩;go_wp2_with fail;refine(gQ (b:=b)).mono ?_;rintro e w3 ⟨rfl,hg⟩;go_wp2_with fail;exact⟨rfl,rfl,aH (bZ _ hB) (aH (qW w1 b) (aH (bZ (w:=w1.drew) _ hB2) hg))⟩
end
section
open Go.RowKit Go.Lib
theorem mI {b:Nat} {s:ByteArray} {n:Int} {r:List UInt8} {w:ah7} (h:Rd w b s) (hs:s.size<=65536) (hd:eL s.data.toList=some (n,r)):
  Calls Tryz.prog 207 #[.pointer (some ⟨b,0,none⟩)] w (uz b (.int .i64 n) ⟨r.toArray⟩ w):=by
 unfold eL at hd;obtain⟨⟨d,r0⟩,h1,h2⟩:=aj8.1 hd;obtain⟨e0,e1,e2⟩:=fu h1;split at h2
 ·rename_i hlt;injection h2 with h2
  injection h2 with h3 h4
  simp only at h3 h4 hlt;subst h4;have hall:cL d=true:=by rw[<-e1];exact vt _
  have hsz:d.length<=65536:=by
   have:=congrArg ai5 e0;rw[ai6]at this;have h9:=ah9 s;omega
  have hat:=λW=>QT ⟨d.toArray⟩ W (show d.toArray.size<=1000000 by rw[aj1];omega) hall e2 hlt
  rw[show aP (⟨d.toArray⟩:ByteArray).data.toList=aP d from rfl,h3]at hat;have HR:=ai0 h3;clear h3 e0 e1 e2 hall hlt hd;go_enter Tryz.func207,Tryz.ntmps207;go_wp2_with fail;refine(tB h hs h1).mono ?_;rintro e w1 ⟨rfl,hR,hg⟩;go_wp2_with fail;refine(hat _).mono ?_;rintro e w2 ⟨rfl,hB⟩;have hR2:=hR.below hB;go_wp2_with fail;go_ret;exact⟨rfl,hR2,aH hg (bZ _ hB)⟩
 ·cases h2
theorem FO {b:Nat} {s:ByteArray} {w:ah7} (h:Rd w b s) (hs:s.size<=65536) (hd:kG s.data.toList=none):
  Calls Tryz.prog 207 #[.pointer (some ⟨b,0,none⟩)] w (qO b w):=by
 have hn:s.data.toList.takeWhile eG=[]∨(s.data.toList.takeWhile eG≠[48]/\ (s.data.toList.takeWhile eG).head? =some 48):=by
  unfold kG at hd;split at hd
  ·assumption
  ·cases hd
 go_enter Tryz.func207,Tryz.ntmps207;go_wp2_with fail;refine(wm h hs rfl rfl hn).mono ?_;rintro e w1 ⟨rfl,hg⟩;go_wp2_with fail;exact⟨rfl,rfl,hg⟩
end
section
open Go.RowKit Go.Lib
theorem QU (c:UInt8) (l:List UInt8):hasPrefix (c::l) [c]=true/\ trimPrefix (c::l) [c]=l:=by
 have h:hasPrefix (c::l) [c]=true:=by simp[hasPrefix,aj0]
 exact⟨h,by unfold trimPrefix;rw[if_pos h];rfl⟩
theorem Na {c:UInt8} {l:List UInt8} (h:ez c l=none):hasPrefix l [c]=false/\ trimPrefix l [c]=l:=by
 have h1:hasPrefix l [c]=false:=by
  have:=FR.1 h;cases l with
  |nil=>rfl
  |cons a l=>
   simp only[ai9,ne_eq,ak0]at this;simp[hasPrefix,aj0];exact λe=>this e.symm
 exact⟨h1,by unfold trimPrefix;rw[if_neg (by rw[h1];decide)]⟩
theorem eN {b:Nat} {s:ByteArray} {c:UInt8} {l:List UInt8} {w:ah7} (h:Rd w b s) (e:ez c s.data.toList=some l):
  Calls Tryz.prog 110 #[.pointer (some ⟨b,0,none⟩),.string ⟨#[c]⟩] w (uz b (.bool true) ⟨l.toArray⟩ w):=by
 have h1:=zk (c:=⟨#[c]⟩) h;have h2:=QU c l;rw[<-dH e]at h2;rw[show(⟨#[c]⟩:ByteArray).data.toList=[c]from rfl,h2.1,h2.2]at h1;exact h1
theorem iC {b:Nat} {s:ByteArray} {c:UInt8} {w:ah7} (h:Rd w b s) (e:ez c s.data.toList=none):
  Calls Tryz.prog 110 #[.pointer (some ⟨b,0,none⟩),.string ⟨#[c]⟩] w (uz b (.bool false) s w):=by
 have h1:=zk (c:=⟨#[c]⟩) h;have h2:=Na e;rw[show(⟨#[c]⟩:ByteArray).data.toList=[c]from rfl,h2.1,h2.2]at h1;exact h1
end
section
open Go.RowKit Go.Lib
def P2 (w:ah7) (N:Nat) (x y:Int):Prop:=w.heap[N]? =some (.cells #[.int .i64 x,.int .i64 y] 72 (0,0))
theorem P2.c0 {w:ah7} {N:Nat} {x y:Int} (h:P2 w N x y):w.cell? ⟨N,0,none⟩=some (.int .i64 x):=by
 unfold P2 at h;simp[ai2,h]
theorem P2.c1 {w:ah7} {N:Nat} {x y:Int} (h:P2 w N x y):w.cell? ⟨N,1,none⟩=some (.int .i64 y):=by
 unfold P2 at h;simp[ai2,h]
theorem P2.fz {w:ah7} {N:Nat} {x y:Int} (h:P2 w N x y) (o:Nat):w.frozen? ⟨N,o,none⟩=false:=by
 unfold P2 at h;simp[ai3,h]
theorem P2.lt {w:ah7} {N:Nat} {x y:Int} (h:P2 w N x y):N<w.heap.size:=by
 unfold P2 at h;exact(ah5.1 h).1
theorem P2.ct {w w':ah7} {N b:Nat} {x y:Int} (h:P2 w N x y) (hg:w.grownBy w' (some b)) (hne:N≠b):P2 w' N x y:=(hg.block N h.lt (by simpa using hne)).trans h
theorem P2.set {w:ah7} {N:Nat} {x y:Int} (h:P2 w N x y) (a c:Int):P2 ((w.setCell ⟨N,0,none⟩ (.int .i64 a)).setCell ⟨N,1,none⟩ (.int .i64 c)) N a c:=by
 unfold P2 at h ⊢;simp[ai4,ah6,h]
theorem kF {w:ah7} {b N o:Nat} {s:ByteArray} (h:Rd w b s) (hne:N≠b) (u:ah8):Rd (w.setCell ⟨N,o,none⟩ u) b s:=(ai1 _ _ _ _ (λe=>hne e.symm)).trans h
theorem Am (w:ah7) (o:Obj) {k:Nat} (hk:k<w.heap.size):(w.alloc o).heap[k]? =w.heap[k]? :=by
 show(w.heap.push o)[k]? =_;rw[Array.getElem?_push,if_neg (by omega)]
theorem iv {w:ah7} {b:Nat} {s:ByteArray} (h:Rd w b s) (o:Obj):Rd (w.alloc o) b s:=(Am w o h.lt).trans h
theorem mJ (w:ah7) (x y:Int):P2 (w.alloc (.cells #[.int .i64 x,.int .i64 y] 72)) w.heap.size x y:=by
 show(w.heap.push _)[w.heap.size]? =_;rw[Array.getElem?_push_size]
theorem gF (w:ah7) (b:Nat) (o:Obj):w.grownBy (w.alloc o) (some b):=
 ⟨rfl,rfl,rfl,by show _<=(w.heap.push o).size;rw[Array.size_push];omega,λ_ hk _=>Am w o hk⟩
theorem JN {b:Nat} {s:ByteArray} {n:Int} {l1 r:List UInt8} {w:ah7} (h:Rd w b s) (hs:s.size<=65536) (h0:ez 120 s.data.toList=some l1) (h1:eL l1=some (n,r)) (h2:ez 94 r=none):
  Calls Tryz.prog 168 #[.pointer (some ⟨b,0,none⟩)] w (uz b (.agg #[.int .i64 n,.int .i64 1]) ⟨r.toArray⟩ w):=by
 have hb:=h.lt
 have hl1:(⟨l1.toArray⟩:ByteArray).size<=65536:=by
  have e:=congrArg ai5 (dH h0);have h9:=ah9 s;have h8:=ah9 (⟨l1.toArray⟩:ByteArray);simp only[aj2]at e;have h7:(⟨l1.toArray⟩:ByteArray).data.toList.length=l1.length:=rfl;omega
 go_enter Tryz.func168,Tryz.ntmps168;go_upto_region 1 with(fail)
 refine aj (λw1 hW=>?_);have r1:Rd w1 b s:=by rw[hW];exact iv h _
 have p1:P2 w1 w.heap.size 0 0:=by rw[hW];exact mJ w 0 0
 have g1:w.grownBy w1 (some b):=by rw[hW];exact gF w b _
 clear hW;go_wp2_with fail;refine(eN r1 h0).mono ?_;rintro e w2 ⟨rfl,r2,g2⟩;have p2:=p1.ct g2 (by omega);go_wp2_with fail;refine(mI r2 hl1 h1).mono ?_;rintro e w3 ⟨rfl,r3,g3⟩;have p3:=p2.ct g3 (by omega);go_upto_region 4 with(fail)
 refine aj (λw4 hW=>?_);have r4:Rd w4 b ⟨r.toArray⟩:=by rw[hW];exact iv r3 _
 have p4:P2 w4 w3.heap.size n 1:=by rw[hW];exact mJ w3 n 1
 have g4:w3.grownBy w4 (some b):=by rw[hW];exact gF w3 b _
 have q4:=p3.ct g4 (by omega);have hlt:b<w3.heap.size:=r3.lt;have hN:w.heap.size<w3.heap.size:=p3.lt;clear hW;go_wp2_with fail;refine(iC r4 h2).mono ?_;rintro e w5 ⟨rfl,r5,g5⟩;have p5:=p4.ct g5 (by omega);have q5:=q4.ct g5 (by omega);have c0:=p5.c0;have c1:=p5.c1;have d0:=q5.c0;have d1:=q5.c1;have f0:=q5.fz 0;have f1:=q5.fz 1;go_wp2_with fail;obtain⟨w6,UB⟩:∃w6,(w5.setCell ⟨w.heap.size,0,none⟩ (.int .i64 n)).setCell ⟨w.heap.size,1,none⟩ (.int .i64 1)=w6:=⟨_,rfl⟩;have p6:P2 w6 w.heap.size n 1:=UB▸q5.set n 1;have r6:Rd w6 b ⟨r.toArray⟩:=UB▸kF (kF r5 (by omega) _) (by omega) _
 have g6:w.grownBy w6 (some b):=by
  have g5':=aH g1 (aH g2 (aH g3 (aH g4 g5)));refine⟨?_,?_,?_,?_,λk hk hne=>?_⟩
  ·rw[<-UB];exact g5'.os
  ·rw[<-UB];exact g5'.tape
  ·rw[<-UB];exact g5'.output
  ·have:=p6.lt;omega
  ·rw[<-UB,ai1 _ _ _ _ (show k≠w.heap.size by omega),ai1 _ _ _ _ (show k≠w.heap.size by omega)];exact g5'.block k hk hne
 rw[UB];have z0:=p6.c0;have z1:=p6.c1;refine bodyPost_ret (v:= .agg #[.int .i64 n,.int .i64 1]) (by simp[results,Tryz.results168,go_sem,z0,z1]) rfl ?_;exact⟨rfl,r6,g6⟩
end
section
open Go.RowKit Go.Lib
def om (w:ah7):Prop:=∃te pe,w.cell? ⟨6,0,none⟩=some (.iface te pe)
theorem om.ct {w w':ah7} {b:Nat} (h:om w) (hg:w.grownBy w' (some b)) (hb:6<b) (hw:b<w.heap.size):om w':=by
 obtain⟨te,pe,h⟩:=h;exact⟨te,pe,(World.cell?_of_block (hg.block _ (by show 6<_;omega) (by simp;omega))).trans h⟩
theorem JO {b:Nat} {s:ByteArray} {d r:List UInt8} {w:ah7} (h:Rd w b s) (hs:s.size<=65536) (hE:om w) (hb:6<b) (hd:kG s.data.toList=some (d,r)) (hf:9223372036854775808<=aP d):
  Calls Tryz.prog 207 #[.pointer (some ⟨b,0,none⟩)] w (qO b w):=by
 have hlt:=h.lt;obtain⟨e0,e1,e2⟩:=fu hd;have hall:cL d=true:=by rw[<-e1];exact vt _
 have hsz:d.length<=65536:=by
  have:=congrArg ai5 e0;rw[ai6]at this;have h9:=ah9 s;omega
 have hat:atoiAll (⟨d.toArray⟩:ByteArray).data.toList= .range:=by
  show atoiAll d= .range;rw[uA hall e2,if_neg (by omega)]
 go_enter Tryz.func207,Tryz.ntmps207;go_wp2_with fail;refine(tB h hs hd).mono ?_;rintro e w1 ⟨rfl,hR,hg⟩;obtain⟨te,pe,hE1⟩:=hE.ct hg hb hlt;go_wp2_with fail;refine(Any.strconv_Atoi_range Tryz.C7 ⟨d.toArray⟩ (show d.toArray.size<=281474976710656 by rw[aj1];omega) hat (.iface te pe) _ hE1 (.inr ⟨te,pe,rfl⟩)).mono ?_;rintro e w2 ⟨N,rfl,_,_,hB⟩;go_wp2_with fail;refine(gQ (b:=b)).mono ?_;rintro e w3 ⟨rfl,hg3⟩;go_wp2_with fail;exact⟨rfl,rfl,aH hg (aH (bZ _ hB) hg3)⟩
theorem wF {b:Nat} {s:ByteArray} {w:ah7} (h:Rd w b s) (hs:s.size<=65536) (hE:om w) (hb:6<b) (hd:eL s.data.toList=none):
  Calls Tryz.prog 207 #[.pointer (some ⟨b,0,none⟩)] w (qO b w):=by
 cases h1:kG s.data.toList with
 |none=>exact FO h hs h1
 |some a=>
  obtain⟨d,r⟩:=a;refine JO h hs hE hb h1 ?_;unfold eL at hd;rw[h1,aj9]at hd;split at hd
  ·cases hd
  ·rename_i hh;simp only at hh;omega
end
section
open Go.RowKit Go.Lib
theorem qX {s:ByteArray} {l:List UInt8} (hs:s.size<=65536) (h:l.length<=s.data.toList.length):(⟨l.toArray⟩:ByteArray).size<=65536:=by
 have h9:=ah9 s;have h8:=ah9 (⟨l.toArray⟩:ByteArray);have h7:(⟨l.toArray⟩:ByteArray).data.toList.length=l.length:=rfl;omega
theorem oU {l r:List UInt8} {n:Int} (h:eL l=some (n,r)):r.length<=l.length:=by
 have:=congrArg ai5 (lQ h).1;rw[ai6]at this;omega
theorem fN {c:UInt8} {l r:List UInt8} (h:ez c l=some r):r.length<=l.length:=by
 have:=congrArg ai5 (dH h);rw[aj2]at this;omega
theorem P2.ZX {w:ah7} {N:Nat} {x y:Int} (h:P2 w N x y) (c:Int):P2 (w.setCell ⟨N,1,none⟩ (.int .i64 c)) N x c:=by
 unfold P2 at h ⊢;simp[ai4,ah6,h]
theorem P2.dy {w:ah7} {N M o:Nat} {x y:Int} (h:P2 w N x y) (hne:N≠M) (u:ah8):P2 (w.setCell ⟨M,o,none⟩ u) N x y:=(ai1 _ _ _ _ hne).trans h
theorem JP {b:Nat} {s:ByteArray} {n x:Int} {l1 r l2 rest:List UInt8} {w:ah7} (h:Rd w b s) (hs:s.size<=65536) (h0:ez 120 s.data.toList=some l1) (h1:eL l1=some (n,r)) (h2:ez 94 r=some l2) (h3:eL l2=some (x,rest)) (hx:x≠1):
  Calls Tryz.prog 168 #[.pointer (some ⟨b,0,none⟩)] w (uz b (.agg #[.int .i64 n,.int .i64 x]) ⟨rest.toArray⟩ w):=by
 have hb:=h.lt
 have hl1:(⟨l1.toArray⟩:ByteArray).size<=65536:=by
  have e:=congrArg ai5 (dH h0);have h9:=ah9 s;have h8:=ah9 (⟨l1.toArray⟩:ByteArray);simp only[aj2]at e;have h7:(⟨l1.toArray⟩:ByteArray).data.toList.length=l1.length:=rfl;omega
 go_enter Tryz.func168,Tryz.ntmps168;go_upto_region 1 with(fail)
 refine aj (λw1 hW=>?_);have r1:Rd w1 b s:=by rw[hW];exact iv h _
 have p1:P2 w1 w.heap.size 0 0:=by rw[hW];exact mJ w 0 0
 have g1:w.grownBy w1 (some b):=by rw[hW];exact gF w b _
 clear hW;go_wp2_with fail;refine(eN r1 h0).mono ?_;rintro e w2 ⟨rfl,r2,g2⟩;have p2:=p1.ct g2 (by omega);go_wp2_with fail;refine(mI r2 hl1 h1).mono ?_;rintro e w3 ⟨rfl,r3,g3⟩;have p3:=p2.ct g3 (by omega);go_upto_region 4 with(fail)
 refine aj (λw4 hW=>?_);have r4:Rd w4 b ⟨r.toArray⟩:=by rw[hW];exact iv r3 _
 have p4:P2 w4 w3.heap.size n 1:=by rw[hW];exact mJ w3 n 1
 have g4:w3.grownBy w4 (some b):=by rw[hW];exact gF w3 b _
 have q4:=p3.ct g4 (by omega);have hlt:b<w3.heap.size:=r3.lt;have hN:w.heap.size<w3.heap.size:=p3.lt;clear hW;go_wp2_with fail;have hl2:(⟨l2.toArray⟩:ByteArray).size<=65536:=qX hs (aj3 (fN h2) (aj3 (oU h1) (fN h0)));refine(eN r4 h2).mono ?_;rintro e w5 ⟨rfl,r5,g5⟩;have p5:=p4.ct g5 (by omega);have q5:=q4.ct g5 (by omega);have hM:w3.heap.size<w5.heap.size:=p5.lt;go_wp2_with fail;refine(mI r5 hl2 h3).mono ?_;rintro e w6 ⟨rfl,r6,g6⟩;have p6:=p5.ct g6 (by omega);have q6:=q5.ct g6 (by omega);have f1:=p6.fz 1;have u1:=p6.c1;have g0:=aH g1 (aH g2 (aH g3 (aH g4 (aH g5 g6))));go_upto_region 6 with(fail)
 refine aj (λw7 hW=>?_);have p7:P2 w7 w3.heap.size n x:=by rw[hW];exact p6.ZX x
 have q7:P2 w7 w.heap.size 0 0:=by rw[hW];exact q6.dy (by omega) _
 have r7:Rd w7 b ⟨rest.toArray⟩:=by rw[hW];exact kF r6 (by omega) _
 have g7:w.grownBy w7 (some b):=by
  rw[hW];exact⟨g0.os,g0.tape,g0.output,by have:=g0.size;simpa[ai4]using this,λk hk hne=>(ai1 _ _ _ _ (show k≠w3.heap.size by omega)).trans (g0.block k hk hne)⟩
 clear hW;have c0:=p7.c0;have c1:=p7.c1;have d0:=q7.c0;have d1:=q7.c1;have e0:=q7.fz 0;have e1:=q7.fz 1;go_wp2_with fail;obtain⟨w8,hw8⟩:∃w8,(w7.setCell ⟨w.heap.size,0,none⟩ (.int .i64 n)).setCell ⟨w.heap.size,1,none⟩ (.int .i64 x)=w8:=⟨_,rfl⟩;have p8:P2 w8 w.heap.size n x:=hw8▸q7.set n x;have r8:Rd w8 b ⟨rest.toArray⟩:=hw8▸kF (kF r7 (by omega) _) (by omega) _
 have g8:w.grownBy w8 (some b):=by
  refine⟨?_,?_,?_,?_,λk hk hne=>?_⟩
  ·rw[<-hw8];exact g7.os
  ·rw[<-hw8];exact g7.tape
  ·rw[<-hw8];exact g7.output
  ·have:=p8.lt;omega
  ·rw[<-hw8,ai1 _ _ _ _ (show k≠w.heap.size by omega),ai1 _ _ _ _ (show k≠w.heap.size by omega)];exact g7.block k hk hne
 rw[hw8];have z0:=p8.c0;have z1:=p8.c1;refine bodyPost_ret (v:= .agg #[.int .i64 n,.int .i64 x]) (by simp[results,Tryz.results168,go_sem,z0,z1]) rfl ?_;exact⟨rfl,r8,g8⟩
end
section
open Go.RowKit Go.Lib
theorem Nc {b:Nat} {s:ByteArray} {w:ah7} (h:Rd w b s) (h0:ez 120 s.data.toList=none):
  Calls Tryz.prog 168 #[.pointer (some ⟨b,0,none⟩)] w (qO b w):=by
 go_enter Tryz.func168,Tryz.ntmps168;go_upto_region 1 with(fail)
 refine aj (λw1 hW=>?_);have r1:Rd w1 b s:=by rw[hW];exact iv h _
 have g1:w.grownBy w1 (some b):=by rw[hW];exact gF w b _
 clear hW;go_wp2_with fail;refine(iC r1 h0).mono ?_;rintro e w2 ⟨rfl,_,g2⟩;go_wp2_with fail;refine(gQ (b:=b)).mono ?_;rintro e w3 ⟨rfl,g3⟩;go_wp2_with fail;exact⟨rfl,rfl,aH g1 (aH g2 g3)⟩
theorem FT {b:Nat} {s:ByteArray} {l1:List UInt8} {w:ah7} (h:Rd w b s) (hs:s.size<=65536) (h0:ez 120 s.data.toList=some l1) (h1:eL l1=none) (hE:om w) (hG:6<b):
  Calls Tryz.prog 168 #[.pointer (some ⟨b,0,none⟩)] w (qO b w):=by
 have hl1:(⟨l1.toArray⟩:ByteArray).size<=65536:=by
  have e:=congrArg ai5 (dH h0);have h9:=ah9 s;have h8:=ah9 (⟨l1.toArray⟩:ByteArray);simp only[aj2]at e;have h7:(⟨l1.toArray⟩:ByteArray).data.toList.length=l1.length:=rfl;omega
 go_enter Tryz.func168,Tryz.ntmps168;go_upto_region 1 with(fail)
 refine aj (λw1 hW=>?_);have r1:Rd w1 b s:=by rw[hW];exact iv h _
 have g1:w.grownBy w1 (some b):=by rw[hW];exact gF w b _
 clear hW;go_wp2_with fail;refine(eN r1 h0).mono ?_;rintro e w2 ⟨rfl,r2,g2⟩;go_wp2_with fail;refine(wF r2 hl1 (hE.ct (aH g1 g2) hG h.lt) hG h1).mono ?_;rintro e w3 ⟨rfl,g3⟩;go_wp2_with fail;exact⟨rfl,rfl,aH g1 (aH g2 g3)⟩
theorem FU {b:Nat} {s:ByteArray} {n:Int} {l1 r l2:List UInt8} {w:ah7} (h:Rd w b s) (hs:s.size<=65536) (h0:ez 120 s.data.toList=some l1) (h1:eL l1=some (n,r)) (h2:ez 94 r=some l2) (h3:eL l2=none) (hE:om w) (hG:6<b):
  Calls Tryz.prog 168 #[.pointer (some ⟨b,0,none⟩)] w (qO b w):=by
 have hl1:(⟨l1.toArray⟩:ByteArray).size<=65536:=by
  have e:=congrArg ai5 (dH h0);have h9:=ah9 s;have h8:=ah9 (⟨l1.toArray⟩:ByteArray);simp only[aj2]at e;have h7:(⟨l1.toArray⟩:ByteArray).data.toList.length=l1.length:=rfl;omega
 go_enter Tryz.func168,Tryz.ntmps168;go_upto_region 1 with(fail)
 refine aj (λw1 hW=>?_);have r1:Rd w1 b s:=by rw[hW];exact iv h _
 have g1:w.grownBy w1 (some b):=by rw[hW];exact gF w b _
 clear hW;go_wp2_with fail;refine(eN r1 h0).mono ?_;rintro e w2 ⟨rfl,r2,g2⟩;go_wp2_with fail;refine(mI r2 hl1 h1).mono ?_;rintro e w3 ⟨rfl,r3,g3⟩;go_upto_region 4 with(fail)
 refine aj (λw4 hW=>?_);have r4:Rd w4 b ⟨r.toArray⟩:=by rw[hW];exact iv r3 _
 have g4:w3.grownBy w4 (some b):=by rw[hW];exact gF w3 b _
 clear hW;go_wp2_with fail;have hl2:(⟨l2.toArray⟩:ByteArray).size<=65536:=qX hs (aj3 (fN h2) (aj3 (oU h1) (fN h0)));refine(eN r4 h2).mono ?_;rintro e w5 ⟨rfl,r5,g5⟩;go_wp2_with fail;refine(wF r5 hl2 (hE.ct (aH g1 (aH g2 (aH g3 (aH g4 g5)))) hG h.lt) hG h3).mono ?_;rintro e w6 ⟨rfl,g6⟩;go_wp2_with fail;exact⟨rfl,rfl,aH g1 (aH g2 (aH g3 (aH g4 (aH g5 g6))))⟩
theorem FV {b:Nat} {s:ByteArray} {n:Int} {l1 r l2 rest:List UInt8} {w:ah7} (h:Rd w b s) (hs:s.size<=65536) (h0:ez 120 s.data.toList=some l1) (h1:eL l1=some (n,r)) (h2:ez 94 r=some l2) (h3:eL l2=some (1,rest)):
  Calls Tryz.prog 168 #[.pointer (some ⟨b,0,none⟩)] w (qO b w):=by
 have hb:=h.lt
 have hl1:(⟨l1.toArray⟩:ByteArray).size<=65536:=by
  have e:=congrArg ai5 (dH h0);have h9:=ah9 s;have h8:=ah9 (⟨l1.toArray⟩:ByteArray);simp only[aj2]at e;have h7:(⟨l1.toArray⟩:ByteArray).data.toList.length=l1.length:=rfl;omega
 go_enter Tryz.func168,Tryz.ntmps168;go_upto_region 1 with(fail)
 refine aj (λw1 hW=>?_);have r1:Rd w1 b s:=by rw[hW];exact iv h _
 have p1:P2 w1 w.heap.size 0 0:=by rw[hW];exact mJ w 0 0
 have g1:w.grownBy w1 (some b):=by rw[hW];exact gF w b _
 clear hW;go_wp2_with fail;refine(eN r1 h0).mono ?_;rintro e w2 ⟨rfl,r2,g2⟩;have p2:=p1.ct g2 (by omega);go_wp2_with fail;refine(mI r2 hl1 h1).mono ?_;rintro e w3 ⟨rfl,r3,g3⟩;have p3:=p2.ct g3 (by omega);go_upto_region 4 with(fail)
 refine aj (λw4 hW=>?_);have r4:Rd w4 b ⟨r.toArray⟩:=by rw[hW];exact iv r3 _
 have p4:P2 w4 w3.heap.size n 1:=by rw[hW];exact mJ w3 n 1
 have g4:w3.grownBy w4 (some b):=by rw[hW];exact gF w3 b _
 have hlt:b<w3.heap.size:=r3.lt;have hN:w.heap.size<w3.heap.size:=p3.lt;clear hW;go_wp2_with fail;have hl2:(⟨l2.toArray⟩:ByteArray).size<=65536:=qX hs (aj3 (fN h2) (aj3 (oU h1) (fN h0)));refine(eN r4 h2).mono ?_;rintro e w5 ⟨rfl,r5,g5⟩;have p5:=p4.ct g5 (by omega);have hM:w3.heap.size<w5.heap.size:=p5.lt;go_wp2_with fail;refine(mI r5 hl2 h3).mono ?_;rintro e w6 ⟨rfl,_,g6⟩;have p6:=p5.ct g6 (by omega);have f1:=p6.fz 1;have u1:=p6.c1;have g0:=aH g1 (aH g2 (aH g3 (aH g4 (aH g5 g6))));go_upto_region 6 with(fail)
 refine aj (λw7 hW=>?_);have p7:P2 w7 w3.heap.size n 1:=by rw[hW];exact p6.ZX 1
 have g7:w.grownBy w7 (some b):=by
  rw[hW];exact⟨g0.os,g0.tape,g0.output,by have:=g0.size;simpa[ai4]using this,λk hk hne=>(ai1 _ _ _ _ (show k≠w3.heap.size by omega)).trans (g0.block k hk hne)⟩
 clear hW;have c0:=p7.c0;have c1:=p7.c1;go_wp2_with fail;refine(gQ (b:=b)).mono ?_;rintro e w8 ⟨rfl,g8⟩;go_wp2_with fail;exact⟨rfl,rfl,aH g7 g8⟩
theorem se {b:Nat} {s:ByteArray} {v:Int×Int} {rest:List UInt8} {w:ah7} (h:Rd w b s) (hs:s.size<=65536) (hd:mC s.data.toList=some (v,rest)):
  Calls Tryz.prog 168 #[.pointer (some ⟨b,0,none⟩)] w (uz b (.agg #[.int .i64 v.1,.int .i64 v.2]) ⟨rest.toArray⟩ w):=by
 unfold mC at hd;obtain⟨l1,h0,hd⟩:=aj8.1 hd;obtain⟨⟨n,r⟩,h1,hd⟩:=aj8.1 hd;split at hd
 ·rename_i h2;injection hd with hd
  injection hd with e1 e2
  subst e1 e2;exact JN h hs h0 h1 h2
 ·rename_i l2 h2;obtain⟨⟨x,r2⟩,h3,hd⟩:=aj8.1 hd;split at hd
  ·cases hd
  ·rename_i hx;injection hd with hd
   injection hd with e1 e2
   subst e1 e2;exact JP h hs h0 h1 h2 h3 hx
theorem nB {b:Nat} {s:ByteArray} {w:ah7} (h:Rd w b s) (hs:s.size<=65536) (hE:om w) (hG:6<b) (hd:mC s.data.toList=none):
  Calls Tryz.prog 168 #[.pointer (some ⟨b,0,none⟩)] w (qO b w):=by
 unfold mC at hd;cases h0:ez 120 s.data.toList with
 |none=>exact Nc h h0
 |some l1=>
  rw[h0,aj9]at hd;cases h1:eL l1 with
  |none=>exact FT h hs h0 h1 hE hG
  |some a=>
   obtain⟨n,r⟩:=a;rw[h1,aj9]at hd;simp only at hd;cases h2:ez 94 r with
   |none=>rw[h2]at hd;cases hd
   |some l2=>
    rw[h2]at hd;simp only at hd;cases h3:eL l2 with
    |none=>exact FU h hs h0 h1 h2 h3 hE hG
    |some c=>
     obtain⟨x,r2⟩:=c;rw[h3,aj9]at hd;by_cases hx:x=1
     ·subst hx;exact FV h hs h0 h1 h2 h3
     ·simp only at hd;rw[if_neg hx]at hd;cases hd
end
section
open Go.Lib
theorem SJ {d:List UInt8} (h:cL d=true):FW (49::d)=true/\ FX (49::d)=(10:Int)^d.length+(aP d:Int):=by
 have hp:hasPrefix (49::d) [45]=false:=by simp[hasPrefix,aj0]
 have hu:dX (49::d)=49::d:=by unfold dX trimPrefix;rw[if_neg (by rw[hp];decide)]
 refine⟨?_,?_⟩
 ·rw[oV,hu];exact⟨by simp,by rw[dI,h];rfl,.inl (by simp)⟩
 ·unfold FX;rw[hp,hu,gW];show(((49-48)*10^d.length+aP d:Nat):Int)=_;rw[Int.natCast_add,Nat.one_mul,Int.natCast_pow];rfl
theorem Fj {N:Nat} (h:N<=1000):Bd ((10:Int)^N) 104:=by
 unfold Bd;rw[Int.natAbs_pow];exact Nat.lt_of_le_of_lt (aj7 (by decide) h) (by decide+kernel)
theorem wj {d:List UInt8} (h:cL d=true) (hl:d.length<=9000):Bd (aP d:Int) 1000:=by
 unfold Bd;rw[Int.natAbs_natCast];exact aj4 (pZ h) (aj3 (aj7 (by decide) hl) (by decide+kernel))
theorem ME {d:List UInt8} {k z:Nat}:((aP (d.take k):Int)-1)*10^z+(10^z+(aP ((d.drop k).take z):Int))=(aP (d.take (k+z)):Int)∨((d.drop k).take z).length≠z:=by
 by_cases h:((d.drop k).take z).length=z
 ·left
  rw[show d.take (k+z)=d.take k++(d.drop k).take z by rw[List.take_add],jE,h,Int.natCast_add,Int.natCast_mul,Int.natCast_pow];have e:((10:Nat):Int)=10:=rfl;rw[e]
  grind
 ·exact .inr h
end
end Go.Proofs.YtmenbpmciblnlaaGreatDoor
