/- VRd, VRdD, VRdS, VRdT, VRdP, VRdF, VRdQ, VRdN, VRdMP -/
import Derived.Test.YtmenbpmciblnlaaGreatDoorGTx
import Derived.Laws.Strings2
set_option maxHeartbeats 40000000
set_option maxRecDepth 100000
/- The reader of texts: its one cell, and the contracts of its small methods. -/
namespace Go.Proofs.YtmenbpmciblnlaaGreatDoor
open Go.RowKit Go.Lib
def Rd (w:World) (b:Nat) (s:ByteArray):Prop:=w.heap[b]? =some (.cells #[.string s] 111 (0,0))
theorem Rd.lt {w:World} {b:Nat} {s:ByteArray} (h:Rd w b s):b<w.heap.size:=by
 unfold Rd at h;exact(Array.getElem?_eq_some_iff.1 h).1
theorem Rd.cell {w:World} {b:Nat} {s:ByteArray} (h:Rd w b s):w.cell? ⟨b,0,none⟩=some (.string s):=by
 unfold Rd at h;simp[World.cell?,h]
theorem Rd.fz {w:World} {b:Nat} {s:ByteArray} (h:Rd w b s):w.frozen? ⟨b,0,none⟩=false:=by
 unfold Rd at h;simp[World.frozen?,h]
theorem Rd.below {w w':World} {b:Nat} {s:ByteArray} (h:Rd w b s) (hb:Below w.heap.size w w'):Rd w' b s:=(hb.block b h.lt).trans h
theorem Rd.set {w:World} {b:Nat} {s:ByteArray} (h:Rd w b s) (u:ByteArray):Rd (w.setCell ⟨b,0,none⟩ (.string u)) b u:=by
 unfold Rd at h ⊢;simp[World.setCell,Array.getElem?_modify,h]
theorem vO (w:World) (b o:Nat) (v:Value):w.grownBy (w.setCell ⟨b,o,none⟩ v) (some b):=
 ⟨rfl,rfl,rfl,by simp[World.setCell],fun k _ hne=>Below.heap_setCell _ _ _ _ (fun e=>hne (by rw[e]))⟩
theorem aG {w v u:World} {r:Option Nat} (h:w.grownBy v r) (k:v.grownBy u r):w.grownBy u r:=
 ⟨k.os.trans h.os,k.tape.trans h.tape,k.output.trans h.output,Nat.le_trans h.size k.size,fun i hi hne=>(k.block i (Nat.lt_of_lt_of_le hi h.size) hne).trans (h.block i hi hne)⟩
theorem bU {w w1:World} (r:Option Nat) (h:Below w.heap.size w w1):w.grownBy w1 r:=⟨h.os,h.tape,h.output,h.size,fun k hk _=>h.block k hk⟩
def wK (b:Nat) (v:Value) (u:ByteArray) (w:World) (e:Ending) (w':World):Prop:=e= .returned v/\ Rd w' b u/\ w.grownBy w' (some b)
theorem AZ {b:Nat} {s c:ByteArray} {w:World} (h:Rd w b s):
  Calls Tryz.prog 110 #[.pointer (some ⟨b,0,none⟩),.string c] w (wK b (.bool (hasPrefix s.data.toList c.data.toList)) ⟨(trimPrefix s.data.toList c.data.toList).toArray⟩ w):=by
 have hc:=h.cell;go_enter Tryz.func110,Tryz.ntmps110;go_wp2_with fail;refine(Nc s c _).mono ?_;rintro e w1 ⟨rfl,hB⟩;have h1:=h.below hB;have hc1:=h1.cell;have hf1:=h1.fz;go_wp2_with fail;go_ret;exact⟨rfl,h1.set _,aG (bU _ hB) (vO _ _ _ _)⟩
def sG (b:Nat) (w:World) (e:Ending) (w':World):Prop:=e= .panicked [{ v:= .iface 32 (.int .i64 4),recovered:=false }]/\ w.grownBy w' (some b)
theorem iV {b:Nat} {w:World}:
  Calls Tryz.prog 111 #[.pointer (some ⟨b,0,none⟩)] w (sG b w):=by
 go_enter Tryz.func111,Tryz.ntmps111;go_wp2_with fail;exact⟨rfl,rfl,bU _ (Below.refl _ _)⟩
end Go.Proofs.YtmenbpmciblnlaaGreatDoor
/- The reader's digits. -/
namespace Go.Proofs.YtmenbpmciblnlaaGreatDoor
open Go.RowKit Go.Lib
theorem sM (w:World) (b:Nat):w.grownBy w.drew (some b):=⟨rfl,rfl,rfl,Nat.le_refl _,fun _ _ _=>rfl⟩
theorem oL (s:ByteArray) (a b:Nat):(s.extract a b).data.toList=(s.data.toList.drop a).take (b-a):=by
 have h:=ByteArray.extract_mk s.data.toList a b;have e:(ByteArray.mk s.data.toList.toArray)=s:=by simp
 rw[e]at h;rw[h]
theorem kG {s:ByteArray} {b:List UInt8} (h:s.data.toList=b):(s.toList==b)=true:=by
 rw[ByteArray.toList_eq,h];simp
theorem jM {s:ByteArray} {b:List UInt8} (h:s.data.toList≠b):(s.toList==b)=false:=by
 rw[ByteArray.toList_eq];simpa using h
theorem vH {b:Nat} {s:ByteArray} {d r:List UInt8} {w:World} (h:Rd w b s) (hs:s.size<=65536) (hd:lH s.data.toList=some (d,r)):
  Calls Tryz.prog 166 #[.pointer (some ⟨b,0,none⟩)] w (wK b (.string ⟨d.toArray⟩) ⟨r.toArray⟩ w):=by
 have hc:=h.cell
 have hdr:s.data.toList.dropWhile eB=r/\ s.data.toList.takeWhile eB=d:=by
  unfold lH at hd;split at hd
  ·cases hd
  ·injection hd with hd;injection hd with h1 h2;exact⟨h2,h1⟩
 have hl:s.size=d.length+r.length:=by
  have:=congrArg List.length (gH hd).1;rw[List.length_append]at this;exact(Lib.size_eq s).trans this
 go_enter Tryz.func166,Tryz.ntmps166;go_wp2_with fail;refine(A7 s _).mono ?_;rw[hdr.1];rintro e w1 ⟨rfl,hB⟩;have h1:=h.below hB;have hc1:=h1.cell;have hf1:=h1.fz;have i1:¬(((s.size:Nat):Int)-(r.length:Int)<0):=by omega
 have i2:((s.size:Nat):Int)-(r.length:Int)<=(s.size:Int):=by omega
 go_wp2_with fail;go_region;obtain⟨x,hx⟩:∃x:ByteArray,s.extract 0 d.length=x:=⟨_,rfl⟩
 have hxd:x.data.toList=d:=by
  rw[<-hx,oL,List.drop_zero,Nat.sub_zero,(gH hd).1,List.take_left]
 rw[hx];have hd0:d≠[]:=(gH hd).2.2;have e1:(x.toList==[])=false:=jM (by rw[hxd];exact hd0)
 have hh:d≠[48]->d.head? ≠some 48:=fun h1 h2=>by
  unfold lH at hd;rw[hdr.2]at hd;rw[if_pos (.inr ⟨h1,h2⟩)]at hd;cases hd
 have h2:Rd w1.drew b s:=h1;have hf2:=h2.fz;have hc2:=h2.cell;have Gb:Hid (x=⟨d.toArray⟩):=by rw[Hid,<-hxd]
 have ZR:=Lib.hid hxd;clear hx;by_cases hz:d=[48]
 ·have e2:(x.toList==[48])=true:=kG (by rw[hxd];exact hz);go_wp2_with fail;go_ret;exact⟨by rw[<-Gb.out];rfl,h2.set _,aG (bU _ hB) (aG (vO w1 b 0 _) ⟨rfl,rfl,rfl,Nat.le_refl _,fun _ _ _=>rfl⟩)⟩
 ·have e2:(x.toList==[48])=false:=jM (by rw[hxd];exact hz);go_wp2_with fail
  have e3:hasPrefix x.data.toList (⟨#[48]⟩:ByteArray).data.toList=false:=by
   rw[ZR.out];cases d with
   |nil=>rfl
   |cons a l=>
    have:=hh hz;simp only[List.head?_cons,ne_eq,Option.some.injEq]at this;simp[hasPrefix,List.isPrefixOf];exact fun e=>this e.symm
  have hq:=uj x ⟨#[48]⟩ w1.drew;rw[e3]at hq;refine hq.mono ?_;rintro e w2 ⟨rfl,hB2⟩;have h3:Rd w2 b s:=h2.below hB2;have hf3:=h3.fz;have hc3:=h3.cell;go_wp2_with fail;go_ret;exact⟨by rw[<-Gb.out];rfl,h3.set _,aG (bU _ hB) (aG (sM w1 b) (aG (bU (w:=w1.drew) _ hB2) (vO w2 b 0 _)))⟩
theorem yx {b:Nat} {s:ByteArray} {d r:List UInt8} {w:World} (h:Rd w b s) (hs:s.size<=65536) (hr:s.data.toList.dropWhile eB=r) (hd:s.data.toList.takeWhile eB=d) (hn:d=[]∨(d≠[48]/\ d.head? =some 48)):
  Calls Tryz.prog 166 #[.pointer (some ⟨b,0,none⟩)] w (sG b w):=by
 have hc:=h.cell;have hs2:s.data.toList=d++r:=by rw[<-hd,<-hr];exact List.takeWhile_append_dropWhile.symm
 have hl:s.size=d.length+r.length:=by
  have:=congrArg List.length hs2;rw[List.length_append]at this;exact(Lib.size_eq s).trans this
 have HR:=Lib.hid hr;clear hr hd;go_enter Tryz.func166,Tryz.ntmps166;go_wp2_with fail;refine(A7 s _).mono ?_;rw[HR.out];rintro e w1 ⟨rfl,hB⟩;have h1:=h.below hB;have hc1:=h1.cell;have hf1:=h1.fz;have i1:¬(((s.size:Nat):Int)-(r.length:Int)<0):=by omega
 have i2:((s.size:Nat):Int)-(r.length:Int)<=(s.size:Int):=by omega
 go_wp2_with fail;go_region;obtain⟨x,hx⟩:∃x:ByteArray,s.extract 0 d.length=x:=⟨_,rfl⟩
 have hxd:x.data.toList=d:=by
  rw[<-hx,oL,List.drop_zero,Nat.sub_zero,hs2,List.take_left]
 rw[hx];have ZR:=Lib.hid hxd;clear hx;by_cases h0:d=[]
 ·have e1:(x.toList==[])=true:=kG (by rw[hxd];exact h0);go_wp2_with fail;refine(iV (b:=b)).mono ?_;rintro e w2 ⟨rfl,hg⟩;go_wp2_with fail;exact⟨rfl,rfl,aG (bU _ hB) (aG (sM w1 b) hg)⟩
 ·have hz:d≠[48]/\ d.head? =some 48:=hn.resolve_left h0;have e1:(x.toList==[])=false:=jM (by rw[hxd];exact h0);have e2:(x.toList==[48])=false:=jM (by rw[hxd];exact hz.1);go_wp2_with fail
  have e3:hasPrefix x.data.toList (⟨#[48]⟩:ByteArray).data.toList=true:=by
   rw[ZR.out];cases d with
   |nil=>exact absurd rfl h0
   |cons a l=>
    have:=hz.2;simp only[List.head?_cons,Option.some.injEq]at this;simp[hasPrefix,List.isPrefixOf,this]
  have hq:=uj x ⟨#[48]⟩ w1.drew;rw[e3]at hq;refine hq.mono ?_;rintro e w2 ⟨rfl,hB2⟩;go_wp2_with fail;refine(iV (b:=b)).mono ?_;rintro e w3 ⟨rfl,hg⟩;go_wp2_with fail;exact⟨rfl,rfl,aG (bU _ hB) (aG (sM w1 b) (aG (bU (w:=w1.drew) _ hB2) hg))⟩
end Go.Proofs.YtmenbpmciblnlaaGreatDoor
/- The reader's small. -/
namespace Go.Proofs.YtmenbpmciblnlaaGreatDoor
open Go.RowKit Go.Lib
theorem nV {b:Nat} {s:ByteArray} {n:Int} {r:List UInt8} {w:World} (h:Rd w b s) (hs:s.size<=65536) (hd:fJ s.data.toList=some (n,r)):
  Calls Tryz.prog 207 #[.pointer (some ⟨b,0,none⟩)] w (wK b (.int .i64 n) ⟨r.toArray⟩ w):=by
 unfold fJ at hd;obtain⟨⟨d,r0⟩,h1,h2⟩:=Option.bind_eq_some_iff.1 hd;obtain⟨e0,e1,e2⟩:=gH h1;split at h2
 ·rename_i hlt;injection h2 with h2
  injection h2 with h3 h4
  simp only at h3 h4 hlt;subst h4;have hall:dw d=true:=by rw[<-e1];exact qV _
  have hsz:d.length<=65536:=by
   have:=congrArg List.length e0;rw[List.length_append]at this;have h9:=Lib.size_eq s;omega
  have hat:=fun W=>QM ⟨d.toArray⟩ W (show d.toArray.size<=1000000 by rw[List.size_toArray];omega) hall e2 hlt
  rw[show aP (⟨d.toArray⟩:ByteArray).data.toList=aP d from rfl,h3]at hat;have HR:=Lib.hid h3;clear h3 e0 e1 e2 hall hlt hd;go_enter Tryz.func207,Tryz.ntmps207;go_wp2_with fail;refine(vH h hs h1).mono ?_;rintro e w1 ⟨rfl,hR,hg⟩;go_wp2_with fail;refine(hat _).mono ?_;rintro e w2 ⟨rfl,hB⟩;have hR2:=hR.below hB;go_wp2_with fail;go_ret;exact⟨rfl,hR2,aG hg (bU _ hB)⟩
 ·cases h2
theorem Gz {b:Nat} {s:ByteArray} {w:World} (h:Rd w b s) (hs:s.size<=65536) (hd:lH s.data.toList=none):
  Calls Tryz.prog 207 #[.pointer (some ⟨b,0,none⟩)] w (sG b w):=by
 have hn:s.data.toList.takeWhile eB=[]∨(s.data.toList.takeWhile eB≠[48]/\ (s.data.toList.takeWhile eB).head? =some 48):=by
  unfold lH at hd;split at hd
  ·assumption
  ·cases hd
 go_enter Tryz.func207,Tryz.ntmps207;go_wp2_with fail;refine(yx h hs rfl rfl hn).mono ?_;rintro e w1 ⟨rfl,hg⟩;go_wp2_with fail;exact⟨rfl,rfl,hg⟩
end Go.Proofs.YtmenbpmciblnlaaGreatDoor
/- The reader's takes, at one byte, as the plain reader has it. -/
namespace Go.Proofs.YtmenbpmciblnlaaGreatDoor
open Go.RowKit Go.Lib
theorem QN (c:UInt8) (l:List UInt8):hasPrefix (c::l) [c]=true/\ trimPrefix (c::l) [c]=l:=by
 have h:hasPrefix (c::l) [c]=true:=by simp[hasPrefix,List.isPrefixOf]
 exact⟨h,by unfold trimPrefix;rw[if_pos h];rfl⟩
theorem Nf {c:UInt8} {l:List UInt8} (h:takeB c l=none):hasPrefix l [c]=false/\ trimPrefix l [c]=l:=by
 have h1:hasPrefix l [c]=false:=by
  have:=GA.1 h;cases l with
  |nil=>rfl
  |cons a l=>
   simp only[List.head?_cons,ne_eq,Option.some.injEq]at this;simp[hasPrefix,List.isPrefixOf];exact fun e=>this e.symm
 exact⟨h1,by unfold trimPrefix;rw[if_neg (by rw[h1];decide)]⟩
theorem fM {b:Nat} {s:ByteArray} {c:UInt8} {l:List UInt8} {w:World} (h:Rd w b s) (e:takeB c s.data.toList=some l):
  Calls Tryz.prog 110 #[.pointer (some ⟨b,0,none⟩),.string ⟨#[c]⟩] w (wK b (.bool true) ⟨l.toArray⟩ w):=by
 have h1:=AZ (c:=⟨#[c]⟩) h;have h2:=QN c l;rw[<-eD e]at h2;rw[show(⟨#[c]⟩:ByteArray).data.toList=[c]from rfl,h2.1,h2.2]at h1;exact h1
theorem jE {b:Nat} {s:ByteArray} {c:UInt8} {w:World} (h:Rd w b s) (e:takeB c s.data.toList=none):
  Calls Tryz.prog 110 #[.pointer (some ⟨b,0,none⟩),.string ⟨#[c]⟩] w (wK b (.bool false) s w):=by
 have h1:=AZ (c:=⟨#[c]⟩) h;have h2:=Nf e;rw[show(⟨#[c]⟩:ByteArray).data.toList=[c]from rfl,h2.1,h2.2]at h1;exact h1
end Go.Proofs.YtmenbpmciblnlaaGreatDoor
/- The reader's power. -/
namespace Go.Proofs.YtmenbpmciblnlaaGreatDoor
open Go.RowKit Go.Lib
def P2 (w:World) (N:Nat) (x y:Int):Prop:=w.heap[N]? =some (.cells #[.int .i64 x,.int .i64 y] 72 (0,0))
theorem P2.c0 {w:World} {N:Nat} {x y:Int} (h:P2 w N x y):w.cell? ⟨N,0,none⟩=some (.int .i64 x):=by
 unfold P2 at h;simp[World.cell?,h]
theorem P2.c1 {w:World} {N:Nat} {x y:Int} (h:P2 w N x y):w.cell? ⟨N,1,none⟩=some (.int .i64 y):=by
 unfold P2 at h;simp[World.cell?,h]
theorem P2.fz {w:World} {N:Nat} {x y:Int} (h:P2 w N x y) (o:Nat):w.frozen? ⟨N,o,none⟩=false:=by
 unfold P2 at h;simp[World.frozen?,h]
theorem P2.lt {w:World} {N:Nat} {x y:Int} (h:P2 w N x y):N<w.heap.size:=by
 unfold P2 at h;exact(Array.getElem?_eq_some_iff.1 h).1
theorem P2.keep {w w':World} {N b:Nat} {x y:Int} (h:P2 w N x y) (hg:w.grownBy w' (some b)) (hne:N≠b):P2 w' N x y:=(hg.block N h.lt (by simpa using hne)).trans h
theorem P2.set {w:World} {N:Nat} {x y:Int} (h:P2 w N x y) (a c:Int):P2 ((w.setCell ⟨N,0,none⟩ (.int .i64 a)).setCell ⟨N,1,none⟩ (.int .i64 c)) N a c:=by
 unfold P2 at h ⊢;simp[World.setCell,Array.getElem?_modify,h]
theorem lG {w:World} {b N o:Nat} {s:ByteArray} (h:Rd w b s) (hne:N≠b) (u:Value):Rd (w.setCell ⟨N,o,none⟩ u) b s:=(Below.heap_setCell _ _ _ _ (fun e=>hne e.symm)).trans h
theorem alloc_old (w:World) (o:Obj) {k:Nat} (hk:k<w.heap.size):(w.alloc o).heap[k]? =w.heap[k]? :=by
 show(w.heap.push o)[k]? =_;rw[Array.getElem?_push,if_neg (by omega)]
theorem jv {w:World} {b:Nat} {s:ByteArray} (h:Rd w b s) (o:Obj):Rd (w.alloc o) b s:=(alloc_old w o h.lt).trans h
theorem nW (w:World) (x y:Int):P2 (w.alloc (.cells #[.int .i64 x,.int .i64 y] 72)) w.heap.size x y:=by
 show(w.heap.push _)[w.heap.size]? =_;rw[Array.getElem?_push_size]
theorem iN (w:World) (b:Nat) (o:Obj):w.grownBy (w.alloc o) (some b):=
 ⟨rfl,rfl,rfl,by show _<=(w.heap.push o).size;rw[Array.size_push];omega,fun _ hk _=>alloc_old w o hk⟩
theorem J7 {b:Nat} {s:ByteArray} {n:Int} {l1 r:List UInt8} {w:World} (h:Rd w b s) (hs:s.size<=65536) (h0:takeB 120 s.data.toList=some l1) (h1:fJ l1=some (n,r)) (h2:takeB 94 r=none):
  Calls Tryz.prog 168 #[.pointer (some ⟨b,0,none⟩)] w (wK b (.agg #[.int .i64 n,.int .i64 1]) ⟨r.toArray⟩ w):=by
 have hb:=h.lt
 have hl1:(⟨l1.toArray⟩:ByteArray).size<=65536:=by
  have e:=congrArg List.length (eD h0);have h9:=Lib.size_eq s;have h8:=Lib.size_eq (⟨l1.toArray⟩:ByteArray);simp only[List.length_cons]at e;have h7:(⟨l1.toArray⟩:ByteArray).data.toList.length=l1.length:=rfl;omega
 go_enter Tryz.func168,Tryz.ntmps168;go_upto_region 1 with(fail)
 refine aj (fun w1 hW=>?_);have r1:Rd w1 b s:=by rw[hW];exact jv h _
 have p1:P2 w1 w.heap.size 0 0:=by rw[hW];exact nW w 0 0
 have g1:w.grownBy w1 (some b):=by rw[hW];exact iN w b _
 clear hW;go_wp2_with fail;refine(fM r1 h0).mono ?_;rintro e w2 ⟨rfl,r2,g2⟩;have p2:=p1.keep g2 (by omega);go_wp2_with fail;refine(nV r2 hl1 h1).mono ?_;rintro e w3 ⟨rfl,r3,g3⟩;have p3:=p2.keep g3 (by omega);go_upto_region 4 with(fail)
 refine aj (fun w4 hW=>?_);have r4:Rd w4 b ⟨r.toArray⟩:=by rw[hW];exact jv r3 _
 have p4:P2 w4 w3.heap.size n 1:=by rw[hW];exact nW w3 n 1
 have g4:w3.grownBy w4 (some b):=by rw[hW];exact iN w3 b _
 have q4:=p3.keep g4 (by omega);have hlt:b<w3.heap.size:=r3.lt;have hN:w.heap.size<w3.heap.size:=p3.lt;clear hW;go_wp2_with fail;refine(jE r4 h2).mono ?_;rintro e w5 ⟨rfl,r5,g5⟩;have p5:=p4.keep g5 (by omega);have q5:=q4.keep g5 (by omega);have c0:=p5.c0;have c1:=p5.c1;have d0:=q5.c0;have d1:=q5.c1;have f0:=q5.fz 0;have f1:=q5.fz 1;go_wp2_with fail;obtain⟨w6,Uv⟩:∃w6,(w5.setCell ⟨w.heap.size,0,none⟩ (.int .i64 n)).setCell ⟨w.heap.size,1,none⟩ (.int .i64 1)=w6:=⟨_,rfl⟩;have p6:P2 w6 w.heap.size n 1:=Uv▸q5.set n 1;have r6:Rd w6 b ⟨r.toArray⟩:=Uv▸lG (lG r5 (by omega) _) (by omega) _
 have g6:w.grownBy w6 (some b):=by
  have YV:=aG g1 (aG g2 (aG g3 (aG g4 g5)));refine⟨?_,?_,?_,?_,fun k hk hne=>?_⟩
  ·rw[<-Uv];exact YV.os
  ·rw[<-Uv];exact YV.tape
  ·rw[<-Uv];exact YV.output
  ·have:=p6.lt;omega
  ·rw[<-Uv,Below.heap_setCell _ _ _ _ (show k≠w.heap.size by omega),Below.heap_setCell _ _ _ _ (show k≠w.heap.size by omega)];exact YV.block k hk hne
 rw[Uv];have z0:=p6.c0;have z1:=p6.c1;refine bodyPost_ret (v:= .agg #[.int .i64 n,.int .i64 1]) (by simp[results,Tryz.results168,go_sem,z0,z1]) rfl ?_;exact⟨rfl,r6,g6⟩
end Go.Proofs.YtmenbpmciblnlaaGreatDoor
/- The reader's small, at digits that tell no int. -/
namespace Go.Proofs.YtmenbpmciblnlaaGreatDoor
open Go.RowKit Go.Lib
def pO (w:World):Prop:=∃te pe,w.cell? ⟨6,0,none⟩=some (.iface te pe)
theorem pO.keep {w w':World} {b:Nat} (h:pO w) (hg:w.grownBy w' (some b)) (hb:6<b) (hw:b<w.heap.size):pO w':=by
 obtain⟨te,pe,h⟩:=h;exact⟨te,pe,(World.cell?_of_block (hg.block _ (by show 6<_;omega) (by simp;omega))).trans h⟩
theorem J8 {b:Nat} {s:ByteArray} {d r:List UInt8} {w:World} (h:Rd w b s) (hs:s.size<=65536) (hE:pO w) (hb:6<b) (hd:lH s.data.toList=some (d,r)) (hf:9223372036854775808<=aP d):
  Calls Tryz.prog 207 #[.pointer (some ⟨b,0,none⟩)] w (sG b w):=by
 have hlt:=h.lt;obtain⟨e0,e1,e2⟩:=gH hd;have hall:dw d=true:=by rw[<-e1];exact qV _
 have hsz:d.length<=65536:=by
  have:=congrArg List.length e0;rw[List.length_append]at this;have h9:=Lib.size_eq s;omega
 have hat:atoiAll (⟨d.toArray⟩:ByteArray).data.toList= .range:=by
  show atoiAll d= .range;rw[wL hall e2,if_neg (by omega)]
 go_enter Tryz.func207,Tryz.ntmps207;go_wp2_with fail;refine(vH h hs hd).mono ?_;rintro e w1 ⟨rfl,hR,hg⟩;obtain⟨te,pe,hE1⟩:=hE.keep hg hb hlt;go_wp2_with fail;refine(Any.strconv_Atoi_range Tryz.Eo ⟨d.toArray⟩ (show d.toArray.size<=281474976710656 by rw[List.size_toArray];omega) hat (.iface te pe) _ hE1 (.inr ⟨te,pe,rfl⟩)).mono ?_;rintro e w2 ⟨N,rfl,_,_,hB⟩;go_wp2_with fail;refine(iV (b:=b)).mono ?_;rintro e w3 ⟨rfl,hg3⟩;go_wp2_with fail;exact⟨rfl,rfl,aG hg (aG (bU _ hB) hg3)⟩
theorem yN {b:Nat} {s:ByteArray} {w:World} (h:Rd w b s) (hs:s.size<=65536) (hE:pO w) (hb:6<b) (hd:fJ s.data.toList=none):
  Calls Tryz.prog 207 #[.pointer (some ⟨b,0,none⟩)] w (sG b w):=by
 cases h1:lH s.data.toList with
 |none=>exact Gz h hs h1
 |some a=>
  obtain⟨d,r⟩:=a;refine J8 h hs hE hb h1 ?_;unfold fJ at hd;rw[h1,Option.bind_some]at hd;split at hd
  ·cases hd
  ·rename_i hh;simp only at hh;omega
end Go.Proofs.YtmenbpmciblnlaaGreatDoor
/- The reader's power with an exponent. -/
namespace Go.Proofs.YtmenbpmciblnlaaGreatDoor
open Go.RowKit Go.Lib
theorem sN {s:ByteArray} {l:List UInt8} (hs:s.size<=65536) (h:l.length<=s.data.toList.length):(⟨l.toArray⟩:ByteArray).size<=65536:=by
 have h9:=Lib.size_eq s;have h8:=Lib.size_eq (⟨l.toArray⟩:ByteArray);have h7:(⟨l.toArray⟩:ByteArray).data.toList.length=l.length:=rfl;omega
theorem qh {l r:List UInt8} {n:Int} (h:fJ l=some (n,r)):r.length<=l.length:=by
 have:=congrArg List.length (mZ h).1;rw[List.length_append]at this;omega
theorem ic {c:UInt8} {l r:List UInt8} (h:takeB c l=some r):r.length<=l.length:=by
 have:=congrArg List.length (eD h);rw[List.length_cons]at this;omega
theorem P2.set1 {w:World} {N:Nat} {x y:Int} (h:P2 w N x y) (c:Int):P2 (w.setCell ⟨N,1,none⟩ (.int .i64 c)) N x c:=by
 unfold P2 at h ⊢;simp[World.setCell,Array.getElem?_modify,h]
theorem P2.far {w:World} {N M o:Nat} {x y:Int} (h:P2 w N x y) (hne:N≠M) (u:Value):P2 (w.setCell ⟨M,o,none⟩ u) N x y:=(Below.heap_setCell _ _ _ _ hne).trans h
theorem J9 {b:Nat} {s:ByteArray} {n x:Int} {l1 r l2 rest:List UInt8} {w:World} (h:Rd w b s) (hs:s.size<=65536) (h0:takeB 120 s.data.toList=some l1) (h1:fJ l1=some (n,r)) (h2:takeB 94 r=some l2) (h3:fJ l2=some (x,rest)) (hx:x≠1):
  Calls Tryz.prog 168 #[.pointer (some ⟨b,0,none⟩)] w (wK b (.agg #[.int .i64 n,.int .i64 x]) ⟨rest.toArray⟩ w):=by
 have hb:=h.lt
 have hl1:(⟨l1.toArray⟩:ByteArray).size<=65536:=by
  have e:=congrArg List.length (eD h0);have h9:=Lib.size_eq s;have h8:=Lib.size_eq (⟨l1.toArray⟩:ByteArray);simp only[List.length_cons]at e;have h7:(⟨l1.toArray⟩:ByteArray).data.toList.length=l1.length:=rfl;omega
 go_enter Tryz.func168,Tryz.ntmps168;go_upto_region 1 with(fail)
 refine aj (fun w1 hW=>?_);have r1:Rd w1 b s:=by rw[hW];exact jv h _
 have p1:P2 w1 w.heap.size 0 0:=by rw[hW];exact nW w 0 0
 have g1:w.grownBy w1 (some b):=by rw[hW];exact iN w b _
 clear hW;go_wp2_with fail;refine(fM r1 h0).mono ?_;rintro e w2 ⟨rfl,r2,g2⟩;have p2:=p1.keep g2 (by omega);go_wp2_with fail;refine(nV r2 hl1 h1).mono ?_;rintro e w3 ⟨rfl,r3,g3⟩;have p3:=p2.keep g3 (by omega);go_upto_region 4 with(fail)
 refine aj (fun w4 hW=>?_);have r4:Rd w4 b ⟨r.toArray⟩:=by rw[hW];exact jv r3 _
 have p4:P2 w4 w3.heap.size n 1:=by rw[hW];exact nW w3 n 1
 have g4:w3.grownBy w4 (some b):=by rw[hW];exact iN w3 b _
 have q4:=p3.keep g4 (by omega);have hlt:b<w3.heap.size:=r3.lt;have hN:w.heap.size<w3.heap.size:=p3.lt;clear hW;go_wp2_with fail;have hl2:(⟨l2.toArray⟩:ByteArray).size<=65536:=sN hs (Nat.le_trans (ic h2) (Nat.le_trans (qh h1) (ic h0)));refine(fM r4 h2).mono ?_;rintro e w5 ⟨rfl,r5,g5⟩;have p5:=p4.keep g5 (by omega);have q5:=q4.keep g5 (by omega);have hM:w3.heap.size<w5.heap.size:=p5.lt;go_wp2_with fail;refine(nV r5 hl2 h3).mono ?_;rintro e w6 ⟨rfl,r6,g6⟩;have p6:=p5.keep g6 (by omega);have q6:=q5.keep g6 (by omega);have f1:=p6.fz 1;have u1:=p6.c1;have g0:=aG g1 (aG g2 (aG g3 (aG g4 (aG g5 g6))));go_upto_region 6 with(fail)
 refine aj (fun w7 hW=>?_);have p7:P2 w7 w3.heap.size n x:=by rw[hW];exact p6.set1 x
 have q7:P2 w7 w.heap.size 0 0:=by rw[hW];exact q6.far (by omega) _
 have r7:Rd w7 b ⟨rest.toArray⟩:=by rw[hW];exact lG r6 (by omega) _
 have g7:w.grownBy w7 (some b):=by
  rw[hW];exact⟨g0.os,g0.tape,g0.output,by have:=g0.size;simpa[World.setCell]using this,fun k hk hne=>(Below.heap_setCell _ _ _ _ (show k≠w3.heap.size by omega)).trans (g0.block k hk hne)⟩
 clear hW;have c0:=p7.c0;have c1:=p7.c1;have d0:=q7.c0;have d1:=q7.c1;have e0:=q7.fz 0;have e1:=q7.fz 1;go_wp2_with fail;obtain⟨w8,hw8⟩:∃w8,(w7.setCell ⟨w.heap.size,0,none⟩ (.int .i64 n)).setCell ⟨w.heap.size,1,none⟩ (.int .i64 x)=w8:=⟨_,rfl⟩;have p8:P2 w8 w.heap.size n x:=hw8▸q7.set n x;have r8:Rd w8 b ⟨rest.toArray⟩:=hw8▸lG (lG r7 (by omega) _) (by omega) _
 have g8:w.grownBy w8 (some b):=by
  refine⟨?_,?_,?_,?_,fun k hk hne=>?_⟩
  ·rw[<-hw8];exact g7.os
  ·rw[<-hw8];exact g7.tape
  ·rw[<-hw8];exact g7.output
  ·have:=p8.lt;omega
  ·rw[<-hw8,Below.heap_setCell _ _ _ _ (show k≠w.heap.size by omega),Below.heap_setCell _ _ _ _ (show k≠w.heap.size by omega)];exact g7.block k hk hne
 rw[hw8];have z0:=p8.c0;have z1:=p8.c1;refine bodyPost_ret (v:= .agg #[.int .i64 n,.int .i64 x]) (by simp[results,Tryz.results168,go_sem,z0,z1]) rfl ?_;exact⟨rfl,r8,g8⟩
end Go.Proofs.YtmenbpmciblnlaaGreatDoor
/- The reader's power where it gives up. -/
namespace Go.Proofs.YtmenbpmciblnlaaGreatDoor
open Go.RowKit Go.Lib
theorem Ng {b:Nat} {s:ByteArray} {w:World} (h:Rd w b s) (h0:takeB 120 s.data.toList=none):
  Calls Tryz.prog 168 #[.pointer (some ⟨b,0,none⟩)] w (sG b w):=by
 go_enter Tryz.func168,Tryz.ntmps168;go_upto_region 1 with(fail)
 refine aj (fun w1 hW=>?_);have r1:Rd w1 b s:=by rw[hW];exact jv h _
 have g1:w.grownBy w1 (some b):=by rw[hW];exact iN w b _
 clear hW;go_wp2_with fail;refine(jE r1 h0).mono ?_;rintro e w2 ⟨rfl,_,g2⟩;go_wp2_with fail;refine(iV (b:=b)).mono ?_;rintro e w3 ⟨rfl,g3⟩;go_wp2_with fail;exact⟨rfl,rfl,aG g1 (aG g2 g3)⟩
theorem GD {b:Nat} {s:ByteArray} {l1:List UInt8} {w:World} (h:Rd w b s) (hs:s.size<=65536) (h0:takeB 120 s.data.toList=some l1) (h1:fJ l1=none) (hE:pO w) (hG:6<b):
  Calls Tryz.prog 168 #[.pointer (some ⟨b,0,none⟩)] w (sG b w):=by
 have hl1:(⟨l1.toArray⟩:ByteArray).size<=65536:=by
  have e:=congrArg List.length (eD h0);have h9:=Lib.size_eq s;have h8:=Lib.size_eq (⟨l1.toArray⟩:ByteArray);simp only[List.length_cons]at e;have h7:(⟨l1.toArray⟩:ByteArray).data.toList.length=l1.length:=rfl;omega
 go_enter Tryz.func168,Tryz.ntmps168;go_upto_region 1 with(fail)
 refine aj (fun w1 hW=>?_);have r1:Rd w1 b s:=by rw[hW];exact jv h _
 have g1:w.grownBy w1 (some b):=by rw[hW];exact iN w b _
 clear hW;go_wp2_with fail;refine(fM r1 h0).mono ?_;rintro e w2 ⟨rfl,r2,g2⟩;go_wp2_with fail;refine(yN r2 hl1 (hE.keep (aG g1 g2) hG h.lt) hG h1).mono ?_;rintro e w3 ⟨rfl,g3⟩;go_wp2_with fail;exact⟨rfl,rfl,aG g1 (aG g2 g3)⟩
theorem GH {b:Nat} {s:ByteArray} {n:Int} {l1 r l2:List UInt8} {w:World} (h:Rd w b s) (hs:s.size<=65536) (h0:takeB 120 s.data.toList=some l1) (h1:fJ l1=some (n,r)) (h2:takeB 94 r=some l2) (h3:fJ l2=none) (hE:pO w) (hG:6<b):
  Calls Tryz.prog 168 #[.pointer (some ⟨b,0,none⟩)] w (sG b w):=by
 have hl1:(⟨l1.toArray⟩:ByteArray).size<=65536:=by
  have e:=congrArg List.length (eD h0);have h9:=Lib.size_eq s;have h8:=Lib.size_eq (⟨l1.toArray⟩:ByteArray);simp only[List.length_cons]at e;have h7:(⟨l1.toArray⟩:ByteArray).data.toList.length=l1.length:=rfl;omega
 go_enter Tryz.func168,Tryz.ntmps168;go_upto_region 1 with(fail)
 refine aj (fun w1 hW=>?_);have r1:Rd w1 b s:=by rw[hW];exact jv h _
 have g1:w.grownBy w1 (some b):=by rw[hW];exact iN w b _
 clear hW;go_wp2_with fail;refine(fM r1 h0).mono ?_;rintro e w2 ⟨rfl,r2,g2⟩;go_wp2_with fail;refine(nV r2 hl1 h1).mono ?_;rintro e w3 ⟨rfl,r3,g3⟩;go_upto_region 4 with(fail)
 refine aj (fun w4 hW=>?_);have r4:Rd w4 b ⟨r.toArray⟩:=by rw[hW];exact jv r3 _
 have g4:w3.grownBy w4 (some b):=by rw[hW];exact iN w3 b _
 clear hW;go_wp2_with fail;have hl2:(⟨l2.toArray⟩:ByteArray).size<=65536:=sN hs (Nat.le_trans (ic h2) (Nat.le_trans (qh h1) (ic h0)));refine(fM r4 h2).mono ?_;rintro e w5 ⟨rfl,r5,g5⟩;go_wp2_with fail;refine(yN r5 hl2 (hE.keep (aG g1 (aG g2 (aG g3 (aG g4 g5)))) hG h.lt) hG h3).mono ?_;rintro e w6 ⟨rfl,g6⟩;go_wp2_with fail;exact⟨rfl,rfl,aG g1 (aG g2 (aG g3 (aG g4 (aG g5 g6))))⟩
theorem GI {b:Nat} {s:ByteArray} {n:Int} {l1 r l2 rest:List UInt8} {w:World} (h:Rd w b s) (hs:s.size<=65536) (h0:takeB 120 s.data.toList=some l1) (h1:fJ l1=some (n,r)) (h2:takeB 94 r=some l2) (h3:fJ l2=some (1,rest)):
  Calls Tryz.prog 168 #[.pointer (some ⟨b,0,none⟩)] w (sG b w):=by
 have hb:=h.lt
 have hl1:(⟨l1.toArray⟩:ByteArray).size<=65536:=by
  have e:=congrArg List.length (eD h0);have h9:=Lib.size_eq s;have h8:=Lib.size_eq (⟨l1.toArray⟩:ByteArray);simp only[List.length_cons]at e;have h7:(⟨l1.toArray⟩:ByteArray).data.toList.length=l1.length:=rfl;omega
 go_enter Tryz.func168,Tryz.ntmps168;go_upto_region 1 with(fail)
 refine aj (fun w1 hW=>?_);have r1:Rd w1 b s:=by rw[hW];exact jv h _
 have p1:P2 w1 w.heap.size 0 0:=by rw[hW];exact nW w 0 0
 have g1:w.grownBy w1 (some b):=by rw[hW];exact iN w b _
 clear hW;go_wp2_with fail;refine(fM r1 h0).mono ?_;rintro e w2 ⟨rfl,r2,g2⟩;have p2:=p1.keep g2 (by omega);go_wp2_with fail;refine(nV r2 hl1 h1).mono ?_;rintro e w3 ⟨rfl,r3,g3⟩;have p3:=p2.keep g3 (by omega);go_upto_region 4 with(fail)
 refine aj (fun w4 hW=>?_);have r4:Rd w4 b ⟨r.toArray⟩:=by rw[hW];exact jv r3 _
 have p4:P2 w4 w3.heap.size n 1:=by rw[hW];exact nW w3 n 1
 have g4:w3.grownBy w4 (some b):=by rw[hW];exact iN w3 b _
 have hlt:b<w3.heap.size:=r3.lt;have hN:w.heap.size<w3.heap.size:=p3.lt;clear hW;go_wp2_with fail;have hl2:(⟨l2.toArray⟩:ByteArray).size<=65536:=sN hs (Nat.le_trans (ic h2) (Nat.le_trans (qh h1) (ic h0)));refine(fM r4 h2).mono ?_;rintro e w5 ⟨rfl,r5,g5⟩;have p5:=p4.keep g5 (by omega);have hM:w3.heap.size<w5.heap.size:=p5.lt;go_wp2_with fail;refine(nV r5 hl2 h3).mono ?_;rintro e w6 ⟨rfl,_,g6⟩;have p6:=p5.keep g6 (by omega);have f1:=p6.fz 1;have u1:=p6.c1;have g0:=aG g1 (aG g2 (aG g3 (aG g4 (aG g5 g6))));go_upto_region 6 with(fail)
 refine aj (fun w7 hW=>?_);have p7:P2 w7 w3.heap.size n 1:=by rw[hW];exact p6.set1 1
 have g7:w.grownBy w7 (some b):=by
  rw[hW];exact⟨g0.os,g0.tape,g0.output,by have:=g0.size;simpa[World.setCell]using this,fun k hk hne=>(Below.heap_setCell _ _ _ _ (show k≠w3.heap.size by omega)).trans (g0.block k hk hne)⟩
 clear hW;have c0:=p7.c0;have c1:=p7.c1;go_wp2_with fail;refine(iV (b:=b)).mono ?_;rintro e w8 ⟨rfl,g8⟩;go_wp2_with fail;exact⟨rfl,rfl,aG g7 g8⟩
theorem uo {b:Nat} {s:ByteArray} {v:Int×Int} {rest:List UInt8} {w:World} (h:Rd w b s) (hs:s.size<=65536) (hd:nJ s.data.toList=some (v,rest)):
  Calls Tryz.prog 168 #[.pointer (some ⟨b,0,none⟩)] w (wK b (.agg #[.int .i64 v.1,.int .i64 v.2]) ⟨rest.toArray⟩ w):=by
 unfold nJ at hd;obtain⟨l1,h0,hd⟩:=Option.bind_eq_some_iff.1 hd;obtain⟨⟨n,r⟩,h1,hd⟩:=Option.bind_eq_some_iff.1 hd;split at hd
 ·rename_i h2;injection hd with hd
  injection hd with e1 e2
  subst e1 e2;exact J7 h hs h0 h1 h2
 ·rename_i l2 h2;obtain⟨⟨x,r2⟩,h3,hd⟩:=Option.bind_eq_some_iff.1 hd;split at hd
  ·cases hd
  ·rename_i hx;injection hd with hd
   injection hd with e1 e2
   subst e1 e2;exact J9 h hs h0 h1 h2 h3 hx
theorem oN {b:Nat} {s:ByteArray} {w:World} (h:Rd w b s) (hs:s.size<=65536) (hE:pO w) (hG:6<b) (hd:nJ s.data.toList=none):
  Calls Tryz.prog 168 #[.pointer (some ⟨b,0,none⟩)] w (sG b w):=by
 unfold nJ at hd;cases h0:takeB 120 s.data.toList with
 |none=>exact Ng h h0
 |some l1=>
  rw[h0,Option.bind_some]at hd;cases h1:fJ l1 with
  |none=>exact GD h hs h0 h1 hE hG
  |some a=>
   obtain⟨n,r⟩:=a;rw[h1,Option.bind_some]at hd;simp only at hd;cases h2:takeB 94 r with
   |none=>rw[h2]at hd;cases hd
   |some l2=>
    rw[h2]at hd;simp only at hd;cases h3:fJ l2 with
    |none=>exact GH h hs h0 h1 h2 h3 hE hG
    |some c=>
     obtain⟨x,r2⟩:=c;rw[h3,Option.bind_some]at hd;by_cases hx:x=1
     ·subst hx;exact GI h hs h0 h1 h2 h3
     ·simp only at hd;rw[if_neg hx]at hd;cases hd
end Go.Proofs.YtmenbpmciblnlaaGreatDoor
/- The reader's numbers in plain words: a 1 ahead of digits; how great such numbers are. -/
namespace Go.Proofs.YtmenbpmciblnlaaGreatDoor
open Go.Lib
theorem one_num {d:List UInt8} (h:dw d=true):GJ (49::d)=true/\ GK (49::d)=(10:Int)^d.length+(aP d:Int):=by
 have hp:hasPrefix (49::d) [45]=false:=by simp[hasPrefix,List.isPrefixOf]
 have hu:fq (49::d)=49::d:=by unfold fq trimPrefix;rw[if_neg (by rw[hp];decide)]
 refine⟨?_,?_⟩
 ·rw[qi,hu];exact⟨by simp,by rw[eO,h];rfl,.inl (by simp)⟩
 ·unfold GK;rw[hp,hu,iY];show(((49-48)*10^d.length+aP d:Nat):Int)=_;rw[Int.natCast_add,Nat.one_mul,Int.natCast_pow];rfl
theorem Gc {N:Nat} (h:N<=1000):Bd ((10:Int)^N) 104:=by
 unfold Bd;rw[Int.natAbs_pow];exact Nat.lt_of_le_of_lt (Nat.pow_le_pow_right (by decide) h) (by decide+kernel)
theorem yu {d:List UInt8} (h:dw d=true) (hl:d.length<=9000):Bd (aP d:Int) 1000:=by
 unfold Bd;rw[Int.natAbs_natCast];exact Nat.lt_of_lt_of_le (q8 h) (Nat.le_trans (Nat.pow_le_pow_right (by decide) hl) (by decide+kernel))
theorem MG {d:List UInt8} {k z:Nat}:((aP (d.take k):Int)-1)*10^z+(10^z+(aP ((d.drop k).take z):Int))=(aP (d.take (k+z)):Int)∨((d.drop k).take z).length≠z:=by
 by_cases h:((d.drop k).take z).length=z
 ·left
  rw[show d.take (k+z)=d.take k++(d.drop k).take z by rw[List.take_add],kC,h,Int.natCast_add,Int.natCast_mul,Int.natCast_pow];have e:((10:Nat):Int)=10:=rfl;rw[e]
  grind
 ·exact .inr h
end Go.Proofs.YtmenbpmciblnlaaGreatDoor
