/- VRdM, VRdTmP, VRdTm, VRdPo, VaParP, VaParse, VaTxH -/
import Derived.Test.YtmenbpmciblnlaaGreatDoorGRd1
import Derived.Test.YtmenbpmciblnlaaGreatDoorGTxt
import Derived.Test.YtmenbpmciblnlaaGreatDoorGVaA
import Derived.Defers
import Derived.Recover
set_option maxHeartbeats 40000000
set_option maxRecDepth 100000
namespace Go.Proofs.YtmenbpmciblnlaaGreatDoor
open Lib (hid)
open Go.RowKit
def ZE:Value->Nat| .string s=>s.size| _=>0
theorem IV (m:Bool) (a:Option Addr) (n c:Nat):shy [.bool m,.slice a n c]:=by
 refine⟨fun u hu=>?_,fun j x y hx hy=>?_⟩
 ·simp at hu;rcases hu with rfl|rfl<;>rfl
 ·match j,hx,hy with
  |0,hx,hy=>cases hx;exact⟨.inl rfl,rfl⟩
  |j+1,hx,hy=>simp at hy
theorem Xg {w:World} {b:Nat} {v0 v1:Value} {T:TypeId} (h:bD w b [v0,v1] T) (hs:shy [v0,v1]) (u0 u1:Value):
  oK w ((w.setCell ⟨b,0,none⟩ u0).setCell ⟨b,1,none⟩ u1) b/\ bD ((w.setCell ⟨b,0,none⟩ u0).setCell ⟨b,1,none⟩ u1) b [u0,u1] T:=
 ⟨⟨⟨_,_,h,hs⟩,eG (cB _ _ _ _) (cB _ _ _ _)⟩,(h.set 0 u0).set 1 u1⟩
theorem sF {B:Nat} {w0 w:World} (h:Below B w0 w) {b:Nat} (hb:B<=b) (u0 u1:Value):Below B w0 ((w.setCell ⟨b,0,none⟩ u0).setCell ⟨b,1,none⟩ u1):=(h.setCell hb u0).setCell hb u1
theorem wF {w:World} {m:Bool} {ao:Option Addr} {n cap:Nat} {z:Int} {k:Nat} (h:Cn w m ao n cap z) (hb:Bd z k) (hk:k<=1000000):Nx w m ao n cap z:=(h.cx hb hk).nx
def Te (w w1:World) (b2 b3:Nat) (m:Bool) (a:Option Addr) (n c:Nat) (z:Int):Prop:=bD w1 b2 [.bool false,.slice none 0 0] 29/\ bD w1 b3 [.bool m,.slice a n c] 29/\ Cn w1 m a n c z/\ Below w.heap.size w w1
theorem Te.step {w w1 w2:World} {b2 b3:Nat} {m:Bool} {a:Option Addr} {n c:Nat} {z:Int} (h:Te w w1 b2 b3 m a n c z) (hb:Below w1.heap.size w1 w2):Te w w2 b2 b3 m a n c z:=
 ⟨h.1.below hb,h.2.1.below hb,h.2.2.1.below hb,Below.steps h.2.2.2 hb⟩
def MF (w:World) (b:Nat) (m:Bool) (a:Option Addr) (n c:Nat) (z:Int):Prop:=bD w b [.bool m,.slice a n c] 29/\ Cn w m a n c z
theorem MF.below {w w2:World} {b:Nat} {m:Bool} {a:Option Addr} {n c:Nat} {z:Int} (h:MF w b m a n c z) (hb:Below w.heap.size w w2):MF w2 b m a n c z:=⟨h.1.below hb,h.2.below hb⟩
theorem MF.c2 {w:World} {b:Nat} {m:Bool} {a:Option Addr} {n c:Nat} {z:Int} (h:MF w b m a n c z):w.cell? ⟨b,0,none⟩=some (.bool m)/\ w.cell? ⟨b,1,none⟩=some (.slice a n c):=h.1.c2
theorem MF.new {w W:World} {b:Nat} {m:Bool} {a:Option Addr} {n c:Nat} {z:Int} (hC:Cn w m a n c z) (hb:b=w.heap.size) (hW:W=w.alloc (.cells #[.bool m,.slice a n c] 29)):MF W b m a n c z/\ Below w.heap.size w W:=by
 have h:=nI w [.bool m,.slice a n c] 29;rw[hW,hb];exact⟨⟨h.1,hC.below h.2⟩,h.2⟩
theorem DU [Ol] (d:List UInt8) (w:World) (ha:dw d=true) (hl:d.length<=9000):
  Calls Tryz.prog 167 #[.string ⟨d.toArray⟩] w (pW w (aP d:Int)):=by
 have HA:=hid ha;go_enter Tryz.func167,Tryz.ntmps167;obtain⟨b2,hb2⟩:∃b,b=w.heap.size:=⟨_,rfl⟩;go_upto_region 1 with(fail)
 refine aj (fun W0 hW=>?_);have a2:bD W0 b2 [.bool false,.slice none 0 0] 29/\ Below w.heap.size w W0:=by rw[hW,hb2];exact nI w _ 29
 rw[<-hb2];obtain⟨b3,hb3⟩:∃b,b=W0.heap.size:=⟨_,rfl⟩;have hw2:w.heap.size<=b2:=by omega
 have h23:b2<b3:=by rw[hb3];exact a2.1.lt
 clear hW hb2;go_wp2_with fail;refine aj (fun W1 hW=>?_);have a3:bD W1 b3 [.bool false,.slice none 0 0] 29/\ Below W0.heap.size W0 W1:=by rw[hW,hb3];exact nI W0 _ 29
 rw[<-hb3]
 have DC:Hid (Te w W1 b2 b3 false none 0 0 (aP (d.take 0):Int)):=
  ⟨a2.1.below a3.2,a3.1,(tZ W1).cn,Below.steps a2.2 a3.2⟩
 clear hW hb3 a2 a3 ha;go_loopw [0] (fun s wr=>∃(k:Nat) (m:Bool) (a:Option Addr) (n c:Nat),s= .string ⟨(d.drop k).toArray⟩/\ k<=d.length/\ Hid (Te w wr b2 b3 m a n c (aP (d.take k):Int))) (fun s _=>ZE s)
 case atStart=>exact⟨0,_,_,_,_,rfl,Nat.zero_le _,DC.out⟩
 case round=>
  clear DC;obtain⟨k,m,a,n,c,rfl,hk,HS⟩:=hrel;obtain⟨u,hu⟩:∃u:ByteArray,u=⟨(d.drop k).toArray⟩:=⟨_,rfl⟩;have Mc:u.data.toList=d.drop k:=by rw[hu]
  have Ug:u.size=d.length-k:=by rw[Lib.size_eq,Mc,List.length_drop]
  rw[<-hu];have HU:=hid Mc;have Xh:=hid Ug;clear hu;by_cases hkl:k<d.length
  ·have hq:(u.toList==[])=false:=jM (by rw[Mc];intro h;have:=congrArg List.length h;simp at this;omega);have hq2:(u.toList !=[])=true:=by simp[bne,hq]
   clear Mc Ug;obtain⟨z,hz0⟩:∃z:Nat,z=min u.size 1000:=⟨_,rfl⟩;have hz:1<=z/\ z<=d.length-k/\ z<=1000:=by have:=Xh.out;omega
   have hmn:min (u.size:Int) 1000=(z:Int):=by omega
   clear hz0;go_upto_region 4 with(fail)
   clear hq hq2 hmn;have hpl:((d.drop k).take z).length=z:=by rw[List.length_take,List.length_drop];omega
   have hstep:=(MG (d:=d) (k:=k) (z:=z)).resolve_right (fun h=>h hpl);have Uh:=one_num (d:=(d.drop k).take z) (iU (pX HA.out k) z);rw[hpl]at Uh;have HN:=hid Uh;have HST:=hid hstep;have vF:=hid hpl;clear hpl Uh hstep
   have hx2:u.extract 0 z=⟨((d.drop k).take z).toArray⟩:=by
    have h:(u.extract 0 z).data.toList=(d.drop k).take z:=by rw[oL,HU.out,List.drop_zero,Nat.sub_zero]
    rw[<-h]
   have hx3:u.extract z u.size=⟨(d.drop (k+z)).toArray⟩:=by
    have h:(u.extract z u.size).data.toList=d.drop (k+z):=by
     rw[oL,HU.out,List.drop_drop,List.take_of_length_le (by rw[Xh.out,List.length_drop];omega)]
    rw[<-h]
   have hadd:∀W:World,(Op.stringOp .add ⟨#[49]⟩ (u.extract 0 z)).run Tryz.prog W= .ok (.string ⟨(49::(d.drop k).take z).toArray⟩) W:=fun W=>by
    rw[hx2];exact kQ W [49] _ (by rw[vF.out];simp;omega)
   have hz1:0<=(z:Int):=by omega
   have hzs:(z:Int)<=(u.size:Int):=by have:=Xh.out;omega
   have Gb:=hid hx3;have HZ:=hid hz;clear hx2 hx3 hz;go_wp2_with fail;refine(uf 10 _ (by omega)).mono ?_;rintro e w1 ⟨m1,a1,n1,c1,rfl,hC,hB⟩;have H1:=hid (And.intro (HS.out.step hB) hC);clear hC hB HS;go_wp2_with fail;refine(ug z (wF H1.out.2 (show Bd 10 1 by unfold Bd;decide) (by omega)) HZ.out.2.2).mono ?_;rintro e w2 ⟨m2,a2,n2,c2,rfl,hC,hB⟩;have H2:=hid (H1.out.1.step hB);obtain⟨b5,hb5⟩:∃b,b=w2.heap.size:=⟨_,rfl⟩;have pJ:Hid (b3<b5):=by rw[Hid,hb5];exact H2.out.2.1.lt
   clear hB H1;go_upto_region 5 with(fail)
   refine aj (fun W3 hW=>?_);have h5:=MF.new hC hb5 hW;rw[<-hb5];have H3:=hid (And.intro (H2.out.step h5.2) h5.1);clear hW hb5 h5 H2 hC;go_wp2_with fail;refine(MH _ _ (by show(49::(d.drop k).take z).toArray.size<=20000;rw[List.size_toArray,List.length_cons,vF.out];have:=HZ.out;omega) HN.out.1).mono ?_;rintro e w4 ⟨m3,a3,n3,c3,rfl,hC,hB⟩;have hC2:Cn w4 m3 a3 n3 c3 (10^z+(aP ((d.drop k).take z):Int)):=HN.out.2▸hC;have H4:=hid (And.intro (H3.out.1.step hB) (H3.out.2.below hB));obtain⟨b7,F4⟩:∃b,b=w4.heap.size:=⟨_,rfl⟩;have Dx:Hid (b3<b7):=by rw[Hid,F4];exact H4.out.1.2.1.lt
   clear hB H3 hC;go_upto_region 6 with(fail)
   refine aj (fun W5 hW=>?_);have h7:=MF.new hC2 F4 hW;rw[<-F4];have H5:=hid (And.intro (H4.out.1.step h7.2) (And.intro (H4.out.2.below h7.2) h7.1));clear hW F4 h7 H4 hC2;refine wp_region_held_drew (S:=fun w'=>(w'.cell? ⟨b5,0,none⟩=some (.bool m2)/\ w'.cell? ⟨b5,1,none⟩=some (.slice a2 n2 c2))/\ w'.cell? ⟨b7,0,none⟩=some (.bool m3)/\ w'.cell? ⟨b7,1,none⟩=some (.slice a3 n3 c3)) (by kernel_rfl) ⟨(H5.out.2.1.below (Below.refl _ _).drew).c2,(H5.out.2.2.below (Below.refl _ _).drew).c2⟩ (fun hH=>?_);refine ai (fun V hW=>?_)
   have T0:Hid (Te w V b2 b3 m a n c (aP (d.take k):Int)/\ MF V b5 m2 a2 n2 c2 (10^z)/\ MF V b7 m3 a3 n3 c3 (10^z+(aP ((d.drop k).take z):Int))):=by
    rw[hW];exact⟨H5.out.1.step (Below.refl _ _).drew,H5.out.2.1.below (Below.refl _ _).drew,H5.out.2.2.below (Below.refl _ _).drew⟩
   rw[<-hW]at hH;clear hW H5;refine bC 3 hH ?_
   try simp only[aI]
   refine bC 5 hH ?_
   try simp only[aI]
   refine wpAnyH_ready (rs:=[0,1]) (by kernel_rfl) (by simp) (aO rfl (fun KK hK=>?_) (aO rfl (fun KK hK=>?_) (AllReadyH.nil)));obtain⟨x0,x1⟩:=bD.c2 T0.out.1.2.1
   focus go_simp
   refine hK.out _ _ ⟨T0.out.2.1.c2,T0.out.2.2.c2⟩ (fun h2=>?_);clear hK KK hH x0 x1;have hH:=h2;clear h2
   try simp only[aI]
   refine ah 1 rfl (by kernel_rfl) (fun KK hK=>?_)
   focus go_simp
   refine(uf 1 _ (by omega)).mono ?_;rintro e V1 ⟨m4,a4,n4,c4,rfl,hC,hB⟩;have T1:=hid (And.intro (And.intro (T0.out.1.step hB) (And.intro (T0.out.2.1.below hB) (T0.out.2.2.below hB))) hC);clear hB hC T0
   focus go_wp2_with fail
   clear hH;refine hK.out _ _ ⟨T1.out.1.2.1.c2,T1.out.1.2.2.c2⟩ fun hH=>?_;clear hK KK
   try simp only[aI]
   rotate_left
   focus go_simp
   refine(uf 1 _ (by omega)).mono ?_;rintro e V1 ⟨m4,a4,n4,c4,rfl,hC,hB⟩;have T1:=hid (And.intro (And.intro (T0.out.1.step hB) (And.intro (T0.out.2.1.below hB) (T0.out.2.2.below hB))) hC);clear hB hC T0
   focus go_wp2_with fail
   clear hH;refine hK.out _ _ ⟨T1.out.1.2.1.c2,T1.out.1.2.2.c2⟩ fun hH=>?_;clear hK KK
   try simp only[aI]
   refine ah 0 rfl (by kernel_rfl) (fun KK hK=>?_);obtain⟨x0,x1⟩:=bD.c2 T1.out.1.1.2.1
   focus go_simp
   refine hK.out _ _ ⟨T1.out.1.2.1.c2,T1.out.1.2.2.c2⟩ (fun h2=>?_);clear hK KK hH x0 x1;have hH:=h2;clear h2
   try simp only[aI]
   all_goals
    refine ah 2 rfl (by kernel_rfl) (fun KK hK=>?_);go_simp;refine(MI (wF T1.out.1.1.2.2.1 (yu (iU HA.out k) (by rw[List.length_take];omega)) (by omega)) (wF T1.out.2 (show Bd 1 1 by unfold Bd;decide) (by omega))).mono ?_;rintro e V2 ⟨m5,a5,n5,c5,rfl,hC,hB⟩;have T2:=hid (And.intro (And.intro (T1.out.1.1.step hB) (And.intro (T1.out.1.2.1.below hB) (T1.out.1.2.2.below hB))) hC);clear hB hC T1;go_wp2_with fail;clear hH;refine hK.out _ _ ⟨T2.out.1.2.1.c2,T2.out.1.2.2.c2⟩ fun hH=>?_;clear hK KK
    try simp only[aI]
    refine ah 4 rfl (by kernel_rfl) (fun KK hK=>?_);go_simp;refine(jq (wF T2.out.2 (Bd.sub ((yu (iU HA.out k) (by rw[List.length_take];omega)).mono (show 1000<=1000 by omega)) ((show Bd 1 1 by unfold Bd;decide).mono (by omega)) (show 1000+1<=1001 by omega)) (by omega)) (wF T2.out.1.2.1.2 (Gc HZ.out.2.2) (by omega))).mono ?_;rintro e V3 ⟨m6,a6,n6,c6,rfl,hC,hB⟩;have Xi:Bd (((aP (d.take k):Int)-1)*10^z) 1200:=Bd.mono (Bd.mul (Bd.sub ((yu (iU HA.out k) (by rw[List.length_take];omega)).mono (show 1000<=1000 by omega)) ((show Bd 1 1 by unfold Bd;decide).mono (by omega)) (show 1000+1<=1001 by omega)) (Gc HZ.out.2.2)) (by omega);have T3:=hid (And.intro (And.intro (T2.out.1.1.step hB) (And.intro (T2.out.1.2.1.below hB) (T2.out.1.2.2.below hB))) (And.intro hC Xi));clear hB hC T2 Xi;go_wp2_with fail;clear hH;refine hK.out _ _ ⟨T3.out.1.2.1.c2,T3.out.1.2.2.c2⟩ fun hH=>?_;clear hK KK
    try simp only[aI]
    refine ah 6 rfl (by kernel_rfl) (fun KK hK=>?_);go_simp;refine(uh (wF T3.out.2.1 T3.out.2.2 (by omega)) (wF T3.out.1.2.2.2 (Bd.add ((Gc HZ.out.2.2).mono (show 104<=1000 by omega)) (yu (iU (pX HA.out k) z) (by rw[vF.out];have:=HZ.out;omega)) (show 1000+1<=1001 by omega)) (by omega))).mono ?_;rw[HST.out];rintro e V4 ⟨m7,a7,n7,c7,rfl,hC,hB⟩;have T4:=hid (And.intro (And.intro (T3.out.1.1.step hB) (And.intro (T3.out.1.2.1.below hB) (T3.out.1.2.2.below hB))) hC);clear hB hC T3;go_wp2_with fail;clear hH;refine hK.out _ _ ⟨T4.out.1.2.1.c2,T4.out.1.2.2.c2⟩ fun hH=>?_;clear hK KK
    try simp only[aI]
    refine ah 7 rfl (by kernel_rfl) (fun KK hK=>?_);obtain⟨x0,x1⟩:=bD.c2 T4.out.1.1.2.1;have y0:=T4.out.1.1.2.1.fz 0;have y1:=T4.out.1.1.2.1.fz 1;go_simp;clear x0 x1 y0 y1;have hp2:=Xg T4.out.1.1.2.1 (IV _ _ _ _) (.bool m7) (.slice a7 n7 c7);have hne5:b3≠b5:=Nat.ne_of_lt pJ.out;have Ui:b3≠b7:=Nat.ne_of_lt Dx.out;refine hK.out _ _ ⟨bD.c2 ((T4.out.1.2.1.1.far hne5 0 _).far hne5 1 _),bD.c2 ((T4.out.1.2.2.1.far Ui 0 _).far Ui 1 _)⟩ (fun h2=>?_);clear hK KK hH h2
    try rw[aI.2.1]
    refine wpAnyH_done (by kernel_rfl) ?_ _
    have T5:=hid (show Te w _ b2 b3 m7 a7 n7 c7 _ from⟨(T4.out.1.1.1.far (show b3≠b2 by omega) 0 _).far (show b3≠b2 by omega) 1 _,hp2.2,T4.out.2.iA hp2.1,sF T4.out.1.1.2.2.2 (show w.heap.size<=b3 by omega) _ _⟩);clear hp2 hne5 Ui T4;go_wp2_with fail;go_roundw
    case rel=>exact⟨k+z,m7,a7,n7,c7,by rw[Gb.out],by have:=HZ.out;omega,T5.out⟩
    case measure=>
     have h1:=Xh.out;have h2:=HZ.out;have h3:(u.extract z u.size).size=d.length-(k+z):=by rw[Gb.out];show(d.drop (k+z)).toArray.size=_;simp
     show(u.extract z u.size).size<u.size;omega
  ·obtain rfl:k=d.length:=by omega
   have hq:(u.toList==[])=true:=kG (by rw[Mc];simp);have hq2:(u.toList !=[])=false:=by simp[bne,hq]
   have HR:Hid (Te w wr b2 b3 m a n c (aP d:Int)):=by have h:=HS.out;rw[List.take_length]at h;exact h
   clear Mc Ug HU Xh HS;obtain⟨x0,x1⟩:=bD.c2 HR.out.2.1;obtain⟨y0,y1⟩:=bD.c2 HR.out.1;have z0:=HR.out.1.fz 0;have z1:=HR.out.1.fz 1;go_wp2_with fail;refine bodyPost_ret (v:= .agg #[.bool m,.slice a n c]) (by simp[results,Tryz.results167,go_sem,y0,y1]) rfl ?_;have hp2:=Xg HR.out.1 (IV _ _ _ _) (.bool m) (.slice a n c);exact⟨_,_,_,_,rfl,HR.out.2.2.1.iA hp2.1,sF HR.out.2.2.2 hw2 _ _⟩
theorem Cn.MJ {w w':World} {m:Bool} {a:Option Addr} {n c:Nat} {z:Int} (h:Cn w m a n c z) (hk:∀ad,a=some ad->0<n->w'.heap[ad.block]? =w.heap[ad.block]?):Cn w' m a n c z:=
 ⟨h.neg,h.sl.len,h.sl.le,h.sl.big,h.sl.wf,h.sl.nil,fun ad had t ht=>(World.cell?_of_block (by rw[jX];exact hk ad had (by omega))).trans (h.sl.cells ad had t ht)⟩
theorem Cn.blt {w:World} {m:Bool} {a:Option Addr} {n c:Nat} {z:Int} (h:Cn w m a n c z) {ad:Addr} (had:a=some ad) (h0:0<n):ad.block<w.heap.size:=by
 have:=World.block_lt_of_cell? w _ (h.sl.cells ad had 0 h0);rwa[jX]at this
theorem Rd.clean {w:World} {b:Nat} {s:ByteArray} (h:Rd w b s):fe w b:=bD.gY (L:=[.string s]) (T:=111) h fun u hu=>by simp at hu;rw[hu];rfl
theorem AL {B:Nat} {w:World} {mo:Option Addr} {mn mc:Nat} {ms:List (Int×Int)} (h:Mo B w mo mn mc ms) (hB:B<=w.heap.size) (hn:mn<1000000) {u v:Int} (hu:jL u) (hv:jL v) (tt ty:TypeId):
  ∃ro rc W,(Builtin.append_ #[68,68] ty #[.slice mo mn mc,.slice (some ⟨w.heap.size,0,none⟩) 1 1]).run Tryz.prog (w.alloc (.cells #[.int .i64 u,.int .i64 v] tt))= .ok (.slice ro (mn+1) rc) W/\ Mo B W ro (mn+1) rc (ms++[(u,v)])/\ (w.alloc (.cells #[.int .i64 u,.int .i64 v] tt)).grownBy W (blk mo):=by
 obtain⟨i0,hi,hz0,hz1,hz2⟩:=info_parts Tryz.yw;have ho:=h.row.alloc (.cells #[.int .i64 u,.int .i64 v] tt)
 obtain⟨v',W,h1,h2,h3,_⟩:=run_append_own (P:=Tryz.prog) (w.alloc (.cells #[.int .i64 u,.int .i64 v] tt)) B 68 ty 72 i0 _ 2 16 Tryz.underlying68 hi hz0 hz1 hz2 rfl (by omega) _ mn (eP ms) ho ⟨w.heap.size,0,none⟩ 1 1 (eP [(u,v)]) rfl (fun j q hj=>by
  match j,hj with
  |0,hj=>simp[eP]at hj;subst hj;simp[Addr.add]
  |1,hj=>simp[eP]at hj;subst hj;simp[Addr.add]
  |j+2,hj=>simp[eP]at hj) (oM _) (by unfold maxLen;omega) (by omega) (by simp;omega)
 obtain⟨ro,rc,rfl⟩:=pY h2;refine⟨ro,rc,W,h1,⟨by rw[mX];exact h2,by omega,fun p hp=>?_⟩,by rw[<-IW mo mn mc];exact h3⟩;rcases List.mem_append.1 hp with hp|hp
 ·exact h.wf p hp
 ·simp at hp;subst hp;exact⟨hu,hv⟩
theorem Mo.blk {B:Nat} {w:World} {mo:Option Addr} {mn mc:Nat} {ms:List (Int×Int)} (h:Mo B w mo mn mc ms) {g:Nat} (hg:blk mo=some g):B<=g/\ g<w.heap.size/\∃cur,w.heap[g]? =some (.cells cur 72 (0,0)):=by
 rcases h.parts with⟨rfl,_⟩|⟨g',cur,rfl,h1,h2,_,h3⟩
 ·cases hg
 ·cases hg;exact⟨h1,h2,cur,h3⟩
structure xw (w w1:World) (b B2 B3 Bc:Nat) (s:ByteArray) (ca:Option Addr) (cn cc:Nat) (c:Int) (mo:Option Addr) (mn mc:Nat) (ms:List (Int×Int)):Prop where
 rd:Rd w1 b s
 a2:bD w1 B2 [.bool false,.slice none 0 0,.slice none 0 0] 70
 a3:bD w1 B3 [.bool false,.slice ca cn cc,.slice mo mn mc] 70
 nu:Cn w1 false ca cn cc c
 ck:∀ad,ca=some ad->0<cn->ad.block<Bc
 mm:Mo Bc w1 mo mn mc ms
 g:w.grownBy w1 (some b)
 o:b<w.heap.size/\ w.heap.size<=B2/\ B2<B3/\ w.heap.size<=Bc/\ Bc<=w1.heap.size
section
variable {w w1 w2:World} {b B2 B3 Bc:Nat} {s s':ByteArray} {ca:Option Addr} {cn cc:Nat} {c:Int} {mo:Option Addr} {mn mc:Nat} {ms:List (Int×Int)}
theorem xw.gb (h:xw w w1 b B2 B3 Bc s ca cn cc c mo mn mc ms) (hR:Rd w2 b s') (hg:w1.grownBy w2 (some b)):xw w w2 b B2 B3 Bc s' ca cn cc c mo mn mc ms:=by
 have o:=h.o;have hs:=hg.size;refine⟨hR,h.a2.apart hg (fun e=>by have:=Option.some.inj e;omega),h.a3.apart hg (fun e=>by have:=Option.some.inj e;omega),h.nu.jk h.rd.clean hg,h.ck,h.mm.keep fun a e=>?_,aG h.g hg,by omega⟩;have:=h.mm.blk (g:=a.block) (by rw[e];rfl);exact hg.block _ this.2.1 fun e=>by have:=Option.some.inj e;omega
theorem xw.below (h:xw w w1 b B2 B3 Bc s ca cn cc c mo mn mc ms) (hb:Below w1.heap.size w1 w2):xw w w2 b B2 B3 Bc s ca cn cc c mo mn mc ms:=h.gb (h.rd.below hb) (bU _ hb)
theorem xw.JJ (h:w.grownBy w1 (some b)) (hB:w.heap.size<=B3) (o:Nat) (u:Value):w.grownBy (w1.setCell ⟨B3,o,none⟩ u) (some b):=
 ⟨h.os,h.tape,h.output,by have:=h.size;simpa[World.setCell]using this,fun k hk hne=>(Below.heap_setCell _ _ _ _ (show k≠B3 by omega)).trans (h.block k hk hne)⟩
theorem xw.ZF (h:xw w w1 b B2 B3 Bc s ca cn cc c none 0 0 []) {ZG:Option Addr} {ZH cc':Nat} {c':Int} (hC:Cn w1 false ZG ZH cc' c'):
  xw w ((w1.setCell ⟨B3,0,none⟩ (.bool false)).setCell ⟨B3,1,none⟩ (.slice ZG ZH cc')) b B2 B3 w1.heap.size s ZG ZH cc' c' none 0 0 []:=by
 have o:=h.o;refine⟨lG (lG h.rd (by omega) _) (by omega) _,(h.a2.far (by omega) _ _).far (by omega) _ _,(h.a3.set 0 _).set 1 _,?_,fun ad had h0=>hC.blt had h0,Mo.nil _ _,xw.JJ (xw.JJ h.g (by omega) _ _) (by omega) _ _,⟨o.1,o.2.1,o.2.2.1,h.g.size,by simp[World.setCell]⟩⟩;exact hC.jk (h.a3.gY (vG _ _ _ _ _ _ _)) (eG (cB _ _ _ _) (cB _ _ _ _))
theorem xw.push [Ol] (h:xw w w1 b B2 B3 Bc s ca cn cc c mo mn mc ms) {tt:TypeId} {x y:Value} (hg:(w1.alloc (.cells #[x,y] tt)).grownBy w2 (blk mo)) {ro:Option Addr} {rc:Nat} {p:Int×Int} (hM:Mo Bc w2 ro (mn+1) rc (ms++[p])):
  xw w (w2.setCell ⟨B3,2,none⟩ (.slice ro (mn+1) rc)) b B2 B3 Bc s ca cn cc c ro (mn+1) rc (ms++[p])/\ w2.cell? ⟨B3,2,none⟩=some (.slice mo mn mc)/\ w2.frozen? ⟨B3,2,none⟩=false:=by
 have o:=h.o;have hB:Below w1.heap.size w1 (w1.alloc (.cells #[x,y] tt)):=af _ _;have hs:=hg.size;have hs1:=hB.size
 have hk:∀k,k<w1.heap.size->(∀g,blk mo=some g->k≠g)->w2.heap[k]? =w1.heap[k]? :=fun k hk hne=>by
  refine(hg.block k (by omega) fun e=>?_).trans (hB.block k hk);exact hne k e.symm rfl
 have hty:∀{k:Nat} {L:List Value} {T:TypeId},bD w1 k L T->T≠72->∀g,blk mo=some g->k≠g:=fun{k L T} hA hT g hg e=>by
  obtain⟨_,_,cur,hc⟩:=h.mm.blk hg;subst e;unfold bD at hA;rw[hA]at hc;cases hc;exact hT rfl
 have r2:Rd w2 b s:=(hk b h.rd.lt (hty (L:=[.string s]) h.rd (by decide))).trans h.rd;have c2:bD w2 B2 _ _:=h.a2.keep (hk B2 h.a2.lt (hty h.a2 (by decide)));have c3:bD w2 B3 _ _:=h.a3.keep (hk B3 h.a3.lt (hty h.a3 (by decide)));have n2:Cn w2 false ca cn cc c:=h.nu.MJ fun ad had h0=>hk _ (h.nu.blt had h0) fun g hg=>by have:=h.ck ad had h0;have:=(h.mm.blk hg).1;omega
 have g2:w.grownBy w2 (some b):=by
  refine⟨hg.os.trans (hB.os.trans h.g.os),hg.tape.trans (hB.tape.trans h.g.tape),hg.output.trans (hB.output.trans h.g.output),by have:=h.g.size;omega,fun k hk2 hne=>?_⟩;have:=h.g.size;exact(hk k (by omega) fun g hg e=>by have:=(h.mm.blk hg).1;omega).trans (h.g.block k hk2 hne)
 refine⟨⟨lG r2 (by omega) _,c2.far (by omega) _ _,c3.set 2 _,n2.jk (c3.gY (vG _ _ _ _ _ _ _)) (cB _ _ _ _),h.ck,hM.keep fun a e=>?_,xw.JJ g2 (by omega) _ _,by have e:(w2.setCell ⟨B3,2,none⟩ (.slice ro (mn+1) rc)).heap.size=w2.heap.size:=(by simp[World.setCell]);omega⟩,c3.cell 2,c3.fz 2⟩;obtain⟨_,_,cur,hc⟩:=hM.blk (g:=a.block) (by rw[e];rfl);refine Below.heap_setCell _ _ _ _ fun e=>?_
 rw[e]at hc;unfold bD at c3;rw[c3]at hc;cases hc
end
def Xj [Ol] (b:Nat) (o:Option (Term×List UInt8)) (w:World) (e:Ending) (w':World):Prop:=
 match o with
 |none=>sG b w e w'
 |some t=>∃ca cn cc mo mn mc,e= .returned (.agg #[.bool false,.slice ca cn cc,.slice mo mn mc])/\ Cn w' false ca cn cc t.1.1/\ Ml w' mo mn mc t.1.2/\ Rd w' b ⟨t.2.toArray⟩/\ w.grownBy w' (some b)
theorem xw.fin [Ol] {w w1:World} {b B2 B3 Bc:Nat} {s:ByteArray} {ca:Option Addr} {cn cc:Nat} {c:Int} {mo:Option Addr} {mn mc:Nat} {ms:List (Int×Int)} (h:xw w w1 b B2 B3 Bc s ca cn cc c mo mn mc ms) {W:World} (hW:W=((w1.setCell ⟨B2,0,none⟩ (.bool false)).setCell ⟨B2,1,none⟩ (.slice ca cn cc)).setCell ⟨B2,2,none⟩ (.slice mo mn mc)):
  Cn W false ca cn cc c/\ Ml W mo mn mc ms/\ Rd W b s/\ w.grownBy W (some b)/\ bD W B2 [.bool false,.slice ca cn cc,.slice mo mn mc] 70:=by
 have o:=h.o;have hg:=sH w1 B2 0 (.bool false) (.slice ca cn cc) (.slice mo mn mc);have hc:=h.a2.gY (vG _ _ _ _ _ _ _);rw[hW];exact⟨h.nu.jk hc hg,h.mm.ml.jk hc hg,lG (lG (lG h.rd (by omega) _) (by omega) _) (by omega) _,xw.JJ (xw.JJ (xw.JJ h.g (by omega) _ _) (by omega) _ _) (by omega) _ _,((h.a2.set 0 _).set 1 _).set 2 _⟩
theorem DV {l r:List UInt8} {v:Int×Int} (h:nJ l=some (v,r)):r.length<l.length:=by
 have:=congrArg List.length (mK h).1;rw[List.length_append,jl,List.length_cons]at this;omega
theorem DW {l r:List UInt8} {v:Int×Int} (h:nJ l=some (v,r)):jL v.1/\ jL v.2:=by
 obtain⟨h1,h2,h3,h4⟩:=(mK h).2;unfold jL;omega
def AO (b:Nat) (w:World):Nat:=match w.cell? ⟨b,0,none⟩with|some (.string s)=>s.size| _=>0
theorem Rd.len {w:World} {b:Nat} {s:ByteArray} (h:Rd w b s):AO b w=s.size:=by unfold AO;rw[h.cell]
open Lib (hid)
theorem JK [Ol] {b N:Nat} {s:ByteArray} {o:Option (Term×List UInt8)} {w:World} (h:Rd w b s) (hs:s.size<=9000) (hN:s.size<=N) (hE:pO w) (hG:6<b) (ho:o=iO N s.data.toList):
  Calls Tryz.prog 112 #[.pointer (some ⟨b,0,none⟩)] w (Xj b o w):=by
 have HR:=hid h;have HO:=hid ho;have HE:=hid hE;have HG:=hid hG;clear h ho hE hG;go_enter Tryz.func112,Tryz.ntmps112;obtain⟨b2,hb2⟩:∃b,b=w.heap.size:=⟨_,rfl⟩;go_upto_region 1 with(fail)
 refine aj (fun W0 hW=>?_);have a2:bD W0 b2 [.bool false,.slice none 0 0,.slice none 0 0] 70/\ Below w.heap.size w W0:=by rw[hW,hb2];exact nI w _ 70
 rw[<-hb2];have hw2:w.heap.size<=b2:=by omega
 clear hW hb2;go_wp2_with fail;refine(uf 1 _ (by omega)).mono ?_;rintro e w1 ⟨m1,a1,n1,c1,rfl,hC,hB⟩;obtain rfl:m1=false:=by have:=hC.neg;simpa using this
 obtain⟨b3,hb3⟩:∃b,b=w1.heap.size:=⟨_,rfl⟩;go_upto_region 2 with(fail)
 refine aj (fun W2 hW=>?_);have a3:bD W2 b3 [.bool false,.slice a1 n1 c1,.slice none 0 0] 70/\ Below w1.heap.size w1 W2:=by rw[hW,hb3];exact nI w1 _ 70
 rw[<-hb3]
 have T0:Hid (xw w W2 b b2 b3 W2.heap.size s a1 n1 c1 1 none 0 0 []):=by
  have hB2:=Below.steps (Below.steps a2.2 hB) a3.2;have hl:=a2.1.lt;have hl2:=hB.size;exact⟨HR.out.below hB2,(a2.1.below hB).below a3.2,a3.1,hC.below a3.2,fun ad had h0=>(hC.below a3.2).blt had h0,Mo.nil _ _,bU _ hB2,⟨HR.out.lt,hw2,by omega,hB2.size,Nat.le_refl _⟩⟩
 clear hW hb3 a2 a3 hB hC hw2;have hc:=T0.out.rd.cell;go_wp2_with fail;clear hc;by_cases hx:s.data.toList.head? =some 120;have hq:=uj s ⟨#[120]⟩ W2
 have hq1:Lib.hasPrefix s.data.toList (⟨#[120]⟩:ByteArray).data.toList=true:=by
  cases hl:s.data.toList with
  |nil=>rw[hl]at hx;simp at hx
  |cons a l=>rw[hl]at hx;simp at hx;simp[Lib.hasPrefix,List.isPrefixOf,hx]
 rw[hq1]at hq;refine hq.mono ?_;rintro e V ⟨rfl,hB⟩;have T:=hid (T0.out.below hB);have JL:Hid (o=(kK N s.data.toList).bind fun a=>some (((1:Int),a.1),a.2)):=by rw[Hid,HO.out];unfold iO;rw[if_pos hx]
 have DF:Hid (s.size<=9000):=hs;have VO:Hid (s.size<=N):=hN;clear hB hq hq1 hx T0 HO
 focus go_upto_region 9 with(fail)
 rotate_left
 have hq:=uj s ⟨#[120]⟩ W2
 have hq1:Lib.hasPrefix s.data.toList (⟨#[120]⟩:ByteArray).data.toList=false:=by
  cases hl:s.data.toList with
  |nil=>rfl
  |cons a l=>rw[hl]at hx;simp at hx;simp[Lib.hasPrefix,List.isPrefixOf];exact fun e=>hx e.symm
 rw[hq1]at hq;refine hq.mono ?_;rintro e V0 ⟨rfl,hB⟩;have T1:=hid (T0.out.below hB);have JL:Hid (o=(lH s.data.toList).bind fun a=>match takeB 42 a.2 with|none=>some (((aP a.1:Int),[]),a.2)|some l1=>if a.1=[49]then none else(kK N l1).bind fun b=>some (((aP a.1:Int),b.1),b.2)):=by rw[Hid,HO.out];unfold iO;rw[if_neg hx];rfl
 clear hB hq hq1 hx T0 HO
 focus go_wp2_with fail
 by_cases hd:lH s.data.toList=none
 ·refine(yx T1.out.rd (by omega) rfl rfl (by unfold lH at hd;split at hd;assumption;cases hd)).mono ?_;rintro e w2 ⟨rfl,hg⟩;go_wp2_with fail;have wG:o=none:=by rw[JL.out,hd];rfl
  rw[wG];exact⟨rfl,rfl,aG T1.out.g hg⟩
 obtain⟨⟨d,r⟩,hd2⟩:=Option.ne_none_iff_exists'.1 hd;have hdd:=gH hd2;have hdl:d.length+r.length=s.size:=by have:=congrArg List.length hdd.1;rw[List.length_append,<-Lib.size_eq]at this;omega
 refine(vH T1.out.rd (by omega) hd2).mono ?_;rintro e w2 ⟨rfl,hR,hg⟩;have T2:=hid (T1.out.gb hR hg);have wG:Hid (o=match takeB 42 r with|none=>some (((aP d:Int),[]),r)|some l1=>if d=[49]then none else(kK N l1).bind fun b=>some (((aP d:Int),b.1),b.2)):=by rw[Hid,JL.out,hd2];rfl
 have HAD:Hid (dw d=true):=by rw[Hid,<-hdd.2.1];exact qV _
 clear hR hg T1 JL hd hd2 hdd
 focus go_wp2_with fail
 refine(DU d _ HAD.out (by omega)).mono ?_;rintro e w3 ⟨m4,a4,n4,c4,rfl,hC,hB⟩;obtain rfl:m4=false:=by rw[hC.neg];exact decide_eq_false (by omega)
 have T3:=hid (T2.out.below hB);have HC:=hid hC;obtain⟨dx,ZI⟩:∃dx:ByteArray,dx=⟨d.toArray⟩:=⟨_,rfl⟩;have HDX:Hid (dx.data.toList=d):=by rw[Hid,ZI]
 rw[<-ZI];clear hB hC T2 ZI;obtain⟨x0,x1,_⟩:=T3.out.a3.c3;have x2:=T3.out.a3.fz 0;have x3:=T3.out.a3.fz 1
 focus go_upto_region 5 with(fail)
 refine aj (fun W4 hW=>?_);have T4:Hid (xw w W4 b b2 b3 w3.heap.size ⟨r.toArray⟩ a4 n4 c4 (aP d:Int) none 0 0 []):=by rw[hW];exact T3.out.ZF HC.out
 clear hW T3 HC x0 x1 x2 x3
 focus go_wp2_with fail
 by_cases ht:takeB 42 r=none
 ·refine(jE T4.out.rd ht).mono ?_;rintro e w5 ⟨rfl,hR,hg⟩;have T5:=hid (T4.out.gb hR hg);have Md:Hid (o=some (((aP d:Int),[]),r)):=by rw[Hid,wG.out,ht]
  clear hR hg T4 wG ht;obtain⟨x0,x1,x2⟩:=T5.out.a3.c3;obtain⟨y0,y1,y2⟩:=T5.out.a2.c3;have z0:=T5.out.a2.fz 0;have z1:=T5.out.a2.fz 1;have z2:=T5.out.a2.fz 2;go_wp2_with fail;refine bodyPost_ret (v:= .agg #[.bool false,.slice a4 n4 c4,.slice none 0 0]) (by simp[results,Tryz.results112,go_sem,y0,y1,y2]) rfl ?_;rw[Md.out];have hF:=T5.out.fin rfl;exact⟨_,_,_,_,_,_,rfl,hF.1,hF.2.1,hF.2.2.1,hF.2.2.2.1⟩
 obtain⟨l1,ht2⟩:=Option.ne_none_iff_exists'.1 ht;refine(fM T4.out.rd ht2).mono ?_;rintro e V ⟨rfl,hR,hg⟩;have T5:=hid (T4.out.gb hR hg);have Md:Hid (o=if d=[49]then none else(kK N l1).bind fun b=>some (((aP d:Int),b.1),b.2)):=by rw[Hid,wG.out,ht2]
 have hll:l1.length<=r.length:=ic ht2;clear hR hg T4 wG ht ht2;by_cases h1:d=[49]
 ·have hq:(dx.toList==[49])=true:=kG (HDX.out.trans h1);go_wp2_with fail;refine(iV (b:=b)).mono ?_;rintro e w6 ⟨rfl,hg⟩;go_wp2_with fail;rw[Md.out,if_pos h1];exact⟨rfl,rfl,aG T5.out.g hg⟩
 have hq:(dx.toList==[49])=false:=jM (fun e=>h1 (HDX.out.symm.trans e));have JL:Hid (o=(kK N (⟨l1.toArray⟩:ByteArray).data.toList).bind fun a=>some (((aP d:Int),a.1),a.2)):=by rw[Hid,Md.out,if_neg h1]
 have hsz1:(⟨l1.toArray⟩:ByteArray).size=l1.length:=Lib.size_eq _;have DF:Hid ((⟨l1.toArray⟩:ByteArray).size<=9000):=by rw[Hid];omega
 have VO:Hid ((⟨l1.toArray⟩:ByteArray).size<=N):=by rw[Hid];omega
 have T:=T5;clear Md h1 hsz1 hll hdl HAD T5
 focus go_upto_region 9 with(fail)
 clear hq
 rotate_left
 all_goals
  obtain⟨ca,cn,cc,c,Bc,s1,HT,HO,DF,VO⟩:∃(ca:Option Addr) (cn cc:Nat) (c:Int) (Bc:Nat) (s1:ByteArray),Hid (xw w V b b2 b3 Bc s1 ca cn cc c none 0 0 [])/\ Hid (o=(kK N s1.data.toList).bind fun a=>some ((c,a.1),a.2))/\ Hid (s1.size<=9000)/\ Hid (s1.size<=N):=⟨_,_,_,_,_,_,T,JL,DF,VO⟩;have T:=HT;have xH:=DF;have DF:Hid (s1.size<=65536):=by have:=xH.out;rw[Hid];omega
  clear JL HT;by_cases hp:nJ s1.data.toList=none
  ·have HP:=hid hp;have Xk:Hid (o=none):=by rw[Hid,HO.out,kK,hp];rfl
   clear hp HO xH VO;refine wp_region_held_drew (S:=fun _=>True) (by kernel_rfl) trivial (fun hH=>?_);refine ai (fun W1 hW=>?_);have T1:=hid (T.out.below (by rw[hW];exact(Below.refl _ _).drew:Below V.heap.size V W1));clear hW T;refine bC 0 hH ?_
   try simp only[aI]
   refine bC 2 hH ?_
   try simp only[aI]
   refine wpAnyH_ready (rs:=[1,3]) (by kernel_rfl) (by simp) (aO rfl (fun KK hK=>?_) (aO rfl (fun KK hK=>?_) (AllReadyH.nil)))
   ·have x2:=T1.out.a3.c3.2.2
    focus go_simp
    clear x2;clear hH;refine hK.out _ _ trivial fun hH=>?_;clear hK KK
    try simp only[aI]
    refine ah 3 rfl (by kernel_rfl) (fun KK hK=>?_)
    focus go_simp
    refine(oN T1.out.rd DF.out (HE.out.keep T1.out.g HG.out T1.out.o.1) HG.out HP.out).mono ?_;rintro e w2 ⟨rfl,hg⟩
    focus go_wp2_with fail
    rw[Xk.out];exact⟨rfl,rfl,aG T1.out.g hg⟩
   ·focus go_simp
    refine(oN T1.out.rd DF.out (HE.out.keep T1.out.g HG.out T1.out.o.1) HG.out HP.out).mono ?_;rintro e w2 ⟨rfl,hg⟩
    focus go_wp2_with fail
    rw[Xk.out];exact⟨rfl,rfl,aG T1.out.g hg⟩
  obtain⟨⟨v,r1⟩,hp2⟩:=Option.ne_none_iff_exists'.1 hp;have HP:=hid hp2;have Uj:=hid (DW hp2);have Xl:Hid ((0:Nat)<1000000):=by rw[Hid];omega
  have wG:Hid (o=(jN N r1).bind fun q=>some ((c,[v]++q.1),q.2)):=by
   rw[Hid,HO.out,kK,hp2];show(Option.bind (Option.bind (jN N r1) _) _)=_;cases jN N r1<;>rfl
  have DI:Hid (r1.length<s1.size):=by have:=DV hp2;rw[<-Lib.size_eq]at this;exact this
  clear hp hp2 HO;refine wp_region_held_drew (S:=fun _=>True) (by kernel_rfl) trivial (fun hH=>?_);refine ai (fun W1 hW=>?_);have T1:=hid (T.out.below (by rw[hW];exact(Below.refl _ _).drew:Below V.heap.size V W1));clear hW T;refine bC 0 hH ?_
  try simp only[aI]
  refine bC 2 hH ?_
  try simp only[aI]
  refine wpAnyH_ready (rs:=[1,3]) (by kernel_rfl) (by simp) (aO rfl (fun KK hK=>?_) (aO rfl (fun KK hK=>?_) (AllReadyH.nil)));have x2:=T1.out.a3.c3.2.2
  focus go_simp
  clear x2;clear hH;refine hK.out _ _ trivial fun hH=>?_;clear hK KK
  try simp only[aI]
  refine ah 3 rfl (by kernel_rfl) (fun KK hK=>?_)
  focus go_simp
  refine(uo T1.out.rd DF.out HP.out).mono ?_;rintro e w2 ⟨rfl,hR,hg⟩;have T2:=hid (T1.out.gb hR hg);clear hR hg
  focus go_wp2_with fail
  clear hH;refine hK.out _ _ trivial fun hH=>?_;clear hK KK
  try simp only[aI]
  refine ah 4 rfl (by kernel_rfl) (fun KK hK=>?_)
  focus go_simp
  clear hH;refine hK.out _ _ trivial fun hH=>?_;clear hK KK
  try simp only[aI]
  rotate_left
  focus go_simp
  refine(uo T1.out.rd DF.out HP.out).mono ?_;rintro e w2 ⟨rfl,hR,hg⟩;have T2:=hid (T1.out.gb hR hg);clear hR hg
  focus go_wp2_with fail
  clear hH;refine hK.out _ _ trivial fun hH=>?_;clear hK KK
  try simp only[aI]
  refine wpAnyH_ready (rs:=[1,4]) (by kernel_rfl) (by simp) (aO rfl (fun KK hK=>?_) (aO rfl (fun KK hK=>?_) (AllReadyH.nil)));have x2:=T2.out.a3.c3.2.2
  focus go_simp
  clear x2;clear hH;refine hK.out _ _ trivial fun hH=>?_;clear hK KK
  try simp only[aI]
  refine ah 4 rfl (by kernel_rfl) (fun KK hK=>?_)
  focus go_simp
  clear hH;refine hK.out _ _ trivial fun hH=>?_;clear hK KK
  try simp only[aI]
  rotate_left
  focus go_simp
  clear hH;refine hK.out _ _ trivial fun hH=>?_;clear hK KK
  try simp only[aI]
  refine ah 1 rfl (by kernel_rfl) (fun KK hK=>?_);have x2:=(T2.out.below (af w2 (.cells #[.int .i64 v.1,.int .i64 v.2] 72))).a3.c3.2.2
  focus go_simp
  clear x2;clear hH;refine hK.out _ _ trivial fun hH=>?_;clear hK KK
  try simp only[aI]
  all_goals
   obtain⟨ro,rc,W3,hrun,hM,hg⟩:=AL T2.out.mm T2.out.o.2.2.2.2 Xl.out Uj.out.1 Uj.out.2 72 68;refine ah 5 rfl (by kernel_rfl) (fun KK hK=>?_);refine yA rfl _ _ _ _ rfl (by simp[Act.eval]) (by simp[Act.eval]) hrun ?_;clear hH;refine hK.out _ _ trivial fun hH=>?_;clear hK KK
   try simp only[aI]
   have JM:=T2.out.push hg hM;clear hrun hM hg;refine bC 6 hH ?_
   try simp only[aI]
   refine ah 7 rfl (by kernel_rfl) (fun KK hK=>?_);have x2:=JM.2.1;have x3:=JM.2.2
   focus go_simp
   clear x2 x3;refine hK.out _ _ trivial (fun h2=>?_);clear hK KK hH;clear h2
   try rw[aI.2.1]
   refine wpAnyH_done (by kernel_rfl) ?_ _
   have T3:=hid JM.1;clear JM T2;clear HP Uj Xl DF;go_wp2_with fail;go_loopw [33] (fun _ wr=>∃(s:ByteArray) (mo:Option Addr) (mn mc:Nat) (ms:List (Int×Int)) (k:Nat),Hid (xw w wr b b2 b3 Bc s ca cn cc c mo mn mc ms/\ mn+s.size<=9000/\ s.size<k/\ o=(jN k s.data.toList).bind fun q=>some ((c,ms++q.1),q.2))) (fun _ wr=>AO b wr)
   case atStart=>exact⟨⟨r1.toArray⟩,ro,1,rc,[v],N,T3.out,by have h1:=DI.out;have h2:=xH.out;have h3:(⟨r1.toArray⟩:ByteArray).size=r1.length:=Lib.size_eq _;omega,by have h1:=DI.out;have h2:=VO.out;have h3:(⟨r1.toArray⟩:ByteArray).size=r1.length:=Lib.size_eq _;omega,wG.out⟩
   case round=>
    clear T3 DI wG VO xH;obtain⟨s2,mo,mn,mc,ms,k,HS⟩:=hrel;have MK:Hid (AO b wr=s2.size):=HS.out.1.rd.len;obtain⟨k,rfl⟩:∃k',k=k'+1:=⟨k-1,by have:=HS.out.2.2.1;omega⟩;go_wp2_with fail;by_cases ht:takeB 42 s2.data.toList=none
    ·refine(jE HS.out.1.rd ht).mono ?_;rintro e w5 ⟨rfl,hR,hg⟩;have T5:=hid (HS.out.1.gb hR hg)
     have Md:Hid (o=some ((c,ms),s2.data.toList)):=by
      rw[Hid,HS.out.2.2.2,jN,ht];show some ((c,ms++[]),s2.data.toList)=_;rw[List.append_nil]
     clear hR hg HS ht MK;obtain⟨x0,x1,x2⟩:=T5.out.a3.c3;obtain⟨y0,y1,y2⟩:=T5.out.a2.c3;have z0:=T5.out.a2.fz 0;have z1:=T5.out.a2.fz 1;have z2:=T5.out.a2.fz 2;go_wp2_with fail;refine bodyPost_ret (v:= .agg #[.bool false,.slice ca cn cc,.slice mo mn mc]) (by simp[results,Tryz.results112,go_sem,y0,y1,y2]) rfl ?_;rw[Md.out];have hF:=T5.out.fin rfl;exact⟨_,_,_,_,_,_,rfl,hF.1,hF.2.1,hF.2.2.1,hF.2.2.2.1⟩
    obtain⟨l1,ht2⟩:=Option.ne_none_iff_exists'.1 ht;refine(fM HS.out.1.rd ht2).mono ?_;rintro e V ⟨rfl,hR,hg⟩;obtain⟨s1,hs1⟩:∃s1:ByteArray,s1=⟨l1.toArray⟩:=⟨_,rfl⟩;rw[<-hs1]at hR;have T:=hid (HS.out.1.gb hR hg);have hlb:=ic ht2;have hll:s1.size<=s2.size:=by rw[hs1,Lib.size_eq,Lib.size_eq];exact hlb
    have hl1:l1=s1.data.toList:=by rw[hs1]
    have DF:Hid (s1.size<=65536):=by have:=HS.out.2.1;rw[Hid];omega
    have HB:Hid (mn+s1.size<=9000/\ s1.size<k+1/\ s1.size<=s2.size):=by have h1:=HS.out.2.1;have h2:=HS.out.2.2.1;exact⟨by omega,by omega,hll⟩
    have HO:Hid (o=((nJ s1.data.toList).bind fun a=>(jN k a.2).bind fun b=>some (a.1::b.1,b.2)).bind fun q=>some ((c,ms++q.1),q.2)):=by
     rw[Hid,HS.out.2.2.2,jN,ht2,hl1]
    clear hR hg HS ht ht2 hs1 hll hl1 hlb
    focus go_upto_region 11 with(fail)
    by_cases hp:nJ s1.data.toList=none
    ·have HP:=hid hp;have Xk:Hid (o=none):=by rw[Hid,HO.out,hp];rfl
     clear hp HO HB MK;refine wp_region_held_drew (S:=fun _=>True) (by kernel_rfl) trivial (fun hH=>?_);refine ai (fun W1 hW=>?_);have T1:=hid (T.out.below (by rw[hW];exact(Below.refl _ _).drew:Below V.heap.size V W1));clear hW T;refine bC 0 hH ?_
     try simp only[aI]
     refine bC 2 hH ?_
     try simp only[aI]
     refine wpAnyH_ready (rs:=[1,3]) (by kernel_rfl) (by simp) (aO rfl (fun KK hK=>?_) (aO rfl (fun KK hK=>?_) (AllReadyH.nil)))
     ·have x2:=T1.out.a3.c3.2.2
      focus go_simp
      clear x2;clear hH;refine hK.out _ _ trivial fun hH=>?_;clear hK KK
      try simp only[aI]
      refine ah 3 rfl (by kernel_rfl) (fun KK hK=>?_)
      focus go_simp
      refine(oN T1.out.rd DF.out (HE.out.keep T1.out.g HG.out T1.out.o.1) HG.out HP.out).mono ?_;rintro e w2 ⟨rfl,hg⟩
      focus go_wp2_with fail
      rw[Xk.out];exact⟨rfl,rfl,aG T1.out.g hg⟩
     ·focus go_simp
      refine(oN T1.out.rd DF.out (HE.out.keep T1.out.g HG.out T1.out.o.1) HG.out HP.out).mono ?_;rintro e w2 ⟨rfl,hg⟩
      focus go_wp2_with fail
      rw[Xk.out];exact⟨rfl,rfl,aG T1.out.g hg⟩
    obtain⟨⟨v,r1⟩,hp2⟩:=Option.ne_none_iff_exists'.1 hp;have HP:=hid hp2;have Uj:=hid (DW hp2);have Xl:Hid (mn<1000000):=by have:=HB.out.1;rw[Hid];omega
    have wG:Hid (o=(jN k r1).bind fun q=>some ((c,(ms++[v])++q.1),q.2)):=by
     rw[Hid,HO.out,hp2];show(Option.bind (Option.bind (jN k r1) _) _)=_;cases jN k r1 with
     |none=>rfl
     |some q=>show some ((c,ms++v::q.1),q.2)=some ((c,(ms++[v])++q.1),q.2);rw[List.append_assoc];rfl
    have DI:Hid (r1.length<s1.size):=by have:=DV hp2;rw[<-Lib.size_eq]at this;exact this
    clear hp hp2 HO;refine wp_region_held_drew (S:=fun _=>True) (by kernel_rfl) trivial (fun hH=>?_);refine ai (fun W1 hW=>?_);have T1:=hid (T.out.below (by rw[hW];exact(Below.refl _ _).drew:Below V.heap.size V W1));clear hW T;refine bC 0 hH ?_
    try simp only[aI]
    refine bC 2 hH ?_
    try simp only[aI]
    refine wpAnyH_ready (rs:=[1,3]) (by kernel_rfl) (by simp) (aO rfl (fun KK hK=>?_) (aO rfl (fun KK hK=>?_) (AllReadyH.nil)));have x2:=T1.out.a3.c3.2.2
    focus go_simp
    clear x2;clear hH;refine hK.out _ _ trivial fun hH=>?_;clear hK KK
    try simp only[aI]
    refine ah 3 rfl (by kernel_rfl) (fun KK hK=>?_)
    focus go_simp
    refine(uo T1.out.rd DF.out HP.out).mono ?_;rintro e w2 ⟨rfl,hR,hg⟩;have T2:=hid (T1.out.gb hR hg);clear hR hg
    focus go_wp2_with fail
    clear hH;refine hK.out _ _ trivial fun hH=>?_;clear hK KK
    try simp only[aI]
    refine ah 4 rfl (by kernel_rfl) (fun KK hK=>?_)
    focus go_simp
    clear hH;refine hK.out _ _ trivial fun hH=>?_;clear hK KK
    try simp only[aI]
    rotate_left
    focus go_simp
    refine(uo T1.out.rd DF.out HP.out).mono ?_;rintro e w2 ⟨rfl,hR,hg⟩;have T2:=hid (T1.out.gb hR hg);clear hR hg
    focus go_wp2_with fail
    clear hH;refine hK.out _ _ trivial fun hH=>?_;clear hK KK
    try simp only[aI]
    refine wpAnyH_ready (rs:=[1,4]) (by kernel_rfl) (by simp) (aO rfl (fun KK hK=>?_) (aO rfl (fun KK hK=>?_) (AllReadyH.nil)));have x2:=T2.out.a3.c3.2.2
    focus go_simp
    clear x2;clear hH;refine hK.out _ _ trivial fun hH=>?_;clear hK KK
    try simp only[aI]
    refine ah 4 rfl (by kernel_rfl) (fun KK hK=>?_)
    focus go_simp
    clear hH;refine hK.out _ _ trivial fun hH=>?_;clear hK KK
    try simp only[aI]
    rotate_left
    focus go_simp
    clear hH;refine hK.out _ _ trivial fun hH=>?_;clear hK KK
    try simp only[aI]
    refine ah 1 rfl (by kernel_rfl) (fun KK hK=>?_);have x2:=(T2.out.below (af w2 (.cells #[.int .i64 v.1,.int .i64 v.2] 72))).a3.c3.2.2
    focus go_simp
    clear x2;clear hH;refine hK.out _ _ trivial fun hH=>?_;clear hK KK
    try simp only[aI]
    all_goals
     obtain⟨ro,rc,W3,hrun,hM,hg⟩:=AL T2.out.mm T2.out.o.2.2.2.2 Xl.out Uj.out.1 Uj.out.2 72 68;refine ah 5 rfl (by kernel_rfl) (fun KK hK=>?_);refine yA rfl _ _ _ _ rfl (by simp[Act.eval]) (by simp[Act.eval]) hrun ?_;clear hH;refine hK.out _ _ trivial fun hH=>?_;clear hK KK
     try simp only[aI]
     have JM:=T2.out.push hg hM;clear hrun hM hg;refine bC 6 hH ?_
     try simp only[aI]
     refine ah 7 rfl (by kernel_rfl) (fun KK hK=>?_);have x2:=JM.2.1;have x3:=JM.2.2
     focus go_simp
     clear x2 x3;refine hK.out _ _ trivial (fun h2=>?_);clear hK KK hH;clear h2
     try rw[aI.2.1]
     refine wpAnyH_done (by kernel_rfl) ?_ _
     have T3:=hid JM.1;clear JM T2;clear HP Uj Xl DF;go_wp2_with fail;have h3:(⟨r1.toArray⟩:ByteArray).size=r1.length:=Lib.size_eq _;go_roundw
     case rel=>exact⟨⟨r1.toArray⟩,ro,mn+1,rc,ms++[v],k,T3.out,by have h1:=DI.out;have h2:=HB.out.1;omega,by have h1:=DI.out;have h2:=HB.out.2.1;omega,wG.out⟩
     case measure=>
      have h4:=T3.out.rd.len;have h5:=MK.out;have h1:=DI.out;have h2:=HB.out.2.2;omega
open Lib (hid)
structure DJ [Ol] (w w1:World) (b:Nat) (s:ByteArray) (po:Option Addr) (pn pc:Nat) (p:List Term):Prop where
 rd:Rd w1 b s
 pw:Pw w.heap.size 1000 w1 po pn pc p
 g:w.grownBy w1 (some b)
 o:b<w.heap.size
section
variable {w w1 w2:World} {b:Nat} {s s':ByteArray} {po:Option Addr} {pn pc:Nat} {p:List Term}
theorem Pw.blk [Ol] {B K:Nat} (h:Pw B K w po pn pc p) {g:Nat} (hg:blk po=some g):B<=g/\ g<w.heap.size:=by
 obtain⟨X,h1,_⟩:=h;exact h1.lt g hg
theorem DJ.gb [Ol] (h:DJ w w1 b s po pn pc p) (hR:Rd w2 b s') (hg:w1.grownBy w2 (some b)):DJ w w2 b s' po pn pc p:=by
 have o:=h.o;refine⟨hR,?_,aG h.g hg,o⟩;obtain⟨X,h1,h2⟩:=h.pw;refine⟨X,h1.apart hg ?_,sI h2 h.rd.clean hg⟩;cases e:Go.Proofs.YtmenbpmciblnlaaGreatDoor.blk po with
 |none=>exact .inl rfl
 |some g=>exact .inr fun e2=>by have:=(h1.lt g e).1;have:=Option.some.inj e2;omega
theorem DJ.below [Ol] (h:DJ w w1 b s po pn pc p) (hb:Below w1.heap.size w1 w2):DJ w w2 b s po pn pc p:=h.gb (h.rd.below hb) (bU _ hb)
theorem DJ.push [Ol] (h:DJ w w1 b s po pn pc p) {v:Value} {q:List Term} (hp:ML w.heap.size 1000 w1 po pn q v w2):∃ro rc,v= .slice ro (pn+1) rc/\ DJ w w2 b s ro (pn+1) rc q:=by
 obtain⟨ro,rc,h1,h2,h3,_⟩:=hp;have o:=h.o;have hs:=h.g.size;have hne:∀k,k<w.heap.size->some k≠Go.Proofs.YtmenbpmciblnlaaGreatDoor.blk po:=fun k hk e=>by have:=(h.pw.blk e.symm).1;omega
 exact⟨ro,rc,h1,(h3.block b h.rd.lt (hne b o)).trans h.rd,h2,⟨h3.os.trans h.g.os,h3.tape.trans h.g.tape,h3.output.trans h.g.output,Nat.le_trans hs h3.size,fun k hk hk2=>(h3.block k (by omega) (hne k hk)).trans (h.g.block k hk hk2)⟩,o⟩
end
def rY [Ol] (b:Nat) (o:Option (List Term)) (w:World) (e:Ending) (w':World):Prop:=
 match o with
 |none=>sG b w e w'
 |some p=>if nK (p.map jr)=true then∃po pn pc s,e= .returned (.slice po pn pc)/\ Pw w.heap.size 1000 w' po pn pc p/\ Rd w' b s/\ w.grownBy w' (some b)else sG b w e w'
theorem rY.yes [Ol] {b:Nat} {p:List Term} {w w':World} {po:Option Addr} {pn pc:Nat} {s:ByteArray} (hm:nK (p.map jr)=true) (h:DJ w w' b s po pn pc p):rY b (some p) w (.returned (.slice po pn pc)) w':=by
 unfold rY;simp only;rw[if_pos hm];exact⟨po,pn,pc,s,rfl,h.pw,h.rd,h.g⟩
theorem rY.no [Ol] {b:Nat} {p:List Term} {w w':World} {e:Ending} (hm:¬nK (p.map jr)=true) (h:sG b w e w'):rY b (some p) w e w':=by
 unfold rY;simp only;rw[if_neg hm];exact h
theorem DX (w:Int×Int):0<(jl w).length:=by simp[jl]
theorem JN (t:Term):0<(gI t).length:=by
 obtain⟨c,m⟩:=t;cases m with
 |nil=>exact List.length_pos_iff.2 (Gd _)
 |cons w r=>have:=DX w;simp only[gI,List.length_append];omega
theorem JO {n:Nat} {l r:List UInt8} {t:Term} (h:iO n l=some (t,r)):r.length<l.length:=by
 have:=congrArg List.length (jb h).1;rw[List.length_append]at this;have:=JN t;omega
theorem JP {n:Nat} {l r:List UInt8} {t:Term} (h:iO n l=some (t,r)) (hl:l.length<=9000):Bd t.1 1000/\∀x∈t.2,jL x.1/\ jL x.2:=by
 refine⟨?_,fun x hx=>by obtain⟨h1,h2,h3,h4⟩:=(jb h).2.2 x hx;unfold jL;omega⟩
 have key:∀{d r:List UInt8},lH l=some (d,r)->Bd (aP d:Int) 1000:=fun{d r} hd=>by
  obtain⟨e1,e2,_⟩:=gH hd;refine yu (by rw[<-e2];exact qV _) ?_;have:=congrArg List.length e1;rw[List.length_append]at this;omega
 unfold iO at h;split at h
 ·obtain⟨a,_,h⟩:=Option.bind_eq_some_iff.1 h;injection h with h
  injection h with h1 h2
  subst h1;exact(show Bd 1 1 by unfold Bd;decide).mono (by omega)
 ·obtain⟨⟨d,r1⟩,ha,h⟩:=Option.bind_eq_some_iff.1 h;split at h
  ·injection h with h
   injection h with h1 h2
   subst h1;exact key ha
  ·split at h
   ·cases h
   ·obtain⟨a,_,h⟩:=Option.bind_eq_some_iff.1 h;injection h with h
    injection h with h1 h2
    subst h1;exact key ha
theorem MN {ng:Bool} {t:Term} {k:Nat} (h:Bd t.1 k):Bd (jh ng t).1 k:=by
 cases ng
 ·exact h
 ·exact h.neg
theorem Qs (ng:Bool) (t:Term):(jh ng t).2=t.2:=by cases ng<;>rfl
theorem JQ [Ol] {b N:Nat} {s:ByteArray} {o:Option (List Term)} {w:World} (h:Rd w b s) (hs:s.size<=9000) (hN:s.size<=N) (hE:pO w) (hG:6<b) (ho:o=lI N N s.data.toList):
  Calls Tryz.prog 64 #[.pointer (some ⟨b,0,none⟩)] w (rY b o w):=by
 have HE:=hid hE;have HG:=hid hG
 have DC:Hid (DJ w w b s none 0 0 []/\ 0+s.size<=9000/\ s.size<=N/\ s.size<=N/\ o=(if (0:Nat)=0 then lI N N s.data.toList else ig N N s.data.toList).map ([]++·)):=
  ⟨⟨h,Pw.zero _ _ _,bU _ (Below.refl _ _),h.lt⟩,by omega,hN,hN,by rw[if_pos rfl,ho];cases lI N N s.data.toList<;>rfl⟩
 clear h ho hE hG hs hN;go_enter Tryz.func64,Tryz.ntmps64;go_wp2_with fail;go_loopw [3] (fun v wr=>∃(s:ByteArray) (po:Option Addr) (pn pc:Nat) (p:List Term) (k:Nat),v= .slice po pn pc/\ Hid (DJ w wr b s po pn pc p/\ pn+s.size<=9000/\ s.size<=N/\ s.size<=k/\ o=(if pn=0 then lI N k s.data.toList else ig N k s.data.toList).map (p++·))) (fun _ wr=>AO b wr)
 case atStart=>exact⟨s,none,0,0,[],N,rfl,DC.out⟩
 case round=>
  clear DC;obtain⟨s1,po,pn,pc,p,k,rfl,HS⟩:=hrel;have MK:Hid (AO b wr=s1.size):=HS.out.1.rd.len;have hc:=HS.out.1.rd.cell;by_cases hx:pn≠0/\ s1.data.toList=[]
  ·have hd:((pn:Int)==0)=false:=by simpa using(show¬(pn:Int)=0 by omega)
   have hq:(s1.toList==[])=true:=kG hx.2;have hq2:(s1.toList !=[])=false:=by simp[bne,hq]
   have HO:Hid (o=some p):=by
    rw[Hid,HS.out.2.2.2.2,if_neg hx.1,hx.2];cases k<;>(show some (p++[])=some p;rw[List.append_nil])
   clear hx MK;go_wp2_with fail;clear hd hq hq2 hc;by_cases hm:nK (p.map jr)=true
   ·refine(p9 true HS.out.1.pw.pc.raw (fun t ht=>HS.out.1.pw.pc.lens t ht) hm).mono ?_;rintro e V ⟨rfl,hB⟩;have T:=hid (HS.out.1.below hB);have HM:=hid hm;clear hB hm HS;go_wp2_with fail;go_ret;rw[HO.out];exact rY.yes HM.out T.out
   ·refine(p9 false HS.out.1.pw.pc.raw (fun t ht=>HS.out.1.pw.pc.lens t ht) (Bool.eq_false_iff.2 hm)).mono ?_;rintro e V ⟨rfl,hB⟩;have T:=hid (HS.out.1.below hB);have HM:=hid hm;clear hB hm HS;go_wp2_with fail;refine(iV (b:=b)).mono ?_;rintro e w2 ⟨rfl,hg⟩;go_wp2_with fail;rw[HO.out];exact⟨rfl,rY.no HM.out ⟨rfl,aG T.out.g hg⟩⟩
  by_cases h0:pn=0;have hd:((pn:Int)==0)=true:=by simp[h0]
  focus go_upto_region 3 with(fail)
  focus go_wp2_with fail
  clear hd hc;have hp0:¬(0:Int)<(pn:Int):=by omega
  have hp1:¬0<pn:=by omega
  by_cases ht:takeB 45 s1.data.toList=none;refine(jE HS.out.1.rd ht).mono ?_;rintro e V ⟨rfl,hR,hg⟩
  obtain⟨ng,s2,k2,Tf,T,HO,HB⟩:∃(ng:Bool) (s2:ByteArray) (k2:Nat),Hid (ng=false)/\ Hid (DJ w V b s2 po pn pc p)/\ Hid (o=((iO N s2.data.toList).bind fun a=>(ig N k2 a.2).bind fun q=>some (jh ng a.1::q)).map (p++·))/\ Hid (pn+s2.size<=9000/\ s2.size<=N/\ s2.size<=k2+1/\ s2.size<=s1.size):=
   ⟨false,s1,k,rfl,HS.out.1.gb hR hg,by rw[Hid,HS.out.2.2.2.2,if_pos h0];unfold lI;rw[ht];rfl,by have:=HS.out.2;exact⟨by omega,by omega,by omega,by omega⟩⟩
  clear hR hg HS ht h0 hx
  focus go_upto_region 6 with(fail)
  clear hp0 hp1
  rotate_left
  obtain⟨l1,ht2⟩:=Option.ne_none_iff_exists'.1 ht;refine(fM HS.out.1.rd ht2).mono ?_;rintro e V ⟨rfl,hR,hg⟩;have hls:(⟨l1.toArray⟩:ByteArray).size<=s1.size:=by rw[Lib.size_eq,Lib.size_eq];exact ic ht2
  obtain⟨ng,s2,k2,Tf,T,HO,HB⟩:∃(ng:Bool) (s2:ByteArray) (k2:Nat),Hid (ng=true)/\ Hid (DJ w V b s2 po pn pc p)/\ Hid (o=((iO N s2.data.toList).bind fun a=>(ig N k2 a.2).bind fun q=>some (jh ng a.1::q)).map (p++·))/\ Hid (pn+s2.size<=9000/\ s2.size<=N/\ s2.size<=k2+1/\ s2.size<=s1.size):=
   ⟨true,⟨l1.toArray⟩,k,rfl,HS.out.1.gb hR hg,by rw[Hid,HS.out.2.2.2.2,if_pos h0];unfold lI;rw[ht2],by have:=HS.out.2;exact⟨by omega,by omega,by omega,by omega⟩⟩
  clear hR hg HS ht ht2 h0 hx hls
  focus go_upto_region 6 with(fail)
  clear hp0 hp1
  rotate_left
  have hs0:s1.data.toList≠[]:=fun e=>hx ⟨h0,e⟩
  have hk:∃k',k=k'+1:=⟨k-1,by
   have h1:=HS.out.2.2.2.1;have h2:0<s1.size:=by rw[Lib.size_eq];exact List.length_pos_iff.2 hs0
   omega⟩
  obtain⟨k,rfl⟩:=hk;have hd:((pn:Int)==0)=false:=by simpa using(show¬(pn:Int)=0 by omega)
  have hq:(s1.toList==[])=false:=jM hs0;have hq2:(s1.toList !=[])=true:=by simp[bne,hq]
  focus go_upto_region 3 with(fail)
  focus go_wp2_with fail
  clear hd hc hq hq2;have hp0:(0:Int)<(pn:Int):=by omega
  have hp1:0<pn:=by omega
  by_cases ht:takeB 45 s1.data.toList=none;refine(jE HS.out.1.rd ht).mono ?_;rintro e V ⟨rfl,hR,hg⟩;have T:=hid (HS.out.1.gb hR hg);clear hR hg
  focus go_upto_region 4 with(fail)
  focus go_wp2_with fail
  by_cases hu:takeB 43 s1.data.toList=none
  ·refine(jE T.out.rd hu).mono ?_;rintro e V2 ⟨rfl,hR,hg⟩;have T2:=hid (T.out.gb hR hg);go_wp2_with fail;refine(iV (b:=b)).mono ?_;rintro e w2 ⟨rfl,hg⟩;go_wp2_with fail
   have HO:o=none:=by
    rw[HS.out.2.2.2.2,if_neg h0,ig,if_neg hs0,ht];simp only;rw[hu];rfl
   rw[HO];exact⟨rfl,rfl,aG T2.out.g hg⟩
  obtain⟨l1,hu2⟩:=Option.ne_none_iff_exists'.1 hu;refine(fM T.out.rd hu2).mono ?_;rintro e V ⟨rfl,hR,hg⟩;have hls:(⟨l1.toArray⟩:ByteArray).size<=s1.size:=by rw[Lib.size_eq,Lib.size_eq];exact ic hu2
  obtain⟨ng,s2,k2,Tf,T,HO,HB⟩:∃(ng:Bool) (s2:ByteArray) (k2:Nat),Hid (ng=false)/\ Hid (DJ w V b s2 po pn pc p)/\ Hid (o=((iO N s2.data.toList).bind fun a=>(ig N k2 a.2).bind fun q=>some (jh ng a.1::q)).map (p++·))/\ Hid (pn+s2.size<=9000/\ s2.size<=N/\ s2.size<=k2+1/\ s2.size<=s1.size):=
   ⟨false,⟨l1.toArray⟩,k,rfl,T.out.gb hR hg,by rw[Hid,HS.out.2.2.2.2,if_neg h0,ig,if_neg hs0,ht];simp only;rw[hu2];rfl,by have:=HS.out.2;exact⟨by omega,by omega,by omega,by omega⟩⟩
  clear hR hg HS ht hu hu2 h0 hx hls hs0
  focus go_upto_region 6 with(fail)
  clear hp0 hp1
  rotate_left
  obtain⟨l1,ht2⟩:=Option.ne_none_iff_exists'.1 ht;refine(fM HS.out.1.rd ht2).mono ?_;rintro e V ⟨rfl,hR,hg⟩;have hls:(⟨l1.toArray⟩:ByteArray).size<=s1.size:=by rw[Lib.size_eq,Lib.size_eq];exact ic ht2
  obtain⟨ng,s2,k2,Tf,T,HO,HB⟩:∃(ng:Bool) (s2:ByteArray) (k2:Nat),Hid (ng=true)/\ Hid (DJ w V b s2 po pn pc p)/\ Hid (o=((iO N s2.data.toList).bind fun a=>(ig N k2 a.2).bind fun q=>some (jh ng a.1::q)).map (p++·))/\ Hid (pn+s2.size<=9000/\ s2.size<=N/\ s2.size<=k2+1/\ s2.size<=s1.size):=
   ⟨true,⟨l1.toArray⟩,k,rfl,HS.out.1.gb hR hg,by rw[Hid,HS.out.2.2.2.2,if_neg h0,ig,if_neg hs0,ht2],by have:=HS.out.2;exact⟨by omega,by omega,by omega,by omega⟩⟩
  clear hR hg HS ht ht2 h0 hx hls hs0
  focus go_upto_region 6 with(fail)
  clear hp0 hp1
  rotate_left
  all_goals
   go_wp2_with fail;refine(JK (o:=iO N s2.data.toList) T.out.rd (by have:=HB.out;omega) HB.out.2.1 (HE.out.keep T.out.g HG.out T.out.o) HG.out rfl).mono ?_;by_cases Qt:iO N s2.data.toList=none
   ·rw[Qt];rintro e w2 ⟨rfl,hg⟩;go_wp2_with fail;have wG:o=none:=by rw[HO.out,Qt];rfl
    rw[wG];exact⟨rfl,rfl,aG T.out.g hg⟩
   obtain⟨⟨t,r⟩,MO⟩:=Option.ne_none_iff_exists'.1 Qt;have hbd:=JP MO (by rw[<-Lib.size_eq];have:=HB.out;omega);have hrl:(⟨r.toArray⟩:ByteArray).size<s2.size:=by rw[Lib.size_eq,Lib.size_eq];exact JO MO
   rw[MO];rintro e w6 ⟨ca,cn,cc,mo,mn,mc,rfl,hC,hM,hR,hg⟩;have Qu:=hid (And.intro (T.out.gb hR hg) (And.intro hC hM))
   have wG:Hid (o=((ig N k2 r).map fun q=>p++(jh ng t::q))):=by
    rw[Hid,HO.out,MO];show Option.map _ (Option.bind (ig N k2 r) _)=_;cases ig N k2 r<;>rfl
   have Cc:=hid hbd;have DI:Hid ((⟨r.toArray⟩:ByteArray).size<s2.size):=hrl;obtain⟨s3,hs3⟩:∃s3:ByteArray,s3=⟨r.toArray⟩:=⟨_,rfl⟩;have hr3:r=s3.data.toList:=by rw[hs3]
   rw[<-hs3]at Qu DI;rw[hr3]at wG;obtain⟨b5,hb5⟩:∃b,b=w6.heap.size:=⟨_,rfl⟩;clear hC hM hR hg T Qt MO hbd hrl HO hs3 hr3;go_upto_region 7 with(fail)
   refine aj (fun W7 hW=>?_);have a5:bD W7 b5 [.bool false,.slice ca cn cc,.slice mo mn mc] 70/\ Below w6.heap.size w6 W7:=by rw[hW,hb5];exact nI w6 _ 70
   rw[<-hb5];have H5:=hid a5;have pJ:Hid (b5=w6.heap.size):=hb5;clear hW a5 hb5
   first
   |have HQ:Hid (ng=true):=Tf
    obtain⟨x0,x1,_⟩:=H5.out.1.c3;go_wp2_with fail;refine(DY (wF (Qu.out.2.1.below H5.out.2) Cc.out.1 (by omega))).mono ?_;rintro e w8 ⟨m8,a8,n8,c8,rfl,hC,hB⟩;have VP:=H5.out.1.below hB;have y0:=VP.fz 0;have y1:=VP.fz 1;obtain⟨z0,z1,_⟩:=VP.c3;clear x0 x1;go_upto_region 9 with(fail)
    refine aj (fun W9 hW=>?_)
    have HF:Hid (bD W9 b5 [.bool m8,.slice a8 n8 c8,.slice mo mn mc] 70/\ Cn W9 m8 a8 n8 c8 (jh ng t).1/\ Ml W9 mo mn mc (jh ng t).2/\ DJ w W9 b s3 po pn pc p):=by
     have hb:=sF (Below.steps H5.out.2 hB) (show w6.heap.size<=b5 by rw[pJ.out];exact Nat.le_refl _) (.bool m8) (.slice a8 n8 c8);rw[hW,HQ.out,Qs];exact⟨(VP.set 0 _).set 1 _,hC.jk (VP.gY (vG _ _ _ _ _ _ _)) (eG (cB _ _ _ _) (cB _ _ _ _)),Qu.out.2.2.below hb,Qu.out.1.below hb⟩
    clear hW hC hB VP y0 y1 z0 z1 Qu H5 pJ
   |have HQ:Hid (ng=false):=Tf
    go_upto_region 9 with(fail)
    refine aj (fun W9 hW=>?_)
    obtain⟨m8,a8,n8,c8,HF⟩:∃m8 a8 n8 c8,Hid (bD W9 b5 [.bool m8,.slice a8 n8 c8,.slice mo mn mc] 70/\ Cn W9 m8 a8 n8 c8 (jh ng t).1/\ Ml W9 mo mn mc (jh ng t).2/\ DJ w W9 b s3 po pn pc p):=by
     rw[hW,HQ.out];exact⟨_,_,_,_,H5.out.1,Qu.out.2.1.below H5.out.2,Qu.out.2.2.below H5.out.2,Qu.out.1.below H5.out.2⟩
    clear hW Qu H5 pJ
   obtain⟨x0,x1,x2⟩:=HF.out.1.c3;obtain⟨v8,W8,Qv,hps⟩:=DZ (t:=jh ng t) HF.out.2.2.2.pw HF.out.2.2.2.g.size (by have:=HB.out;omega) HF.out.2.1 (MN Cc.out.1) HF.out.2.2.1 70 23;obtain⟨ro,rc,JR,Xm⟩:=HF.out.2.2.2.push hps;subst JR;have HP:=hid Xm;clear hps Xm;go_wp2_with (at_builtin;refine jY rfl (.tmp 39) (.tmp 41) 23 23 rfl _ _ rfl rfl Qv ?_);go_roundw
   case rel=>exact⟨s3,ro,pn+1,rc,p++[jh ng t],k2,rfl,HP.out,by have h1:=DI.out;have h2:=HB.out;omega,by have h1:=DI.out;have h2:=HB.out;omega,by have h1:=DI.out;have h2:=HB.out;omega,by
    rw[if_neg (by omega),wG.out];cases ig N k2 s3.data.toList with
    |none=>rfl
    |some q=>show some (p++jh ng t::q)=some ((p++[jh ng t])++q);rw[List.append_assoc];rfl⟩
   case measure=>
    have h4:=HP.out.rd.len;have h5:=MK.out;have h1:=DI.out;have h2:=HB.out;omega
def parsed (l:List UInt8):Option (List Term):=if l=[48]then some []else(lI l.length l.length l).bind fun p=>if nK (p.map jr)=true then some p else none
theorem Qw (p:List Term):∀t∈p.map jr,Wf t.1.2:=fun t ht=>by
 obtain⟨u,_,rfl⟩:=List.mem_map.1 ht;exact dR _
theorem JS (p:List Term):(p.map jr).map rU=p:=by
 rw[List.map_map,show rU ∘ jr=id from funext qW,List.map_id]
theorem MP {p:List Term} (h:nK (p.map jr)=true):fall p:=by
 have:=(yB (Qw p) h).1;rwa[JS]at this
theorem jF {l:List UInt8} {p:List Term} (h:parsed l=some p):fall p/\ l=jo p:=by
 unfold parsed at h;split at h
 ·rename_i hl;injection h with h
  subst h hl;exact⟨trivial,rfl⟩
 ·obtain⟨q,hq,h⟩:=Option.bind_eq_some_iff.1 h;split at h
  ·rename_i hm;injection h with h
   subst h;have hf:=MP hm;exact⟨hf,Ce hq (uq hf)⟩
  ·cases h
theorem D5:∀(ms:List (Int×Int)),ms.length<=(kP ms).length
 |[]=>Nat.le_refl _
 |w::r=>by have:=D5 r;simp only[kP,List.length_cons,List.length_append];omega
theorem D6 (t:Term):t.2.length<=(gI t).length:=by
 obtain⟨c,m⟩:=t;cases m with
 |nil=>simp
 |cons w r=>
  have h1:=DX w;have h2:=D5 r;simp only[gI,List.length_cons,List.length_append];omega
theorem D7:∀(p:List Term),p.length<=(nL p).length/\∀t∈p,t.2.length<=(nL p).length
 |[]=>⟨Nat.le_refl _,fun _ h=>by cases h⟩
 |t::r=>by
  obtain⟨h1,h2⟩:=D7 r;have h3:=D6 t;simp only[nL,List.length_cons,List.length_append];refine⟨by omega,fun u hu=>?_⟩;rcases List.mem_cons.1 hu with rfl|hu
  ·omega
  ·have:=h2 u hu;omega
theorem MQ:∀p:List Term,p.length<=(jo p).length+1/\∀t∈p,t.2.length<=(jo p).length
 |[]=>⟨by simp,fun _ h=>by cases h⟩
 |t::r=>by
  obtain⟨h1,h2⟩:=D7 r;have h3:=D6 t;simp only[jo,List.length_cons,List.length_append];refine⟨by omega,fun u hu=>?_⟩;rcases List.mem_cons.1 hu with rfl|hu
  ·omega
  ·have:=h2 u hu;omega
theorem Qj (p:List Term):p.length<=(jo p).length+1:=(MQ p).1
open Lib (hid)
abbrev Tg (r:Bool):PanicEntry:={ v:= .iface 32 (.int .i64 4),recovered:=r }
theorem Cf {p2 p3:Nat} {x y:Value} {T2 T3:TypeId} {w:World} (h2:bD w p2 [x] T2) (h3:bD w p3 [y] T3) (hne:p2≠p3) (older:List PanicEntry):
  CallsD Tryz.prog 63 #[.pointer (some ⟨p2,0,none⟩),.pointer (some ⟨p3,0,none⟩)] (.panicking (Tg false::older)) w fun e u' w'=>
   e= .returned (.tuple #[])/\ u'= .panicking (Tg true::older)/\ w'=(w.setCell ⟨p2,0,none⟩ (.slice none 0 0)).setCell ⟨p3,0,none⟩ (.int .i64 4):=by
 have c2:=h2.c1;have c3:=(h3.far hne 0 (.slice none 0 0)).c1;have f2:=h2.f1;have f3:=(h3.far hne 0 (.slice none 0 0)).f1;refine callsD_of_wpS Tryz.func63 rfl fun c₀ cs hu=>?_
 apply wpS_seq;apply wpS_region;simp[wpOpsS,go_sem,recoverD,hu,Tryz.ntmps63,Exit.thenS];refine wpS_cond (t:=true) (by simp[Act.eval,Array.replicate]) ?_;simp only[if_true];apply wpS_region;simp[wpOpsS,go_sem,c2,c3,f2,f3,bodyPostS,results,Tryz.results63]
theorem D8 (w:World) (p2 p3:Addr):
  CallsD Tryz.prog 63 #[.pointer (some p2),.pointer (some p3)] .returning w fun e u' w'=>e= .returned (.tuple #[])/\ u'= .returning/\ w'=w:=by
 refine callsD_of_wpS Tryz.func63 rfl fun c₀ cs hu=>?_
 apply wpS_seq;apply wpS_region;simp[wpOpsS,go_sem,recoverD,hu,Tryz.ntmps63,Exit.thenS];refine wpS_cond (t:=false) (by simp[Act.eval,Array.replicate]) ?_;simp only[Bool.false_eq_true,if_false];refine wpS_of_wp (wp_skip ?_);cases c₀
 simp_all [bodyPostS,results,Tryz.results63]
theorem IX {v:Value} (h:Xn v=false):shy [v]:=
 ⟨fun u hu=>by simp at hu;rw[hu];exact h,fun j x y _ hy=>by cases j<;>simp at hy⟩
def Xo [Ol] (o:Option (List Term)) (w:World) (e:Ending) (w':World):Prop:=
 match o with
 |none=>e= .returned (.tuple #[.slice none 0 0,.int .i64 4])/\ Below w.heap.size w w'
 |some p=>∃po pn pc,e= .returned (.tuple #[.slice po pn pc,.int .i64 0])/\ Pc 1000 w' po pn pc p/\ Below w.heap.size w w'
theorem jD [Ol] {s:ByteArray} {o:Option (List Term)} {w:World} (hs:s.size<=9000) (hE:pO w) (hG:6<w.heap.size) (ho:o=parsed s.data.toList):
  Calls Tryz.prog 21 #[.string s] w (Xo o w):=by
 have HE:=hid hE;have HG:=hid hG;have HO:=hid ho;clear hE hG ho;have ZJ:∀(fn:Fn) (first cap:Array Value) (w:World),(Instr.makeFunc fn first cap).run Tryz.prog w= .ok (.func fn first cap) w:=fun _ _ _ _=>rfl
 have hsl:¬(65536:Int)<(s.size:Int):=by omega
 go_enter_defers Tryz.func21,Tryz.ntmps21;obtain⟨b2,hb2⟩:∃b,b=w.heap.size:=⟨_,rfl⟩;obtain⟨b3,hb3⟩:∃b,b=b2+1:=⟨_,rfl⟩;go_upto_region 1 with(fail)
 refine aj (fun W0 hW=>?_);have h0:bD W0 b2 [.slice none 0 0] 23/\ bD W0 b3 [.int .i64 0] 32/\ Below w.heap.size w W0:=by rw[hW,hb3,hb2];exact Xp w _ _ _ _
 rw[<-hb2,<-hb3];have hne:b2≠b3:=by omega
 have hbw:w.heap.size<=b2/\ w.heap.size<=b3:=by omega
 have H0:=hid h0;clear hW hb2 hb3 h0;by_cases hz:s.data.toList=[48]
 ·have hq:(s.toList==[48])=true:=kG hz;have c2:=H0.out.1.c1;have c3:=H0.out.2.1.c1;have f2:=H0.out.1.f1;have f3:=H0.out.2.1.f1;go_wp2_with fail;have e2:=bD.c1 ((H0.out.1.set 0 (.slice none 0 0)).far hne.symm 0 (.int .i64 0));have e3:=bD.c1 ((H0.out.2.1.far hne 0 (.slice none 0 0)).set 0 (.int .i64 0));simp[bodyPostD,Leaves,results,Tryz.results21,go_sem,e2,e3];rw[HO.out,parsed,if_pos hz];exact⟨none,0,0,rfl,(Pw.zero 0 1000 _).pc,((H0.out.2.2.setCell hbw.1 _).setCell hbw.2 _)⟩
 ·have hq:(s.toList==[48])=false:=jM hz;have wG:Hid (o=(lI s.data.toList.length s.data.toList.length s.data.toList).bind fun p=>if nK (p.map jr)=true then some p else none):=by rw[Hid,HO.out,parsed,if_neg hz]
  clear hz HO;go_wp2_with fail;obtain⟨b4,hb4⟩:∃b,b=W0.heap.size:=⟨_,rfl⟩;rw[<-hb4];have HR:Hid (Rd (W0.alloc (.cells #[.string s] 111)) b4 s):=by rw[hb4];exact bD.new W0 [.string s] _
  have oJ:Hid (b2<b4/\ b3<b4/\ w.heap.size<=b4):=⟨by rw[hb4];exact H0.out.1.lt,by rw[hb4];exact H0.out.2.1.lt,by rw[hb4];exact H0.out.2.2.size⟩;have hA:=af W0 (.cells #[.string s] 111)
  have HW:Hid (bD (W0.alloc (.cells #[.string s] 111)) b2 [.slice none 0 0] 23/\ bD (W0.alloc (.cells #[.string s] 111)) b3 [.int .i64 0] 32/\ Below w.heap.size w (W0.alloc (.cells #[.string s] 111))):=
   ⟨H0.out.1.below hA,H0.out.2.1.below hA,Below.steps H0.out.2.2 hA⟩
  have HEV:Hid (pO (W0.alloc (.cells #[.string s] 111))):=by
   obtain⟨te,pe,h⟩:=HE.out;exact⟨te,pe,(World.cell?_of_block (HW.out.2.2.block _ HG.out)).trans h⟩
  have HGB:Hid (6<b4):=by have:=HG.out;have:=oJ.out;rw[Hid];omega
  have hsz:s.size<=s.data.toList.length:=Nat.le_of_eq (Lib.size_eq s);obtain⟨W1,hW1⟩:∃W1,W1=W0.alloc (.cells #[.string s] 111):=⟨_,rfl⟩;rw[<-hW1]at HR HW HEV ⊢;clear hb4 hA hW1 H0 HE HG;obtain⟨q,hq2⟩:∃q,q=lI s.data.toList.length s.data.toList.length s.data.toList:=⟨_,rfl⟩;rw[<-hq2]at wG;refine(JQ HR.out hs hsz HEV.out HGB.out hq2).mono ?_;clear hq2 hsz;intro e w5 hP
  have hbad:sG b4 W1 e w5/\ o=none∨ ∃p po pn pc s2,o=some p/\ e= .returned (.slice po pn pc)/\ Pw W1.heap.size 1000 w5 po pn pc p/\ Rd w5 b4 s2/\ W1.grownBy w5 (some b4):=by
   cases q with
   |none=>exact .inl ⟨hP,wG.out⟩
   |some p=>
    unfold rY at hP;simp only at hP;by_cases hm:nK (p.map jr)=true
    ·rw[if_pos hm]at hP;obtain⟨po,pn,pc,s2,h1,h2,h3,h4⟩:=hP;exact .inr ⟨p,po,pn,pc,s2,by rw[wG.out];show(if _ then _ else _)=_;rw[if_pos hm],h1,h2,h3,h4⟩
    ·rw[if_neg hm]at hP;exact .inl ⟨hP,by rw[wG.out];show(if _ then _ else _)=_;rw[if_neg hm]⟩
  have hkeep:W1.grownBy w5 (some b4)->bD w5 b2 [.slice none 0 0] 23/\ bD w5 b3 [.int .i64 0] 32/\ Below w.heap.size w w5:=fun hg=>
   ⟨HW.out.1.apart hg fun e=>by have:=Option.some.inj e;have:=oJ.out;omega,HW.out.2.1.apart hg fun e=>by have:=Option.some.inj e;have:=oJ.out;omega,HW.out.2.2.trans (qa hg oJ.out.2.2 HW.out.2.2.size)⟩
  clear hP wG;rcases hbad with⟨⟨rfl,hg⟩,hn⟩|⟨p,po,pn,pc,s2,hn,rfl,hPw,hRd,hg⟩
  ·have HK:=hid (hkeep hg);have HN:=hid hn;clear hkeep hg hn;go_wp2_with fail;refine leaves_cons (f:=63) (args:= #[.pointer (some ⟨b2,0,none⟩),.pointer (some ⟨b3,0,none⟩)]) (by simp) (by simp[go_sem]) ?_;refine(Cf HK.out.1 HK.out.2.1 hne []).mono ?_;rintro e u' w6 ⟨rfl,rfl,rfl⟩;have e2:=bD.c1 ((HK.out.1.set 0 (.slice none 0 0)).far hne.symm 0 (.int .i64 4));have e3:=bD.c1 ((HK.out.2.1.far hne 0 (.slice none 0 0)).set 0 (.int .i64 4));simp[Leaves,settle,results,Tryz.results21,go_sem,e2,e3];rw[HN.out];exact⟨rfl,(HK.out.2.2.setCell hbw.1 _).setCell hbw.2 _⟩
  ·have HK:=hid (hkeep hg);have HN:=hid hn;have HP:=hid hPw.pc;clear hkeep hg hn hRd hPw;have c2:=HK.out.1.c1;have f2:=HK.out.1.f1;have c3:=HK.out.2.1.c1;have f3:=HK.out.2.1.f1;go_wp2_with fail;refine leaves_cons (f:=63) (args:= #[.pointer (some ⟨b2,0,none⟩),.pointer (some ⟨b3,0,none⟩)]) (by simp) (by simp[go_sem]) ?_;refine(D8 _ _ _).mono ?_;rintro e u' w6 ⟨rfl,rfl,rfl⟩;have e2:=bD.c1 ((HK.out.1.set 0 (.slice po pn pc)).far hne.symm 0 (.int .i64 0));have e3:=bD.c1 ((HK.out.2.1.far hne 0 (.slice po pn pc)).set 0 (.int .i64 0));simp[Leaves,settle,results,Tryz.results21,go_sem,e2,e3];rw[HN.out];have f5:oK w5 (w5.setCell ⟨b2,0,none⟩ (.slice po pn pc)) b2:=⟨⟨_,_,HK.out.1,IX rfl⟩,cB _ _ _ _⟩;have f6:oK (w5.setCell ⟨b2,0,none⟩ (.slice po pn pc)) ((w5.setCell ⟨b2,0,none⟩ (.slice po pn pc)).setCell ⟨b3,0,none⟩ (.int .i64 0)) b3:=⟨⟨_,_,HK.out.2.1.far hne _ _,IX rfl⟩,cB _ _ _ _⟩;exact⟨po,pn,pc,rfl,(HP.out.iA f5).iA f6,(HK.out.2.2.setCell hbw.1 _).setCell hbw.2 _⟩
def okB (c:UInt8):Bool:=eB c||c==42||c==43||c==45||c==94||c==120
def uw (l:List UInt8):Prop:=∀c∈l,okB c=true
theorem uw.app {a b:List UInt8} (h:uw a) (k:uw b):uw (a++b):=fun c hc=>(List.mem_append.1 hc).elim (h c) (k c)
theorem uw.cons {c:UInt8} {b:List UInt8} (h:okB c=true) (k:uw b):uw (c::b):=fun d hd=>by
 rcases List.mem_cons.1 hd with rfl|hd
 ·exact h
 ·exact k d hd
theorem mM:uw []:=fun _ h=>by cases h
theorem xI (n:Nat):uw (Lib.decDigits n):=fun c hc=>by
 have:=lJ (qV n) c hc;simp[okB,this]
theorem IY (w:Int×Int):uw (jl w):=by
 refine uw.cons (by decide) (uw.app (xI _) ?_);split
 ·exact mM
 ·exact uw.cons (by decide) (xI _)
theorem Ea:∀ms:List (Int×Int),uw (kP ms)
 |[]=>mM
 |w::r=>uw.cons (by decide) (uw.app (IY w) (Ea r))
theorem Eb (t:Term):uw (gI t):=by
 obtain⟨c,m⟩:=t;cases m with
 |nil=>exact xI _
 |cons w r=>
  refine uw.app ?_ (uw.app (IY w) (Ea r));split
  ·exact mM
  ·exact uw.app (xI _) (uw.cons (by decide) mM)
theorem Ec:∀p:List Term,uw (nL p)
 |[]=>mM
 |t::r=>uw.cons (by split<;>decide) (uw.app (Eb t) (Ec r))
theorem MR (p:List Term):uw (jo p):=by
 cases p with
 |nil=>exact uw.cons (by decide) mM
 |cons t r=>
  refine uw.app ?_ (uw.app (Eb t) (Ec r));split
  ·exact uw.cons (by decide) mM
  ·exact mM
theorem AP {n:Nat} (h:0<n) (r:List UInt8):∃c l,Lib.decDigits n++r=c::l/\ eB c=true/\ c≠48:=by
 have h1:=MS n;have h2:=lJ (qV n);cases hd:Lib.decDigits n with
 |nil=>exact absurd hd (Gd n)
 |cons c l=>
  rw[hd]at h1 h2;exact⟨c,l++r,rfl,h2 c (by simp),fun e=>h1 h (by rw[e];rfl)⟩
theorem JU {t:Term} (h:t.1≠0) (r:List UInt8):∃c l,gI t++r=c::l/\ (c=120∨eB c=true/\ c≠48):=by
 obtain⟨c,m⟩:=t;have hc:0<c.natAbs:=by have:c≠0:=h;omega
 cases m with
 |nil=>obtain⟨d,l,h1,h2⟩:=AP hc r;exact⟨d,l,h1,.inr h2⟩
 |cons w ms=>
  simp only[gI];split
  ·exact⟨120,_,rfl,.inl rfl⟩
  ·obtain⟨d,l,h1,h2⟩:=AP hc ([42]++(jl w++kP ms)++r);exact⟨d,l,by rw[<-h1];simp[List.append_assoc],.inr h2⟩
theorem vI {p:List Term} (h:fall p):jo p=[48]∨ ∃c l,jo p=c::l/\ (c=45∨c=120∨eB c=true/\ c≠48):=by
 cases p with
 |nil=>exact .inl rfl
 |cons t r=>
  right
  by_cases hn:t.1<0
  ·exact⟨45,gI t++nL r,by simp only[jo];rw[if_pos hn];rfl,.inl rfl⟩
  ·obtain⟨c,l,h1,h2⟩:=JU (uq h t (by simp)) (nL r);exact⟨c,l,by simp only[jo];rw[if_neg hn];exact h1,.inr h2⟩
theorem Uk:eB 43=false:=by decide
theorem Qi (l:List UInt8):parsed (43::l)=none:=by
 cases h:parsed (43::l)with
 |none=>rfl
 |some p=>
  obtain⟨hf,he⟩:=jF h;rcases vI hf with h0|⟨c,r,h0,hc⟩
  ·rw[h0]at he;cases he
  ·rw[h0]at he;have:(43:UInt8)=c:=(List.cons.inj he).1;subst this;rcases hc with hc|hc|⟨hc,_⟩
   ·exact absurd hc (by decide)
   ·exact absurd hc (by decide)
   ·rw[Uk]at hc;cases hc
theorem Mq (l:List UInt8):parsed (l++[32])=none:=by
 cases h:parsed (l++[32])with
 |none=>rfl
 |some p=>
  obtain⟨_,he⟩:=jF h;have:=MR p 32 (by rw[<-he];simp);exact absurd this (by decide)
theorem JC {l:List UInt8} {p:List Term} (h:parsed l=some p):parsed (48::l)=none:=by
 cases h2:parsed (48::l)with
 |none=>rfl
 |some q=>
  obtain⟨hf,he⟩:=jF h2;rcases vI hf with h0|⟨c,r,h0,hc⟩
  ·rw[h0]at he;have hl:l=[]:=(List.cons.inj he).2;obtain⟨hf1,he1⟩:=jF h;rcases vI hf1 with h3|⟨c,r,h3,_⟩
   ·rw[h3,hl]at he1;cases he1
   ·rw[h3,hl]at he1;cases he1
  ·rw[h0]at he;have:(48:UInt8)=c:=(List.cons.inj he).1;subst this;rcases hc with hc|hc|⟨_,hc⟩
   ·exact absurd hc (by decide)
   ·exact absurd hc (by decide)
   ·exact absurd rfl hc
end Go.Proofs.YtmenbpmciblnlaaGreatDoor
