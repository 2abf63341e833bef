import Derived.Test.YtmenbpmciblnlaaGreatDoorGRd1
import Derived.Test.YtmenbpmciblnlaaGreatDoorGTxt
import Derived.Test.YtmenbpmciblnlaaGreatDoorGVaA
set_option maxHeartbeats 0
set_option maxRecDepth 100000
open And renaming intro->ah5
open Go renaming Value->ah7,World->ah6
open Go.Act renaming eval->ah8
open Go.AllReadyH renaming nil->ah9
open Go.Lib renaming hasPrefix->ai1,size_eq->ai0
open Go.RowKit renaming Below->ai2
open Go.RowKit.Below renaming heap_setCell->ai4,refl->ai3
open Go.Value renaming bool->ai6,slice->ai5
open Go.World renaming cell?_of_block->ai7,setCell->ai8
open List renaming append_assoc->aj6,append_nil->aj5,isPrefixOf->aj4,length->aj0,length_append->aj3,length_cons->aj2,length_drop->ai9,length_pos_iff->aj7,length_take->aj1
open Option renaming bind->aj9,bind_eq_some_iff->ak0,ne_none_iff_exists'->aj8
open Option.some renaming inj->ak1
namespace Go.Proofs.YtmenbpmciblnlaaGreatDoor
open Lib (hid)
open Go.RowKit
def aa9:ah7->Nat| .string s=>s.size| _=>0
theorem H9 (m:Bool) (a:Z') (n c:Nat):LA [ai6 m,ai5 a n c]:=by
 refine⟨λu hu=>?_,λj x y hx hy=>?_⟩
 ·simp at hu;rcases hu with rfl|rfl<;>rfl
 ·match j,hx,hy with
  |0,hx,hy=>cases hx;exact⟨.inl rfl,rfl⟩
  |j+1,hx,hy=>simp at hy
theorem Yr {w:ah6} {b:Nat} {v0 v1:ah7} {T:TypeId} (h:aS w b [v0,v1] T) (hs:LA [v0,v1]) (u0 u1:ah7):
  ot w ((w.setCell ⟨b,0,none⟩ u0).setCell ⟨b,1,none⟩ u1) b/\ aS ((w.setCell ⟨b,0,none⟩ u0).setCell ⟨b,1,none⟩ u1) b [u0,u1] T:=
 ⟨⟨⟨_,_,h,hs⟩,cD (br _ _ _ _) (br _ _ _ _)⟩,(h.set 0 u0).set 1 u1⟩
theorem qN {B:Nat} {w0 w:ah6} (h:ai2 B w0 w) {b:Nat} (hb:B<=b) (u0 u1:ah7):ai2 B w0 ((w.setCell ⟨b,0,none⟩ u0).setCell ⟨b,1,none⟩ u1):=(h.setCell hb u0).setCell hb u1
theorem ur {w:ah6} {m:Bool} {ao:Z'} {n ae:Nat} {z:Int} {k:Nat} (h:Cn w m ao n ae z) (hb:Bd z k) (hk:k<=1000000):Nx w m ao n ae z:=(h.cx hb hk).nx
def Tf (w w1:ah6) (b2 b3:Nat) (m:Bool) (a:Z') (n c:Nat) (z:Int):Prop:=aS w1 b2 [ai6 false,ai5 none 0 0] 29/\ aS w1 b3 [ai6 m,ai5 a n c] 29/\ Cn w1 m a n c z/\ ai2 w.heap.size w w1
theorem Tf.step {w w1 w2:ah6} {b2 b3:Nat} {m:Bool} {a:Z'} {n c:Nat} {z:Int} (h:Tf w w1 b2 b3 m a n c z) (hb:ai2 w1.heap.size w1 w2):Tf w w2 b2 b3 m a n c z:=
 ⟨h.1.below hb,h.2.1.below hb,h.2.2.1.below hb,Below.ar h.2.2.2 hb⟩
def MD (w:ah6) (b:Nat) (m:Bool) (a:Z') (n c:Nat) (z:Int):Prop:=aS w b [ai6 m,ai5 a n c] 29/\ Cn w m a n c z
theorem MD.below {w w2:ah6} {b:Nat} {m:Bool} {a:Z'} {n c:Nat} {z:Int} (h:MD w b m a n c z) (hb:ai2 w.heap.size w w2):MD w2 b m a n c z:=⟨h.1.below hb,h.2.below hb⟩
theorem MD.c2 {w:ah6} {b:Nat} {m:Bool} {a:Z'} {n c:Nat} {z:Int} (h:MD w b m a n c z):w.cell? ⟨b,0,none⟩=some (ai6 m)/\ w.cell? ⟨b,1,none⟩=some (ai5 a n c):=h.1.c2
theorem MD.cS {w W:ah6} {b:Nat} {m:Bool} {a:Z'} {n c:Nat} {z:Int} (hC:Cn w m a n c z) (hb:b=w.heap.size) (hW:W=w.alloc (.cells #[ai6 m,ai5 a n c] 29)):MD W b m a n c z/\ ai2 w.heap.size w W:=by
 have h:=gp w [ai6 m,ai5 a n c] 29;rw[hW,hb];exact⟨⟨h.1,hC.below h.2⟩,h.2⟩
theorem CH [Ol] (d:List UInt8) (w:ah6) (ha:cL d=true) (hl:d.length<=9000):
  Calls Tryz.prog 167 #[.string ⟨d.toArray⟩] w (mA w (aP d:Int)):=by
 have HA:=hid ha;go_enter Tryz.func167,Tryz.ntmps167;obtain⟨b2,hb2⟩:∃b,b=w.heap.size:=⟨_,rfl⟩;go_upto_region 1 with(fail)
 refine aj (λW0 hW=>?_);have a2:aS W0 b2 [ai6 false,ai5 none 0 0] 29/\ ai2 w.heap.size w W0:=by rw[hW,hb2];exact gp w _ 29
 rw[<-hb2];obtain⟨b3,hb3⟩:∃b,b=W0.heap.size:=⟨_,rfl⟩;have hw2:w.heap.size<=b2:=by omega
 have h23:b2<b3:=by rw[hb3];exact a2.1.lt
 clear hW hb2;go_wp2_with fail;refine aj (λW1 hW=>?_);have a3:aS W1 b3 [ai6 false,ai5 none 0 0] 29/\ ai2 W0.heap.size W0 W1:=by rw[hW,hb3];exact gp W0 _ 29
 rw[<-hb3]
 have vp:Hid (Tf w W1 b2 b3 false none 0 0 (aP (d.take 0):Int)):=
  ⟨a2.1.below a3.2,a3.1,(ny W1).cn,Below.ar a2.2 a3.2⟩
 clear hW hb3 a2 a3 ha;go_loopw [0] (λs wr=>∃(k:Nat) (m:Bool) (a:Option Addr) (n c:Nat),s= .string ⟨(d.drop k).toArray⟩/\ k<=d.length/\ Hid (Tf w wr b2 b3 m a n c (aP (d.take k):Int))) (λs _=>aa9 s)
 case atStart=>exact⟨0,_,_,_,_,rfl,Nat.zero_le _,vp.o⟩
 case round=>
  clear vp;obtain⟨k,m,a,n,c,rfl,hk,HS⟩:=hrel;obtain⟨u,hu⟩:∃u:ByteArray,u=⟨(d.drop k).toArray⟩:=⟨_,rfl⟩;have LI:u.data.toList=d.drop k:=by rw[hu]
  have Uk:u.size=d.length-k:=by rw[ai0,LI,ai9]
  rw[<-hu];have HU:=hid LI;have Ys:=hid Uk;clear hu;by_cases hkl:k<d.length
  ·have hq:(u.toList==[])=false:=iQ (by rw[LI];intro h;have:=congrArg aj0 h;simp at this;omega);have hq2:(u.toList !=[])=true:=by simp[bne,hq]
   clear LI Uk;obtain⟨z,hz0⟩:∃z:Nat,z=min u.size 1000:=⟨_,rfl⟩;have hz:1<=z/\ z<=d.length-k/\ z<=1000:=by have:=Ys.o;omega
   have hmn:min (u.size:Int) 1000=(z:Int):=by omega
   clear hz0;go_upto_region 4 with(fail)
   clear hq hq2 hmn;have hpl:((d.drop k).take z).length=z:=by rw[aj1,ai9];omega
   have hstep:=(ME (d:=d) (k:=k) (z:=z)).resolve_right (λh=>h hpl);have Ul:=SJ (d:=(d.drop k).take z) (gP (oI HA.o k) z);rw[hpl]at Ul;have HN:=hid Ul;have HST:=hid hstep;have rK:=hid hpl;clear hpl Ul hstep
   have hx2:u.extract 0 z=⟨((d.drop k).take z).toArray⟩:=by
    have h:(u.extract 0 z).data.toList=(d.drop k).take z:=by rw[nA,HU.o,List.drop_zero,Nat.sub_zero]
    rw[<-h]
   have hx3:u.extract z u.size=⟨(d.drop (k+z)).toArray⟩:=by
    have h:(u.extract z u.size).data.toList=d.drop (k+z):=by
     rw[nA,HU.o,List.drop_drop,List.take_of_length_le (by rw[Ys.o,ai9];omega)]
    rw[<-h]
   have hadd:∀W:ah6,(Op.stringOp .add ⟨#[49]⟩ (u.extract 0 z)).run Tryz.prog W= .ok (.string ⟨(49::(d.drop k).take z).toArray⟩) W:=λW=>by
    rw[hx2];exact pU W [49] _ (by rw[rK.o];simp;omega)
   have hz1:0<=(z:Int):=by omega
   have hzs:(z:Int)<=(u.size:Int):=by have:=Ys.o;omega
   have Fb:=hid hx3;have HZ:=hid hz;clear hx2 hx3 hz;go_wp2_with fail;refine(rX 10 _ (by omega)).mono ?_;rintro e w1 ⟨m1,a1,n1,c1,rfl,hC,hB⟩;have H1:=hid (ah5 (HS.o.step hB) hC);clear hC hB HS;go_wp2_with fail;refine(rY z (ur H1.o.2 (show Bd 10 1 by unfold Bd;decide) (by omega)) HZ.o.2.2).mono ?_;rintro e w2 ⟨m2,a2,n2,c2,rfl,hC,hB⟩;have H2:=hid (H1.o.1.step hB);obtain⟨b5,hb5⟩:∃b,b=w2.heap.size:=⟨_,rfl⟩;have oq:Hid (b3<b5):=by rw[Hid,hb5];exact H2.o.2.1.lt
   clear hB H1;go_upto_region 5 with(fail)
   refine aj (λW3 hW=>?_);have h5:=MD.cS hC hb5 hW;rw[<-hb5];have H3:=hid (ah5 (H2.o.step h5.2) h5.1);clear hW hb5 h5 H2 hC;go_wp2_with fail;refine(MF _ _ (by show(49::(d.drop k).take z).toArray.size<=20000;rw[List.size_toArray,aj2,rK.o];have:=HZ.o;omega) HN.o.1).mono ?_;rintro e w4 ⟨m3,a3,n3,c3,rfl,hC,hB⟩;have hC2:Cn w4 m3 a3 n3 c3 (10^z+(aP ((d.drop k).take z):Int)):=HN.o.2▸hC;have H4:=hid (ah5 (H3.o.1.step hB) (H3.o.2.below hB));obtain⟨b7,sX⟩:∃b,b=w4.heap.size:=⟨_,rfl⟩;have EM:Hid (b3<b7):=by rw[Hid,sX];exact H4.o.1.2.1.lt
   clear hB H3 hC;go_upto_region 6 with(fail)
   refine aj (λW5 hW=>?_);have h7:=MD.cS hC2 sX hW;rw[<-sX];have H5:=hid (ah5 (H4.o.1.step h7.2) (ah5 (H4.o.2.below h7.2) h7.1));clear hW sX h7 H4 hC2;refine wp_region_held_drew (S:=λw'=>(w'.cell? ⟨b5,0,none⟩=some (ai6 m2)/\ w'.cell? ⟨b5,1,none⟩=some (ai5 a2 n2 c2))/\ w'.cell? ⟨b7,0,none⟩=some (ai6 m3)/\ w'.cell? ⟨b7,1,none⟩=some (ai5 a3 n3 c3)) (by kernel_rfl) ⟨(H5.o.2.1.below (ai3 _ _).drew).c2,(H5.o.2.2.below (ai3 _ _).drew).c2⟩ (λhH=>?_);refine ah (λV hW=>?_)
   have T0:Hid (Tf w V b2 b3 m a n c (aP (d.take k):Int)/\ MD V b5 m2 a2 n2 c2 (10^z)/\ MD V b7 m3 a3 n3 c3 (10^z+(aP ((d.drop k).take z):Int))):=by
    rw[hW];exact⟨H5.o.1.step (ai3 _ _).drew,H5.o.2.1.below (ai3 _ _).drew,H5.o.2.2.below (ai3 _ _).drew⟩
   rw[<-hW]at hH;clear hW H5;refine aT 3 hH ?_
   try simp only[ax]
   refine aT 5 hH ?_
   try simp only[ax]
   refine wpAnyH_ready (rs:=[0,1]) (by kernel_rfl) (by simp) (aM rfl (λKK hK=>?_) (aM rfl (λKK hK=>?_) (ah9)));obtain⟨x0,x1⟩:=aS.c2 T0.o.1.2.1
   focus go_simp
   refine hK.o _ _ ⟨T0.o.2.1.c2,T0.o.2.2.c2⟩ (λh2=>?_);clear hK KK hH x0 x1;have hH:=h2;clear h2
   try simp only[ax]
   refine ag 1 rfl (by kernel_rfl) (λKK hK=>?_)
   focus go_simp
   refine(rX 1 _ (by omega)).mono ?_;rintro e V1 ⟨m4,a4,n4,c4,rfl,hC,hB⟩;have T1:=hid (ah5 (ah5 (T0.o.1.step hB) (ah5 (T0.o.2.1.below hB) (T0.o.2.2.below hB))) hC);clear hB hC T0
   focus go_wp2_with fail
   clear hH;refine hK.o _ _ ⟨T1.o.1.2.1.c2,T1.o.1.2.2.c2⟩ λhH=>?_;clear hK KK
   try simp only[ax]
   rotate_left
   focus go_simp
   refine(rX 1 _ (by omega)).mono ?_;rintro e V1 ⟨m4,a4,n4,c4,rfl,hC,hB⟩;have T1:=hid (ah5 (ah5 (T0.o.1.step hB) (ah5 (T0.o.2.1.below hB) (T0.o.2.2.below hB))) hC);clear hB hC T0
   focus go_wp2_with fail
   clear hH;refine hK.o _ _ ⟨T1.o.1.2.1.c2,T1.o.1.2.2.c2⟩ λhH=>?_;clear hK KK
   try simp only[ax]
   refine ag 0 rfl (by kernel_rfl) (λKK hK=>?_);obtain⟨x0,x1⟩:=aS.c2 T1.o.1.1.2.1
   focus go_simp
   refine hK.o _ _ ⟨T1.o.1.2.1.c2,T1.o.1.2.2.c2⟩ (λh2=>?_);clear hK KK hH x0 x1;have hH:=h2;clear h2
   try simp only[ax]
   all_goals
    refine ag 2 rfl (by kernel_rfl) (λKK hK=>?_);go_simp;refine(CI (ur T1.o.1.1.2.2.1 (wj (gP HA.o k) (by rw[aj1];omega)) (by omega)) (ur T1.o.2 (show Bd 1 1 by unfold Bd;decide) (by omega))).mono ?_;rintro e V2 ⟨m5,a5,n5,c5,rfl,hC,hB⟩;have T2:=hid (ah5 (ah5 (T1.o.1.1.step hB) (ah5 (T1.o.1.2.1.below hB) (T1.o.1.2.2.below hB))) hC);clear hB hC T1;go_wp2_with fail;clear hH;refine hK.o _ _ ⟨T2.o.1.2.1.c2,T2.o.1.2.2.c2⟩ λhH=>?_;clear hK KK
    try simp only[ax]
    refine ag 4 rfl (by kernel_rfl) (λKK hK=>?_);go_simp;refine(eF (ur T2.o.2 (Bd.sub ((wj (gP HA.o k) (by rw[aj1];omega)).mono (show 1000<=1000 by omega)) ((show Bd 1 1 by unfold Bd;decide).mono (by omega)) (show 1000+1<=1001 by omega)) (by omega)) (ur T2.o.1.2.1.2 (Fj HZ.o.2.2) (by omega))).mono ?_;rintro e V3 ⟨m6,a6,n6,c6,rfl,hC,hB⟩;have Yt:Bd (((aP (d.take k):Int)-1)*10^z) 1200:=Bd.mono (Bd.mul (Bd.sub ((wj (gP HA.o k) (by rw[aj1];omega)).mono (show 1000<=1000 by omega)) ((show Bd 1 1 by unfold Bd;decide).mono (by omega)) (show 1000+1<=1001 by omega)) (Fj HZ.o.2.2)) (by omega);have T3:=hid (ah5 (ah5 (T2.o.1.1.step hB) (ah5 (T2.o.1.2.1.below hB) (T2.o.1.2.2.below hB))) (ah5 hC Yt));clear hB hC T2 Yt;go_wp2_with fail;clear hH;refine hK.o _ _ ⟨T3.o.1.2.1.c2,T3.o.1.2.2.c2⟩ λhH=>?_;clear hK KK
    try simp only[ax]
    refine ag 6 rfl (by kernel_rfl) (λKK hK=>?_);go_simp;refine(mB (ur T3.o.2.1 T3.o.2.2 (by omega)) (ur T3.o.1.2.2.2 (Bd.add ((Fj HZ.o.2.2).mono (show 104<=1000 by omega)) (wj (gP (oI HA.o k) z) (by rw[rK.o];have:=HZ.o;omega)) (show 1000+1<=1001 by omega)) (by omega))).mono ?_;rw[HST.o];rintro e V4 ⟨m7,a7,n7,c7,rfl,hC,hB⟩;have T4:=hid (ah5 (ah5 (T3.o.1.1.step hB) (ah5 (T3.o.1.2.1.below hB) (T3.o.1.2.2.below hB))) hC);clear hB hC T3;go_wp2_with fail;clear hH;refine hK.o _ _ ⟨T4.o.1.2.1.c2,T4.o.1.2.2.c2⟩ λhH=>?_;clear hK KK
    try simp only[ax]
    refine ag 7 rfl (by kernel_rfl) (λKK hK=>?_);obtain⟨x0,x1⟩:=aS.c2 T4.o.1.1.2.1;have y0:=T4.o.1.1.2.1.fz 0;have y1:=T4.o.1.1.2.1.fz 1;go_simp;clear x0 x1 y0 y1;have hp2:=Yr T4.o.1.1.2.1 (H9 _ _ _ _) (ai6 m7) (ai5 a7 n7 c7);have hne5:b3≠b5:=Nat.ne_of_lt oq.o;have Um:b3≠b7:=Nat.ne_of_lt EM.o;refine hK.o _ _ ⟨aS.c2 ((T4.o.1.2.1.1.dy hne5 0 _).dy hne5 1 _),aS.c2 ((T4.o.1.2.2.1.dy Um 0 _).dy Um 1 _)⟩ (λh2=>?_);clear hK KK hH h2
    try rw[ax.2.1]
    refine wpAnyH_done (by kernel_rfl) ?_ _
    have T5:=hid (show Tf w _ b2 b3 m7 a7 n7 c7 _ from⟨(T4.o.1.1.1.dy (show b3≠b2 by omega) 0 _).dy (show b3≠b2 by omega) 1 _,hp2.2,T4.o.2.gu hp2.1,qN T4.o.1.1.2.2.2 (show w.heap.size<=b3 by omega) _ _⟩);clear hp2 hne5 Um T4;go_wp2_with fail;go_roundw
    case rel=>exact⟨k+z,m7,a7,n7,c7,by rw[Fb.o],by have:=HZ.o;omega,T5.o⟩
    case measure=>
     have h1:=Ys.o;have h2:=HZ.o;have h3:(u.extract z u.size).size=d.length-(k+z):=by rw[Fb.o];show(d.drop (k+z)).toArray.size=_;simp
     show(u.extract z u.size).size<u.size;omega
  ·obtain rfl:k=d.length:=by omega
   have hq:(u.toList==[])=true:=jJ (by rw[LI];simp);have hq2:(u.toList !=[])=false:=by simp[bne,hq]
   have HR:Hid (Tf w wr b2 b3 m a n c (aP d:Int)):=by have h:=HS.o;rw[List.take_length]at h;exact h
   clear LI Uk HU Ys HS;obtain⟨x0,x1⟩:=aS.c2 HR.o.2.1;obtain⟨y0,y1⟩:=aS.c2 HR.o.1;have z0:=HR.o.1.fz 0;have z1:=HR.o.1.fz 1;go_wp2_with fail;refine bodyPost_ret (v:= .agg #[ai6 m,ai5 a n c]) (by simp[results,Tryz.results167,go_sem,y0,y1]) rfl ?_;have hp2:=Yr HR.o.1 (H9 _ _ _ _) (ai6 m) (ai5 a n c);exact⟨_,_,_,_,rfl,HR.o.2.2.1.gu hp2.1,qN HR.o.2.2.2 hw2 _ _⟩
theorem Cn.MG {w w':ah6} {m:Bool} {a:Z'} {n c:Nat} {z:Int} (h:Cn w m a n c z) (hk:∀ad,a=some ad->0<n->w'.heap[ad.block]? =w.heap[ad.block]?):Cn w' m a n c z:=
 ⟨h.neg,h.sl.len,h.sl.le,h.sl.big,h.sl.wf,h.sl.nil,λad had t ht=>(ai7 (by rw[eA];exact hk ad had (by omega))).trans (h.sl.cells ad had t ht)⟩
theorem Cn.Hh {w:ah6} {m:Bool} {a:Z'} {n c:Nat} {z:Int} (h:Cn w m a n c z) {ad:Addr} (had:a=some ad) (h0:0<n):ad.block<w.heap.size:=by
 have:=World.block_lt_of_cell? w _ (h.sl.cells ad had 0 h0);rwa[eA]at this
theorem Rd.pP {w:ah6} {b:Nat} {s:ByteArray} (h:Rd w b s):dV w b:=aS.dD (L:=[.string s]) (T:=111) h λu hu=>by simp at hu;rw[hu];rfl
theorem yZ {B:Nat} {w:ah6} {mo:Z'} {mn mc:Nat} {ms:List (Int×Int)} (h:Mo B w mo mn mc ms) (hB:B<=w.heap.size) (hn:mn<1000000) {u v:Int} (hu:fq u) (hv:fq v) (tt ty:TypeId):
  ∃ro rc W,(Builtin.append_ #[68,68] ty #[ai5 mo mn mc,ai5 (some ⟨w.heap.size,0,none⟩) 1 1]).run Tryz.prog (w.alloc (.cells #[.int .i64 u,.int .i64 v] tt))= .ok (ai5 ro (mn+1) rc) W/\ Mo B W ro (mn+1) rc (ms++[(u,v)])/\ (w.alloc (.cells #[.int .i64 u,.int .i64 v] tt)).grownBy W (eQ mo):=by
 obtain⟨i0,hi,hz0,hz1,hz2⟩:=info_parts Tryz.mv;have ho:=h.row.alloc (.cells #[.int .i64 u,.int .i64 v] tt)
 obtain⟨v',W,h1,h2,h3,_⟩:=run_append_own (P:=Tryz.prog) (w.alloc (.cells #[.int .i64 u,.int .i64 v] tt)) B 68 ty 72 i0 _ 2 16 Tryz.underlying68 hi hz0 hz1 hz2 rfl (by omega) _ mn (dW ms) ho ⟨w.heap.size,0,none⟩ 1 1 (dW [(u,v)]) rfl (λj q hj=>by
  match j,hj with
  |0,hj=>simp[dW]at hj;subst hj;simp[Addr.add]
  |1,hj=>simp[dW]at hj;subst hj;simp[Addr.add]
  |j+2,hj=>simp[dW]at hj) (kE _) (by unfold maxLen;omega) (by omega) (by simp;omega)
 obtain⟨ro,rc,rfl⟩:=lC h2;refine⟨ro,rc,W,h1,⟨by rw[lO];exact h2,by omega,λp hp=>?_⟩,by rw[<-H' mo mn mc];exact h3⟩;rcases List.mem_append.1 hp with hp|hp
 ·exact h.wf p hp
 ·simp at hp;subst hp;exact⟨hu,hv⟩
theorem Mo.eQ {B:Nat} {w:ah6} {mo:Z'} {mn mc:Nat} {ms:List (Int×Int)} (h:Mo B w mo mn mc ms) {g:Nat} (hg:eQ mo=some g):B<=g/\ g<w.heap.size/\∃cur,w.heap[g]? =some (.cells cur 72 (0,0)):=by
 rcases h.parts with⟨rfl,_⟩|⟨g',cur,rfl,h1,h2,_,h3⟩
 ·cases hg
 ·cases hg;exact⟨h1,h2,cur,h3⟩
structure uV (w w1:ah6) (b B2 B3 Bc:Nat) (s:ByteArray) (ca:Option Addr) (cn cc:Nat) (c:Int) (mo:Option Addr) (mn mc:Nat) (ms:List (Int×Int)):Prop where
 rd:Rd w1 b s
 a2:aS w1 B2 [ai6 false,ai5 none 0 0,ai5 none 0 0] 70
 a3:aS w1 B3 [ai6 false,ai5 ca cn cc,ai5 mo mn mc] 70
 nu:Cn w1 false ca cn cc c
 ck:∀ad,ca=some ad->0<cn->ad.block<Bc
 mm:Mo Bc w1 mo mn mc ms
 g:w.grownBy w1 (some b)
 o:b<w.heap.size/\ w.heap.size<=B2/\ B2<B3/\ w.heap.size<=Bc/\ Bc<=w1.heap.size
section
variable {w w1 w2:ah6} {b B2 B3 Bc:Nat} {s s':ByteArray} {ca:Option Addr} {cn cc:Nat} {c:Int} {mo:Option Addr} {mn mc:Nat} {ms:List (Int×Int)}
theorem uV.gb (h:uV w w1 b B2 B3 Bc s ca cn cc c mo mn mc ms) (hR:Rd w2 b s') (hg:w1.grownBy w2 (some b)):uV w w2 b B2 B3 Bc s' ca cn cc c mo mn mc ms:=by
 have o:=h.o;have hs:=hg.size;refine⟨hR,h.a2.apart hg (λe=>by have:=ak1 e;omega),h.a3.apart hg (λe=>by have:=ak1 e;omega),h.nu.fM h.rd.pP hg,h.ck,h.mm.ct λa e=>?_,aH h.g hg,by omega⟩;have:=h.mm.eQ (g:=a.block) (by rw[e];rfl);exact hg.block _ this.2.1 λe=>by have:=ak1 e;omega
theorem uV.below (h:uV w w1 b B2 B3 Bc s ca cn cc c mo mn mc ms) (hb:ai2 w1.heap.size w1 w2):uV w w2 b B2 B3 Bc s ca cn cc c mo mn mc ms:=h.gb (h.rd.below hb) (bZ _ hb)
theorem uV.Jr (h:w.grownBy w1 (some b)) (hB:w.heap.size<=B3) (o:Nat) (u:ah7):w.grownBy (w1.setCell ⟨B3,o,none⟩ u) (some b):=
 ⟨h.os,h.tape,h.output,by have:=h.size;simpa[ai8]using this,λk hk hne=>(ai4 _ _ _ _ (show k≠B3 by omega)).trans (h.block k hk hne)⟩
theorem uV.ab0 (h:uV w w1 b B2 B3 Bc s ca cn cc c none 0 0 []) {ca':Z'} {cn' cc':Nat} {c':Int} (hC:Cn w1 false ca' cn' cc' c'):
  uV w ((w1.setCell ⟨B3,0,none⟩ (ai6 false)).setCell ⟨B3,1,none⟩ (ai5 ca' cn' cc')) b B2 B3 w1.heap.size s ca' cn' cc' c' none 0 0 []:=by
 have o:=h.o;refine⟨kF (kF h.rd (by omega) _) (by omega) _,(h.a2.dy (by omega) _ _).dy (by omega) _ _,(h.a3.set 0 _).set 1 _,?_,λad had h0=>hC.Hh had h0,Mo.nil _ _,uV.Jr (uV.Jr h.g (by omega) _ _) (by omega) _ _,⟨o.1,o.2.1,o.2.2.1,h.g.size,by simp[ai8]⟩⟩;exact hC.fM (h.a3.dD (jS _ _ _ _ _ _ _)) (cD (br _ _ _ _) (br _ _ _ _))
theorem uV.push [Ol] (h:uV w w1 b B2 B3 Bc s ca cn cc c mo mn mc ms) {tt:TypeId} {x y:ah7} (hg:(w1.alloc (.cells #[x,y] tt)).grownBy w2 (eQ mo)) {ro:Z'} {rc:Nat} {p:Int×Int} (hM:Mo Bc w2 ro (mn+1) rc (ms++[p])):
  uV w (w2.setCell ⟨B3,2,none⟩ (ai5 ro (mn+1) rc)) b B2 B3 Bc s ca cn cc c ro (mn+1) rc (ms++[p])/\ w2.cell? ⟨B3,2,none⟩=some (ai5 mo mn mc)/\ w2.frozen? ⟨B3,2,none⟩=false:=by
 have o:=h.o;have hB:ai2 w1.heap.size w1 (w1.alloc (.cells #[x,y] tt)):=af _ _;have hs:=hg.size;have hs1:=hB.size
 have hk:∀k,k<w1.heap.size->(∀g,eQ mo=some g->k≠g)->w2.heap[k]? =w1.heap[k]? :=λk hk hne=>by
  refine(hg.block k (by omega) λe=>?_).trans (hB.block k hk);exact hne k e.symm rfl
 have hty:∀{k:Nat} {L:List ah7} {T:TypeId},aS w1 k L T->T≠72->∀g,eQ mo=some g->k≠g:=λ{k L T} hA hT g hg e=>by
  obtain⟨_,_,cur,hc⟩:=h.mm.eQ hg;subst e;unfold aS at hA;rw[hA]at hc;cases hc;exact hT rfl
 have r2:Rd w2 b s:=(hk b h.rd.lt (hty (L:=[.string s]) h.rd (by decide))).trans h.rd;have c2:aS w2 B2 _ _:=h.a2.ct (hk B2 h.a2.lt (hty h.a2 (by decide)));have c3:aS w2 B3 _ _:=h.a3.ct (hk B3 h.a3.lt (hty h.a3 (by decide)));have n2:Cn w2 false ca cn cc c:=h.nu.MG λad had h0=>hk _ (h.nu.Hh had h0) λg hg=>by have:=h.ck ad had h0;have:=(h.mm.eQ hg).1;omega
 have g2:w.grownBy w2 (some b):=by
  refine⟨hg.os.trans (hB.os.trans h.g.os),hg.tape.trans (hB.tape.trans h.g.tape),hg.output.trans (hB.output.trans h.g.output),by have:=h.g.size;omega,λk hk2 hne=>?_⟩;have:=h.g.size;exact(hk k (by omega) λg hg e=>by have:=(h.mm.eQ hg).1;omega).trans (h.g.block k hk2 hne)
 refine⟨⟨kF r2 (by omega) _,c2.dy (by omega) _ _,c3.set 2 _,n2.fM (c3.dD (jS _ _ _ _ _ _ _)) (br _ _ _ _),h.ck,hM.ct λa e=>?_,uV.Jr g2 (by omega) _ _,by have e:(w2.setCell ⟨B3,2,none⟩ (ai5 ro (mn+1) rc)).heap.size=w2.heap.size:=(by simp[ai8]);omega⟩,c3.cell 2,c3.fz 2⟩;obtain⟨_,_,cur,hc⟩:=hM.eQ (g:=a.block) (by rw[e];rfl);refine ai4 _ _ _ _ λe=>?_
 rw[e]at hc;unfold aS at c3;rw[c3]at hc;cases hc
end
def Yu [Ol] (b:Nat) (o:Option (ai×List UInt8)) (w:ah6) (e:Ending) (w':ah6):Prop:=
 match o with
 |none=>qO b w e w'
 |some t=>∃ca cn cc mo mn mc,e= .returned (.agg #[ai6 false,ai5 ca cn cc,ai5 mo mn mc])/\ Cn w' false ca cn cc t.1.1/\ Ml w' mo mn mc t.1.2/\ Rd w' b ⟨t.2.toArray⟩/\ w.grownBy w' (some b)
theorem uV.ZW [Ol] {w w1:ah6} {b B2 B3 Bc:Nat} {s:ByteArray} {ca:Z'} {cn cc:Nat} {c:Int} {mo:Z'} {mn mc:Nat} {ms:List (Int×Int)} (h:uV w w1 b B2 B3 Bc s ca cn cc c mo mn mc ms) {W:ah6} (hW:W=((w1.setCell ⟨B2,0,none⟩ (ai6 false)).setCell ⟨B2,1,none⟩ (ai5 ca cn cc)).setCell ⟨B2,2,none⟩ (ai5 mo mn mc)):
  Cn W false ca cn cc c/\ Ml W mo mn mc ms/\ Rd W b s/\ w.grownBy W (some b)/\ aS W B2 [ai6 false,ai5 ca cn cc,ai5 mo mn mc] 70:=by
 have o:=h.o;have hg:=eD w1 B2 0 (ai6 false) (ai5 ca cn cc) (ai5 mo mn mc);have hc:=h.a2.dD (jS _ _ _ _ _ _ _);rw[hW];exact⟨h.nu.fM hc hg,h.mm.ml.fM hc hg,kF (kF (kF h.rd (by omega) _) (by omega) _) (by omega) _,uV.Jr (uV.Jr (uV.Jr h.g (by omega) _ _) (by omega) _ _) (by omega) _ _,((h.a2.set 0 _).set 1 _).set 2 _⟩
theorem CJ {l r:List UInt8} {v:Int×Int} (h:mC l=some (v,r)):r.length<l.length:=by
 have:=congrArg aj0 (lF h).1;rw[aj3,iB,aj2]at this;omega
theorem CK {l r:List UInt8} {v:Int×Int} (h:mC l=some (v,r)):fq v.1/\ fq v.2:=by
 obtain⟨h1,h2,h3,h4⟩:=(lF h).2;unfold fq;omega
def za (b:Nat) (w:ah6):Nat:=match w.cell? ⟨b,0,none⟩with|some (.string s)=>s.size| _=>0
theorem Rd.len {w:ah6} {b:Nat} {s:ByteArray} (h:Rd w b s):za b w=s.size:=by unfold za;rw[h.cell]
open Lib (hid)
theorem Js [Ol] {b N:Nat} {s:ByteArray} {o:Option (ai×List UInt8)} {w:ah6} (h:Rd w b s) (hs:s.size<=9000) (hN:s.size<=N) (hE:om w) (hG:6<b) (ho:o=gH N s.data.toList):
  Calls Tryz.prog 112 #[.pointer (some ⟨b,0,none⟩)] w (Yu b o w):=by
 have HR:=hid h;have HO:=hid ho;have HE:=hid hE;have HG:=hid hG;clear h ho hE hG;go_enter Tryz.func112,Tryz.ntmps112;obtain⟨b2,hb2⟩:∃b,b=w.heap.size:=⟨_,rfl⟩;go_upto_region 1 with(fail)
 refine aj (λW0 hW=>?_);have a2:aS W0 b2 [ai6 false,ai5 none 0 0,ai5 none 0 0] 70/\ ai2 w.heap.size w W0:=by rw[hW,hb2];exact gp w _ 70
 rw[<-hb2];have hw2:w.heap.size<=b2:=by omega
 clear hW hb2;go_wp2_with fail;refine(rX 1 _ (by omega)).mono ?_;rintro e w1 ⟨m1,a1,n1,c1,rfl,hC,hB⟩;obtain rfl:m1=false:=by have:=hC.neg;simpa using this
 obtain⟨b3,hb3⟩:∃b,b=w1.heap.size:=⟨_,rfl⟩;go_upto_region 2 with(fail)
 refine aj (λW2 hW=>?_);have a3:aS W2 b3 [ai6 false,ai5 a1 n1 c1,ai5 none 0 0] 70/\ ai2 w1.heap.size w1 W2:=by rw[hW,hb3];exact gp w1 _ 70
 rw[<-hb3]
 have T0:Hid (uV w W2 b b2 b3 W2.heap.size s a1 n1 c1 1 none 0 0 []):=by
  have hB2:=Below.ar (Below.ar a2.2 hB) a3.2;have hl:=a2.1.lt;have hl2:=hB.size;exact⟨HR.o.below hB2,(a2.1.below hB).below a3.2,a3.1,hC.below a3.2,λad had h0=>(hC.below a3.2).Hh had h0,Mo.nil _ _,bZ _ hB2,⟨HR.o.lt,hw2,by omega,hB2.size,Nat.le_refl _⟩⟩
 clear hW hb3 a2 a3 hB hC hw2;have hc:=T0.o.rd.cell;go_wp2_with fail;clear hc;by_cases hx:s.data.toList.head? =some 120;have hq:=rZ s ⟨#[120]⟩ W2
 have hq1:ai1 s.data.toList (⟨#[120]⟩:ByteArray).data.toList=true:=by
  cases hl:s.data.toList with
  |nil=>rw[hl]at hx;simp at hx
  |cons a l=>rw[hl]at hx;simp at hx;simp[ai1,aj4,hx]
 rw[hq1]at hq;refine hq.mono ?_;rintro e V ⟨rfl,hB⟩;have T:=hid (T0.o.below hB);have Jt:Hid (o=(jT N s.data.toList).bind λa=>some (((1:Int),a.1),a.2)):=by rw[Hid,HO.o];unfold gH;rw[if_pos hx]
 have Ck:Hid (s.size<=9000):=hs;have Wy:Hid (s.size<=N):=hN;clear hB hq hq1 hx T0 HO
 focus go_upto_region 9 with(fail)
 rotate_left
 have hq:=rZ s ⟨#[120]⟩ W2
 have hq1:ai1 s.data.toList (⟨#[120]⟩:ByteArray).data.toList=false:=by
  cases hl:s.data.toList with
  |nil=>rfl
  |cons a l=>rw[hl]at hx;simp at hx;simp[ai1,aj4];exact λe=>hx e.symm
 rw[hq1]at hq;refine hq.mono ?_;rintro e V0 ⟨rfl,hB⟩;have T1:=hid (T0.o.below hB);have Jt:Hid (o=(kG s.data.toList).bind λa=>match ez 42 a.2 with|none=>some (((aP a.1:Int),[]),a.2)|some l1=>if a.1=[49]then none else(jT N l1).bind λb=>some (((aP a.1:Int),b.1),b.2)):=by rw[Hid,HO.o];unfold gH;rw[if_neg hx];rfl
 clear hB hq hq1 hx T0 HO
 focus go_wp2_with fail
 by_cases hd:kG s.data.toList=none
 ·refine(wm T1.o.rd (by omega) rfl rfl (by unfold kG at hd;split at hd;assumption;cases hd)).mono ?_;rintro e w2 ⟨rfl,hg⟩;go_wp2_with fail;have uu:o=none:=by rw[Jt.o,hd];rfl
  rw[uu];exact⟨rfl,rfl,aH T1.o.g hg⟩
 obtain⟨⟨d,r⟩,hd2⟩:=aj8.1 hd;have hdd:=fu hd2;have hdl:d.length+r.length=s.size:=by have:=congrArg aj0 hdd.1;rw[aj3,<-ai0]at this;omega
 refine(tB T1.o.rd (by omega) hd2).mono ?_;rintro e w2 ⟨rfl,hR,hg⟩;have T2:=hid (T1.o.gb hR hg);have uu:Hid (o=match ez 42 r with|none=>some (((aP d:Int),[]),r)|some l1=>if d=[49]then none else(jT N l1).bind λb=>some (((aP d:Int),b.1),b.2)):=by rw[Hid,Jt.o,hd2];rfl
 have HAD:Hid (cL d=true):=by rw[Hid,<-hdd.2.1];exact vt _
 clear hR hg T1 Jt hd hd2 hdd
 focus go_wp2_with fail
 refine(CH d _ HAD.o (by omega)).mono ?_;rintro e w3 ⟨m4,a4,n4,c4,rfl,hC,hB⟩;obtain rfl:m4=false:=by rw[hC.neg];exact decide_eq_false (by omega)
 have T3:=hid (T2.o.below hB);have HC:=hid hC;obtain⟨dx,hdx⟩:∃dx:ByteArray,dx=⟨d.toArray⟩:=⟨_,rfl⟩;have HDX:Hid (dx.data.toList=d):=by rw[Hid,hdx]
 rw[<-hdx];clear hB hC T2 hdx;obtain⟨x0,x1,_⟩:=T3.o.a3.c3;have x2:=T3.o.a3.fz 0;have x3:=T3.o.a3.fz 1
 focus go_upto_region 5 with(fail)
 refine aj (λW4 hW=>?_);have T4:Hid (uV w W4 b b2 b3 w3.heap.size ⟨r.toArray⟩ a4 n4 c4 (aP d:Int) none 0 0 []):=by rw[hW];exact T3.o.ab0 HC.o
 clear hW T3 HC x0 x1 x2 x3
 focus go_wp2_with fail
 by_cases ht:ez 42 r=none
 ·refine(iC T4.o.rd ht).mono ?_;rintro e w5 ⟨rfl,hR,hg⟩;have T5:=hid (T4.o.gb hR hg);have LJ:Hid (o=some (((aP d:Int),[]),r)):=by rw[Hid,uu.o,ht]
  clear hR hg T4 uu ht;obtain⟨x0,x1,x2⟩:=T5.o.a3.c3;obtain⟨y0,y1,y2⟩:=T5.o.a2.c3;have z0:=T5.o.a2.fz 0;have z1:=T5.o.a2.fz 1;have z2:=T5.o.a2.fz 2;go_wp2_with fail;refine bodyPost_ret (v:= .agg #[ai6 false,ai5 a4 n4 c4,ai5 none 0 0]) (by simp[results,Tryz.results112,go_sem,y0,y1,y2]) rfl ?_;rw[LJ.o];have hF:=T5.o.ZW rfl;exact⟨_,_,_,_,_,_,rfl,hF.1,hF.2.1,hF.2.2.1,hF.2.2.2.1⟩
 obtain⟨l1,ht2⟩:=aj8.1 ht;refine(eN T4.o.rd ht2).mono ?_;rintro e V ⟨rfl,hR,hg⟩;have T5:=hid (T4.o.gb hR hg);have LJ:Hid (o=if d=[49]then none else(jT N l1).bind λb=>some (((aP d:Int),b.1),b.2)):=by rw[Hid,uu.o,ht2]
 have hll:l1.length<=r.length:=fN ht2;clear hR hg T4 uu ht ht2;by_cases h1:d=[49]
 ·have hq:(dx.toList==[49])=true:=jJ (HDX.o.trans h1);go_wp2_with fail;refine(gQ (b:=b)).mono ?_;rintro e w6 ⟨rfl,hg⟩;go_wp2_with fail;rw[LJ.o,if_pos h1];exact⟨rfl,rfl,aH T5.o.g hg⟩
 have hq:(dx.toList==[49])=false:=iQ (λe=>h1 (HDX.o.symm.trans e));have Jt:Hid (o=(jT N (⟨l1.toArray⟩:ByteArray).data.toList).bind λa=>some (((aP d:Int),a.1),a.2)):=by rw[Hid,LJ.o,if_neg h1]
 have hsz1:(⟨l1.toArray⟩:ByteArray).size=l1.length:=ai0 _;have Ck:Hid ((⟨l1.toArray⟩:ByteArray).size<=9000):=by rw[Hid];omega
 have Wy:Hid ((⟨l1.toArray⟩:ByteArray).size<=N):=by rw[Hid];omega
 have T:=T5;clear LJ h1 hsz1 hll hdl HAD T5
 focus go_upto_region 9 with(fail)
 clear hq
 rotate_left
 all_goals
  obtain⟨ca,cn,cc,c,Bc,s1,HT,HO,Ck,Wy⟩:∃(ca:Option Addr) (cn cc:Nat) (c:Int) (Bc:Nat) (s1:ByteArray),Hid (uV w V b b2 b3 Bc s1 ca cn cc c none 0 0 [])/\ Hid (o=(jT N s1.data.toList).bind λa=>some ((c,a.1),a.2))/\ Hid (s1.size<=9000)/\ Hid (s1.size<=N):=⟨_,_,_,_,_,_,T,Jt,Ck,Wy⟩;have T:=HT;have vq:=Ck;have Ck:Hid (s1.size<=65536):=by have:=vq.o;rw[Hid];omega
  clear Jt HT;by_cases hp:mC s1.data.toList=none
  ·have HP:=hid hp;have Yv:Hid (o=none):=by rw[Hid,HO.o,jT,hp];rfl
   clear hp HO vq Wy;refine wp_region_held_drew (S:=λ_=>True) (by kernel_rfl) trivial (λhH=>?_);refine ah (λW1 hW=>?_);have T1:=hid (T.o.below (by rw[hW];exact(ai3 _ _).drew:ai2 V.heap.size V W1));clear hW T;refine aT 0 hH ?_
   try simp only[ax]
   refine aT 2 hH ?_
   try simp only[ax]
   refine wpAnyH_ready (rs:=[1,3]) (by kernel_rfl) (by simp) (aM rfl (λKK hK=>?_) (aM rfl (λKK hK=>?_) (ah9)))
   ·have x2:=T1.o.a3.c3.2.2
    focus go_simp
    clear x2;clear hH;refine hK.o _ _ trivial λhH=>?_;clear hK KK
    try simp only[ax]
    refine ag 3 rfl (by kernel_rfl) (λKK hK=>?_)
    focus go_simp
    refine(nB T1.o.rd Ck.o (HE.o.ct T1.o.g HG.o T1.o.o.1) HG.o HP.o).mono ?_;rintro e w2 ⟨rfl,hg⟩
    focus go_wp2_with fail
    rw[Yv.o];exact⟨rfl,rfl,aH T1.o.g hg⟩
   ·focus go_simp
    refine(nB T1.o.rd Ck.o (HE.o.ct T1.o.g HG.o T1.o.o.1) HG.o HP.o).mono ?_;rintro e w2 ⟨rfl,hg⟩
    focus go_wp2_with fail
    rw[Yv.o];exact⟨rfl,rfl,aH T1.o.g hg⟩
  obtain⟨⟨v,r1⟩,hp2⟩:=aj8.1 hp;have HP:=hid hp2;have Un:=hid (CK hp2);have Yw:Hid ((0:Nat)<1000000):=by rw[Hid];omega
  have uu:Hid (o=(iR N r1).bind λq=>some ((c,[v]++q.1),q.2)):=by
   rw[Hid,HO.o,jT,hp2];show(aj9 (aj9 (iR N r1) _) _)=_;cases iR N r1<;>rfl
  have Cm:Hid (r1.length<s1.size):=by have:=CJ hp2;rw[<-ai0]at this;exact this
  clear hp hp2 HO;refine wp_region_held_drew (S:=λ_=>True) (by kernel_rfl) trivial (λhH=>?_);refine ah (λW1 hW=>?_);have T1:=hid (T.o.below (by rw[hW];exact(ai3 _ _).drew:ai2 V.heap.size V W1));clear hW T;refine aT 0 hH ?_
  try simp only[ax]
  refine aT 2 hH ?_
  try simp only[ax]
  refine wpAnyH_ready (rs:=[1,3]) (by kernel_rfl) (by simp) (aM rfl (λKK hK=>?_) (aM rfl (λKK hK=>?_) (ah9)));have x2:=T1.o.a3.c3.2.2
  focus go_simp
  clear x2;clear hH;refine hK.o _ _ trivial λhH=>?_;clear hK KK
  try simp only[ax]
  refine ag 3 rfl (by kernel_rfl) (λKK hK=>?_)
  focus go_simp
  refine(se T1.o.rd Ck.o HP.o).mono ?_;rintro e w2 ⟨rfl,hR,hg⟩;have T2:=hid (T1.o.gb hR hg);clear hR hg
  focus go_wp2_with fail
  clear hH;refine hK.o _ _ trivial λhH=>?_;clear hK KK
  try simp only[ax]
  refine ag 4 rfl (by kernel_rfl) (λKK hK=>?_)
  focus go_simp
  clear hH;refine hK.o _ _ trivial λhH=>?_;clear hK KK
  try simp only[ax]
  rotate_left
  focus go_simp
  refine(se T1.o.rd Ck.o HP.o).mono ?_;rintro e w2 ⟨rfl,hR,hg⟩;have T2:=hid (T1.o.gb hR hg);clear hR hg
  focus go_wp2_with fail
  clear hH;refine hK.o _ _ trivial λhH=>?_;clear hK KK
  try simp only[ax]
  refine wpAnyH_ready (rs:=[1,4]) (by kernel_rfl) (by simp) (aM rfl (λKK hK=>?_) (aM rfl (λKK hK=>?_) (ah9)));have x2:=T2.o.a3.c3.2.2
  focus go_simp
  clear x2;clear hH;refine hK.o _ _ trivial λhH=>?_;clear hK KK
  try simp only[ax]
  refine ag 4 rfl (by kernel_rfl) (λKK hK=>?_)
  focus go_simp
  clear hH;refine hK.o _ _ trivial λhH=>?_;clear hK KK
  try simp only[ax]
  rotate_left
  focus go_simp
  clear hH;refine hK.o _ _ trivial λhH=>?_;clear hK KK
  try simp only[ax]
  refine ag 1 rfl (by kernel_rfl) (λKK hK=>?_);have x2:=(T2.o.below (af w2 (.cells #[.int .i64 v.1,.int .i64 v.2] 72))).a3.c3.2.2
  focus go_simp
  clear x2;clear hH;refine hK.o _ _ trivial λhH=>?_;clear hK KK
  try simp only[ax]
  all_goals
   obtain⟨ro,rc,W3,hrun,hM,hg⟩:=yZ T2.o.mm T2.o.o.2.2.2.2 Yw.o Un.o.1 Un.o.2 72 68;refine ag 5 rfl (by kernel_rfl) (λKK hK=>?_);refine wq rfl _ _ _ _ rfl (by simp[ah8]) (by simp[ah8]) hrun ?_;clear hH;refine hK.o _ _ trivial λhH=>?_;clear hK KK
   try simp only[ax]
   have Ju:=T2.o.push hg hM;clear hrun hM hg;refine aT 6 hH ?_
   try simp only[ax]
   refine ag 7 rfl (by kernel_rfl) (λKK hK=>?_);have x2:=Ju.2.1;have x3:=Ju.2.2
   focus go_simp
   clear x2 x3;refine hK.o _ _ trivial (λh2=>?_);clear hK KK hH h2
   try rw[ax.2.1]
   refine wpAnyH_done (by kernel_rfl) ?_ _
   have T3:=hid Ju.1;clear Ju T2 HP Un Yw Ck;go_wp2_with fail;go_loopw [33] (λ_ wr=>∃(s:ByteArray) (mo:Option Addr) (mn mc:Nat) (ms:List (Int×Int)) (k:Nat),Hid (uV w wr b b2 b3 Bc s ca cn cc c mo mn mc ms/\ mn+s.size<=9000/\ s.size<k/\ o=(iR k s.data.toList).bind λq=>some ((c,ms++q.1),q.2))) (λ_ wr=>za b wr)
   case atStart=>exact⟨⟨r1.toArray⟩,ro,1,rc,[v],N,T3.o,by have h1:=Cm.o;have h2:=vq.o;have h3:(⟨r1.toArray⟩:ByteArray).size=r1.length:=ai0 _;omega,by have h1:=Cm.o;have h2:=Wy.o;have h3:(⟨r1.toArray⟩:ByteArray).size=r1.length:=ai0 _;omega,uu.o⟩
   case round=>
    clear T3 Cm uu Wy vq;obtain⟨s2,mo,mn,mc,ms,k,HS⟩:=hrel;have MH:Hid (za b wr=s2.size):=HS.o.1.rd.len;obtain⟨k,rfl⟩:∃k',k=k'+1:=⟨k-1,by have:=HS.o.2.2.1;omega⟩;go_wp2_with fail;by_cases ht:ez 42 s2.data.toList=none
    ·refine(iC HS.o.1.rd ht).mono ?_;rintro e w5 ⟨rfl,hR,hg⟩;have T5:=hid (HS.o.1.gb hR hg)
     have LJ:Hid (o=some ((c,ms),s2.data.toList)):=by
      rw[Hid,HS.o.2.2.2,iR,ht];show some ((c,ms++[]),s2.data.toList)=_;rw[aj5]
     clear hR hg HS ht MH;obtain⟨x0,x1,x2⟩:=T5.o.a3.c3;obtain⟨y0,y1,y2⟩:=T5.o.a2.c3;have z0:=T5.o.a2.fz 0;have z1:=T5.o.a2.fz 1;have z2:=T5.o.a2.fz 2;go_wp2_with fail;refine bodyPost_ret (v:= .agg #[ai6 false,ai5 ca cn cc,ai5 mo mn mc]) (by simp[results,Tryz.results112,go_sem,y0,y1,y2]) rfl ?_;rw[LJ.o];have hF:=T5.o.ZW rfl;exact⟨_,_,_,_,_,_,rfl,hF.1,hF.2.1,hF.2.2.1,hF.2.2.2.1⟩
    obtain⟨l1,ht2⟩:=aj8.1 ht;refine(eN HS.o.1.rd ht2).mono ?_;rintro e V ⟨rfl,hR,hg⟩;obtain⟨s1,hs1⟩:∃s1:ByteArray,s1=⟨l1.toArray⟩:=⟨_,rfl⟩;rw[<-hs1]at hR;have T:=hid (HS.o.1.gb hR hg);have hlb:=fN ht2;have hll:s1.size<=s2.size:=by rw[hs1,ai0,ai0];exact hlb
    have hl1:l1=s1.data.toList:=by rw[hs1]
    have Ck:Hid (s1.size<=65536):=by have:=HS.o.2.1;rw[Hid];omega
    have HB:Hid (mn+s1.size<=9000/\ s1.size<k+1/\ s1.size<=s2.size):=by have h1:=HS.o.2.1;have h2:=HS.o.2.2.1;exact⟨by omega,by omega,hll⟩
    have HO:Hid (o=((mC s1.data.toList).bind λa=>(iR k a.2).bind λb=>some (a.1::b.1,b.2)).bind λq=>some ((c,ms++q.1),q.2)):=by
     rw[Hid,HS.o.2.2.2,iR,ht2,hl1]
    clear hR hg HS ht ht2 hs1 hll hl1 hlb
    focus go_upto_region 11 with(fail)
    by_cases hp:mC s1.data.toList=none
    ·have HP:=hid hp;have Yv:Hid (o=none):=by rw[Hid,HO.o,hp];rfl
     clear hp HO HB MH;refine wp_region_held_drew (S:=λ_=>True) (by kernel_rfl) trivial (λhH=>?_);refine ah (λW1 hW=>?_);have T1:=hid (T.o.below (by rw[hW];exact(ai3 _ _).drew:ai2 V.heap.size V W1));clear hW T;refine aT 0 hH ?_
     try simp only[ax]
     refine aT 2 hH ?_
     try simp only[ax]
     refine wpAnyH_ready (rs:=[1,3]) (by kernel_rfl) (by simp) (aM rfl (λKK hK=>?_) (aM rfl (λKK hK=>?_) (ah9)))
     ·have x2:=T1.o.a3.c3.2.2
      focus go_simp
      clear x2;clear hH;refine hK.o _ _ trivial λhH=>?_;clear hK KK
      try simp only[ax]
      refine ag 3 rfl (by kernel_rfl) (λKK hK=>?_)
      focus go_simp
      refine(nB T1.o.rd Ck.o (HE.o.ct T1.o.g HG.o T1.o.o.1) HG.o HP.o).mono ?_;rintro e w2 ⟨rfl,hg⟩
      focus go_wp2_with fail
      rw[Yv.o];exact⟨rfl,rfl,aH T1.o.g hg⟩
     ·focus go_simp
      refine(nB T1.o.rd Ck.o (HE.o.ct T1.o.g HG.o T1.o.o.1) HG.o HP.o).mono ?_;rintro e w2 ⟨rfl,hg⟩
      focus go_wp2_with fail
      rw[Yv.o];exact⟨rfl,rfl,aH T1.o.g hg⟩
    obtain⟨⟨v,r1⟩,hp2⟩:=aj8.1 hp;have HP:=hid hp2;have Un:=hid (CK hp2);have Yw:Hid (mn<1000000):=by have:=HB.o.1;rw[Hid];omega
    have uu:Hid (o=(iR k r1).bind λq=>some ((c,(ms++[v])++q.1),q.2)):=by
     rw[Hid,HO.o,hp2];show(aj9 (aj9 (iR k r1) _) _)=_;cases iR k r1 with
     |none=>rfl
     |some q=>show some ((c,ms++v::q.1),q.2)=some ((c,(ms++[v])++q.1),q.2);rw[aj6];rfl
    have Cm:Hid (r1.length<s1.size):=by have:=CJ hp2;rw[<-ai0]at this;exact this
    clear hp hp2 HO;refine wp_region_held_drew (S:=λ_=>True) (by kernel_rfl) trivial (λhH=>?_);refine ah (λW1 hW=>?_);have T1:=hid (T.o.below (by rw[hW];exact(ai3 _ _).drew:ai2 V.heap.size V W1));clear hW T;refine aT 0 hH ?_
    try simp only[ax]
    refine aT 2 hH ?_
    try simp only[ax]
    refine wpAnyH_ready (rs:=[1,3]) (by kernel_rfl) (by simp) (aM rfl (λKK hK=>?_) (aM rfl (λKK hK=>?_) (ah9)));have x2:=T1.o.a3.c3.2.2
    focus go_simp
    clear x2;clear hH;refine hK.o _ _ trivial λhH=>?_;clear hK KK
    try simp only[ax]
    refine ag 3 rfl (by kernel_rfl) (λKK hK=>?_)
    focus go_simp
    refine(se T1.o.rd Ck.o HP.o).mono ?_;rintro e w2 ⟨rfl,hR,hg⟩;have T2:=hid (T1.o.gb hR hg);clear hR hg
    focus go_wp2_with fail
    clear hH;refine hK.o _ _ trivial λhH=>?_;clear hK KK
    try simp only[ax]
    refine ag 4 rfl (by kernel_rfl) (λKK hK=>?_)
    focus go_simp
    clear hH;refine hK.o _ _ trivial λhH=>?_;clear hK KK
    try simp only[ax]
    rotate_left
    focus go_simp
    refine(se T1.o.rd Ck.o HP.o).mono ?_;rintro e w2 ⟨rfl,hR,hg⟩;have T2:=hid (T1.o.gb hR hg);clear hR hg
    focus go_wp2_with fail
    clear hH;refine hK.o _ _ trivial λhH=>?_;clear hK KK
    try simp only[ax]
    refine wpAnyH_ready (rs:=[1,4]) (by kernel_rfl) (by simp) (aM rfl (λKK hK=>?_) (aM rfl (λKK hK=>?_) (ah9)));have x2:=T2.o.a3.c3.2.2
    focus go_simp
    clear x2;clear hH;refine hK.o _ _ trivial λhH=>?_;clear hK KK
    try simp only[ax]
    refine ag 4 rfl (by kernel_rfl) (λKK hK=>?_)
    focus go_simp
    clear hH;refine hK.o _ _ trivial λhH=>?_;clear hK KK
    try simp only[ax]
    rotate_left
    focus go_simp
    clear hH;refine hK.o _ _ trivial λhH=>?_;clear hK KK
    try simp only[ax]
    refine ag 1 rfl (by kernel_rfl) (λKK hK=>?_);have x2:=(T2.o.below (af w2 (.cells #[.int .i64 v.1,.int .i64 v.2] 72))).a3.c3.2.2
    focus go_simp
    clear x2;clear hH;refine hK.o _ _ trivial λhH=>?_;clear hK KK
    try simp only[ax]
    all_goals
     obtain⟨ro,rc,W3,hrun,hM,hg⟩:=yZ T2.o.mm T2.o.o.2.2.2.2 Yw.o Un.o.1 Un.o.2 72 68;refine ag 5 rfl (by kernel_rfl) (λKK hK=>?_);refine wq rfl _ _ _ _ rfl (by simp[ah8]) (by simp[ah8]) hrun ?_;clear hH;refine hK.o _ _ trivial λhH=>?_;clear hK KK
     try simp only[ax]
     have Ju:=T2.o.push hg hM;clear hrun hM hg;refine aT 6 hH ?_
     try simp only[ax]
     refine ag 7 rfl (by kernel_rfl) (λKK hK=>?_);have x2:=Ju.2.1;have x3:=Ju.2.2
     focus go_simp
     clear x2 x3;refine hK.o _ _ trivial (λh2=>?_);clear hK KK hH h2
     try rw[ax.2.1]
     refine wpAnyH_done (by kernel_rfl) ?_ _
     have T3:=hid Ju.1;clear Ju T2 HP Un Yw Ck;go_wp2_with fail;have h3:(⟨r1.toArray⟩:ByteArray).size=r1.length:=ai0 _;go_roundw
     case rel=>exact⟨⟨r1.toArray⟩,ro,mn+1,rc,ms++[v],k,T3.o,by have h1:=Cm.o;have h2:=HB.o.1;omega,by have h1:=Cm.o;have h2:=HB.o.2.1;omega,uu.o⟩
     case measure=>
      have h4:=T3.o.rd.len;have h5:=MH.o;have h1:=Cm.o;have h2:=HB.o.2.2;omega
open Lib (hid)
structure Co [Ol] (w w1:ah6) (b:Nat) (s:ByteArray) (po:Option Addr) (pn pc:Nat) (p:List ai):Prop where
 rd:Rd w1 b s
 pw:Pw w.heap.size 1000 w1 po pn pc p
 g:w.grownBy w1 (some b)
 o:b<w.heap.size
section
variable {w w1 w2:ah6} {b:Nat} {s s':ByteArray} {po:Option Addr} {pn pc:Nat} {p:List ai}
theorem Pw.eQ [Ol] {B K:Nat} (h:Pw B K w po pn pc p) {g:Nat} (hg:eQ po=some g):B<=g/\ g<w.heap.size:=by
 obtain⟨X,h1,_⟩:=h;exact h1.lt g hg
theorem Co.gb [Ol] (h:Co w w1 b s po pn pc p) (hR:Rd w2 b s') (hg:w1.grownBy w2 (some b)):Co w w2 b s' po pn pc p:=by
 have o:=h.o;refine⟨hR,?_,aH h.g hg,o⟩;obtain⟨X,h1,h2⟩:=h.pw;refine⟨X,h1.apart hg ?_,qP h2 h.rd.pP hg⟩;cases e:Go.Proofs.YtmenbpmciblnlaaGreatDoor.eQ po with
 |none=>exact .inl rfl
 |some g=>exact .inr λe2=>by have:=(h1.lt g e).1;have:=ak1 e2;omega
theorem Co.below [Ol] (h:Co w w1 b s po pn pc p) (hb:ai2 w1.heap.size w1 w2):Co w w2 b s po pn pc p:=h.gb (h.rd.below hb) (bZ _ hb)
theorem Co.push [Ol] (h:Co w w1 b s po pn pc p) {v:ah7} {q:List ai} (hp:MI w.heap.size 1000 w1 po pn q v w2):∃ro rc,v=ai5 ro (pn+1) rc/\ Co w w2 b s ro (pn+1) rc q:=by
 obtain⟨ro,rc,h1,h2,h3,_⟩:=hp;have o:=h.o;have hs:=h.g.size;have hne:∀k,k<w.heap.size->some k≠Go.Proofs.YtmenbpmciblnlaaGreatDoor.eQ po:=λk hk e=>by have:=(h.pw.eQ e.symm).1;omega
 exact⟨ro,rc,h1,(h3.block b h.rd.lt (hne b o)).trans h.rd,h2,⟨h3.os.trans h.g.os,h3.tape.trans h.g.tape,h3.output.trans h.g.output,Nat.le_trans hs h3.size,λk hk hk2=>(h3.block k (by omega) (hne k hk)).trans (h.g.block k hk hk2)⟩,o⟩
end
def qG [Ol] (b:Nat) (o:Option (List ai)) (w:ah6) (e:Ending) (w':ah6):Prop:=
 match o with
 |none=>qO b w e w'
 |some p=>if jZ (p.map ir)=true then∃po pn pc s,e= .returned (ai5 po pn pc)/\ Pw w.heap.size 1000 w' po pn pc p/\ Rd w' b s/\ w.grownBy w' (some b)else qO b w e w'
theorem qG.yes [Ol] {b:Nat} {p:List ai} {w w':ah6} {po:Z'} {pn pc:Nat} {s:ByteArray} (hm:jZ (p.map ir)=true) (h:Co w w' b s po pn pc p):qG b (some p) w (.returned (ai5 po pn pc)) w':=by
 unfold qG;simp only;rw[if_pos hm];exact⟨po,pn,pc,s,rfl,h.pw,h.rd,h.g⟩
theorem qG.no [Ol] {b:Nat} {p:List ai} {w w':ah6} {e:Ending} (hm:¬jZ (p.map ir)=true) (h:qO b w e w'):qG b (some p) w e w':=by
 unfold qG;simp only;rw[if_neg hm];exact h
theorem MJ (w:Int×Int):0<(iB w).length:=by simp[iB]
theorem Jv (t:ai):0<(gR t).length:=by
 obtain⟨c,m⟩:=t;cases m with
 |nil=>exact aj7.2 (Uo _)
 |cons w r=>have:=MJ w;simp only[gR,aj3];omega
theorem Jw {n:Nat} {l r:List UInt8} {t:ai} (h:gH n l=some (t,r)):r.length<l.length:=by
 have:=congrArg aj0 (ia h).1;rw[aj3]at this;have:=Jv t;omega
theorem Jx {n:Nat} {l r:List UInt8} {t:ai} (h:gH n l=some (t,r)) (hl:l.length<=9000):Bd t.1 1000/\∀x∈t.2,fq x.1/\ fq x.2:=by
 refine⟨?_,λx hx=>by obtain⟨h1,h2,h3,h4⟩:=(ia h).2.2 x hx;unfold fq;omega⟩
 have key:∀{d r:List UInt8},kG l=some (d,r)->Bd (aP d:Int) 1000:=λ{d r} hd=>by
  obtain⟨e1,e2,_⟩:=fu hd;refine wj (by rw[<-e2];exact vt _) ?_;have:=congrArg aj0 e1;rw[aj3]at this;omega
 unfold gH at h;split at h
 ·obtain⟨a,_,h⟩:=ak0.1 h;injection h with h
  injection h with h1 h2
  subst h1;exact(show Bd 1 1 by unfold Bd;decide).mono (by omega)
 ·obtain⟨⟨d,r1⟩,ha,h⟩:=ak0.1 h;split at h
  ·injection h with h
   injection h with h1 h2
   subst h1;exact key ha
  ·split at h
   ·cases h
   ·obtain⟨a,_,h⟩:=ak0.1 h;injection h with h
    injection h with h1 h2
    subst h1;exact key ha
theorem MK {ng:Bool} {t:ai} {k:Nat} (h:Bd t.1 k):Bd (il ng t).1 k:=by
 cases ng
 ·exact h
 ·exact h.neg
theorem Qy (ng:Bool) (t:ai):(il ng t).2=t.2:=by cases ng<;>rfl
theorem Jy [Ol] {b N:Nat} {s:ByteArray} {o:Option (List ai)} {w:ah6} (h:Rd w b s) (hs:s.size<=9000) (hN:s.size<=N) (hE:om w) (hG:6<b) (ho:o=kH N N s.data.toList):
  Calls Tryz.prog 64 #[.pointer (some ⟨b,0,none⟩)] w (qG b o w):=by
 have HE:=hid hE;have HG:=hid hG
 have vp:Hid (Co w w b s none 0 0 []/\ 0+s.size<=9000/\ s.size<=N/\ s.size<=N/\ o=(if (0:Nat)=0 then kH N N s.data.toList else fO N N s.data.toList).map ([]++·)):=
  ⟨⟨h,Pw.zero _ _ _,bZ _ (ai3 _ _),h.lt⟩,by omega,hN,hN,by rw[if_pos rfl,ho];cases kH N N s.data.toList<;>rfl⟩
 clear h ho hE hG hs hN;go_enter Tryz.func64,Tryz.ntmps64;go_wp2_with fail;go_loopw [3] (λv wr=>∃(s:ByteArray) (po:Option Addr) (pn pc:Nat) (p:List ai) (k:Nat),v=ai5 po pn pc/\ Hid (Co w wr b s po pn pc p/\ pn+s.size<=9000/\ s.size<=N/\ s.size<=k/\ o=(if pn=0 then kH N k s.data.toList else fO N k s.data.toList).map (p++·))) (λ_ wr=>za b wr)
 case atStart=>exact⟨s,none,0,0,[],N,rfl,vp.o⟩
 case round=>
  clear vp;obtain⟨s1,po,pn,pc,p,k,rfl,HS⟩:=hrel;have MH:Hid (za b wr=s1.size):=HS.o.1.rd.len;have hc:=HS.o.1.rd.cell;by_cases hx:pn≠0/\ s1.data.toList=[]
  ·have hd:((pn:Int)==0)=false:=by simpa using(show¬(pn:Int)=0 by omega)
   have hq:(s1.toList==[])=true:=jJ hx.2;have hq2:(s1.toList !=[])=false:=by simp[bne,hq]
   have HO:Hid (o=some p):=by
    rw[Hid,HS.o.2.2.2.2,if_neg hx.1,hx.2];cases k<;>(show some (p++[])=some p;rw[aj5])
   clear hx MH;go_wp2_with fail;clear hd hq hq2 hc;by_cases hm:jZ (p.map ir)=true
   ·refine(mD true HS.o.1.pw.pc.TM (λt ht=>HS.o.1.pw.pc.jY t ht) hm).mono ?_;rintro e V ⟨rfl,hB⟩;have T:=hid (HS.o.1.below hB);have HM:=hid hm;clear hB hm HS;go_wp2_with fail;go_ret;rw[HO.o];exact qG.yes HM.o T.o
   ·refine(mD false HS.o.1.pw.pc.TM (λt ht=>HS.o.1.pw.pc.jY t ht) (Bool.eq_false_iff.2 hm)).mono ?_;rintro e V ⟨rfl,hB⟩;have T:=hid (HS.o.1.below hB);have HM:=hid hm;clear hB hm HS;go_wp2_with fail;refine(gQ (b:=b)).mono ?_;rintro e w2 ⟨rfl,hg⟩;go_wp2_with fail;rw[HO.o];exact⟨rfl,qG.no HM.o ⟨rfl,aH T.o.g hg⟩⟩
  by_cases h0:pn=0;have hd:((pn:Int)==0)=true:=by simp[h0]
  focus go_upto_region 3 with(fail)
  focus go_wp2_with fail
  clear hd hc;have hp0:¬(0:Int)<(pn:Int):=by omega
  have hp1:¬0<pn:=by omega
  by_cases ht:ez 45 s1.data.toList=none;refine(iC HS.o.1.rd ht).mono ?_;rintro e V ⟨rfl,hR,hg⟩
  obtain⟨ng,s2,k2,Ta,T,HO,HB⟩:∃(ng:Bool) (s2:ByteArray) (k2:Nat),Hid (ng=false)/\ Hid (Co w V b s2 po pn pc p)/\ Hid (o=((gH N s2.data.toList).bind λa=>(fO N k2 a.2).bind λq=>some (il ng a.1::q)).map (p++·))/\ Hid (pn+s2.size<=9000/\ s2.size<=N/\ s2.size<=k2+1/\ s2.size<=s1.size):=
   ⟨false,s1,k,rfl,HS.o.1.gb hR hg,by rw[Hid,HS.o.2.2.2.2,if_pos h0];unfold kH;rw[ht];rfl,by have:=HS.o.2;exact⟨by omega,by omega,by omega,by omega⟩⟩
  clear hR hg HS ht h0 hx
  focus go_upto_region 6 with(fail)
  clear hp0 hp1
  rotate_left
  obtain⟨l1,ht2⟩:=aj8.1 ht;refine(eN HS.o.1.rd ht2).mono ?_;rintro e V ⟨rfl,hR,hg⟩;have hls:(⟨l1.toArray⟩:ByteArray).size<=s1.size:=by rw[ai0,ai0];exact fN ht2
  obtain⟨ng,s2,k2,Ta,T,HO,HB⟩:∃(ng:Bool) (s2:ByteArray) (k2:Nat),Hid (ng=true)/\ Hid (Co w V b s2 po pn pc p)/\ Hid (o=((gH N s2.data.toList).bind λa=>(fO N k2 a.2).bind λq=>some (il ng a.1::q)).map (p++·))/\ Hid (pn+s2.size<=9000/\ s2.size<=N/\ s2.size<=k2+1/\ s2.size<=s1.size):=
   ⟨true,⟨l1.toArray⟩,k,rfl,HS.o.1.gb hR hg,by rw[Hid,HS.o.2.2.2.2,if_pos h0];unfold kH;rw[ht2],by have:=HS.o.2;exact⟨by omega,by omega,by omega,by omega⟩⟩
  clear hR hg HS ht ht2 h0 hx hls
  focus go_upto_region 6 with(fail)
  clear hp0 hp1
  rotate_left
  have hs0:s1.data.toList≠[]:=λe=>hx ⟨h0,e⟩
  have hk:∃k',k=k'+1:=⟨k-1,by
   have h1:=HS.o.2.2.2.1;have h2:0<s1.size:=by rw[ai0];exact aj7.2 hs0
   omega⟩
  obtain⟨k,rfl⟩:=hk;have hd:((pn:Int)==0)=false:=by simpa using(show¬(pn:Int)=0 by omega)
  have hq:(s1.toList==[])=false:=iQ hs0;have hq2:(s1.toList !=[])=true:=by simp[bne,hq]
  focus go_upto_region 3 with(fail)
  focus go_wp2_with fail
  clear hd hc hq hq2;have hp0:(0:Int)<(pn:Int):=by omega
  have hp1:0<pn:=by omega
  by_cases ht:ez 45 s1.data.toList=none;refine(iC HS.o.1.rd ht).mono ?_;rintro e V ⟨rfl,hR,hg⟩;have T:=hid (HS.o.1.gb hR hg);clear hR hg
  focus go_upto_region 4 with(fail)
  focus go_wp2_with fail
  by_cases hu:ez 43 s1.data.toList=none
  ·refine(iC T.o.rd hu).mono ?_;rintro e V2 ⟨rfl,hR,hg⟩;have T2:=hid (T.o.gb hR hg);go_wp2_with fail;refine(gQ (b:=b)).mono ?_;rintro e w2 ⟨rfl,hg⟩;go_wp2_with fail
   have HO:o=none:=by
    rw[HS.o.2.2.2.2,if_neg h0,fO,if_neg hs0,ht];simp only;rw[hu];rfl
   rw[HO];exact⟨rfl,rfl,aH T2.o.g hg⟩
  obtain⟨l1,hu2⟩:=aj8.1 hu;refine(eN T.o.rd hu2).mono ?_;rintro e V ⟨rfl,hR,hg⟩;have hls:(⟨l1.toArray⟩:ByteArray).size<=s1.size:=by rw[ai0,ai0];exact fN hu2
  obtain⟨ng,s2,k2,Ta,T,HO,HB⟩:∃(ng:Bool) (s2:ByteArray) (k2:Nat),Hid (ng=false)/\ Hid (Co w V b s2 po pn pc p)/\ Hid (o=((gH N s2.data.toList).bind λa=>(fO N k2 a.2).bind λq=>some (il ng a.1::q)).map (p++·))/\ Hid (pn+s2.size<=9000/\ s2.size<=N/\ s2.size<=k2+1/\ s2.size<=s1.size):=
   ⟨false,⟨l1.toArray⟩,k,rfl,T.o.gb hR hg,by rw[Hid,HS.o.2.2.2.2,if_neg h0,fO,if_neg hs0,ht];simp only;rw[hu2];rfl,by have:=HS.o.2;exact⟨by omega,by omega,by omega,by omega⟩⟩
  clear hR hg HS ht hu hu2 h0 hx hls hs0
  focus go_upto_region 6 with(fail)
  clear hp0 hp1
  rotate_left
  obtain⟨l1,ht2⟩:=aj8.1 ht;refine(eN HS.o.1.rd ht2).mono ?_;rintro e V ⟨rfl,hR,hg⟩;have hls:(⟨l1.toArray⟩:ByteArray).size<=s1.size:=by rw[ai0,ai0];exact fN ht2
  obtain⟨ng,s2,k2,Ta,T,HO,HB⟩:∃(ng:Bool) (s2:ByteArray) (k2:Nat),Hid (ng=true)/\ Hid (Co w V b s2 po pn pc p)/\ Hid (o=((gH N s2.data.toList).bind λa=>(fO N k2 a.2).bind λq=>some (il ng a.1::q)).map (p++·))/\ Hid (pn+s2.size<=9000/\ s2.size<=N/\ s2.size<=k2+1/\ s2.size<=s1.size):=
   ⟨true,⟨l1.toArray⟩,k,rfl,HS.o.1.gb hR hg,by rw[Hid,HS.o.2.2.2.2,if_neg h0,fO,if_neg hs0,ht2],by have:=HS.o.2;exact⟨by omega,by omega,by omega,by omega⟩⟩
  clear hR hg HS ht ht2 h0 hx hls hs0
  focus go_upto_region 6 with(fail)
  clear hp0 hp1
  rotate_left
  all_goals
   go_wp2_with fail;refine(Js (o:=gH N s2.data.toList) T.o.rd (by have:=HB.o;omega) HB.o.2.1 (HE.o.ct T.o.g HG.o T.o.o) HG.o rfl).mono ?_;by_cases LK:gH N s2.data.toList=none
   ·rw[LK];rintro e w2 ⟨rfl,hg⟩;go_wp2_with fail;have uu:o=none:=by rw[HO.o,LK];rfl
    rw[uu];exact⟨rfl,rfl,aH T.o.g hg⟩
   obtain⟨⟨t,r⟩,ML⟩:=aj8.1 LK;have hbd:=Jx ML (by rw[<-ai0];have:=HB.o;omega);have hrl:(⟨r.toArray⟩:ByteArray).size<s2.size:=by rw[ai0,ai0];exact Jw ML
   rw[ML];rintro e w6 ⟨ca,cn,cc,mo,mn,mc,rfl,hC,hM,hR,hg⟩;have Qz:=hid (ah5 (T.o.gb hR hg) (ah5 hC hM))
   have uu:Hid (o=((fO N k2 r).map λq=>p++(il ng t::q))):=by
    rw[Hid,HO.o,ML];show Option.map _ (aj9 (fO N k2 r) _)=_;cases fO N k2 r<;>rfl
   have AO:=hid hbd;have Cm:Hid ((⟨r.toArray⟩:ByteArray).size<s2.size):=hrl;obtain⟨s3,hs3⟩:∃s3:ByteArray,s3=⟨r.toArray⟩:=⟨_,rfl⟩;have hr3:r=s3.data.toList:=by rw[hs3]
   rw[<-hs3]at Qz Cm;rw[hr3]at uu;obtain⟨b5,hb5⟩:∃b,b=w6.heap.size:=⟨_,rfl⟩;clear hC hM hR hg T LK ML hbd hrl HO hs3 hr3;go_upto_region 7 with(fail)
   refine aj (λW7 hW=>?_);have a5:aS W7 b5 [ai6 false,ai5 ca cn cc,ai5 mo mn mc] 70/\ ai2 w6.heap.size w6 W7:=by rw[hW,hb5];exact gp w6 _ 70
   rw[<-hb5];have H5:=hid a5;have oq:Hid (b5=w6.heap.size):=hb5;clear hW a5 hb5
   first
   |have HQ:Hid (ng=true):=Ta
    obtain⟨x0,x1,_⟩:=H5.o.1.c3;go_wp2_with fail;refine(CL (ur (Qz.o.2.1.below H5.o.2) AO.o.1 (by omega))).mono ?_;rintro e w8 ⟨m8,a8,n8,c8,rfl,hC,hB⟩;have Wz:=H5.o.1.below hB;have y0:=Wz.fz 0;have y1:=Wz.fz 1;obtain⟨z0,z1,_⟩:=Wz.c3;clear x0 x1;go_upto_region 9 with(fail)
    refine aj (λW9 hW=>?_)
    have HF:Hid (aS W9 b5 [ai6 m8,ai5 a8 n8 c8,ai5 mo mn mc] 70/\ Cn W9 m8 a8 n8 c8 (il ng t).1/\ Ml W9 mo mn mc (il ng t).2/\ Co w W9 b s3 po pn pc p):=by
     have hb:=qN (Below.ar H5.o.2 hB) (show w6.heap.size<=b5 by rw[oq.o];exact Nat.le_refl _) (ai6 m8) (ai5 a8 n8 c8);rw[hW,HQ.o,Qy];exact⟨(Wz.set 0 _).set 1 _,hC.fM (Wz.dD (jS _ _ _ _ _ _ _)) (cD (br _ _ _ _) (br _ _ _ _)),Qz.o.2.2.below hb,Qz.o.1.below hb⟩
    clear hW hC hB Wz y0 y1 z0 z1 Qz H5 oq
   |have HQ:Hid (ng=false):=Ta
    go_upto_region 9 with(fail)
    refine aj (λW9 hW=>?_)
    obtain⟨m8,a8,n8,c8,HF⟩:∃m8 a8 n8 c8,Hid (aS W9 b5 [ai6 m8,ai5 a8 n8 c8,ai5 mo mn mc] 70/\ Cn W9 m8 a8 n8 c8 (il ng t).1/\ Ml W9 mo mn mc (il ng t).2/\ Co w W9 b s3 po pn pc p):=by
     rw[hW,HQ.o];exact⟨_,_,_,_,H5.o.1,Qz.o.2.1.below H5.o.2,Qz.o.2.2.below H5.o.2,Qz.o.1.below H5.o.2⟩
    clear hW Qz H5 oq
   obtain⟨x0,x1,x2⟩:=HF.o.1.c3;obtain⟨v8,W8,QA,hps⟩:=CM (t:=il ng t) HF.o.2.2.2.pw HF.o.2.2.2.g.size (by have:=HB.o;omega) HF.o.2.1 (MK AO.o.1) HF.o.2.2.1 70 23;obtain⟨ro,rc,Jz,Yx⟩:=HF.o.2.2.2.push hps;subst Jz;have HP:=hid Yx;clear hps Yx;go_wp2_with (at_builtin;refine fP rfl (.tmp 39) (.tmp 41) 23 23 rfl _ _ rfl rfl QA ?_);go_roundw
   case rel=>exact⟨s3,ro,pn+1,rc,p++[il ng t],k2,rfl,HP.o,by have h1:=Cm.o;have h2:=HB.o;omega,by have h1:=Cm.o;have h2:=HB.o;omega,by have h1:=Cm.o;have h2:=HB.o;omega,by
    rw[if_neg (by omega),uu.o];cases fO N k2 s3.data.toList with
    |none=>rfl
    |some q=>show some (p++il ng t::q)=some ((p++[il ng t])++q);rw[aj6];rfl⟩
   case measure=>
    have h4:=HP.o.rd.len;have h5:=MH.o;have h1:=Cm.o;have h2:=HB.o;omega
def rJ (l:List UInt8):Option (List ai):=if l=[48]then some []else(kH l.length l.length l).bind λp=>if jZ (p.map ir)=true then some p else none
theorem QB (p:List ai):∀t∈p.map ir,Wf t.1.2:=λt ht=>by
 obtain⟨u,_,rfl⟩:=List.mem_map.1 ht;exact dv _
theorem JA (p:List ai):(p.map ir).map iP=p:=by
 rw[List.map_map,show iP ∘ ir=id from funext pT,List.map_id]
theorem MM {p:List ai} (h:jZ (p.map ir)=true):bD p:=by
 have:=(rQ (QB p) h).1;rwa[JA]at this
theorem CB {l:List UInt8} {p:List ai} (h:rJ l=some p):bD p/\ l=rR p:=by
 unfold rJ at h;split at h
 ·rename_i hl;injection h with h
  subst h hl;exact⟨trivial,rfl⟩
 ·obtain⟨q,hq,h⟩:=ak0.1 h;split at h
  ·rename_i hm;injection h with h
   subst h;have hf:=MM hm;exact⟨hf,AP hq (lG hf)⟩
  ·cases h
open Lib (hid)
abbrev Tg (r:Bool):PanicEntry:={ v:= .iface 32 (.int .i64 4),recovered:=r }
theorem AQ {p2 p3:Nat} {x y:ah7} {T2 T3:TypeId} {w:ah6} (h2:aS w p2 [x] T2) (h3:aS w p3 [y] T3) (hne:p2≠p3) (older:List PanicEntry):
  CallsD Tryz.prog 63 #[.pointer (some ⟨p2,0,none⟩),.pointer (some ⟨p3,0,none⟩)] (.panicking (Tg false::older)) w λe u' w'=>
   e= .returned (.tuple #[])/\ u'= .panicking (Tg true::older)/\ w'=(w.setCell ⟨p2,0,none⟩ (ai5 none 0 0)).setCell ⟨p3,0,none⟩ (.int .i64 4):=by
 have c2:=h2.c1;have c3:=(h3.dy hne 0 (ai5 none 0 0)).c1;have f2:=h2.f1;have f3:=(h3.dy hne 0 (ai5 none 0 0)).f1;refine callsD_of_wpS Tryz.func63 rfl λc₀ cs hu=>?_
 apply wpS_seq;apply wpS_region;simp[wpOpsS,go_sem,recoverD,hu,Tryz.ntmps63,Exit.thenS];refine wpS_cond (t:=true) (by simp[ah8,Array.replicate]) ?_;simp only[if_true];apply wpS_region;simp[wpOpsS,go_sem,c2,c3,f2,f3,bodyPostS,results,Tryz.results63]
theorem CN (w:ah6) (p2 p3:Addr):
  CallsD Tryz.prog 63 #[.pointer (some p2),.pointer (some p3)] .returning w λe u' w'=>e= .returned (.tuple #[])/\ u'= .returning/\ w'=w:=by
 refine callsD_of_wpS Tryz.func63 rfl λc₀ cs hu=>?_
 apply wpS_seq;apply wpS_region;simp[wpOpsS,go_sem,recoverD,hu,Tryz.ntmps63,Exit.thenS];refine wpS_cond (t:=false) (by simp[ah8,Array.replicate]) ?_;simp only[Bool.false_eq_true,if_false];refine wpS_of_wp (wp_skip ?_);cases c₀
 simp_all [bodyPostS,results,Tryz.results63]
theorem Ia {v:ah7} (h:isU v=false):LA [v]:=
 ⟨λu hu=>by simp at hu;rw[hu];exact h,λj x y _ hy=>by cases j<;>simp at hy⟩
def Yy [Ol] (o:Option (List ai)) (w:ah6) (e:Ending) (w':ah6):Prop:=
 match o with
 |none=>e= .returned (.tuple #[ai5 none 0 0,.int .i64 4])/\ ai2 w.heap.size w w'
 |some p=>∃po pn pc,e= .returned (.tuple #[ai5 po pn pc,.int .i64 0])/\ Pc 1000 w' po pn pc p/\ ai2 w.heap.size w w'
theorem vW [Ol] {s:ByteArray} {o:Option (List ai)} {w:ah6} (hs:s.size<=9000) (hE:om w) (hG:6<w.heap.size) (ho:o=rJ s.data.toList):
  Calls Tryz.prog 21 #[.string s] w (Yy o w):=by
 have HE:=hid hE;have HG:=hid hG;have HO:=hid ho;clear hE hG ho;have WA:∀(fn:Fn) (first ae:Array ah7) (w:ah6),(Instr.makeFunc fn first ae).run Tryz.prog w= .ok (.func fn first ae) w:=λ_ _ _ _=>rfl
 have hsl:¬(65536:Int)<(s.size:Int):=by omega
 go_enter_defers Tryz.func21,Tryz.ntmps21;obtain⟨b2,hb2⟩:∃b,b=w.heap.size:=⟨_,rfl⟩;obtain⟨b3,hb3⟩:∃b,b=b2+1:=⟨_,rfl⟩;go_upto_region 1 with(fail)
 refine aj (λW0 hW=>?_);have h0:aS W0 b2 [ai5 none 0 0] 23/\ aS W0 b3 [.int .i64 0] 32/\ ai2 w.heap.size w W0:=by rw[hW,hb3,hb2];exact Je w _ _ _ _
 rw[<-hb2,<-hb3];have hne:b2≠b3:=by omega
 have hbw:w.heap.size<=b2/\ w.heap.size<=b3:=by omega
 have H0:=hid h0;clear hW hb2 hb3 h0;by_cases hz:s.data.toList=[48]
 ·have hq:(s.toList==[48])=true:=jJ hz;have c2:=H0.o.1.c1;have c3:=H0.o.2.1.c1;have f2:=H0.o.1.f1;have f3:=H0.o.2.1.f1;go_wp2_with fail;have e2:=aS.c1 ((H0.o.1.set 0 (ai5 none 0 0)).dy hne.symm 0 (.int .i64 0));have e3:=aS.c1 ((H0.o.2.1.dy hne 0 (ai5 none 0 0)).set 0 (.int .i64 0));simp[bodyPostD,Leaves,results,Tryz.results21,go_sem,e2,e3];rw[HO.o,rJ,if_pos hz];exact⟨none,0,0,rfl,(Pw.zero 0 1000 _).pc,((H0.o.2.2.setCell hbw.1 _).setCell hbw.2 _)⟩
 ·have hq:(s.toList==[48])=false:=iQ hz;have uu:Hid (o=(kH s.data.toList.length s.data.toList.length s.data.toList).bind λp=>if jZ (p.map ir)=true then some p else none):=by rw[Hid,HO.o,rJ,if_neg hz]
  clear hz HO;go_wp2_with fail;obtain⟨b4,hb4⟩:∃b,b=W0.heap.size:=⟨_,rfl⟩;rw[<-hb4];have HR:Hid (Rd (W0.alloc (.cells #[.string s] 111)) b4 s):=by rw[hb4];exact aS.cS W0 [.string s] _
  have lx:Hid (b2<b4/\ b3<b4/\ w.heap.size<=b4):=⟨by rw[hb4];exact H0.o.1.lt,by rw[hb4];exact H0.o.2.1.lt,by rw[hb4];exact H0.o.2.2.size⟩;have hA:=af W0 (.cells #[.string s] 111)
  have HW:Hid (aS (W0.alloc (.cells #[.string s] 111)) b2 [ai5 none 0 0] 23/\ aS (W0.alloc (.cells #[.string s] 111)) b3 [.int .i64 0] 32/\ ai2 w.heap.size w (W0.alloc (.cells #[.string s] 111))):=
   ⟨H0.o.1.below hA,H0.o.2.1.below hA,Below.ar H0.o.2.2 hA⟩
  have HEV:Hid (om (W0.alloc (.cells #[.string s] 111))):=by
   obtain⟨te,pe,h⟩:=HE.o;exact⟨te,pe,(ai7 (HW.o.2.2.block _ HG.o)).trans h⟩
  have HGB:Hid (6<b4):=by have:=HG.o;have:=lx.o;rw[Hid];omega
  have hsz:s.size<=s.data.toList.length:=Nat.le_of_eq (ai0 s);obtain⟨W1,hW1⟩:∃W1,W1=W0.alloc (.cells #[.string s] 111):=⟨_,rfl⟩;rw[<-hW1]at HR HW HEV ⊢;clear hb4 hA hW1 H0 HE HG;obtain⟨q,hq2⟩:∃q,q=kH s.data.toList.length s.data.toList.length s.data.toList:=⟨_,rfl⟩;rw[<-hq2]at uu;refine(Jy HR.o hs hsz HEV.o HGB.o hq2).mono ?_;clear hq2 hsz;intro e w5 hP
  have hbad:qO b4 W1 e w5/\ o=none∨ ∃p po pn pc s2,o=some p/\ e= .returned (ai5 po pn pc)/\ Pw W1.heap.size 1000 w5 po pn pc p/\ Rd w5 b4 s2/\ W1.grownBy w5 (some b4):=by
   cases q with
   |none=>exact .inl ⟨hP,uu.o⟩
   |some p=>
    unfold qG at hP;simp only at hP;by_cases hm:jZ (p.map ir)=true
    ·rw[if_pos hm]at hP;obtain⟨po,pn,pc,s2,h1,h2,h3,h4⟩:=hP;exact .inr ⟨p,po,pn,pc,s2,by rw[uu.o];show(if _ then _ else _)=_;rw[if_pos hm],h1,h2,h3,h4⟩
    ·rw[if_neg hm]at hP;exact .inl ⟨hP,by rw[uu.o];show(if _ then _ else _)=_;rw[if_neg hm]⟩
  have hkeep:W1.grownBy w5 (some b4)->aS w5 b2 [ai5 none 0 0] 23/\ aS w5 b3 [.int .i64 0] 32/\ ai2 w.heap.size w w5:=λhg=>
   ⟨HW.o.1.apart hg λe=>by have:=ak1 e;have:=lx.o;omega,HW.o.2.1.apart hg λe=>by have:=ak1 e;have:=lx.o;omega,HW.o.2.2.trans (gS hg lx.o.2.2 HW.o.2.2.size)⟩
  clear hP uu;rcases hbad with⟨⟨rfl,hg⟩,hn⟩|⟨p,po,pn,pc,s2,hn,rfl,hPw,hRd,hg⟩
  ·have HK:=hid (hkeep hg);have HN:=hid hn;clear hkeep hg hn;go_wp2_with fail;refine leaves_cons (f:=63) (args:= #[.pointer (some ⟨b2,0,none⟩),.pointer (some ⟨b3,0,none⟩)]) (by simp) (by simp[go_sem]) ?_;refine(AQ HK.o.1 HK.o.2.1 hne []).mono ?_;rintro e u' w6 ⟨rfl,rfl,rfl⟩;have e2:=aS.c1 ((HK.o.1.set 0 (ai5 none 0 0)).dy hne.symm 0 (.int .i64 4));have e3:=aS.c1 ((HK.o.2.1.dy hne 0 (ai5 none 0 0)).set 0 (.int .i64 4));simp[Leaves,settle,results,Tryz.results21,go_sem,e2,e3];rw[HN.o];exact⟨rfl,(HK.o.2.2.setCell hbw.1 _).setCell hbw.2 _⟩
  ·have HK:=hid (hkeep hg);have HN:=hid hn;have HP:=hid hPw.pc;clear hkeep hg hn hRd hPw;have c2:=HK.o.1.c1;have f2:=HK.o.1.f1;have c3:=HK.o.2.1.c1;have f3:=HK.o.2.1.f1;go_wp2_with fail;refine leaves_cons (f:=63) (args:= #[.pointer (some ⟨b2,0,none⟩),.pointer (some ⟨b3,0,none⟩)]) (by simp) (by simp[go_sem]) ?_;refine(CN _ _ _).mono ?_;rintro e u' w6 ⟨rfl,rfl,rfl⟩;have e2:=aS.c1 ((HK.o.1.set 0 (ai5 po pn pc)).dy hne.symm 0 (.int .i64 0));have e3:=aS.c1 ((HK.o.2.1.dy hne 0 (ai5 po pn pc)).set 0 (.int .i64 0));simp[Leaves,settle,results,Tryz.results21,go_sem,e2,e3];rw[HN.o];have f5:ot w5 (w5.setCell ⟨b2,0,none⟩ (ai5 po pn pc)) b2:=⟨⟨_,_,HK.o.1,Ia rfl⟩,br _ _ _ _⟩;have f6:ot (w5.setCell ⟨b2,0,none⟩ (ai5 po pn pc)) ((w5.setCell ⟨b2,0,none⟩ (ai5 po pn pc)).setCell ⟨b3,0,none⟩ (.int .i64 0)) b3:=⟨⟨_,_,HK.o.2.1.dy hne _ _,Ia rfl⟩,br _ _ _ _⟩;exact⟨po,pn,pc,rfl,(HP.o.gu f5).gu f6,(HK.o.2.2.setCell hbw.1 _).setCell hbw.2 _⟩
end Go.Proofs.YtmenbpmciblnlaaGreatDoor
