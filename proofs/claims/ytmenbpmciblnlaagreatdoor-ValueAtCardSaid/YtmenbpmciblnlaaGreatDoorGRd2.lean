/- VRdM, VRdTmP, VRdTm, VRdPo, VaParP, VaParse -/
import Derived.Test.YtmenbpmciblnlaaGreatDoorGRd1
import Derived.Test.YtmenbpmciblnlaaGreatDoorGTxt
import Derived.Test.YtmenbpmciblnlaaGreatDoorGVaA
set_option maxHeartbeats 0
set_option maxRecDepth 100000
open And renaming intro->a0a
open Go.AllReadyH renaming nil->a0b
open Go.Lib renaming hasPrefix->a0d,size_eq->a0c
open Go.RowKit.Below renaming heap_setCell->a0f,refl->a0e
open Go.Value renaming slice->a0g
open Go.World renaming cell?_of_block->a0h,setCell->a0i
open List renaming append_assoc->a0q,append_nil->a0p,isPrefixOf->a0o,length->a0k,length_append->a0n,length_cons->a0m,length_drop->a0j,length_pos_iff->a0r,length_take->a0l
open Option renaming bind->a0t,bind_eq_some_iff->a0u,ne_none_iff_exists'->a0s
open Option.some renaming inj->a0v
namespace Go.Proofs.YtmenbpmciblnlaaGreatDoor
open Lib (hid)
open Go.RowKit
def ai3:Value->Nat| .string s=>s.size| _=>0
theorem LA (m:Bool) (a:Option Addr) (n c:Nat):shy [.bool m,a0g a n c]:=by
 refine⟨λu hu=>?_,λj x y hx hy=>?_⟩
 ·simp at hu;rcases hu with rfl|rfl<;>rfl
 ·match j,hx,hy with
  |0,hx,hy=>cases hx;exact⟨.inl rfl,rfl⟩
  |j+1,hx,hy=>simp at hy
theorem ad2 {w:World} {b:Nat} {v0 v1:Value} {T:TypeId} (h:bD w b [v0,v1] T) (hs:shy [v0,v1]) (u0 u1:Value):
  qw w ((w.setCell ⟨b,0,none⟩ u0).setCell ⟨b,1,none⟩ u1) b/\ bD ((w.setCell ⟨b,0,none⟩ u0).setCell ⟨b,1,none⟩ u1) b [u0,u1] T:=
 ⟨⟨⟨_,_,h,hs⟩,dS (bV _ _ _ _) (bV _ _ _ _)⟩,(h.set 0 u0).set 1 u1⟩
theorem uP {B:Nat} {w0 w:World} (h:Below B w0 w) {b:Nat} (hb:B<=b) (u0 u1:Value):Below B w0 ((w.setCell ⟨b,0,none⟩ u0).setCell ⟨b,1,none⟩ u1):=(h.setCell hb u0).setCell hb u1
theorem yD {w:World} {m:Bool} {ao:Option Addr} {n cap:Nat} {z:Int} {k:Nat} (h:Cn w m ao n cap z) (hb:Bd z k) (hk:k<=1000000):Nx w m ao n cap z:=(h.cx hb hk).nx
def WT (w w1:World) (b2 b3:Nat) (m:Bool) (a:Option Addr) (n c:Nat) (z:Int):Prop:=bD w1 b2 [.bool false,a0g none 0 0] 29/\ bD w1 b3 [.bool m,a0g a n c] 29/\ Cn w1 m a n c z/\ Below w.heap.size w w1
theorem WT.step {w w1 w2:World} {b2 b3:Nat} {m:Bool} {a:Option Addr} {n c:Nat} {z:Int} (h:WT w w1 b2 b3 m a n c z) (hb:Below w1.heap.size w1 w2):WT w w2 b2 b3 m a n c z:=
 ⟨h.1.below hb,h.2.1.below hb,h.2.2.1.below hb,Below.steps h.2.2.2 hb⟩
def QB (w:World) (b:Nat) (m:Bool) (a:Option Addr) (n c:Nat) (z:Int):Prop:=bD w b [.bool m,a0g a n c] 29/\ Cn w m a n c z
theorem QB.below {w w2:World} {b:Nat} {m:Bool} {a:Option Addr} {n c:Nat} {z:Int} (h:QB w b m a n c z) (hb:Below w.heap.size w w2):QB w2 b m a n c z:=⟨h.1.below hb,h.2.below hb⟩
theorem QB.c2 {w:World} {b:Nat} {m:Bool} {a:Option Addr} {n c:Nat} {z:Int} (h:QB w b m a n c z):w.cell? ⟨b,0,none⟩=some (.bool m)/\ w.cell? ⟨b,1,none⟩=some (a0g a n c):=h.1.c2
theorem QB.new {w W:World} {b:Nat} {m:Bool} {a:Option Addr} {n c:Nat} {z:Int} (hC:Cn w m a n c z) (hb:b=w.heap.size) (hW:W=w.alloc (.cells #[.bool m,a0g a n c] 29)):QB W b m a n c z/\ Below w.heap.size w W:=by
 have h:=jC w [.bool m,a0g a n c] 29;rw[hW,hb];exact⟨⟨h.1,hC.below h.2⟩,h.2⟩
theorem Gu [Ol] (d:List UInt8) (w:World) (ha:dJ d=true) (hl:d.length<=9000):
  Calls Tryz.prog 167 #[.string ⟨d.toArray⟩] w (rC w (aR d:Int)):=by
 have HA:=hid ha;go_enter Tryz.func167,Tryz.ntmps167;obtain⟨b2,hb2⟩:∃b,b=w.heap.size:=⟨_,rfl⟩;go_upto_region 1 with(fail)
 refine aj (λW0 hW=>?_);have a2:bD W0 b2 [.bool false,a0g none 0 0] 29/\ Below w.heap.size w W0:=by rw[hW,hb2];exact jC w _ 29
 rw[<-hb2];obtain⟨b3,hb3⟩:∃b,b=W0.heap.size:=⟨_,rfl⟩;have hw2:w.heap.size<=b2:=by omega
 have h23:b2<b3:=by rw[hb3];exact a2.1.lt
 clear hW hb2;go_wp2_with fail;refine aj (λW1 hW=>?_);have a3:bD W1 b3 [.bool false,a0g none 0 0] 29/\ Below W0.heap.size W0 W1:=by rw[hW,hb3];exact jC W0 _ 29
 rw[<-hb3]
 have Ci:Hid (WT w W1 b2 b3 false none 0 0 (aR (d.take 0):Int)):=
  ⟨a2.1.below a3.2,a3.1,(vU W1).cn,Below.steps a2.2 a3.2⟩
 clear hW hb3 a2 a3 ha;go_loopw [0] (λs wr=>∃(k:Nat) (m:Bool) (a:Option Addr) (n c:Nat),s= .string ⟨(d.drop k).toArray⟩/\ k<=d.length/\ Hid (WT w wr b2 b3 m a n c (aR (d.take k):Int))) (λs _=>ai3 s)
 case atStart=>exact⟨0,_,_,_,_,rfl,Nat.zero_le _,Ci.out⟩
 case round=>
  clear Ci;obtain⟨k,m,a,n,c,rfl,hk,HS⟩:=hrel;obtain⟨u,hu⟩:∃u:ByteArray,u=⟨(d.drop k).toArray⟩:=⟨_,rfl⟩;have Pp:u.data.toList=d.drop k:=by rw[hu]
  have XY:u.size=d.length-k:=by rw[a0c,Pp,a0j]
  rw[<-hu];have HU:=hid Pp;have HUS:=hid XY;clear hu;by_cases hkl:k<d.length
  ·have hq:(u.toList==[])=false:=kE (by rw[Pp];intro h;have:=congrArg a0k h;simp at this;omega);have hq2:(u.toList !=[])=true:=by simp[bne,hq]
   clear Pp XY;obtain⟨z,hz0⟩:∃z:Nat,z=min u.size 1000:=⟨_,rfl⟩;have hz:1<=z/\ z<=d.length-k/\ z<=1000:=by have:=HUS.out;omega
   have hmn:min (u.size:Int) 1000=(z:Int):=by omega
   clear hz0;go_upto_region 4 with(fail)
   clear hq hq2 hmn;have hpl:((d.drop k).take z).length=z:=by rw[a0l,a0j];omega
   have hstep:=(QC (d:=d) (k:=k) (z:=z)).resolve_right (λh=>h hpl);have XZ:=one_num (d:=(d.drop k).take z) (jq (rD HA.out k) z);rw[hpl]at XZ;have HN:=hid XZ;have HST:=hid hstep;have uj:=hid hpl;clear hpl XZ hstep
   have hx2:u.extract 0 z=⟨((d.drop k).take z).toArray⟩:=by
    have h:(u.extract 0 z).data.toList=(d.drop k).take z:=by rw[qy,HU.out,List.drop_zero,Nat.sub_zero]
    rw[<-h]
   have hx3:u.extract z u.size=⟨(d.drop (k+z)).toArray⟩:=by
    have h:(u.extract z u.size).data.toList=d.drop (k+z):=by
     rw[qy,HU.out,List.drop_drop,List.take_of_length_le (by rw[HUS.out,a0j];omega)]
    rw[<-h]
   have hadd:∀W:World,(Op.stringOp .add ⟨#[49]⟩ (u.extract 0 z)).run Tryz.prog W= .ok (.string ⟨(49::(d.drop k).take z).toArray⟩) W:=λW=>by
    rw[hx2];exact tC W [49] _ (by rw[uj.out];simp;omega)
   have hz1:0<=(z:Int):=by omega
   have hzs:(z:Int)<=(u.size:Int):=by have:=HUS.out;omega
   have JG:=hid hx3;have HZ:=hid hz;clear hx2 hx3 hz;go_wp2_with fail;refine(vV 10 _ (by omega)).mono ?_;rintro e w1 ⟨m1,a1,n1,c1,rfl,hC,hB⟩;have H1:=hid (a0a (HS.out.step hB) hC);clear hC hB HS;go_wp2_with fail;refine(vW z (yD H1.out.2 (show Bd 10 1 by unfold Bd;decide) (by omega)) HZ.out.2.2).mono ?_;rintro e w2 ⟨m2,a2,n2,c2,rfl,hC,hB⟩;have H2:=hid (H1.out.1.step hB);obtain⟨b5,hb5⟩:∃b,b=w2.heap.size:=⟨_,rfl⟩;have og:Hid (b3<b5):=by rw[Hid,hb5];exact H2.out.2.1.lt
   clear hB H1;go_upto_region 5 with(fail)
   refine aj (λW3 hW=>?_);have h5:=QB.new hC hb5 hW;rw[<-hb5];have H3:=hid (a0a (H2.out.step h5.2) h5.1);clear hW hb5 h5 H2 hC;go_wp2_with fail;refine(QD _ _ (by show(49::(d.drop k).take z).toArray.size<=20000;rw[List.size_toArray,a0m,uj.out];have:=HZ.out;omega) HN.out.1).mono ?_;rintro e w4 ⟨m3,a3,n3,c3,rfl,hC,hB⟩;have hC2:Cn w4 m3 a3 n3 c3 (10^z+(aR ((d.drop k).take z):Int)):=HN.out.2▸hC;have H4:=hid (a0a (H3.out.1.step hB) (H3.out.2.below hB));obtain⟨b7,yo⟩:∃b,b=w4.heap.size:=⟨_,rfl⟩;have Ag:Hid (b3<b7):=by rw[Hid,yo];exact H4.out.1.2.1.lt
   clear hB H3 hC;go_upto_region 6 with(fail)
   refine aj (λW5 hW=>?_);have h7:=QB.new hC2 yo hW;rw[<-yo];have H5:=hid (a0a (H4.out.1.step h7.2) (a0a (H4.out.2.below h7.2) h7.1));clear hW yo h7 H4 hC2;refine wp_region_held_drew (S:=λw'=>(w'.cell? ⟨b5,0,none⟩=some (.bool m2)/\ w'.cell? ⟨b5,1,none⟩=some (a0g a2 n2 c2))/\ w'.cell? ⟨b7,0,none⟩=some (.bool m3)/\ w'.cell? ⟨b7,1,none⟩=some (a0g a3 n3 c3)) (by kernel_rfl) ⟨(H5.out.2.1.below (a0e _ _).drew).c2,(H5.out.2.2.below (a0e _ _).drew).c2⟩ (λhH=>?_);refine ai (λV hW=>?_)
   have T0:Hid (WT w V b2 b3 m a n c (aR (d.take k):Int)/\ QB V b5 m2 a2 n2 c2 (10^z)/\ QB V b7 m3 a3 n3 c3 (10^z+(aR ((d.drop k).take z):Int))):=by
    rw[hW];exact⟨H5.out.1.step (a0e _ _).drew,H5.out.2.1.below (a0e _ _).drew,H5.out.2.2.below (a0e _ _).drew⟩
   rw[<-hW]at hH;clear hW H5;refine aQ 3 hH ?_
   try simp only[ax]
   refine aQ 5 hH ?_
   try simp only[ax]
   refine wpAnyH_ready (rs:=[0,1]) (by kernel_rfl) (by simp) (aO rfl (λKK hK=>?_) (aO rfl (λKK hK=>?_) (a0b)));obtain⟨x0,x1⟩:=bD.c2 T0.out.1.2.1
   focus go_simp
   refine hK.out _ _ ⟨T0.out.2.1.c2,T0.out.2.2.c2⟩ (λh2=>?_);clear hK KK hH x0 x1;have hH:=h2;clear h2
   try simp only[ax]
   refine ah 1 rfl (by kernel_rfl) (λKK hK=>?_)
   focus go_simp
   refine(vV 1 _ (by omega)).mono ?_;rintro e V1 ⟨m4,a4,n4,c4,rfl,hC,hB⟩;have T1:=hid (a0a (a0a (T0.out.1.step hB) (a0a (T0.out.2.1.below hB) (T0.out.2.2.below hB))) hC);clear hB hC T0
   focus go_wp2_with fail
   clear hH;refine hK.out _ _ ⟨T1.out.1.2.1.c2,T1.out.1.2.2.c2⟩ λhH=>?_;clear hK KK
   try simp only[ax]
   rotate_left
   focus go_simp
   refine(vV 1 _ (by omega)).mono ?_;rintro e V1 ⟨m4,a4,n4,c4,rfl,hC,hB⟩;have T1:=hid (a0a (a0a (T0.out.1.step hB) (a0a (T0.out.2.1.below hB) (T0.out.2.2.below hB))) hC);clear hB hC T0
   focus go_wp2_with fail
   clear hH;refine hK.out _ _ ⟨T1.out.1.2.1.c2,T1.out.1.2.2.c2⟩ λhH=>?_;clear hK KK
   try simp only[ax]
   refine ah 0 rfl (by kernel_rfl) (λKK hK=>?_);obtain⟨x0,x1⟩:=bD.c2 T1.out.1.1.2.1
   focus go_simp
   refine hK.out _ _ ⟨T1.out.1.2.1.c2,T1.out.1.2.2.c2⟩ (λh2=>?_);clear hK KK hH x0 x1;have hH:=h2;clear h2
   try simp only[ax]
   all_goals
    refine ah 2 rfl (by kernel_rfl) (λKK hK=>?_);go_simp;refine(QE (yD T1.out.1.1.2.2.1 (Ah (jq HA.out k) (by rw[a0l];omega)) (by omega)) (yD T1.out.2 (show Bd 1 1 by unfold Bd;decide) (by omega))).mono ?_;rintro e V2 ⟨m5,a5,n5,c5,rfl,hC,hB⟩;have T2:=hid (a0a (a0a (T1.out.1.1.step hB) (a0a (T1.out.1.2.1.below hB) (T1.out.1.2.2.below hB))) hC);clear hB hC T1;go_wp2_with fail;clear hH;refine hK.out _ _ ⟨T2.out.1.2.1.c2,T2.out.1.2.2.c2⟩ λhH=>?_;clear hK KK
    try simp only[ax]
    refine ah 4 rfl (by kernel_rfl) (λKK hK=>?_);go_simp;refine(jP (yD T2.out.2 (Bd.sub ((Ah (jq HA.out k) (by rw[a0l];omega)).mono (show 1000<=1000 by omega)) ((show Bd 1 1 by unfold Bd;decide).mono (by omega)) (show 1000+1<=1001 by omega)) (by omega)) (yD T2.out.1.2.1.2 (JM HZ.out.2.2) (by omega))).mono ?_;rintro e V3 ⟨m6,a6,n6,c6,rfl,hC,hB⟩;have hBq:Bd (((aR (d.take k):Int)-1)*10^z) 1200:=Bd.mono (Bd.mul (Bd.sub ((Ah (jq HA.out k) (by rw[a0l];omega)).mono (show 1000<=1000 by omega)) ((show Bd 1 1 by unfold Bd;decide).mono (by omega)) (show 1000+1<=1001 by omega)) (JM HZ.out.2.2)) (by omega);have T3:=hid (a0a (a0a (T2.out.1.1.step hB) (a0a (T2.out.1.2.1.below hB) (T2.out.1.2.2.below hB))) (a0a hC hBq));clear hB hC T2 hBq;go_wp2_with fail;clear hH;refine hK.out _ _ ⟨T3.out.1.2.1.c2,T3.out.1.2.2.c2⟩ λhH=>?_;clear hK KK
    try simp only[ax]
    refine ah 6 rfl (by kernel_rfl) (λKK hK=>?_);go_simp;refine(vX (yD T3.out.2.1 T3.out.2.2 (by omega)) (yD T3.out.1.2.2.2 (Bd.add ((JM HZ.out.2.2).mono (show 104<=1000 by omega)) (Ah (jq (rD HA.out k) z) (by rw[uj.out];have:=HZ.out;omega)) (show 1000+1<=1001 by omega)) (by omega))).mono ?_;rw[HST.out];rintro e V4 ⟨m7,a7,n7,c7,rfl,hC,hB⟩;have T4:=hid (a0a (a0a (T3.out.1.1.step hB) (a0a (T3.out.1.2.1.below hB) (T3.out.1.2.2.below hB))) hC);clear hB hC T3;go_wp2_with fail;clear hH;refine hK.out _ _ ⟨T4.out.1.2.1.c2,T4.out.1.2.2.c2⟩ λhH=>?_;clear hK KK
    try simp only[ax]
    refine ah 7 rfl (by kernel_rfl) (λKK hK=>?_);obtain⟨x0,x1⟩:=bD.c2 T4.out.1.1.2.1;have y0:=T4.out.1.1.2.1.fz 0;have y1:=T4.out.1.1.2.1.fz 1;go_simp;clear x0 x1 y0 y1;have hp2:=ad2 T4.out.1.1.2.1 (LA _ _ _ _) (.bool m7) (a0g a7 n7 c7);have hne5:b3≠b5:=Nat.ne_of_lt og.out;have X7:b3≠b7:=Nat.ne_of_lt Ag.out;refine hK.out _ _ ⟨bD.c2 ((T4.out.1.2.1.1.far hne5 0 _).far hne5 1 _),bD.c2 ((T4.out.1.2.2.1.far X7 0 _).far X7 1 _)⟩ (λh2=>?_);clear hK KK hH h2
    try rw[ax.2.1]
    refine wpAnyH_done (by kernel_rfl) ?_ _
    have T5:=hid (show WT w _ b2 b3 m7 a7 n7 c7 _ from⟨(T4.out.1.1.1.far (show b3≠b2 by omega) 0 _).far (show b3≠b2 by omega) 1 _,hp2.2,T4.out.2.iN hp2.1,uP T4.out.1.1.2.2.2 (show w.heap.size<=b3 by omega) _ _⟩);clear hp2 hne5 X7 T4;go_wp2_with fail;go_roundw
    case rel=>exact⟨k+z,m7,a7,n7,c7,by rw[JG.out],by have:=HZ.out;omega,T5.out⟩
    case measure=>
     have h1:=HUS.out;have h2:=HZ.out;have h3:(u.extract z u.size).size=d.length-(k+z):=by rw[JG.out];show(d.drop (k+z)).toArray.size=_;simp
     show(u.extract z u.size).size<u.size;omega
  ·obtain rfl:k=d.length:=by omega
   have hq:(u.toList==[])=true:=lT (by rw[Pp];simp);have hq2:(u.toList !=[])=false:=by simp[bne,hq]
   have HR:Hid (WT w wr b2 b3 m a n c (aR d:Int)):=by have h:=HS.out;rw[List.take_length]at h;exact h
   clear Pp XY HU HUS HS;obtain⟨x0,x1⟩:=bD.c2 HR.out.2.1;obtain⟨y0,y1⟩:=bD.c2 HR.out.1;have z0:=HR.out.1.fz 0;have z1:=HR.out.1.fz 1;go_wp2_with fail;refine bodyPost_ret (v:= .agg #[.bool m,a0g a n c]) (by simp[results,Tryz.results167,go_sem,y0,y1]) rfl ?_;have hp2:=ad2 HR.out.1 (LA _ _ _ _) (.bool m) (a0g a n c);exact⟨_,_,_,_,rfl,HR.out.2.2.1.iN hp2.1,uP HR.out.2.2.2 hw2 _ _⟩
theorem Cn.QF {w w':World} {m:Bool} {a:Option Addr} {n c:Nat} {z:Int} (h:Cn w m a n c z) (hk:∀ad,a=some ad->0<n->w'.heap[ad.block]? =w.heap[ad.block]?):Cn w' m a n c z:=
 ⟨h.neg,h.sl.len,h.sl.le,h.sl.big,h.sl.wf,h.sl.nil,λad had t ht=>(a0h (by rw[ig];exact hk ad had (by omega))).trans (h.sl.cells ad had t ht)⟩
theorem Cn.blt {w:World} {m:Bool} {a:Option Addr} {n c:Nat} {z:Int} (h:Cn w m a n c z) {ad:Addr} (had:a=some ad) (h0:0<n):ad.block<w.heap.size:=by
 have:=World.block_lt_of_cell? w _ (h.sl.cells ad had 0 h0);rwa[ig]at this
theorem Rd.clean {w:World} {b:Nat} {s:ByteArray} (h:Rd w b s):eO w b:=bD.fT (L:=[.string s]) (T:=111) h λu hu=>by simp at hu;rw[hu];rfl
theorem Dh {B:Nat} {w:World} {mo:Option Addr} {mn mc:Nat} {ms:List (Int×Int)} (h:Mo B w mo mn mc ms) (hB:B<=w.heap.size) (hn:mn<1000000) {u v:Int} (hu:gQ u) (hv:gQ v) (tt ty:TypeId):
  ∃ro rc W,(Builtin.append_ #[68,68] ty #[a0g mo mn mc,a0g (some ⟨w.heap.size,0,none⟩) 1 1]).run Tryz.prog (w.alloc (.cells #[.int .i64 u,.int .i64 v] tt))= .ok (a0g ro (mn+1) rc) W/\ Mo B W ro (mn+1) rc (ms++[(u,v)])/\ (w.alloc (.cells #[.int .i64 u,.int .i64 v] tt)).grownBy W (blk mo):=by
 obtain⟨i0,hi,hz0,hz1,hz2⟩:=info_parts Tryz.rA;have ho:=h.row.alloc (.cells #[.int .i64 u,.int .i64 v] tt)
 obtain⟨v',W,h1,h2,h3,_⟩:=run_append_own (P:=Tryz.prog) (w.alloc (.cells #[.int .i64 u,.int .i64 v] tt)) B 68 ty 72 i0 _ 2 16 Tryz.underlying68 hi hz0 hz1 hz2 rfl (by omega) _ mn (fq ms) ho ⟨w.heap.size,0,none⟩ 1 1 (fq [(u,v)]) rfl (λj q hj=>by
  match j,hj with
  |0,hj=>simp[fq]at hj;subst hj;simp[Addr.add]
  |1,hj=>simp[fq]at hj;subst hj;simp[Addr.add]
  |j+2,hj=>simp[fq]at hj) (qm _) (by unfold maxLen;omega) (by omega) (by simp;omega)
 obtain⟨ro,rc,rfl⟩:=rz h2;refine⟨ro,rc,W,h1,⟨by rw[oG];exact h2,by omega,λp hp=>?_⟩,by rw[<-LB mo mn mc];exact h3⟩;rcases List.mem_append.1 hp with hp|hp
 ·exact h.wf p hp
 ·simp at hp;subst hp;exact⟨hu,hv⟩
theorem Mo.blk {B:Nat} {w:World} {mo:Option Addr} {mn mc:Nat} {ms:List (Int×Int)} (h:Mo B w mo mn mc ms) {g:Nat} (hg:blk mo=some g):B<=g/\ g<w.heap.size/\∃cur,w.heap[g]? =some (.cells cur 72 (0,0)):=by
 rcases h.parts with⟨rfl,_⟩|⟨g',cur,rfl,h1,h2,_,h3⟩
 ·cases hg
 ·cases hg;exact⟨h1,h2,cur,h3⟩
structure y8 (w w1:World) (b B2 B3 Bc:Nat) (s:ByteArray) (ca:Option Addr) (cn cc:Nat) (c:Int) (mo:Option Addr) (mn mc:Nat) (ms:List (Int×Int)):Prop where
 rd:Rd w1 b s
 a2:bD w1 B2 [.bool false,a0g none 0 0,a0g none 0 0] 70
 a3:bD w1 B3 [.bool false,a0g ca cn cc,a0g mo mn mc] 70
 nu:Cn w1 false ca cn cc c
 ck:∀ad,ca=some ad->0<cn->ad.block<Bc
 mm:Mo Bc w1 mo mn mc ms
 g:w.grownBy w1 (some b)
 o:b<w.heap.size/\ w.heap.size<=B2/\ B2<B3/\ w.heap.size<=Bc/\ Bc<=w1.heap.size
section
variable {w w1 w2:World} {b B2 B3 Bc:Nat} {s s':ByteArray} {ca:Option Addr} {cn cc:Nat} {c:Int} {mo:Option Addr} {mn mc:Nat} {ms:List (Int×Int)}
theorem y8.gb (h:y8 w w1 b B2 B3 Bc s ca cn cc c mo mn mc ms) (hR:Rd w2 b s') (hg:w1.grownBy w2 (some b)):y8 w w2 b B2 B3 Bc s' ca cn cc c mo mn mc ms:=by
 have o:=h.o;have hs:=hg.size;refine⟨hR,h.a2.apart hg (λe=>by have:=a0v e;omega),h.a3.apart hg (λe=>by have:=a0v e;omega),h.nu.fM h.rd.clean hg,h.ck,h.mm.keep λa e=>?_,aK h.g hg,by omega⟩;have:=h.mm.blk (g:=a.block) (by rw[e];rfl);exact hg.block _ this.2.1 λe=>by have:=a0v e;omega
theorem y8.below (h:y8 w w1 b B2 B3 Bc s ca cn cc c mo mn mc ms) (hb:Below w1.heap.size w1 w2):y8 w w2 b B2 B3 Bc s ca cn cc c mo mn mc ms:=h.gb (h.rd.below hb) (cK _ hb)
theorem y8.MX (h:w.grownBy w1 (some b)) (hB:w.heap.size<=B3) (o:Nat) (u:Value):w.grownBy (w1.setCell ⟨B3,o,none⟩ u) (some b):=
 ⟨h.os,h.tape,h.output,by have:=h.size;simpa[a0i]using this,λk hk hne=>(a0f _ _ _ _ (show k≠B3 by omega)).trans (h.block k hk hne)⟩
theorem y8.ai4 (h:y8 w w1 b B2 B3 Bc s ca cn cc c none 0 0 []) {ca':Option Addr} {cn' cc':Nat} {c':Int} (hC:Cn w1 false ca' cn' cc' c'):
  y8 w ((w1.setCell ⟨B3,0,none⟩ (.bool false)).setCell ⟨B3,1,none⟩ (a0g ca' cn' cc')) b B2 B3 w1.heap.size s ca' cn' cc' c' none 0 0 []:=by
 have o:=h.o;refine⟨mY (mY h.rd (by omega) _) (by omega) _,(h.a2.far (by omega) _ _).far (by omega) _ _,(h.a3.set 0 _).set 1 _,?_,λad had h0=>hC.blt had h0,Mo.nil _ _,y8.MX (y8.MX h.g (by omega) _ _) (by omega) _ _,⟨o.1,o.2.1,o.2.2.1,h.g.size,by simp[a0i]⟩⟩;exact hC.fM (h.a3.fT (xE _ _ _ _ _ _ _)) (dS (bV _ _ _ _) (bV _ _ _ _))
theorem y8.push [Ol] (h:y8 w w1 b B2 B3 Bc s ca cn cc c mo mn mc ms) {tt:TypeId} {x y:Value} (hg:(w1.alloc (.cells #[x,y] tt)).grownBy w2 (blk mo)) {ro:Option Addr} {rc:Nat} {p:Int×Int} (hM:Mo Bc w2 ro (mn+1) rc (ms++[p])):
  y8 w (w2.setCell ⟨B3,2,none⟩ (a0g ro (mn+1) rc)) b B2 B3 Bc s ca cn cc c ro (mn+1) rc (ms++[p])/\ w2.cell? ⟨B3,2,none⟩=some (a0g mo mn mc)/\ w2.frozen? ⟨B3,2,none⟩=false:=by
 have o:=h.o;have hB:Below w1.heap.size w1 (w1.alloc (.cells #[x,y] tt)):=af _ _;have hs:=hg.size;have hs1:=hB.size
 have hk:∀k,k<w1.heap.size->(∀g,blk mo=some g->k≠g)->w2.heap[k]? =w1.heap[k]? :=λk hk hne=>by
  refine(hg.block k (by omega) λe=>?_).trans (hB.block k hk);exact hne k e.symm rfl
 have hty:∀{k:Nat} {L:List Value} {T:TypeId},bD w1 k L T->T≠72->∀g,blk mo=some g->k≠g:=λ{k L T} hA hT g hg e=>by
  obtain⟨_,_,cur,hc⟩:=h.mm.blk hg;subst e;unfold bD at hA;rw[hA]at hc;cases hc;exact hT rfl
 have r2:Rd w2 b s:=(hk b h.rd.lt (hty (L:=[.string s]) h.rd (by decide))).trans h.rd;have c2:bD w2 B2 _ _:=h.a2.keep (hk B2 h.a2.lt (hty h.a2 (by decide)));have c3:bD w2 B3 _ _:=h.a3.keep (hk B3 h.a3.lt (hty h.a3 (by decide)));have n2:Cn w2 false ca cn cc c:=h.nu.QF λad had h0=>hk _ (h.nu.blt had h0) λg hg=>by have:=h.ck ad had h0;have:=(h.mm.blk hg).1;omega
 have g2:w.grownBy w2 (some b):=by
  refine⟨hg.os.trans (hB.os.trans h.g.os),hg.tape.trans (hB.tape.trans h.g.tape),hg.output.trans (hB.output.trans h.g.output),by have:=h.g.size;omega,λk hk2 hne=>?_⟩;have:=h.g.size;exact(hk k (by omega) λg hg e=>by have:=(h.mm.blk hg).1;omega).trans (h.g.block k hk2 hne)
 refine⟨⟨mY r2 (by omega) _,c2.far (by omega) _ _,c3.set 2 _,n2.fM (c3.fT (xE _ _ _ _ _ _ _)) (bV _ _ _ _),h.ck,hM.keep λa e=>?_,y8.MX g2 (by omega) _ _,by have e:(w2.setCell ⟨B3,2,none⟩ (a0g ro (mn+1) rc)).heap.size=w2.heap.size:=(by simp[a0i]);omega⟩,c3.cell 2,c3.fz 2⟩;obtain⟨_,_,cur,hc⟩:=hM.blk (g:=a.block) (by rw[e];rfl);refine a0f _ _ _ _ λe=>?_
 rw[e]at hc;unfold bD at c3;rw[c3]at hc;cases hc
end
def ad3 [Ol] (b:Nat) (o:Option (Term×List UInt8)) (w:World) (e:Ending) (w':World):Prop:=
 match o with
 |none=>uQ b w e w'
 |some t=>∃ca cn cc mo mn mc,e= .returned (.agg #[.bool false,a0g ca cn cc,a0g mo mn mc])/\ Cn w' false ca cn cc t.1.1/\ Ml w' mo mn mc t.1.2/\ Rd w' b ⟨t.2.toArray⟩/\ w.grownBy w' (some b)
theorem y8.fin [Ol] {w w1:World} {b B2 B3 Bc:Nat} {s:ByteArray} {ca:Option Addr} {cn cc:Nat} {c:Int} {mo:Option Addr} {mn mc:Nat} {ms:List (Int×Int)} (h:y8 w w1 b B2 B3 Bc s ca cn cc c mo mn mc ms) {W:World} (hW:W=((w1.setCell ⟨B2,0,none⟩ (.bool false)).setCell ⟨B2,1,none⟩ (a0g ca cn cc)).setCell ⟨B2,2,none⟩ (a0g mo mn mc)):
  Cn W false ca cn cc c/\ Ml W mo mn mc ms/\ Rd W b s/\ w.grownBy W (some b)/\ bD W B2 [.bool false,a0g ca cn cc,a0g mo mn mc] 70:=by
 have o:=h.o;have hg:=uR w1 B2 0 (.bool false) (a0g ca cn cc) (a0g mo mn mc);have hc:=h.a2.fT (xE _ _ _ _ _ _ _);rw[hW];exact⟨h.nu.fM hc hg,h.mm.ml.fM hc hg,mY (mY (mY h.rd (by omega) _) (by omega) _) (by omega) _,y8.MX (y8.MX (y8.MX h.g (by omega) _ _) (by omega) _ _) (by omega) _ _,((h.a2.set 0 _).set 1 _).set 2 _⟩
theorem Gv {l r:List UInt8} {v:Int×Int} (h:pu l=some (v,r)):r.length<l.length:=by
 have:=congrArg a0k (oh h).1;rw[a0n,jY,a0m]at this;omega
theorem Gw {l r:List UInt8} {v:Int×Int} (h:pu l=some (v,r)):gQ v.1/\ gQ v.2:=by
 obtain⟨h1,h2,h3,h4⟩:=(oh h).2;unfold gQ;omega
def Di (b:Nat) (w:World):Nat:=match w.cell? ⟨b,0,none⟩with|some (.string s)=>s.size| _=>0
theorem Rd.len {w:World} {b:Nat} {s:ByteArray} (h:Rd w b s):Di b w=s.size:=by unfold Di;rw[h.cell]
open Lib (hid)
theorem MZ [Ol] {b N:Nat} {s:ByteArray} {o:Option (Term×List UInt8)} {w:World} (h:Rd w b s) (hs:s.size<=9000) (hN:s.size<=N) (hE:qW w) (hG:6<b) (ho:o=jf N s.data.toList):
  Calls Tryz.prog 112 #[.pointer (some ⟨b,0,none⟩)] w (ad3 b o w):=by
 have HR:=hid h;have HO:=hid ho;have HE:=hid hE;have HG:=hid hG;clear h ho hE hG;go_enter Tryz.func112,Tryz.ntmps112;obtain⟨b2,hb2⟩:∃b,b=w.heap.size:=⟨_,rfl⟩;go_upto_region 1 with(fail)
 refine aj (λW0 hW=>?_);have a2:bD W0 b2 [.bool false,a0g none 0 0,a0g none 0 0] 70/\ Below w.heap.size w W0:=by rw[hW,hb2];exact jC w _ 70
 rw[<-hb2];have hw2:w.heap.size<=b2:=by omega
 clear hW hb2;go_wp2_with fail;refine(vV 1 _ (by omega)).mono ?_;rintro e w1 ⟨m1,a1,n1,c1,rfl,hC,hB⟩;obtain rfl:m1=false:=by have:=hC.neg;simpa using this
 obtain⟨b3,hb3⟩:∃b,b=w1.heap.size:=⟨_,rfl⟩;go_upto_region 2 with(fail)
 refine aj (λW2 hW=>?_);have a3:bD W2 b3 [.bool false,a0g a1 n1 c1,a0g none 0 0] 70/\ Below w1.heap.size w1 W2:=by rw[hW,hb3];exact jC w1 _ 70
 rw[<-hb3]
 have T0:Hid (y8 w W2 b b2 b3 W2.heap.size s a1 n1 c1 1 none 0 0 []):=by
  have hB2:=Below.steps (Below.steps a2.2 hB) a3.2;have hl:=a2.1.lt;have hl2:=hB.size;exact⟨HR.out.below hB2,(a2.1.below hB).below a3.2,a3.1,hC.below a3.2,λad had h0=>(hC.below a3.2).blt had h0,Mo.nil _ _,cK _ hB2,⟨HR.out.lt,hw2,by omega,hB2.size,Nat.le_refl _⟩⟩
 clear hW hb3 a2 a3 hB hC hw2;have hc:=T0.out.rd.cell;go_wp2_with fail;clear hc;by_cases hx:s.data.toList.head? =some 120;have hq:=vY s ⟨#[120]⟩ W2
 have hq1:a0d s.data.toList (⟨#[120]⟩:ByteArray).data.toList=true:=by
  cases hl:s.data.toList with
  |nil=>rw[hl]at hx;simp at hx
  |cons a l=>rw[hl]at hx;simp at hx;simp[a0d,a0o,hx]
 rw[hq1]at hq;refine hq.mono ?_;rintro e V ⟨rfl,hB⟩;have T:=hid (T0.out.below hB);have M0:Hid (o=(l7 N s.data.toList).bind λa=>some (((1:Int),a.1),a.2)):=by rw[Hid,HO.out];unfold jf;rw[if_pos hx]
 have FW:Hid (s.size<=9000):=hs;have ZN:Hid (s.size<=N):=hN;clear hB hq hq1 hx T0 HO
 focus go_upto_region 9 with(fail)
 rotate_left
 have hq:=vY s ⟨#[120]⟩ W2
 have hq1:a0d s.data.toList (⟨#[120]⟩:ByteArray).data.toList=false:=by
  cases hl:s.data.toList with
  |nil=>rfl
  |cons a l=>rw[hl]at hx;simp at hx;simp[a0d,a0o];exact λe=>hx e.symm
 rw[hq1]at hq;refine hq.mono ?_;rintro e V0 ⟨rfl,hB⟩;have T1:=hid (T0.out.below hB);have M0:Hid (o=(mZ s.data.toList).bind λa=>match takeB 42 a.2 with|none=>some (((aR a.1:Int),[]),a.2)|some l1=>if a.1=[49]then none else(l7 N l1).bind λb=>some (((aR a.1:Int),b.1),b.2)):=by rw[Hid,HO.out];unfold jf;rw[if_neg hx];rfl
 clear hB hq hq1 hx T0 HO
 focus go_wp2_with fail
 by_cases hd:mZ s.data.toList=none
 ·refine(Ai T1.out.rd (by omega) rfl rfl (by unfold mZ at hd;split at hd;assumption;cases hd)).mono ?_;rintro e w2 ⟨rfl,hg⟩;go_wp2_with fail;have yE:o=none:=by rw[M0.out,hd];rfl
  rw[yE];exact⟨rfl,rfl,aK T1.out.g hg⟩
 obtain⟨⟨d,r⟩,hd2⟩:=a0s.1 hd;have hdd:=gU hd2;have hdl:d.length+r.length=s.size:=by have:=congrArg a0k hdd.1;rw[a0n,<-a0c]at this;omega
 refine(xG T1.out.rd (by omega) hd2).mono ?_;rintro e w2 ⟨rfl,hR,hg⟩;have T2:=hid (T1.out.gb hR hg);have yE:Hid (o=match takeB 42 r with|none=>some (((aR d:Int),[]),r)|some l1=>if d=[49]then none else(l7 N l1).bind λb=>some (((aR d:Int),b.1),b.2)):=by rw[Hid,M0.out,hd2];rfl
 have HAD:Hid (dJ d=true):=by rw[Hid,<-hdd.2.1];exact zD _
 clear hR hg T1 M0 hd hd2 hdd
 focus go_wp2_with fail
 refine(Gu d _ HAD.out (by omega)).mono ?_;rintro e w3 ⟨m4,a4,n4,c4,rfl,hC,hB⟩;obtain rfl:m4=false:=by rw[hC.neg];exact decide_eq_false (by omega)
 have T3:=hid (T2.out.below hB);have HC:=hid hC;obtain⟨dx,hdx⟩:∃dx:ByteArray,dx=⟨d.toArray⟩:=⟨_,rfl⟩;have HDX:Hid (dx.data.toList=d):=by rw[Hid,hdx]
 rw[<-hdx];clear hB hC T2 hdx;obtain⟨x0,x1,_⟩:=T3.out.a3.c3;have x2:=T3.out.a3.fz 0;have x3:=T3.out.a3.fz 1
 focus go_upto_region 5 with(fail)
 refine aj (λW4 hW=>?_);have T4:Hid (y8 w W4 b b2 b3 w3.heap.size ⟨r.toArray⟩ a4 n4 c4 (aR d:Int) none 0 0 []):=by rw[hW];exact T3.out.ai4 HC.out
 clear hW T3 HC x0 x1 x2 x3
 focus go_wp2_with fail
 by_cases ht:takeB 42 r=none
 ·refine(jZ T4.out.rd ht).mono ?_;rintro e w5 ⟨rfl,hR,hg⟩;have T5:=hid (T4.out.gb hR hg);have Pq:Hid (o=some (((aR d:Int),[]),r)):=by rw[Hid,yE.out,ht]
  clear hR hg T4 yE ht;obtain⟨x0,x1,x2⟩:=T5.out.a3.c3;obtain⟨y0,y1,y2⟩:=T5.out.a2.c3;have z0:=T5.out.a2.fz 0;have z1:=T5.out.a2.fz 1;have z2:=T5.out.a2.fz 2;go_wp2_with fail;refine bodyPost_ret (v:= .agg #[.bool false,a0g a4 n4 c4,a0g none 0 0]) (by simp[results,Tryz.results112,go_sem,y0,y1,y2]) rfl ?_;rw[Pq.out];have hF:=T5.out.fin rfl;exact⟨_,_,_,_,_,_,rfl,hF.1,hF.2.1,hF.2.2.1,hF.2.2.2.1⟩
 obtain⟨l1,ht2⟩:=a0s.1 ht;refine(gy T4.out.rd ht2).mono ?_;rintro e V ⟨rfl,hR,hg⟩;have T5:=hid (T4.out.gb hR hg);have Pq:Hid (o=if d=[49]then none else(l7 N l1).bind λb=>some (((aR d:Int),b.1),b.2)):=by rw[Hid,yE.out,ht2]
 have hll:l1.length<=r.length:=iH ht2;clear hR hg T4 yE ht ht2;by_cases h1:d=[49]
 ·have hq:(dx.toList==[49])=true:=lT (HDX.out.trans h1);go_wp2_with fail;refine(jr (b:=b)).mono ?_;rintro e w6 ⟨rfl,hg⟩;go_wp2_with fail;rw[Pq.out,if_pos h1];exact⟨rfl,rfl,aK T5.out.g hg⟩
 have hq:(dx.toList==[49])=false:=kE (λe=>h1 (HDX.out.symm.trans e));have M0:Hid (o=(l7 N (⟨l1.toArray⟩:ByteArray).data.toList).bind λa=>some (((aR d:Int),a.1),a.2)):=by rw[Hid,Pq.out,if_neg h1]
 have hsz1:(⟨l1.toArray⟩:ByteArray).size=l1.length:=a0c _;have FW:Hid ((⟨l1.toArray⟩:ByteArray).size<=9000):=by rw[Hid];omega
 have ZN:Hid ((⟨l1.toArray⟩:ByteArray).size<=N):=by rw[Hid];omega
 have T:=T5;clear Pq h1 hsz1 hll hdl HAD T5
 focus go_upto_region 9 with(fail)
 clear hq
 rotate_left
 all_goals
  obtain⟨ca,cn,cc,c,Bc,s1,HT,HO,FW,ZN⟩:∃(ca:Option Addr) (cn cc:Nat) (c:Int) (Bc:Nat) (s1:ByteArray),Hid (y8 w V b b2 b3 Bc s1 ca cn cc c none 0 0 [])/\ Hid (o=(l7 N s1.data.toList).bind λa=>some ((c,a.1),a.2))/\ Hid (s1.size<=9000)/\ Hid (s1.size<=N):=⟨_,_,_,_,_,_,T,M0,FW,ZN⟩;have T:=HT;have zC:=FW;have FW:Hid (s1.size<=65536):=by have:=zC.out;rw[Hid];omega
  clear M0 HT;by_cases hp:pu s1.data.toList=none
  ·have HP:=hid hp;have HNo:Hid (o=none):=by rw[Hid,HO.out,l7,hp];rfl
   clear hp HO zC ZN;refine wp_region_held_drew (S:=λ_=>True) (by kernel_rfl) trivial (λhH=>?_);refine ai (λW1 hW=>?_);have T1:=hid (T.out.below (by rw[hW];exact(a0e _ _).drew:Below V.heap.size V W1));clear hW T;refine aQ 0 hH ?_
   try simp only[ax]
   refine aQ 2 hH ?_
   try simp only[ax]
   refine wpAnyH_ready (rs:=[1,3]) (by kernel_rfl) (by simp) (aO rfl (λKK hK=>?_) (aO rfl (λKK hK=>?_) (a0b)))
   ·have x2:=T1.out.a3.c3.2.2
    focus go_simp
    clear x2;clear hH;refine hK.out _ _ trivial λhH=>?_;clear hK KK
    try simp only[ax]
    refine ah 3 rfl (by kernel_rfl) (λKK hK=>?_)
    focus go_simp
    refine(qz T1.out.rd FW.out (HE.out.keep T1.out.g HG.out T1.out.o.1) HG.out HP.out).mono ?_;rintro e w2 ⟨rfl,hg⟩
    focus go_wp2_with fail
    rw[HNo.out];exact⟨rfl,rfl,aK T1.out.g hg⟩
   ·focus go_simp
    refine(qz T1.out.rd FW.out (HE.out.keep T1.out.g HG.out T1.out.o.1) HG.out HP.out).mono ?_;rintro e w2 ⟨rfl,hg⟩
    focus go_wp2_with fail
    rw[HNo.out];exact⟨rfl,rfl,aK T1.out.g hg⟩
  obtain⟨⟨v,r1⟩,hp2⟩:=a0s.1 hp;have HP:=hid hp2;have X8:=hid (Gw hp2);have HMN:Hid ((0:Nat)<1000000):=by rw[Hid];omega
  have yE:Hid (o=(kF N r1).bind λq=>some ((c,[v]++q.1),q.2)):=by
   rw[Hid,HO.out,l7,hp2];show(a0t (a0t (kF N r1) _) _)=_;cases kF N r1<;>rfl
  have FX:Hid (r1.length<s1.size):=by have:=Gv hp2;rw[<-a0c]at this;exact this
  clear hp hp2 HO;refine wp_region_held_drew (S:=λ_=>True) (by kernel_rfl) trivial (λhH=>?_);refine ai (λW1 hW=>?_);have T1:=hid (T.out.below (by rw[hW];exact(a0e _ _).drew:Below V.heap.size V W1));clear hW T;refine aQ 0 hH ?_
  try simp only[ax]
  refine aQ 2 hH ?_
  try simp only[ax]
  refine wpAnyH_ready (rs:=[1,3]) (by kernel_rfl) (by simp) (aO rfl (λKK hK=>?_) (aO rfl (λKK hK=>?_) (a0b)));have x2:=T1.out.a3.c3.2.2
  focus go_simp
  clear x2;clear hH;refine hK.out _ _ trivial λhH=>?_;clear hK KK
  try simp only[ax]
  refine ah 3 rfl (by kernel_rfl) (λKK hK=>?_)
  focus go_simp
  refine(vZ T1.out.rd FW.out HP.out).mono ?_;rintro e w2 ⟨rfl,hR,hg⟩;have T2:=hid (T1.out.gb hR hg);clear hR hg
  focus go_wp2_with fail
  clear hH;refine hK.out _ _ trivial λhH=>?_;clear hK KK
  try simp only[ax]
  refine ah 4 rfl (by kernel_rfl) (λKK hK=>?_)
  focus go_simp
  clear hH;refine hK.out _ _ trivial λhH=>?_;clear hK KK
  try simp only[ax]
  rotate_left
  focus go_simp
  refine(vZ T1.out.rd FW.out HP.out).mono ?_;rintro e w2 ⟨rfl,hR,hg⟩;have T2:=hid (T1.out.gb hR hg);clear hR hg
  focus go_wp2_with fail
  clear hH;refine hK.out _ _ trivial λhH=>?_;clear hK KK
  try simp only[ax]
  refine wpAnyH_ready (rs:=[1,4]) (by kernel_rfl) (by simp) (aO rfl (λKK hK=>?_) (aO rfl (λKK hK=>?_) (a0b)));have x2:=T2.out.a3.c3.2.2
  focus go_simp
  clear x2;clear hH;refine hK.out _ _ trivial λhH=>?_;clear hK KK
  try simp only[ax]
  refine ah 4 rfl (by kernel_rfl) (λKK hK=>?_)
  focus go_simp
  clear hH;refine hK.out _ _ trivial λhH=>?_;clear hK KK
  try simp only[ax]
  rotate_left
  focus go_simp
  clear hH;refine hK.out _ _ trivial λhH=>?_;clear hK KK
  try simp only[ax]
  refine ah 1 rfl (by kernel_rfl) (λKK hK=>?_);have x2:=(T2.out.below (af w2 (.cells #[.int .i64 v.1,.int .i64 v.2] 72))).a3.c3.2.2
  focus go_simp
  clear x2;clear hH;refine hK.out _ _ trivial λhH=>?_;clear hK KK
  try simp only[ax]
  all_goals
   obtain⟨ro,rc,W3,hrun,hM,hg⟩:=Dh T2.out.mm T2.out.o.2.2.2.2 HMN.out X8.out.1 X8.out.2 72 68;refine ah 5 rfl (by kernel_rfl) (λKK hK=>?_);refine Aj rfl _ _ _ _ rfl (by simp[Act.eval]) (by simp[Act.eval]) hrun ?_;clear hH;refine hK.out _ _ trivial λhH=>?_;clear hK KK
   try simp only[ax]
   have M4:=T2.out.push hg hM;clear hrun hM hg;refine aQ 6 hH ?_
   try simp only[ax]
   refine ah 7 rfl (by kernel_rfl) (λKK hK=>?_);have x2:=M4.2.1;have x3:=M4.2.2
   focus go_simp
   clear x2 x3;refine hK.out _ _ trivial (λh2=>?_);clear hK KK hH;clear h2
   try rw[ax.2.1]
   refine wpAnyH_done (by kernel_rfl) ?_ _
   have T3:=hid M4.1;clear M4 T2;clear HP X8 HMN FW;go_wp2_with fail;go_loopw [33] (λ_ wr=>∃(s:ByteArray) (mo:Option Addr) (mn mc:Nat) (ms:List (Int×Int)) (k:Nat),Hid (y8 w wr b b2 b3 Bc s ca cn cc c mo mn mc ms/\ mn+s.size<=9000/\ s.size<k/\ o=(kF k s.data.toList).bind λq=>some ((c,ms++q.1),q.2))) (λ_ wr=>Di b wr)
   case atStart=>exact⟨⟨r1.toArray⟩,ro,1,rc,[v],N,T3.out,by have h1:=FX.out;have h2:=zC.out;have h3:(⟨r1.toArray⟩:ByteArray).size=r1.length:=a0c _;omega,by have h1:=FX.out;have h2:=ZN.out;have h3:(⟨r1.toArray⟩:ByteArray).size=r1.length:=a0c _;omega,yE.out⟩
   case round=>
    clear T3 FX yE ZN zC;obtain⟨s2,mo,mn,mc,ms,k,HS⟩:=hrel;have QG:Hid (Di b wr=s2.size):=HS.out.1.rd.len;obtain⟨k,rfl⟩:∃k',k=k'+1:=⟨k-1,by have:=HS.out.2.2.1;omega⟩;go_wp2_with fail;by_cases ht:takeB 42 s2.data.toList=none
    ·refine(jZ HS.out.1.rd ht).mono ?_;rintro e w5 ⟨rfl,hR,hg⟩;have T5:=hid (HS.out.1.gb hR hg)
     have Pq:Hid (o=some ((c,ms),s2.data.toList)):=by
      rw[Hid,HS.out.2.2.2,kF,ht];show some ((c,ms++[]),s2.data.toList)=_;rw[a0p]
     clear hR hg HS ht QG;obtain⟨x0,x1,x2⟩:=T5.out.a3.c3;obtain⟨y0,y1,y2⟩:=T5.out.a2.c3;have z0:=T5.out.a2.fz 0;have z1:=T5.out.a2.fz 1;have z2:=T5.out.a2.fz 2;go_wp2_with fail;refine bodyPost_ret (v:= .agg #[.bool false,a0g ca cn cc,a0g mo mn mc]) (by simp[results,Tryz.results112,go_sem,y0,y1,y2]) rfl ?_;rw[Pq.out];have hF:=T5.out.fin rfl;exact⟨_,_,_,_,_,_,rfl,hF.1,hF.2.1,hF.2.2.1,hF.2.2.2.1⟩
    obtain⟨l1,ht2⟩:=a0s.1 ht;refine(gy HS.out.1.rd ht2).mono ?_;rintro e V ⟨rfl,hR,hg⟩;obtain⟨s1,hs1⟩:∃s1:ByteArray,s1=⟨l1.toArray⟩:=⟨_,rfl⟩;rw[<-hs1]at hR;have T:=hid (HS.out.1.gb hR hg);have hlb:=iH ht2;have hll:s1.size<=s2.size:=by rw[hs1,a0c,a0c];exact hlb
    have hl1:l1=s1.data.toList:=by rw[hs1]
    have FW:Hid (s1.size<=65536):=by have:=HS.out.2.1;rw[Hid];omega
    have HB:Hid (mn+s1.size<=9000/\ s1.size<k+1/\ s1.size<=s2.size):=by have h1:=HS.out.2.1;have h2:=HS.out.2.2.1;exact⟨by omega,by omega,hll⟩
    have HO:Hid (o=((pu s1.data.toList).bind λa=>(kF k a.2).bind λb=>some (a.1::b.1,b.2)).bind λq=>some ((c,ms++q.1),q.2)):=by
     rw[Hid,HS.out.2.2.2,kF,ht2,hl1]
    clear hR hg HS ht ht2 hs1 hll hl1 hlb
    focus go_upto_region 11 with(fail)
    by_cases hp:pu s1.data.toList=none
    ·have HP:=hid hp;have HNo:Hid (o=none):=by rw[Hid,HO.out,hp];rfl
     clear hp HO HB QG;refine wp_region_held_drew (S:=λ_=>True) (by kernel_rfl) trivial (λhH=>?_);refine ai (λW1 hW=>?_);have T1:=hid (T.out.below (by rw[hW];exact(a0e _ _).drew:Below V.heap.size V W1));clear hW T;refine aQ 0 hH ?_
     try simp only[ax]
     refine aQ 2 hH ?_
     try simp only[ax]
     refine wpAnyH_ready (rs:=[1,3]) (by kernel_rfl) (by simp) (aO rfl (λKK hK=>?_) (aO rfl (λKK hK=>?_) (a0b)))
     ·have x2:=T1.out.a3.c3.2.2
      focus go_simp
      clear x2;clear hH;refine hK.out _ _ trivial λhH=>?_;clear hK KK
      try simp only[ax]
      refine ah 3 rfl (by kernel_rfl) (λKK hK=>?_)
      focus go_simp
      refine(qz T1.out.rd FW.out (HE.out.keep T1.out.g HG.out T1.out.o.1) HG.out HP.out).mono ?_;rintro e w2 ⟨rfl,hg⟩
      focus go_wp2_with fail
      rw[HNo.out];exact⟨rfl,rfl,aK T1.out.g hg⟩
     ·focus go_simp
      refine(qz T1.out.rd FW.out (HE.out.keep T1.out.g HG.out T1.out.o.1) HG.out HP.out).mono ?_;rintro e w2 ⟨rfl,hg⟩
      focus go_wp2_with fail
      rw[HNo.out];exact⟨rfl,rfl,aK T1.out.g hg⟩
    obtain⟨⟨v,r1⟩,hp2⟩:=a0s.1 hp;have HP:=hid hp2;have X8:=hid (Gw hp2);have HMN:Hid (mn<1000000):=by have:=HB.out.1;rw[Hid];omega
    have yE:Hid (o=(kF k r1).bind λq=>some ((c,(ms++[v])++q.1),q.2)):=by
     rw[Hid,HO.out,hp2];show(a0t (a0t (kF k r1) _) _)=_;cases kF k r1 with
     |none=>rfl
     |some q=>show some ((c,ms++v::q.1),q.2)=some ((c,(ms++[v])++q.1),q.2);rw[a0q];rfl
    have FX:Hid (r1.length<s1.size):=by have:=Gv hp2;rw[<-a0c]at this;exact this
    clear hp hp2 HO;refine wp_region_held_drew (S:=λ_=>True) (by kernel_rfl) trivial (λhH=>?_);refine ai (λW1 hW=>?_);have T1:=hid (T.out.below (by rw[hW];exact(a0e _ _).drew:Below V.heap.size V W1));clear hW T;refine aQ 0 hH ?_
    try simp only[ax]
    refine aQ 2 hH ?_
    try simp only[ax]
    refine wpAnyH_ready (rs:=[1,3]) (by kernel_rfl) (by simp) (aO rfl (λKK hK=>?_) (aO rfl (λKK hK=>?_) (a0b)));have x2:=T1.out.a3.c3.2.2
    focus go_simp
    clear x2;clear hH;refine hK.out _ _ trivial λhH=>?_;clear hK KK
    try simp only[ax]
    refine ah 3 rfl (by kernel_rfl) (λKK hK=>?_)
    focus go_simp
    refine(vZ T1.out.rd FW.out HP.out).mono ?_;rintro e w2 ⟨rfl,hR,hg⟩;have T2:=hid (T1.out.gb hR hg);clear hR hg
    focus go_wp2_with fail
    clear hH;refine hK.out _ _ trivial λhH=>?_;clear hK KK
    try simp only[ax]
    refine ah 4 rfl (by kernel_rfl) (λKK hK=>?_)
    focus go_simp
    clear hH;refine hK.out _ _ trivial λhH=>?_;clear hK KK
    try simp only[ax]
    rotate_left
    focus go_simp
    refine(vZ T1.out.rd FW.out HP.out).mono ?_;rintro e w2 ⟨rfl,hR,hg⟩;have T2:=hid (T1.out.gb hR hg);clear hR hg
    focus go_wp2_with fail
    clear hH;refine hK.out _ _ trivial λhH=>?_;clear hK KK
    try simp only[ax]
    refine wpAnyH_ready (rs:=[1,4]) (by kernel_rfl) (by simp) (aO rfl (λKK hK=>?_) (aO rfl (λKK hK=>?_) (a0b)));have x2:=T2.out.a3.c3.2.2
    focus go_simp
    clear x2;clear hH;refine hK.out _ _ trivial λhH=>?_;clear hK KK
    try simp only[ax]
    refine ah 4 rfl (by kernel_rfl) (λKK hK=>?_)
    focus go_simp
    clear hH;refine hK.out _ _ trivial λhH=>?_;clear hK KK
    try simp only[ax]
    rotate_left
    focus go_simp
    clear hH;refine hK.out _ _ trivial λhH=>?_;clear hK KK
    try simp only[ax]
    refine ah 1 rfl (by kernel_rfl) (λKK hK=>?_);have x2:=(T2.out.below (af w2 (.cells #[.int .i64 v.1,.int .i64 v.2] 72))).a3.c3.2.2
    focus go_simp
    clear x2;clear hH;refine hK.out _ _ trivial λhH=>?_;clear hK KK
    try simp only[ax]
    all_goals
     obtain⟨ro,rc,W3,hrun,hM,hg⟩:=Dh T2.out.mm T2.out.o.2.2.2.2 HMN.out X8.out.1 X8.out.2 72 68;refine ah 5 rfl (by kernel_rfl) (λKK hK=>?_);refine Aj rfl _ _ _ _ rfl (by simp[Act.eval]) (by simp[Act.eval]) hrun ?_;clear hH;refine hK.out _ _ trivial λhH=>?_;clear hK KK
     try simp only[ax]
     have M4:=T2.out.push hg hM;clear hrun hM hg;refine aQ 6 hH ?_
     try simp only[ax]
     refine ah 7 rfl (by kernel_rfl) (λKK hK=>?_);have x2:=M4.2.1;have x3:=M4.2.2
     focus go_simp
     clear x2 x3;refine hK.out _ _ trivial (λh2=>?_);clear hK KK hH;clear h2
     try rw[ax.2.1]
     refine wpAnyH_done (by kernel_rfl) ?_ _
     have T3:=hid M4.1;clear M4 T2;clear HP X8 HMN FW;go_wp2_with fail;have h3:(⟨r1.toArray⟩:ByteArray).size=r1.length:=a0c _;go_roundw
     case rel=>exact⟨⟨r1.toArray⟩,ro,mn+1,rc,ms++[v],k,T3.out,by have h1:=FX.out;have h2:=HB.out.1;omega,by have h1:=FX.out;have h2:=HB.out.2.1;omega,yE.out⟩
     case measure=>
      have h4:=T3.out.rd.len;have h5:=QG.out;have h1:=FX.out;have h2:=HB.out.2.2;omega
open Lib (hid)
structure FY [Ol] (w w1:World) (b:Nat) (s:ByteArray) (po:Option Addr) (pn pc:Nat) (p:List Term):Prop where
 rd:Rd w1 b s
 pw:Pw w.heap.size 1000 w1 po pn pc p
 g:w.grownBy w1 (some b)
 o:b<w.heap.size
section
variable {w w1 w2:World} {b:Nat} {s s':ByteArray} {po:Option Addr} {pn pc:Nat} {p:List Term}
theorem Pw.blk [Ol] {B K:Nat} (h:Pw B K w po pn pc p) {g:Nat} (hg:blk po=some g):B<=g/\ g<w.heap.size:=by
 obtain⟨X,h1,_⟩:=h;exact h1.lt g hg
theorem FY.gb [Ol] (h:FY w w1 b s po pn pc p) (hR:Rd w2 b s') (hg:w1.grownBy w2 (some b)):FY w w2 b s' po pn pc p:=by
 have o:=h.o;refine⟨hR,?_,aK h.g hg,o⟩;obtain⟨X,h1,h2⟩:=h.pw;refine⟨X,h1.apart hg ?_,uS h2 h.rd.clean hg⟩;cases e:Go.Proofs.YtmenbpmciblnlaaGreatDoor.blk po with
 |none=>exact .inl rfl
 |some g=>exact .inr λe2=>by have:=(h1.lt g e).1;have:=a0v e2;omega
theorem FY.below [Ol] (h:FY w w1 b s po pn pc p) (hb:Below w1.heap.size w1 w2):FY w w2 b s po pn pc p:=h.gb (h.rd.below hb) (cK _ hb)
theorem FY.push [Ol] (h:FY w w1 b s po pn pc p) {v:Value} {q:List Term} (hp:QH w.heap.size 1000 w1 po pn q v w2):∃ro rc,v=a0g ro (pn+1) rc/\ FY w w2 b s ro (pn+1) rc q:=by
 obtain⟨ro,rc,h1,h2,h3,_⟩:=hp;have o:=h.o;have hs:=h.g.size;have hne:∀k,k<w.heap.size->some k≠Go.Proofs.YtmenbpmciblnlaaGreatDoor.blk po:=λk hk e=>by have:=(h.pw.blk e.symm).1;omega
 exact⟨ro,rc,h1,(h3.block b h.rd.lt (hne b o)).trans h.rd,h2,⟨h3.os.trans h.g.os,h3.tape.trans h.g.tape,h3.output.trans h.g.output,Nat.le_trans hs h3.size,λk hk hk2=>(h3.block k (by omega) (hne k hk)).trans (h.g.block k hk hk2)⟩,o⟩
end
def uD [Ol] (b:Nat) (o:Option (List Term)) (w:World) (e:Ending) (w':World):Prop:=
 match o with
 |none=>uQ b w e w'
 |some p=>if kX (p.map jO)=true then∃po pn pc s,e= .returned (a0g po pn pc)/\ Pw w.heap.size 1000 w' po pn pc p/\ Rd w' b s/\ w.grownBy w' (some b)else uQ b w e w'
theorem uD.yes [Ol] {b:Nat} {p:List Term} {w w':World} {po:Option Addr} {pn pc:Nat} {s:ByteArray} (hm:kX (p.map jO)=true) (h:FY w w' b s po pn pc p):uD b (some p) w (.returned (a0g po pn pc)) w':=by
 unfold uD;simp only;rw[if_pos hm];exact⟨po,pn,pc,s,rfl,h.pw,h.rd,h.g⟩
theorem uD.no [Ol] {b:Nat} {p:List Term} {w w':World} {e:Ending} (hm:¬kX (p.map jO)=true) (h:uQ b w e w'):uD b (some p) w e w':=by
 unfold uD;simp only;rw[if_neg hm];exact h
theorem QI (w:Int×Int):0<(jY w).length:=by simp[jY]
theorem M5 (t:Term):0<(jv t).length:=by
 obtain⟨c,m⟩:=t;cases m with
 |nil=>exact a0r.2 (Ya _)
 |cons w r=>have:=QI w;simp only[jv,a0n];omega
theorem M6 {n:Nat} {l r:List UInt8} {t:Term} (h:jf n l=some (t,r)):r.length<l.length:=by
 have:=congrArg a0k (jE h).1;rw[a0n]at this;have:=M5 t;omega
theorem M7 {n:Nat} {l r:List UInt8} {t:Term} (h:jf n l=some (t,r)) (hl:l.length<=9000):Bd t.1 1000/\∀x∈t.2,gQ x.1/\ gQ x.2:=by
 refine⟨?_,λx hx=>by obtain⟨h1,h2,h3,h4⟩:=(jE h).2.2 x hx;unfold gQ;omega⟩
 have key:∀{d r:List UInt8},mZ l=some (d,r)->Bd (aR d:Int) 1000:=λ{d r} hd=>by
  obtain⟨e1,e2,_⟩:=gU hd;refine Ah (by rw[<-e2];exact zD _) ?_;have:=congrArg a0k e1;rw[a0n]at this;omega
 unfold jf at h;split at h
 ·obtain⟨a,_,h⟩:=a0u.1 h;injection h with h
  injection h with h1 h2
  subst h1;exact(show Bd 1 1 by unfold Bd;decide).mono (by omega)
 ·obtain⟨⟨d,r1⟩,ha,h⟩:=a0u.1 h;split at h
  ·injection h with h
   injection h with h1 h2
   subst h1;exact key ha
  ·split at h
   ·cases h
   ·obtain⟨a,_,h⟩:=a0u.1 h;injection h with h
    injection h with h1 h2
    subst h1;exact key ha
theorem QJ {ng:Bool} {t:Term} {k:Nat} (h:Bd t.1 k):Bd (jI ng t).1 k:=by
 cases ng
 ·exact h
 ·exact h.neg
theorem UB (ng:Bool) (t:Term):(jI ng t).2=t.2:=by cases ng<;>rfl
theorem M8 [Ol] {b N:Nat} {s:ByteArray} {o:Option (List Term)} {w:World} (h:Rd w b s) (hs:s.size<=9000) (hN:s.size<=N) (hE:qW w) (hG:6<b) (ho:o=ni N N s.data.toList):
  Calls Tryz.prog 64 #[.pointer (some ⟨b,0,none⟩)] w (uD b o w):=by
 have HE:=hid hE;have HG:=hid hG
 have Ci:Hid (FY w w b s none 0 0 []/\ 0+s.size<=9000/\ s.size<=N/\ s.size<=N/\ o=(if (0:Nat)=0 then ni N N s.data.toList else iI N N s.data.toList).map ([]++·)):=
  ⟨⟨h,Pw.zero _ _ _,cK _ (a0e _ _),h.lt⟩,by omega,hN,hN,by rw[if_pos rfl,ho];cases ni N N s.data.toList<;>rfl⟩
 clear h ho hE hG hs hN;go_enter Tryz.func64,Tryz.ntmps64;go_wp2_with fail;go_loopw [3] (λv wr=>∃(s:ByteArray) (po:Option Addr) (pn pc:Nat) (p:List Term) (k:Nat),v=a0g po pn pc/\ Hid (FY w wr b s po pn pc p/\ pn+s.size<=9000/\ s.size<=N/\ s.size<=k/\ o=(if pn=0 then ni N k s.data.toList else iI N k s.data.toList).map (p++·))) (λ_ wr=>Di b wr)
 case atStart=>exact⟨s,none,0,0,[],N,rfl,Ci.out⟩
 case round=>
  clear Ci;obtain⟨s1,po,pn,pc,p,k,rfl,HS⟩:=hrel;have QG:Hid (Di b wr=s1.size):=HS.out.1.rd.len;have hc:=HS.out.1.rd.cell;by_cases hx:pn≠0/\ s1.data.toList=[]
  ·have hd:((pn:Int)==0)=false:=by simpa using(show¬(pn:Int)=0 by omega)
   have hq:(s1.toList==[])=true:=lT hx.2;have hq2:(s1.toList !=[])=false:=by simp[bne,hq]
   have HO:Hid (o=some p):=by
    rw[Hid,HS.out.2.2.2.2,if_neg hx.1,hx.2];cases k<;>(show some (p++[])=some p;rw[a0p])
   clear hx QG;go_wp2_with fail;clear hd hq hq2 hc;by_cases hm:kX (p.map jO)=true
   ·refine(oW true HS.out.1.pw.pc.raw (λt ht=>HS.out.1.pw.pc.lens t ht) hm).mono ?_;rintro e V ⟨rfl,hB⟩;have T:=hid (HS.out.1.below hB);have HM:=hid hm;clear hB hm HS;go_wp2_with fail;go_ret;rw[HO.out];exact uD.yes HM.out T.out
   ·refine(oW false HS.out.1.pw.pc.raw (λt ht=>HS.out.1.pw.pc.lens t ht) (Bool.eq_false_iff.2 hm)).mono ?_;rintro e V ⟨rfl,hB⟩;have T:=hid (HS.out.1.below hB);have HM:=hid hm;clear hB hm HS;go_wp2_with fail;refine(jr (b:=b)).mono ?_;rintro e w2 ⟨rfl,hg⟩;go_wp2_with fail;rw[HO.out];exact⟨rfl,uD.no HM.out ⟨rfl,aK T.out.g hg⟩⟩
  by_cases h0:pn=0;have hd:((pn:Int)==0)=true:=by simp[h0]
  focus go_upto_region 3 with(fail)
  focus go_wp2_with fail
  clear hd hc;have hp0:¬(0:Int)<(pn:Int):=by omega
  have hp1:¬0<pn:=by omega
  by_cases ht:takeB 45 s1.data.toList=none;refine(jZ HS.out.1.rd ht).mono ?_;rintro e V ⟨rfl,hR,hg⟩
  obtain⟨ng,s2,k2,WQ,T,HO,HB⟩:∃(ng:Bool) (s2:ByteArray) (k2:Nat),Hid (ng=false)/\ Hid (FY w V b s2 po pn pc p)/\ Hid (o=((jf N s2.data.toList).bind λa=>(iI N k2 a.2).bind λq=>some (jI ng a.1::q)).map (p++·))/\ Hid (pn+s2.size<=9000/\ s2.size<=N/\ s2.size<=k2+1/\ s2.size<=s1.size):=
   ⟨false,s1,k,rfl,HS.out.1.gb hR hg,by rw[Hid,HS.out.2.2.2.2,if_pos h0];unfold ni;rw[ht];rfl,by have:=HS.out.2;exact⟨by omega,by omega,by omega,by omega⟩⟩
  clear hR hg HS ht h0 hx
  focus go_upto_region 6 with(fail)
  clear hp0 hp1
  rotate_left
  obtain⟨l1,ht2⟩:=a0s.1 ht;refine(gy HS.out.1.rd ht2).mono ?_;rintro e V ⟨rfl,hR,hg⟩;have hls:(⟨l1.toArray⟩:ByteArray).size<=s1.size:=by rw[a0c,a0c];exact iH ht2
  obtain⟨ng,s2,k2,WQ,T,HO,HB⟩:∃(ng:Bool) (s2:ByteArray) (k2:Nat),Hid (ng=true)/\ Hid (FY w V b s2 po pn pc p)/\ Hid (o=((jf N s2.data.toList).bind λa=>(iI N k2 a.2).bind λq=>some (jI ng a.1::q)).map (p++·))/\ Hid (pn+s2.size<=9000/\ s2.size<=N/\ s2.size<=k2+1/\ s2.size<=s1.size):=
   ⟨true,⟨l1.toArray⟩,k,rfl,HS.out.1.gb hR hg,by rw[Hid,HS.out.2.2.2.2,if_pos h0];unfold ni;rw[ht2],by have:=HS.out.2;exact⟨by omega,by omega,by omega,by omega⟩⟩
  clear hR hg HS ht ht2 h0 hx hls
  focus go_upto_region 6 with(fail)
  clear hp0 hp1
  rotate_left
  have hs0:s1.data.toList≠[]:=λe=>hx ⟨h0,e⟩
  have hk:∃k',k=k'+1:=⟨k-1,by
   have h1:=HS.out.2.2.2.1;have h2:0<s1.size:=by rw[a0c];exact a0r.2 hs0
   omega⟩
  obtain⟨k,rfl⟩:=hk;have hd:((pn:Int)==0)=false:=by simpa using(show¬(pn:Int)=0 by omega)
  have hq:(s1.toList==[])=false:=kE hs0;have hq2:(s1.toList !=[])=true:=by simp[bne,hq]
  focus go_upto_region 3 with(fail)
  focus go_wp2_with fail
  clear hd hc hq hq2;have hp0:(0:Int)<(pn:Int):=by omega
  have hp1:0<pn:=by omega
  by_cases ht:takeB 45 s1.data.toList=none;refine(jZ HS.out.1.rd ht).mono ?_;rintro e V ⟨rfl,hR,hg⟩;have T:=hid (HS.out.1.gb hR hg);clear hR hg
  focus go_upto_region 4 with(fail)
  focus go_wp2_with fail
  by_cases hu:takeB 43 s1.data.toList=none
  ·refine(jZ T.out.rd hu).mono ?_;rintro e V2 ⟨rfl,hR,hg⟩;have T2:=hid (T.out.gb hR hg);go_wp2_with fail;refine(jr (b:=b)).mono ?_;rintro e w2 ⟨rfl,hg⟩;go_wp2_with fail
   have HO:o=none:=by
    rw[HS.out.2.2.2.2,if_neg h0,iI,if_neg hs0,ht];simp only;rw[hu];rfl
   rw[HO];exact⟨rfl,rfl,aK T2.out.g hg⟩
  obtain⟨l1,hu2⟩:=a0s.1 hu;refine(gy T.out.rd hu2).mono ?_;rintro e V ⟨rfl,hR,hg⟩;have hls:(⟨l1.toArray⟩:ByteArray).size<=s1.size:=by rw[a0c,a0c];exact iH hu2
  obtain⟨ng,s2,k2,WQ,T,HO,HB⟩:∃(ng:Bool) (s2:ByteArray) (k2:Nat),Hid (ng=false)/\ Hid (FY w V b s2 po pn pc p)/\ Hid (o=((jf N s2.data.toList).bind λa=>(iI N k2 a.2).bind λq=>some (jI ng a.1::q)).map (p++·))/\ Hid (pn+s2.size<=9000/\ s2.size<=N/\ s2.size<=k2+1/\ s2.size<=s1.size):=
   ⟨false,⟨l1.toArray⟩,k,rfl,T.out.gb hR hg,by rw[Hid,HS.out.2.2.2.2,if_neg h0,iI,if_neg hs0,ht];simp only;rw[hu2];rfl,by have:=HS.out.2;exact⟨by omega,by omega,by omega,by omega⟩⟩
  clear hR hg HS ht hu hu2 h0 hx hls hs0
  focus go_upto_region 6 with(fail)
  clear hp0 hp1
  rotate_left
  obtain⟨l1,ht2⟩:=a0s.1 ht;refine(gy HS.out.1.rd ht2).mono ?_;rintro e V ⟨rfl,hR,hg⟩;have hls:(⟨l1.toArray⟩:ByteArray).size<=s1.size:=by rw[a0c,a0c];exact iH ht2
  obtain⟨ng,s2,k2,WQ,T,HO,HB⟩:∃(ng:Bool) (s2:ByteArray) (k2:Nat),Hid (ng=true)/\ Hid (FY w V b s2 po pn pc p)/\ Hid (o=((jf N s2.data.toList).bind λa=>(iI N k2 a.2).bind λq=>some (jI ng a.1::q)).map (p++·))/\ Hid (pn+s2.size<=9000/\ s2.size<=N/\ s2.size<=k2+1/\ s2.size<=s1.size):=
   ⟨true,⟨l1.toArray⟩,k,rfl,HS.out.1.gb hR hg,by rw[Hid,HS.out.2.2.2.2,if_neg h0,iI,if_neg hs0,ht2],by have:=HS.out.2;exact⟨by omega,by omega,by omega,by omega⟩⟩
  clear hR hg HS ht ht2 h0 hx hls hs0
  focus go_upto_region 6 with(fail)
  clear hp0 hp1
  rotate_left
  all_goals
   go_wp2_with fail;refine(MZ (o:=jf N s2.data.toList) T.out.rd (by have:=HB.out;omega) HB.out.2.1 (HE.out.keep T.out.g HG.out T.out.o) HG.out rfl).mono ?_;by_cases UC:jf N s2.data.toList=none
   ·rw[UC];rintro e w2 ⟨rfl,hg⟩;go_wp2_with fail;have yE:o=none:=by rw[HO.out,UC];rfl
    rw[yE];exact⟨rfl,rfl,aK T.out.g hg⟩
   obtain⟨⟨t,r⟩,QK⟩:=a0s.1 UC;have hbd:=M7 QK (by rw[<-a0c];have:=HB.out;omega);have hrl:(⟨r.toArray⟩:ByteArray).size<s2.size:=by rw[a0c,a0c];exact M6 QK
   rw[QK];rintro e w6 ⟨ca,cn,cc,mo,mn,mc,rfl,hC,hM,hR,hg⟩;have UD:=hid (a0a (T.out.gb hR hg) (a0a hC hM))
   have yE:Hid (o=((iI N k2 r).map λq=>p++(jI ng t::q))):=by
    rw[Hid,HO.out,QK];show Option.map _ (a0t (iI N k2 r) _)=_;cases iI N k2 r<;>rfl
   have BZ:=hid hbd;have FX:Hid ((⟨r.toArray⟩:ByteArray).size<s2.size):=hrl;obtain⟨s3,hs3⟩:∃s3:ByteArray,s3=⟨r.toArray⟩:=⟨_,rfl⟩;have hr3:r=s3.data.toList:=by rw[hs3]
   rw[<-hs3]at UD FX;rw[hr3]at yE;obtain⟨b5,hb5⟩:∃b,b=w6.heap.size:=⟨_,rfl⟩;clear hC hM hR hg T UC QK hbd hrl HO hs3 hr3;go_upto_region 7 with(fail)
   refine aj (λW7 hW=>?_);have a5:bD W7 b5 [.bool false,a0g ca cn cc,a0g mo mn mc] 70/\ Below w6.heap.size w6 W7:=by rw[hW,hb5];exact jC w6 _ 70
   rw[<-hb5];have H5:=hid a5;have og:Hid (b5=w6.heap.size):=hb5;clear hW a5 hb5
   first
   |have HQ:Hid (ng=true):=WQ
    obtain⟨x0,x1,_⟩:=H5.out.1.c3;go_wp2_with fail;refine(Gx (yD (UD.out.2.1.below H5.out.2) BZ.out.1 (by omega))).mono ?_;rintro e w8 ⟨m8,a8,n8,c8,rfl,hC,hB⟩;have ZO:=H5.out.1.below hB;have y0:=ZO.fz 0;have y1:=ZO.fz 1;obtain⟨z0,z1,_⟩:=ZO.c3;clear x0 x1;go_upto_region 9 with(fail)
    refine aj (λW9 hW=>?_)
    have HF:Hid (bD W9 b5 [.bool m8,a0g a8 n8 c8,a0g mo mn mc] 70/\ Cn W9 m8 a8 n8 c8 (jI ng t).1/\ Ml W9 mo mn mc (jI ng t).2/\ FY w W9 b s3 po pn pc p):=by
     have hb:=uP (Below.steps H5.out.2 hB) (show w6.heap.size<=b5 by rw[og.out];exact Nat.le_refl _) (.bool m8) (a0g a8 n8 c8);rw[hW,HQ.out,UB];exact⟨(ZO.set 0 _).set 1 _,hC.fM (ZO.fT (xE _ _ _ _ _ _ _)) (dS (bV _ _ _ _) (bV _ _ _ _)),UD.out.2.2.below hb,UD.out.1.below hb⟩
    clear hW hC hB ZO y0 y1 z0 z1 UD H5 og
   |have HQ:Hid (ng=false):=WQ
    go_upto_region 9 with(fail)
    refine aj (λW9 hW=>?_)
    obtain⟨m8,a8,n8,c8,HF⟩:∃m8 a8 n8 c8,Hid (bD W9 b5 [.bool m8,a0g a8 n8 c8,a0g mo mn mc] 70/\ Cn W9 m8 a8 n8 c8 (jI ng t).1/\ Ml W9 mo mn mc (jI ng t).2/\ FY w W9 b s3 po pn pc p):=by
     rw[hW,HQ.out];exact⟨_,_,_,_,H5.out.1,UD.out.2.1.below H5.out.2,UD.out.2.2.below H5.out.2,UD.out.1.below H5.out.2⟩
    clear hW UD H5 og
   obtain⟨x0,x1,x2⟩:=HF.out.1.c3;obtain⟨v8,W8,UE,hps⟩:=Gy (t:=jI ng t) HF.out.2.2.2.pw HF.out.2.2.2.g.size (by have:=HB.out;omega) HF.out.2.1 (QJ BZ.out.1) HF.out.2.2.1 70 23;obtain⟨ro,rc,M9,ad4⟩:=HF.out.2.2.2.push hps;subst M9;have HP:=hid ad4;clear hps ad4;go_wp2_with (at_builtin;refine kZ rfl (.tmp 39) (.tmp 41) 23 23 rfl _ _ rfl rfl UE ?_);go_roundw
   case rel=>exact⟨s3,ro,pn+1,rc,p++[jI ng t],k2,rfl,HP.out,by have h1:=FX.out;have h2:=HB.out;omega,by have h1:=FX.out;have h2:=HB.out;omega,by have h1:=FX.out;have h2:=HB.out;omega,by
    rw[if_neg (by omega),yE.out];cases iI N k2 s3.data.toList with
    |none=>rfl
    |some q=>show some (p++jI ng t::q)=some ((p++[jI ng t])++q);rw[a0q];rfl⟩
   case measure=>
    have h4:=HP.out.rd.len;have h5:=QG.out;have h1:=FX.out;have h2:=HB.out;omega
def parsed (l:List UInt8):Option (List Term):=if l=[48]then some []else(ni l.length l.length l).bind λp=>if kX (p.map jO)=true then some p else none
theorem UF (p:List Term):∀t∈p.map jO,Wf t.1.2:=λt ht=>by
 obtain⟨u,_,rfl⟩:=List.mem_map.1 ht;exact eF _
theorem Na (p:List Term):(p.map jO).map mq=p:=by
 rw[List.map_map,show mq ∘ jO=id from funext sZ,List.map_id]
theorem QL {p:List Term} (h:kX (p.map jO)=true):fall p:=by
 have:=(vL (UF p) h).1;rwa[Na]at this
theorem Gf {l:List UInt8} {p:List Term} (h:parsed l=some p):fall p/\ l=vO p:=by
 unfold parsed at h;split at h
 ·rename_i hl;injection h with h
  subst h hl;exact⟨trivial,rfl⟩
 ·obtain⟨q,hq,h⟩:=a0u.1 h;split at h
  ·rename_i hm;injection h with h
   subst h;have hf:=QL hm;exact⟨hf,Ew hq (sS hf)⟩
  ·cases h
open Lib (hid)
abbrev WU (r:Bool):PanicEntry:={ v:= .iface 32 (.int .i64 4),recovered:=r }
theorem Ey {p2 p3:Nat} {x y:Value} {T2 T3:TypeId} {w:World} (h2:bD w p2 [x] T2) (h3:bD w p3 [y] T3) (hne:p2≠p3) (older:List PanicEntry):
  CallsD Tryz.prog 63 #[.pointer (some ⟨p2,0,none⟩),.pointer (some ⟨p3,0,none⟩)] (.panicking (WU false::older)) w λe u' w'=>
   e= .returned (.tuple #[])/\ u'= .panicking (WU true::older)/\ w'=(w.setCell ⟨p2,0,none⟩ (a0g none 0 0)).setCell ⟨p3,0,none⟩ (.int .i64 4):=by
 have c2:=h2.c1;have c3:=(h3.far hne 0 (a0g none 0 0)).c1;have f2:=h2.f1;have f3:=(h3.far hne 0 (a0g none 0 0)).f1;refine callsD_of_wpS Tryz.func63 rfl λc₀ cs hu=>?_
 apply wpS_seq;apply wpS_region;simp[wpOpsS,go_sem,recoverD,hu,Tryz.ntmps63,Exit.thenS];refine wpS_cond (t:=true) (by simp[Act.eval,Array.replicate]) ?_;simp only[if_true];apply wpS_region;simp[wpOpsS,go_sem,c2,c3,f2,f3,bodyPostS,results,Tryz.results63]
theorem Gz (w:World) (p2 p3:Addr):
  CallsD Tryz.prog 63 #[.pointer (some p2),.pointer (some p3)] .returning w λe u' w'=>e= .returned (.tuple #[])/\ u'= .returning/\ w'=w:=by
 refine callsD_of_wpS Tryz.func63 rfl λc₀ cs hu=>?_
 apply wpS_seq;apply wpS_region;simp[wpOpsS,go_sem,recoverD,hu,Tryz.ntmps63,Exit.thenS];refine wpS_cond (t:=false) (by simp[Act.eval,Array.replicate]) ?_;simp only[Bool.false_eq_true,if_false];refine wpS_of_wp (wp_skip ?_);cases c₀
 simp_all [bodyPostS,results,Tryz.results63]
theorem LC {v:Value} (h:isU v=false):shy [v]:=
 ⟨λu hu=>by simp at hu;rw[hu];exact h,λj x y _ hy=>by cases j<;>simp at hy⟩
def ad5 [Ol] (o:Option (List Term)) (w:World) (e:Ending) (w':World):Prop:=
 match o with
 |none=>e= .returned (.tuple #[a0g none 0 0,.int .i64 4])/\ Below w.heap.size w w'
 |some p=>∃po pn pc,e= .returned (.tuple #[a0g po pn pc,.int .i64 0])/\ Pc 1000 w' po pn pc p/\ Below w.heap.size w w'
theorem z8 [Ol] {s:ByteArray} {o:Option (List Term)} {w:World} (hs:s.size<=9000) (hE:qW w) (hG:6<w.heap.size) (ho:o=parsed s.data.toList):
  Calls Tryz.prog 21 #[.string s] w (ad5 o w):=by
 have HE:=hid hE;have HG:=hid hG;have HO:=hid ho;clear hE hG ho;have hmf:∀(fn:Fn) (first cap:Array Value) (w:World),(Instr.makeFunc fn first cap).run Tryz.prog w= .ok (.func fn first cap) w:=λ_ _ _ _=>rfl
 have hsl:¬(65536:Int)<(s.size:Int):=by omega
 go_enter_defers Tryz.func21,Tryz.ntmps21;obtain⟨b2,hb2⟩:∃b,b=w.heap.size:=⟨_,rfl⟩;obtain⟨b3,hb3⟩:∃b,b=b2+1:=⟨_,rfl⟩;go_upto_region 1 with(fail)
 refine aj (λW0 hW=>?_);have h0:bD W0 b2 [a0g none 0 0] 23/\ bD W0 b3 [.int .i64 0] 32/\ Below w.heap.size w W0:=by rw[hW,hb3,hb2];exact ad6 w _ _ _ _
 rw[<-hb2,<-hb3];have hne:b2≠b3:=by omega
 have hbw:w.heap.size<=b2/\ w.heap.size<=b3:=by omega
 have H0:=hid h0;clear hW hb2 hb3 h0;by_cases hz:s.data.toList=[48]
 ·have hq:(s.toList==[48])=true:=lT hz;have c2:=H0.out.1.c1;have c3:=H0.out.2.1.c1;have f2:=H0.out.1.f1;have f3:=H0.out.2.1.f1;go_wp2_with fail;have e2:=bD.c1 ((H0.out.1.set 0 (a0g none 0 0)).far hne.symm 0 (.int .i64 0));have e3:=bD.c1 ((H0.out.2.1.far hne 0 (a0g none 0 0)).set 0 (.int .i64 0));simp[bodyPostD,Leaves,results,Tryz.results21,go_sem,e2,e3];rw[HO.out,parsed,if_pos hz];exact⟨none,0,0,rfl,(Pw.zero 0 1000 _).pc,((H0.out.2.2.setCell hbw.1 _).setCell hbw.2 _)⟩
 ·have hq:(s.toList==[48])=false:=kE hz;have yE:Hid (o=(ni s.data.toList.length s.data.toList.length s.data.toList).bind λp=>if kX (p.map jO)=true then some p else none):=by rw[Hid,HO.out,parsed,if_neg hz]
  clear hz HO;go_wp2_with fail;obtain⟨b4,hb4⟩:∃b,b=W0.heap.size:=⟨_,rfl⟩;rw[<-hb4];have HR:Hid (Rd (W0.alloc (.cells #[.string s] 111)) b4 s):=by rw[hb4];exact bD.new W0 [.string s] _
  have qP:Hid (b2<b4/\ b3<b4/\ w.heap.size<=b4):=⟨by rw[hb4];exact H0.out.1.lt,by rw[hb4];exact H0.out.2.1.lt,by rw[hb4];exact H0.out.2.2.size⟩;have hA:=af W0 (.cells #[.string s] 111)
  have HW:Hid (bD (W0.alloc (.cells #[.string s] 111)) b2 [a0g none 0 0] 23/\ bD (W0.alloc (.cells #[.string s] 111)) b3 [.int .i64 0] 32/\ Below w.heap.size w (W0.alloc (.cells #[.string s] 111))):=
   ⟨H0.out.1.below hA,H0.out.2.1.below hA,Below.steps H0.out.2.2 hA⟩
  have HEV:Hid (qW (W0.alloc (.cells #[.string s] 111))):=by
   obtain⟨te,pe,h⟩:=HE.out;exact⟨te,pe,(a0h (HW.out.2.2.block _ HG.out)).trans h⟩
  have HGB:Hid (6<b4):=by have:=HG.out;have:=qP.out;rw[Hid];omega
  have hsz:s.size<=s.data.toList.length:=Nat.le_of_eq (a0c s);obtain⟨W1,hW1⟩:∃W1,W1=W0.alloc (.cells #[.string s] 111):=⟨_,rfl⟩;rw[<-hW1]at HR HW HEV ⊢;clear hb4 hA hW1 H0 HE HG;obtain⟨q,hq2⟩:∃q,q=ni s.data.toList.length s.data.toList.length s.data.toList:=⟨_,rfl⟩;rw[<-hq2]at yE;refine(M8 HR.out hs hsz HEV.out HGB.out hq2).mono ?_;clear hq2 hsz;intro e w5 hP
  have hbad:uQ b4 W1 e w5/\ o=none∨ ∃p po pn pc s2,o=some p/\ e= .returned (a0g po pn pc)/\ Pw W1.heap.size 1000 w5 po pn pc p/\ Rd w5 b4 s2/\ W1.grownBy w5 (some b4):=by
   cases q with
   |none=>exact .inl ⟨hP,yE.out⟩
   |some p=>
    unfold uD at hP;simp only at hP;by_cases hm:kX (p.map jO)=true
    ·rw[if_pos hm]at hP;obtain⟨po,pn,pc,s2,h1,h2,h3,h4⟩:=hP;exact .inr ⟨p,po,pn,pc,s2,by rw[yE.out];show(if _ then _ else _)=_;rw[if_pos hm],h1,h2,h3,h4⟩
    ·rw[if_neg hm]at hP;exact .inl ⟨hP,by rw[yE.out];show(if _ then _ else _)=_;rw[if_neg hm]⟩
  have hkeep:W1.grownBy w5 (some b4)->bD w5 b2 [a0g none 0 0] 23/\ bD w5 b3 [.int .i64 0] 32/\ Below w.heap.size w w5:=λhg=>
   ⟨HW.out.1.apart hg λe=>by have:=a0v e;have:=qP.out;omega,HW.out.2.1.apart hg λe=>by have:=a0v e;have:=qP.out;omega,HW.out.2.2.trans (iD hg qP.out.2.2 HW.out.2.2.size)⟩
  clear hP yE;rcases hbad with⟨⟨rfl,hg⟩,hn⟩|⟨p,po,pn,pc,s2,hn,rfl,hPw,hRd,hg⟩
  ·have HK:=hid (hkeep hg);have HN:=hid hn;clear hkeep hg hn;go_wp2_with fail;refine leaves_cons (f:=63) (args:= #[.pointer (some ⟨b2,0,none⟩),.pointer (some ⟨b3,0,none⟩)]) (by simp) (by simp[go_sem]) ?_;refine(Ey HK.out.1 HK.out.2.1 hne []).mono ?_;rintro e u' w6 ⟨rfl,rfl,rfl⟩;have e2:=bD.c1 ((HK.out.1.set 0 (a0g none 0 0)).far hne.symm 0 (.int .i64 4));have e3:=bD.c1 ((HK.out.2.1.far hne 0 (a0g none 0 0)).set 0 (.int .i64 4));simp[Leaves,settle,results,Tryz.results21,go_sem,e2,e3];rw[HN.out];exact⟨rfl,(HK.out.2.2.setCell hbw.1 _).setCell hbw.2 _⟩
  ·have HK:=hid (hkeep hg);have HN:=hid hn;have HP:=hid hPw.pc;clear hkeep hg hn hRd hPw;have c2:=HK.out.1.c1;have f2:=HK.out.1.f1;have c3:=HK.out.2.1.c1;have f3:=HK.out.2.1.f1;go_wp2_with fail;refine leaves_cons (f:=63) (args:= #[.pointer (some ⟨b2,0,none⟩),.pointer (some ⟨b3,0,none⟩)]) (by simp) (by simp[go_sem]) ?_;refine(Gz _ _ _).mono ?_;rintro e u' w6 ⟨rfl,rfl,rfl⟩;have e2:=bD.c1 ((HK.out.1.set 0 (a0g po pn pc)).far hne.symm 0 (.int .i64 0));have e3:=bD.c1 ((HK.out.2.1.far hne 0 (a0g po pn pc)).set 0 (.int .i64 0));simp[Leaves,settle,results,Tryz.results21,go_sem,e2,e3];rw[HN.out];have f5:qw w5 (w5.setCell ⟨b2,0,none⟩ (a0g po pn pc)) b2:=⟨⟨_,_,HK.out.1,LC rfl⟩,bV _ _ _ _⟩;have f6:qw (w5.setCell ⟨b2,0,none⟩ (a0g po pn pc)) ((w5.setCell ⟨b2,0,none⟩ (a0g po pn pc)).setCell ⟨b3,0,none⟩ (.int .i64 0)) b3:=⟨⟨_,_,HK.out.2.1.far hne _ _,LC rfl⟩,bV _ _ _ _⟩;exact⟨po,pn,pc,rfl,(HP.out.iN f5).iN f6,(HK.out.2.2.setCell hbw.1 _).setCell hbw.2 _⟩
end Go.Proofs.YtmenbpmciblnlaaGreatDoor
