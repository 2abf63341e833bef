import Derived.Test.YtmenbpmciblnlaaGreatDoorGRd2
import Derived.Test.YtmenbpmciblnlaaGreatDoorGVaT
import Derived.Test.YtmenbpmciblnlaaGreatDoorGRb
set_option maxHeartbeats 0
set_option maxRecDepth 100000
open Go.Value renaming bool->ah6,slice->ah5
open Rat renaming divInt->ah7
namespace Go.Proofs.YtmenbpmciblnlaaGreatDoor
open Lib (hid)
open Go.RowKit
def TZ:List ai:=[(1,[(2,2)])]
def T6:List ai:=[(1,[(1,1),(2,2)])]
def T7:List ai:=[(2,[(1,1)])]
def T8:List ai:=[(1,[(1,1),(2,2)]),(-2,[(1,1)])]
def yl:List ai:=[(1,[(1,1),(2,2)]),(-2,[(1,1)]),(1,[])]
theorem Ji:bD TZ:=gN (by decide+kernel) (by decide+kernel)
theorem Jj:bD T6:=gN (by decide+kernel) (by decide+kernel)
theorem Jk:bD T7:=gN (by decide+kernel) (by decide+kernel)
theorem Jl:bD T8:=gN (by decide+kernel) (by decide+kernel)
theorem yR:bD yl:=gN (by decide+kernel) (by decide+kernel)
theorem XE:(vR ky ky).1=TZ:=by decide+kernel
theorem XF:(vR kx TZ).1=T6:=by decide+kernel
theorem XG:(vR (AH 2) kx).1=T7:=by decide+kernel
theorem XH:T9 T6 T7=T8:=by decide+kernel
theorem XI:eu T8 (AH 1)=yl:=by decide+kernel
theorem Qg:bA yl=2:=by decide+kernel
theorem yS:rJ [120,49,42,120,50,94,50,45,50,42,120,49,43,49]=some yl:=by decide+kernel
theorem L8:rJ [49,42,120,49]=none:=by decide+kernel
theorem Qh:[120,49,42,120,50,94,50,45,50,42,120,49,43,49]=rR yl:=(CB yS).2
def Ua:List Rat:=[ah7 1 2,ah7 3 1]
theorem Ub:rv (rO Ua) yl=ah7 9 2:=by decide+kernel
theorem L9:ah7 9 2=ah7 9 2:=rfl
theorem Ma:Lo 2 yl:=by unfold Lo;decide+kernel
theorem Qi (u:Nat):dK yl u<=999:=Nat.le_trans (Ma.TQ u) (by omega)
theorem Qj:ye yl (yh Ua) (yi Ua) 50:=ye.of (j:=1) (K:=1) Ma ⟨by decide,by unfold Bd;decide+kernel⟩ (by decide+kernel) (by omega) (by omega)
theorem om.below {w w':World} (h:om w) (hw:6<w.heap.size) (hb:Below w.heap.size w w'):om w':=by
 obtain⟨te,pe,h⟩:=h;exact⟨te,pe,(hb.cell hw).trans h⟩
theorem yt {P:Program} {f:FuncId} {args:Array Value} {w:World} {Q:Ending->World->Prop} (h:∀W,W=w->Calls P f args W Q):Calls P f args w Q:=h w rfl
theorem Uc [Ol] {w:World} {m k m2 k2:Bool} {a b a2 b2:Z'} {n c l d n2 c2 l2 d2:Nat} {q r:Rat} {j:Nat} (hx:Rc w m a n c k b l d q j) (hy:Rc w m2 a2 n2 c2 k2 b2 l2 d2 r j) (T:TypeId):
  Pt (w.alloc (.cells #[ah6 m,ah5 a n c,ah6 k,ah5 b l d,ah6 m2,ah5 a2 n2 c2,ah6 k2,ah5 b2 l2 d2] T)) (some ⟨w.heap.size,0,none⟩) 2 2 [q,r] j/\ Below w.heap.size w (w.alloc (.cells #[ah6 m,ah5 a n c,ah6 k,ah5 b l d,ah6 m2,ah5 a2 n2 c2,ah6 k2,ah5 b2 l2 d2] T)):=by
 have h:=gp w [ah6 m,ah5 a n c,ah6 k,ah5 b l d,ah6 m2,ah5 a2 n2 c2,ah6 k2,ah5 b2 l2 d2] T;refine⟨⟨rfl,[[ah6 m,ah5 a n c,ah6 k,ah5 b l d],[ah6 m2,ah5 a2 n2 c2,ah6 k2,ah5 b2 l2 d2]],Gl.eK rfl (by omega) (by omega) (λvs hv=>?_) (λ_=>h.1.lt) (λ_=>Kp.vk (h.1.dD λu hu=>?_)) λt ht j hj=>?_,λi hi=>?_⟩,h.2⟩
 ·simp at hv;rcases hv with rfl|rfl<;>exact⟨rfl,λv hv=>by simp at hv;rcases hv with rfl|rfl|rfl|rfl<;>rfl⟩
 ·simp at hu;rcases hu with rfl|rfl|rfl|rfl|rfl|rfl|rfl|rfl<;>rfl
 ·rw[h.1.cell]
  match t,j,ht,hj with
  |0,0,_,_=>rfl
  |0,1,_,_=>rfl
  |0,2,_,_=>rfl
  |0,3,_,_=>rfl
  |1,0,_,_=>rfl
  |1,1,_,_=>rfl
  |1,2,_,_=>rfl
  |1,3,_,_=>rfl
 ·match i,hi with
  |0,_=>exact⟨_,_,_,_,_,_,_,_,_,_,rfl,(hx.aW h.2).rx⟩
  |1,_=>exact⟨_,_,_,_,_,_,_,_,_,_,rfl,(hy.aW h.2).rx⟩
theorem CC [Ol] (w:World) (ht:vS w) (hE:om w) (hG:6<w.heap.size):Calls Tryz.prog 9 #[] w (cr (ah6 true) w):=by
 have HT:Hid (∀V,Below w.heap.size w V->vS V):=λV hV=>ht.below hV
 have HE:Hid (∀V,Below w.heap.size w V->om V/\ 6<V.heap.size):=λV hV=>⟨hE.below hG hV,Nat.lt_of_lt_of_le hG hV.size⟩
 have ox:=hid (Below.refl w.heap.size w);clear ht hE hG;go_enter Tryz.func9,Tryz.ntmps9;go_wp2_with fail;refine(Mb 1 _ (by unfold fq;omega)).mono ?_;rintro e w1 ⟨vxo,vxn,vxc,rfl,hX,hB⟩;rw[<-kx]at hX;obtain rfl:vxn=1:=hX.len.symm.trans (by decide+kernel);have oh:=hid (Below.ar ox.o hB);have X_1:=hid (hX);clear hB hX ox;go_wp2_with fail;refine(Mb 2 _ (by unfold fq;omega)).mono ?_;rintro e w2 ⟨vyo,vyn,vyc,rfl,hX,hB⟩;rw[<-ky]at hX;obtain rfl:vyn=1:=hX.len.symm.trans (by decide+kernel);have X_2:=hid (X_1.o.below hB);have oy:=hid (Below.ar oh.o hB);have Y_2:=hid (hX);clear hB hX oh X_1;go_wp2_with fail;refine(vT Y_2.o Y_2.o (bG Hw) (bG Hw) (by omega)).mono ?_;rintro e w3 ⟨vao,van,vac,rfl,hX,hB⟩;rw[XE]at hX;obtain rfl:van=1:=hX.len.symm.trans (by decide+kernel);have X_3:=hid (X_2.o.below hB);have Y_3:=hid (Y_2.o.below hB);have tu:=hid (Below.ar oy.o hB);have SN:=hid (hX);clear hB hX oy X_2 Y_2;go_wp2_with fail;refine(vT X_3.o SN.o (bG Hx) (bG Ji) (by omega)).mono ?_;rintro e w4 ⟨vbo,vbn,vbc,rfl,hX,hB⟩;rw[XF]at hX;obtain rfl:vbn=1:=hX.len.symm.trans (by decide+kernel);have P9:=hid (X_3.o.below hB);have Y_4:=hid (Y_3.o.below hB);have A_4:=hid (SN.o.below hB);have vM:=hid (Below.ar tu.o hB);have B_4:=hid (hX);clear hB hX tu X_3 Y_3 SN Y_4;clear A_4;go_wp2_with fail;refine(vU 2 _ (by omega)).mono ?_;rintro e w5 ⟨vso,vsn,vsc,rfl,hX,hB⟩;obtain rfl:vsn=1:=hX.len.symm.trans (by decide+kernel);have Ws:=hid (P9.o.below hB);have Xl:=hid (B_4.o.below hB);have vN:=hid (Below.ar vM.o hB);have Ud:=hid (hX);clear hB hX vM P9 B_4;go_wp2_with fail;refine(vT Ud.o Ws.o (bG (ui 2)) (bG Hx) (by omega)).mono ?_;rintro e w6 ⟨vco,vcn,vcc,rfl,hX,hB⟩;rw[XG]at hX;obtain rfl:vcn=1:=hX.len.symm.trans (by decide+kernel);have X_6:=hid (Ws.o.below hB);have Wt:=hid (Xl.o.below hB);have aa4:=hid (Ud.o.below hB);have tv:=hid (Below.ar vN.o hB);have C_6:=hid (hX);clear hB hX vN Ws Xl Ud aa4;clear X_6;go_wp2_with fail;refine(Mc (K:=20) (Wt.o.mono (by omega)) (C_6.o.mono (by omega)) Jj (bG Jk) (by omega) (by omega)).mono ?_
 rintro e w7 ⟨vdo,vdn,vdc,rfl,hX,hB⟩;rw[XH]at hX;obtain rfl:vdn=2:=hX.len.symm.trans (by decide+kernel);have B_7:=hid (Wt.o.below hB);have C_7:=hid (C_6.o.below hB);have Aw:=hid (Below.ar tv.o hB);have D_7:=hid (hX);clear hB hX tv Wt C_6 B_7;clear C_7;go_wp2_with fail;refine(vU 1 _ (by omega)).mono ?_;rintro e w8 ⟨vto,vtn,vtc,rfl,hX,hB⟩;obtain rfl:vtn=1:=hX.len.symm.trans (by decide+kernel);have D_8:=hid (D_7.o.below hB);have LW:=hid (Below.ar Aw.o hB);have Ue:=hid (hX);clear hB hX Aw D_7;go_wp2_with fail;refine(Md (K:=30) (D_8.o.mono (by omega)) (Ue.o.mono (by omega)) Jl (bG (ui 1)) (by omega) (by omega)).mono ?_;rintro e w9 ⟨veo,ven,vec,rfl,hX,hB⟩;rw[XI]at hX;obtain rfl:ven=3:=hX.len.symm.trans (by decide+kernel);have D_9:=hid (D_8.o.below hB);have aa5:=hid (Ue.o.below hB);have LX:=hid (Below.ar LW.o hB);have E_9:=hid (hX);clear hB hX LW D_8 Ue D_9;clear aa5;go_wp2_with fail;refine(Jm E_9.o (by omega) (by omega)).mono ?_;rintro e PJ ⟨vpo,vpn,vpc,rfl,hX,hB⟩;obtain rfl:vpn=3:=hX.len.symm.trans (by decide+kernel);have aa6:=hid (E_9.o.below hB);have Ct:=hid (Below.ar LX.o hB);have XJ:=hid (hX);clear hB hX LX E_9 aa6;go_wp2_with fail;refine(qL 1 2 _ (by omega) (by omega) (by decide)).mono ?_;rintro e Hs ⟨um,ua,un,uc,uk,ub,ul,ud,rfl,hX,hB⟩;have XK:=hid (XJ.o.below hB);have Cu:=hid (Below.ar Ct.o hB);have XL:=hid (hX);clear hB hX Ct XJ;go_wp2_with fail;refine(vV XL.o (by omega) (by omega)).mono ?_;rintro e LY ⟨am,aa,an,ac,ak,ab,al,ad,rfl,hX,hB⟩;have XM:=hid (XK.o.below hB);have Cv:=hid (Below.ar Cu.o hB);have Ja:=hid (hX);clear hB hX XL Cu XK;go_wp2_with fail;refine(qL 3 1 _ (by omega) (by omega) (by decide)).mono ?_;rintro e XN ⟨um,ua,un,uc,uk,ub,ul,ud,rfl,hX,hB⟩;have XO:=hid (XM.o.below hB);have XP:=hid (Ja.o.aW hB);have SQ:=hid (Below.ar Cv.o hB);have XQ:=hid (hX);clear hB hX Cv XM Ja;go_wp2_with fail;refine(vV XQ.o (by omega) (by omega)).mono ?_;rintro e Hy ⟨bm,ba,bn,bc,bk,bb,bl,bd,rfl,hX,hB⟩;have XR:=hid (XO.o.below hB);have XS:=hid (XP.o.aW hB);have SR:=hid (Below.ar SQ.o hB);have XT:=hid (hX);clear hB hX XQ SQ XO XP;have hpt:=Uc XS.o XT.o 31;go_wp2_with fail
 refine yt (λW0 hW=>?_);rw[<-hW]at hpt;have Uf:=hid (XR.o.below hpt.2);have SS:=hid (Below.ar SR.o hpt.2);have HPT:=hid hpt.1;clear hpt hW XR SR XS XT;refine(vg (K:=40) (J:=50) (j:=2) (Uf.o.mono (by omega)) yR (by omega) (by rw[Qg];decide) Qi (by omega) HPT.o Qj).mono ?_;rintro e w16 ⟨cm,ca,cn,cc,ck,cb,cl,cd,rfl,hX,hB⟩;have hX:Rc _ _ _ _ _ _ _ _ _ (ah7 9 2) 50:=Ub▸hX;have XU:=hid (Uf.o.below hB);have SU:=hid (Below.ar SS.o hB);have XV:=hid (hX);clear hB hX HPT SS Uf;obtain⟨b4,hb4⟩:∃b,b=w16.heap.size:=⟨_,rfl⟩;go_upto_region 4 with(fail)
 refine aj (λW1 hW=>?_);have a4:aS W1 b4 [ah6 cm,ah5 ca cn cc,ah6 ck,ah5 cb cl cd] 31/\ Below w16.heap.size w16 W1:=by rw[hW,hb4];exact gp w16 _ 31
 rw[<-hb4];have XW:=hid (XU.o.below a4.2);have XX:=hid (XV.o.aW a4.2);have Hz:=hid (Below.ar SU.o a4.2);have SV:=hid a4.1;clear hW hb4 a4 XU XV SU;go_wp2_with fail;refine(vW (o:=some yl) (by decide) (HE.o _ Hz.o).1 (HE.o _ Hz.o).2 yS.symm).mono ?_;rintro e w18 ⟨vqo,vqn,vqc,rfl,hX,hB⟩;have XY:=hid (XW.o.below hB);have XZ:=hid (XX.o.aW hB);have SX:=hid (SV.o.below hB);have H6:=hid (Below.ar Hz.o hB);have X7:=hid (hX);clear hB hX Hz XW XX SV;go_wp2_with fail;refine(vW (o:=none) (by decide) (HE.o _ H6.o).1 (HE.o _ H6.o).2 L8.symm).mono ?_;rintro e w19 ⟨rfl,hB⟩;have X8:=hid (XY.o.below hB);have Ya:=hid (XZ.o.aW hB);have Me:=hid (SX.o.below hB);have Yb:=hid (X7.o.below hB);have SY:=hid (Below.ar H6.o hB);clear hB  H6 XY XZ SX X7;go_upto_region 6 with(fail)
 refine wp_region_held_drew (S:=(λw'=>w'.cell? ⟨b4,0,none⟩=some (ah6 cm)/\ w'.cell? ⟨b4,1,none⟩=some (ah5 ca cn cc)/\ w'.cell? ⟨b4,2,none⟩=some (ah6 ck)/\ w'.cell? ⟨b4,3,none⟩=some (ah5 cb cl cd))) (by kernel_rfl) (Me.o.below (Below.refl _ _).drew).q4 (λhH=>?_);refine ah (λV0 hW=>?_);have hD:Below w19.heap.size w19 V0:=by rw[hW];exact(Below.refl _ _).drew
 rw[<-hW]at hH;have P0:=hid (X8.o.below hD);have Z0:=hid (Ya.o.aW hD);have X0:=hid (Me.o.below hD);have G0:=hid (Yb.o.below hD);have B0:=hid (Below.ar SY.o hD);clear hW hD X8 Ya Me Yb SY;refine aT 0 hH ?_
 try simp only[ax]
 refine aT 1 hH ?_
 try simp only[ax]
 refine aT 2 hH ?_
 try simp only[ax]
 refine aT 3 hH ?_
 try simp only[ax]
 refine ag 4 rfl (by kernel_rfl) (λKK hK=>?_);go_simp;refine(qL 9 2 _ (by omega) (by omega) (by decide)).mono ?_;rintro e V1 ⟨dm,da,dn,dc,dk,db,dl,dd,rfl,hX,hB⟩;have P1:=hid (P0.o.below hB);have Z1:=hid (Z0.o.aW hB);have X1:=hid (X0.o.below hB);have G1:=hid (G0.o.below hB);have B1:=hid (Below.ar B0.o hB);have U1:=hid (hX);clear hB hX P0 Z0 X0 G0 B0;go_wp2_with fail;clear hH;refine hK.o _ _ X1.o.q4 λhH=>?_;clear hK KK
 try simp only[ax]
 refine ag 5 rfl (by kernel_rfl) (λKK hK=>?_);go_simp;refine(vV U1.o (by omega) (by omega)).mono ?_;rintro e V2 ⟨em,ea,en,ec,ek,eb,el,ed,rfl,hX,hB⟩;have P2:=hid (P1.o.below hB);have Z2:=hid (Z1.o.aW hB);have X2:=hid (X1.o.below hB);have G2:=hid (G1.o.below hB);have B2:=hid (Below.ar B1.o hB);have V2:=hid (hX);clear hB hX U1 P1 Z1 X1 G1 B1;go_wp2_with fail;clear hH;refine hK.o _ _ X2.o.q4 λhH=>?_;clear hK KK
 try simp only[ax]
 refine ag 6 rfl (by kernel_rfl) (λKK hK=>?_);go_simp;refine(Mf Z2.o V2.o L9).mono ?_;rintro e V3 ⟨rfl,hB⟩;have P3:=hid (P2.o.below hB);have Z3:=hid (Z2.o.aW hB);have X3:=hid (X2.o.below hB);have G3:=hid (G2.o.below hB);have V3:=hid (V2.o.aW hB);have B3:=hid (Below.ar B2.o hB);clear hB  P2 Z2 X2 G2 V2 B2;go_wp2_with fail;clear hH;refine hK.o _ _ X3.o.q4 λhH=>?_;clear hK KK
 try simp only[ax]
 clear V3 Z3;refine aT 7 hH ?_
 try simp only[ax]
 refine aT 8 hH ?_
 try simp only[ax]
 refine aT 9 hH ?_
 try simp only[ax]
 refine ag 10 rfl (by kernel_rfl) (λKK hK=>?_);go_simp;refine(yT (K:=1000) (P3.o.mono (by omega)) yR (HT.o _ B3.o) (by omega) (by omega)).mono ?_;rintro e V4 ⟨rfl,hB⟩;rw[<-Qh];have P4:=hid (P3.o.below hB);have X4:=hid (X3.o.below hB);have G4:=hid (G3.o.below hB);have B4:=hid (Below.ar B3.o hB);clear hB  P3 X3 G3 B3;go_wp2_with fail;clear hH;refine hK.o _ _ X4.o.q4 λhH=>?_;clear hK KK
 try simp only[ax]
 refine aT 11 hH ?_
 try simp only[ax]
 refine aT 12 hH ?_
 try simp only[ax]
 refine aT 13 hH ?_
 try simp only[ax]
 refine ag 14 rfl (by kernel_rfl) (λKK hK=>?_);go_simp;refine(yT (K:=1) (p:=[]) (Pw.zero 0 _ _).pc trivial (HT.o _ B4.o) (by omega) (by omega)).mono ?_;rintro e V5 ⟨rfl,hB⟩;have P5:=hid (P4.o.below hB);have X5:=hid (X4.o.below hB);have G5:=hid (G4.o.below hB);have B5:=hid (Below.ar B4.o hB);clear hB  P4 X4 G4 B4;go_wp2_with fail;clear hH;refine hK.o _ _ X5.o.q4 λhH=>?_;clear hK KK
 try simp only[ax]
 refine aT 15 hH ?_
 try simp only[ax]
 refine aT 16 hH ?_
 try simp only[ax]
 refine aT 17 hH ?_
 try simp only[ax]
 refine aT 18 hH ?_
 try simp only[ax]
 refine aT 19 hH ?_
 try simp only[ax]
 refine aT 20 hH ?_
 try simp only[ax]
 refine aT 21 hH ?_
 try simp only[ax]
 refine aT 22 hH ?_
 try simp only[ax]
 refine aT 23 hH ?_
 try simp only[ax]
 refine ag 24 rfl (by kernel_rfl) (λKK hK=>?_);go_simp;refine(Jn true G5.o.TM P5.o.TM (decide_eq_true rfl)).mono ?_;rintro e V6 ⟨rfl,hB⟩;have P6:=hid (P5.o.below hB);have X6:=hid (X5.o.below hB);have G6:=hid (G5.o.below hB);have B6:=hid (Below.ar B5.o hB);clear hB  P5 X5 G5 B5;go_wp2_with fail;clear hH;refine hK.o _ _ X6.o.q4 λhH=>?_;clear hK KK
 try simp only[ax]
 refine aT 25 hH ?_
 try simp only[ax]
 refine aT 26 hH ?_
 try simp only[ax]
 refine aT 27 hH ?_
 try simp only[ax]
 refine aT 28 hH ?_
 try simp only[ax]
 refine aT 29 hH ?_
 try simp only[ax]
 refine aT 30 hH ?_
 try simp only[ax]
 refine wpAnyH_done (by kernel_rfl) ?_ _
 have HBF:=hid B6.o;go_wp2_with fail;go_ret;exact⟨rfl,HBF.o⟩
def EU (w:World):Prop:=vS w/\ om w/\ 6<w.heap.size
theorem EU.below {w V:World} (h:EU w) (hV:Below w.heap.size w V):EU V:=⟨h.1.below hV,h.2.1.below h.2.2 hV,Nat.lt_of_lt_of_le h.2.2 hV.size⟩
theorem jI [Ol] {w:World} (h:EU w):Calls Tryz.prog 9 #[] w (cr (ah6 true) w):=CC w h.1 h.2.1 h.2.2
end Go.Proofs.YtmenbpmciblnlaaGreatDoor
