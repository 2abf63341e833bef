/-
  The contract of porismlaw10.known (true).
-/
import Derived.Test.YtmenbpmciblnlaaGreatDoorGRd2
import Derived.Test.YtmenbpmciblnlaaGreatDoorGVaT
import Derived.Test.YtmenbpmciblnlaaGreatDoorGRb
import Derived.Test.YtmenbpmciblnlaaGreatDoorGP8
set_option maxHeartbeats 40000000
set_option maxRecDepth 100000
namespace Go.Proofs.YtmenbpmciblnlaaGreatDoor
open Lib (hid)
open Go.RowKit
def TT:List Term:=[(1,[(2,2)])]
def TU:List Term:=[(1,[(1,1),(2,2)])]
def TV:List Term:=[(2,[(1,1)])]
def TW:List Term:=[(1,[(1,1),(2,2)]),(-2,[(1,1)])]
def Ah:List Term:=[(1,[(1,1),(2,2)]),(-2,[(1,1)]),(1,[])]
theorem JD:fall TT:=iR (by decide+kernel) (by decide+kernel)
theorem JE:fall TU:=iR (by decide+kernel) (by decide+kernel)
theorem JF:fall TV:=iR (by decide+kernel) (by decide+kernel)
theorem JG:fall TW:=iR (by decide+kernel) (by decide+kernel)
theorem AA:fall Ah:=iR (by decide+kernel) (by decide+kernel)
theorem Ws:(yg ky ky).1=TT:=by decide+kernel
theorem Wt:(yg kx TT).1=TU:=by decide+kernel
theorem Wu:(yg (Ca 2) kx).1=TV:=by decide+kernel
theorem Wv:TY TU TV=TW:=by decide+kernel
theorem Ww:jK TW (Ca 1)=Ah:=by decide+kernel
theorem Ql:bF Ah=2:=by decide+kernel
theorem AB:parsed [120,49,42,120,50,94,50,45,50,42,120,49,43,49]=some Ah:=by decide+kernel
theorem Mr:parsed [49,42,120,49]=none:=by decide+kernel
theorem Qm:[120,49,42,120,50,94,50,45,50,42,120,49,43,49]=jo Ah:=(jF AB).2
def T9:List Rat:=[Rat.divInt 1 2,Rat.divInt 3 1]
theorem Ua:rv (Ae T9) Ah=Rat.divInt 9 2:=by decide+kernel
theorem Ms:Rat.divInt 9 2=Rat.divInt 9 2:=rfl
theorem Mt:Lo 2 Ah:=by unfold Lo;decide+kernel
theorem Qn (u:Nat):gD Ah u<=999:=Nat.le_trans (Mt.Zp u) (by omega)
theorem Qo:Big Ah (Dy T9) (Dz T9) 50:=Big.of (j:=1) (K:=1) Mt ⟨by decide,by unfold Bd;decide+kernel⟩ (by decide+kernel) (by omega) (by omega)
theorem pO.below {w w':World} (h:pO w) (hw:6<w.heap.size) (hb:Below w.heap.size w w'):pO w':=by
 obtain⟨te,pe,h⟩:=h;exact⟨te,pe,(hb.cell hw).trans h⟩
theorem Ai {P:Program} {f:FuncId} {args:Array Value} {w:World} {Q:Ending->World->Prop} (h:∀W,W=w->Calls P f args W Q):Calls P f args w Q:=h w rfl
theorem Ub [Ol] {w:World} {m k m2 k2:Bool} {a b a2 b2:Option Addr} {n c l d n2 c2 l2 d2:Nat} {q r:Rat} {j:Nat} (hx:Rc w m a n c k b l d q j) (hy:Rc w m2 a2 n2 c2 k2 b2 l2 d2 r j) (T:TypeId):
  Pt (w.alloc (.cells #[.bool m,.slice a n c,.bool k,.slice b l d,.bool m2,.slice a2 n2 c2,.bool k2,.slice b2 l2 d2] T)) (some ⟨w.heap.size,0,none⟩) 2 2 [q,r] j/\ Below w.heap.size w (w.alloc (.cells #[.bool m,.slice a n c,.bool k,.slice b l d,.bool m2,.slice a2 n2 c2,.bool k2,.slice b2 l2 d2] T)):=by
 have h:=nI w [.bool m,.slice a n c,.bool k,.slice b l d,.bool m2,.slice a2 n2 c2,.bool k2,.slice b2 l2 d2] T;refine⟨⟨rfl,[[.bool m,.slice a n c,.bool k,.slice b l d],[.bool m2,.slice a2 n2 c2,.bool k2,.slice b2 l2 d2]],Gl.of_cells rfl (by omega) (by omega) (fun vs hv=>?_) (fun _=>h.1.lt) (fun _=>Kp.AJ (h.1.gY fun u hu=>?_)) fun t ht j hj=>?_,fun i hi=>?_⟩,h.2⟩
 ·simp at hv;rcases hv with rfl|rfl<;>exact⟨rfl,fun v hv=>by simp at hv;rcases hv with rfl|rfl|rfl|rfl<;>rfl⟩
 ·simp at hu;rcases hu with rfl|rfl|rfl|rfl|rfl|rfl|rfl|rfl<;>rfl
 ·rw[h.1.cell]
  match t,j,ht,hj with
  |0,0,_,_=>rfl
  |0,1,_,_=>rfl
  |0,2,_,_=>rfl
  |0,3,_,_=>rfl
  |1,0,_,_=>rfl
  |1,1,_,_=>rfl
  |1,2,_,_=>rfl
  |1,3,_,_=>rfl
 ·match i,hi with
  |0,_=>exact⟨_,_,_,_,_,_,_,_,_,_,rfl,(hx.below' h.2).rx⟩
  |1,_=>exact⟨_,_,_,_,_,_,_,_,_,_,rfl,(hy.below' h.2).rx⟩
theorem DT [Ol] (w:World) (ht:yh w) (hE:pO w) (hG:6<w.heap.size):Calls Tryz.prog 9 #[] w (dI (.bool true) w):=by
 have HT:Hid (∀V,Below w.heap.size w V->yh V):=fun V hV=>ht.below hV
 have HE:Hid (∀V,Below w.heap.size w V->pO V/\ 6<V.heap.size):=fun V hV=>⟨hE.below hG hV,Nat.lt_of_lt_of_le hG hV.size⟩
 have Wx:=hid (Below.refl w.heap.size w);clear ht hE hG;go_enter Tryz.func9,Tryz.ntmps9;go_wp2_with fail;refine(Mv 1 _ (by unfold jL;omega)).mono ?_;rintro e w1 ⟨vxo,vxn,vxc,rfl,hX,hB⟩;rw[<-kx]at hX;obtain rfl:vxn=1:=hX.len.symm.trans (by decide+kernel);have Wy:=hid (Below.steps Wx.out hB);have X_1:=hid (hX);clear hB hX Wx;go_wp2_with fail;refine(Mv 2 _ (by unfold jL;omega)).mono ?_;rintro e w2 ⟨vyo,vyn,vyc,rfl,hX,hB⟩;rw[<-ky]at hX;obtain rfl:vyn=1:=hX.len.symm.trans (by decide+kernel);have X_2:=hid (X_1.out.below hB);have Wz:=hid (Below.steps Wy.out hB);have YR:=hid (hX);clear hB hX Wy X_1;go_wp2_with fail;refine(yj YR.out YR.out (eF IJ) (eF IJ) (by omega)).mono ?_;rintro e w3 ⟨vao,van,vac,rfl,hX,hB⟩;rw[Ws]at hX;obtain rfl:van=1:=hX.len.symm.trans (by decide+kernel);have Zq:=hid (X_2.out.below hB);have Y_3:=hid (YR.out.below hB);have WA:=hid (Below.steps Wz.out hB);have Zr:=hid (hX);clear hB hX Wz X_2 YR;go_wp2_with fail;refine(yj Zq.out Zr.out (eF IK) (eF JD) (by omega)).mono ?_;rintro e w4 ⟨vbo,vbn,vbc,rfl,hX,hB⟩;rw[Wt]at hX;obtain rfl:vbn=1:=hX.len.symm.trans (by decide+kernel);have X_4:=hid (Zq.out.below hB);have Y_4:=hid (Y_3.out.below hB);have A_4:=hid (Zr.out.below hB);have WB:=hid (Below.steps WA.out hB);have B_4:=hid (hX);clear hB hX WA Zq Y_3 Zr;clear Y_4;clear A_4;go_wp2_with fail;refine(yo 2 _ (by omega)).mono ?_;rintro e w5 ⟨vso,vsn,vsc,rfl,hX,hB⟩;obtain rfl:vsn=1:=hX.len.symm.trans (by decide+kernel);have Zt:=hid (X_4.out.below hB);have B_5:=hid (B_4.out.below hB);have WC:=hid (Below.steps WB.out hB);have Uc:=hid (hX);clear hB hX WB X_4 B_4;go_wp2_with fail;refine(yj Uc.out Zt.out (eF (wD 2)) (eF IK) (by omega)).mono ?_;rintro e w6 ⟨vco,vcn,vcc,rfl,hX,hB⟩;rw[Wu]at hX;obtain rfl:vcn=1:=hX.len.symm.trans (by decide+kernel);have X_6:=hid (Zt.out.below hB);have Zu:=hid (B_5.out.below hB);have Zv:=hid (Uc.out.below hB);have WE:=hid (Below.steps WC.out hB);have Zw:=hid (hX);clear hB hX WC Zt B_5 Uc;clear Zv;clear X_6;go_wp2_with fail;refine(Mw (K:=20) (Zu.out.mono (by omega)) (Zw.out.mono (by omega)) JE (eF JF) (by omega) (by omega)).mono ?_
 rintro e w7 ⟨vdo,vdn,vdc,rfl,hX,hB⟩;rw[Wv]at hX;obtain rfl:vdn=2:=hX.len.symm.trans (by decide+kernel);have B_7:=hid (Zu.out.below hB);have C_7:=hid (Zw.out.below hB);have WG:=hid (Below.steps WE.out hB);have D_7:=hid (hX);clear hB hX WE Zu Zw;clear B_7;clear C_7;go_wp2_with fail;refine(yo 1 _ (by omega)).mono ?_;rintro e w8 ⟨vto,vtn,vtc,rfl,hX,hB⟩;obtain rfl:vtn=1:=hX.len.symm.trans (by decide+kernel);have Zy:=hid (D_7.out.below hB);have WH:=hid (Below.steps WG.out hB);have Ud:=hid (hX);clear hB hX WG D_7;go_wp2_with fail;refine(Mx (K:=30) (Zy.out.mono (by omega)) (Ud.out.mono (by omega)) JG (eF (wD 1)) (by omega) (by omega)).mono ?_;rintro e w9 ⟨veo,ven,vec,rfl,hX,hB⟩;rw[Ww]at hX;obtain rfl:ven=3:=hX.len.symm.trans (by decide+kernel);have D_9:=hid (Zy.out.below hB);have Zz:=hid (Ud.out.below hB);have WI:=hid (Below.steps WH.out hB);have ZA:=hid (hX);clear hB hX WH Zy Ud;clear D_9;clear Zz;go_wp2_with fail;refine(JH ZA.out (by omega) (by omega)).mono ?_;rintro e Ue ⟨vpo,vpn,vpc,rfl,hX,hB⟩;obtain rfl:vpn=3:=hX.len.symm.trans (by decide+kernel);have ZB:=hid (ZA.out.below hB);have SL:=hid (Below.steps WI.out hB);have WJ:=hid (hX);clear hB hX WI ZA;clear ZB;go_wp2_with fail;refine(sD 1 2 _ (by omega) (by omega) (by decide)).mono ?_;rintro e VL ⟨um,ua,un,uc,uk,ub,ul,ud,rfl,hX,hB⟩;have WK:=hid (WJ.out.below hB);have SN:=hid (Below.steps SL.out hB);have WL:=hid (hX);clear hB hX SL WJ;go_wp2_with fail;refine(yt WL.out (by omega) (by omega)).mono ?_;rintro e VN ⟨am,aa,an,ac,ak,ab,al,ad,rfl,hX,hB⟩;have WM:=hid (WK.out.below hB);have SQ:=hid (Below.steps SN.out hB);have WN:=hid (hX);clear hB hX WL SN WK;go_wp2_with fail;refine(sD 3 1 _ (by omega) (by omega) (by decide)).mono ?_;rintro e WO ⟨um,ua,un,uc,uk,ub,ul,ud,rfl,hX,hB⟩;have WQ:=hid (WM.out.below hB);have WR:=hid (WN.out.below' hB);have SS:=hid (Below.steps SQ.out hB);have WS:=hid (hX);clear hB hX SQ WM WN;go_wp2_with fail;refine(yt WS.out (by omega) (by omega)).mono ?_;rintro e IL ⟨bm,ba,bn,bc,bk,bb,bl,bd,rfl,hX,hB⟩;have WT:=hid (WQ.out.below hB);have WU:=hid (WR.out.below' hB);have SV:=hid (Below.steps SS.out hB);have WV:=hid (hX);clear hB hX WS SS WQ WR;have hpt:=Ub WU.out WV.out 31;go_wp2_with fail
 refine Ai (fun W0 hW=>?_);rw[<-hW]at hpt;have Uf:=hid (WT.out.below hpt.2);have SX:=hid (Below.steps SV.out hpt.2);have HPT:=hid hpt.1;clear hpt hW WT SV WU WV;refine(Qq (K:=40) (J:=50) (j:=2) (Uf.out.mono (by omega)) AA (by omega) (by rw[Ql];decide) Qn (by omega) HPT.out Qo).mono ?_;rintro e w16 ⟨cm,ca,cn,cc,ck,cb,cl,cd,rfl,hX,hB⟩;have hX:Rc _ _ _ _ _ _ _ _ _ (Rat.divInt 9 2) 50:=Ua▸hX;have WW:=hid (Uf.out.below hB);have SY:=hid (Below.steps SX.out hB);have WX:=hid (hX);clear hB hX HPT SX Uf;obtain⟨b4,hb4⟩:∃b,b=w16.heap.size:=⟨_,rfl⟩;go_upto_region 4 with(fail)
 refine aj (fun W1 hW=>?_);have a4:bD W1 b4 [.bool cm,.slice ca cn cc,.bool ck,.slice cb cl cd] 31/\ Below w16.heap.size w16 W1:=by rw[hW,hb4];exact nI w16 _ 31
 rw[<-hb4];have WY:=hid (WW.out.below a4.2);have WZ:=hid (WX.out.below' a4.2);have IQ:=hid (Below.steps SY.out a4.2);have Ta:=hid a4.1;clear hW hb4 a4 WW WX SY;go_wp2_with fail;refine(jD (o:=some Ah) (by decide) (HE.out _ IQ.out).1 (HE.out _ IQ.out).2 AB.symm).mono ?_;rintro e w18 ⟨vqo,vqn,vqc,rfl,hX,hB⟩;have Xa:=hid (WY.out.below hB);have Xb:=hid (WZ.out.below' hB);have Tc:=hid (Ta.out.below hB);have IU:=hid (Below.steps IQ.out hB);have Xc:=hid (hX);clear hB hX IQ WY WZ Ta;go_wp2_with fail;refine(jD (o:=none) (by decide) (HE.out _ IU.out).1 (HE.out _ IU.out).2 Mr.symm).mono ?_;rintro e ZC ⟨rfl,hB⟩;have Xd:=hid (Xa.out.below hB);have Xe:=hid (Xb.out.below' hB);have MB:=hid (Tc.out.below hB);have Xf:=hid (Xc.out.below hB);have Td:=hid (Below.steps IU.out hB);clear hB  IU Xa Xb Tc Xc;go_upto_region 6 with(fail)
 refine wp_region_held_drew (S:=(fun w'=>w'.cell? ⟨b4,0,none⟩=some (.bool cm)/\ w'.cell? ⟨b4,1,none⟩=some (.slice ca cn cc)/\ w'.cell? ⟨b4,2,none⟩=some (.bool ck)/\ w'.cell? ⟨b4,3,none⟩=some (.slice cb cl cd))) (by kernel_rfl) (MB.out.below (Below.refl _ _).drew).q4 (fun hH=>?_);refine ai (fun V0 hW=>?_);have hD:Below ZC.heap.size ZC V0:=by rw[hW];exact(Below.refl _ _).drew
 rw[<-hW]at hH;have P0:=hid (Xd.out.below hD);have Z0:=hid (Xe.out.below' hD);have X0:=hid (MB.out.below hD);have G0:=hid (Xf.out.below hD);have B0:=hid (Below.steps Td.out hD);clear hW hD Xd Xe MB Xf Td;refine bC 0 hH ?_
 try simp only[aI]
 refine bC 1 hH ?_
 try simp only[aI]
 refine bC 2 hH ?_
 try simp only[aI]
 refine bC 3 hH ?_
 try simp only[aI]
 refine ah 4 rfl (by kernel_rfl) (fun KK hK=>?_);go_simp;refine(sD 9 2 _ (by omega) (by omega) (by decide)).mono ?_;rintro e V1 ⟨dm,da,dn,dc,dk,db,dl,dd,rfl,hX,hB⟩;have P1:=hid (P0.out.below hB);have Z1:=hid (Z0.out.below' hB);have X1:=hid (X0.out.below hB);have G1:=hid (G0.out.below hB);have B1:=hid (Below.steps B0.out hB);have U1:=hid (hX);clear hB hX P0 Z0 X0 G0 B0;go_wp2_with fail;clear hH;refine hK.out _ _ X1.out.q4 fun hH=>?_;clear hK KK
 try simp only[aI]
 refine ah 5 rfl (by kernel_rfl) (fun KK hK=>?_);go_simp;refine(yt U1.out (by omega) (by omega)).mono ?_;rintro e V2 ⟨em,ea,en,ec,ek,eb,el,ed,rfl,hX,hB⟩;have P2:=hid (P1.out.below hB);have Z2:=hid (Z1.out.below' hB);have X2:=hid (X1.out.below hB);have G2:=hid (G1.out.below hB);have B2:=hid (Below.steps B1.out hB);have V2:=hid (hX);clear hB hX U1 P1 Z1 X1 G1 B1;go_wp2_with fail;clear hH;refine hK.out _ _ X2.out.q4 fun hH=>?_;clear hK KK
 try simp only[aI]
 refine ah 6 rfl (by kernel_rfl) (fun KK hK=>?_);go_simp;refine(MC Z2.out V2.out Ms).mono ?_;rintro e V3 ⟨rfl,hB⟩;have P3:=hid (P2.out.below hB);have Z3:=hid (Z2.out.below' hB);have X3:=hid (X2.out.below hB);have G3:=hid (G2.out.below hB);have V3:=hid (V2.out.below' hB);have B3:=hid (Below.steps B2.out hB);clear hB  P2 Z2 X2 G2 V2 B2;go_wp2_with fail;clear hH;refine hK.out _ _ X3.out.q4 fun hH=>?_;clear hK KK
 try simp only[aI]
 clear V3;clear Z3;refine bC 7 hH ?_
 try simp only[aI]
 refine bC 8 hH ?_
 try simp only[aI]
 refine bC 9 hH ?_
 try simp only[aI]
 refine ah 10 rfl (by kernel_rfl) (fun KK hK=>?_);go_simp;refine(vE (K:=1000) (P3.out.mono (by omega)) AA (HT.out _ B3.out) (by omega) (by omega)).mono ?_;rintro e V4 ⟨rfl,hB⟩;rw[<-Qm];have P4:=hid (P3.out.below hB);have X4:=hid (X3.out.below hB);have G4:=hid (G3.out.below hB);have B4:=hid (Below.steps B3.out hB);clear hB  P3 X3 G3 B3;go_wp2_with fail;clear hH;refine hK.out _ _ X4.out.q4 fun hH=>?_;clear hK KK
 try simp only[aI]
 refine bC 11 hH ?_
 try simp only[aI]
 refine bC 12 hH ?_
 try simp only[aI]
 refine bC 13 hH ?_
 try simp only[aI]
 refine ah 14 rfl (by kernel_rfl) (fun KK hK=>?_);go_simp;refine(vE (K:=1) (p:=[]) (Pw.zero 0 _ _).pc trivial (HT.out _ B4.out) (by omega) (by omega)).mono ?_;rintro e V5 ⟨rfl,hB⟩;have P5:=hid (P4.out.below hB);have X5:=hid (X4.out.below hB);have G5:=hid (G4.out.below hB);have B5:=hid (Below.steps B4.out hB);clear hB  P4 X4 G4 B4;go_wp2_with fail;clear hH;refine hK.out _ _ X5.out.q4 fun hH=>?_;clear hK KK
 try simp only[aI]
 refine bC 15 hH ?_
 try simp only[aI]
 refine bC 16 hH ?_
 try simp only[aI]
 refine bC 17 hH ?_
 try simp only[aI]
 refine bC 18 hH ?_
 try simp only[aI]
 refine bC 19 hH ?_
 try simp only[aI]
 refine bC 20 hH ?_
 try simp only[aI]
 refine bC 21 hH ?_
 try simp only[aI]
 refine bC 22 hH ?_
 try simp only[aI]
 refine bC 23 hH ?_
 try simp only[aI]
 refine ah 24 rfl (by kernel_rfl) (fun KK hK=>?_);go_simp;refine(JI true G5.out.raw P5.out.raw (decide_eq_true rfl)).mono ?_;rintro e V6 ⟨rfl,hB⟩;have P6:=hid (P5.out.below hB);have X6:=hid (X5.out.below hB);have G6:=hid (G5.out.below hB);have B6:=hid (Below.steps B5.out hB);clear hB  P5 X5 G5 B5;go_wp2_with fail;clear hH;refine hK.out _ _ X6.out.q4 fun hH=>?_;clear hK KK
 try simp only[aI]
 refine bC 25 hH ?_
 try simp only[aI]
 refine bC 26 hH ?_
 try simp only[aI]
 refine bC 27 hH ?_
 try simp only[aI]
 refine bC 28 hH ?_
 try simp only[aI]
 refine bC 29 hH ?_
 try simp only[aI]
 refine bC 30 hH ?_
 try simp only[aI]
 refine wpAnyH_done (by kernel_rfl) ?_ _
 have HBF:=hid B6.out;go_wp2_with fail;go_ret;exact⟨rfl,HBF.out⟩
def Env (w:World):Prop:=yh w/\ pO w/\ 6<w.heap.size
theorem Env.below {w V:World} (h:Env w) (hV:Below w.heap.size w V):Env V:=⟨h.1.below hV,h.2.1.below h.2.2 hV,Nat.lt_of_lt_of_le h.2.2 hV.size⟩
theorem pU [Ol] {w:World} (h:Env w):Calls Tryz.prog 9 #[] w (dI (.bool true) w):=DT w h.1 h.2.1 h.2.2
end Go.Proofs.YtmenbpmciblnlaaGreatDoor
