/-
  The contract of porismlaw10.known (true).
-/
import Derived.Test.YtmenbpmciblnlaaGreatDoorGRd2
import Derived.Test.YtmenbpmciblnlaaGreatDoorGVaT
import Derived.Test.YtmenbpmciblnlaaGreatDoorGRb
set_option maxHeartbeats 0
set_option maxRecDepth 100000
open Go.Value renaming slice->a0a
open Rat renaming divInt->a0b
namespace Go.Proofs.YtmenbpmciblnlaaGreatDoor
open Lib (hid)
open Go.RowKit
def XC:List Term:=[(1,[(2,2)])]
def XD:List Term:=[(1,[(1,1),(2,2)])]
def XE:List Term:=[(2,[(1,1)])]
def XF:List Term:=[(1,[(1,1),(2,2)]),(-2,[(1,1)])]
def Ck:List Term:=[(1,[(1,1),(2,2)]),(-2,[(1,1)]),(1,[])]
theorem ML:fall XC:=jo (by decide+kernel) (by decide+kernel)
theorem MN:fall XD:=jo (by decide+kernel) (by decide+kernel)
theorem MO:fall XE:=jo (by decide+kernel) (by decide+kernel)
theorem MP:fall XF:=jo (by decide+kernel) (by decide+kernel)
theorem CZ:fall Ck:=jo (by decide+kernel) (by decide+kernel)
theorem aa0:(zW ky ky).1=XC:=by decide+kernel
theorem aa1:(zW kx XC).1=XD:=by decide+kernel
theorem aa2:(zW (Es 2) kx).1=XE:=by decide+kernel
theorem aa3:XG XD XE=XF:=by decide+kernel
theorem aa4:jk XF (Es 1)=Ck:=by decide+kernel
theorem Ul:bC Ck=2:=by decide+kernel
theorem C8:parsed [120,49,42,120,50,94,50,45,50,42,120,49,43,49]=some Ck:=by decide+kernel
theorem P8:parsed [49,42,120,49]=none:=by decide+kernel
theorem Um:[120,49,42,120,50,94,50,45,50,42,120,49,43,49]=vO Ck:=(Gf C8).2
def XH:List Rat:=[a0b 1 2,a0b 3 1]
theorem XI:rv (kM XH) Ck=a0b 9 2:=by decide+kernel
theorem P9:a0b 9 2=a0b 9 2:=rfl
theorem Qa:Lo 2 Ck:=by unfold Lo;decide+kernel
theorem Un (u:Nat):fD Ck u<=999:=Nat.le_trans (Qa.deg u) (by omega)
theorem Uo:Big Ck (Cf XH) (Cg XH) 50:=Big.of (j:=1) (K:=1) Qa ⟨by decide,by unfold Bd;decide+kernel⟩ (by decide+kernel) (by omega) (by omega)
theorem qW.below {w w':World} (h:qW w) (hw:6<w.heap.size) (hb:Below w.heap.size w w'):qW w':=by
 obtain⟨te,pe,h⟩:=h;exact⟨te,pe,(hb.cell hw).trans h⟩
theorem Cm {P:Program} {f:FuncId} {args:Array Value} {w:World} {Q:Ending->World->Prop} (h:∀W,W=w->Calls P f args W Q):Calls P f args w Q:=h w rfl
theorem XJ [Ol] {w:World} {m k m2 k2:Bool} {a b a2 b2:Option Addr} {n c l d n2 c2 l2 d2:Nat} {q r:Rat} {j:Nat} (hx:Rc w m a n c k b l d q j) (hy:Rc w m2 a2 n2 c2 k2 b2 l2 d2 r j) (T:TypeId):
  Pt (w.alloc (.cells #[.bool m,a0a a n c,.bool k,a0a b l d,.bool m2,a0a a2 n2 c2,.bool k2,a0a b2 l2 d2] T)) (some ⟨w.heap.size,0,none⟩) 2 2 [q,r] j/\ Below w.heap.size w (w.alloc (.cells #[.bool m,a0a a n c,.bool k,a0a b l d,.bool m2,a0a a2 n2 c2,.bool k2,a0a b2 l2 d2] T)):=by
 have h:=jC w [.bool m,a0a a n c,.bool k,a0a b l d,.bool m2,a0a a2 n2 c2,.bool k2,a0a b2 l2 d2] T;refine⟨⟨rfl,[[.bool m,a0a a n c,.bool k,a0a b l d],[.bool m2,a0a a2 n2 c2,.bool k2,a0a b2 l2 d2]],Gl.of_cells rfl (by omega) (by omega) (λvs hv=>?_) (λ_=>h.1.lt) (λ_=>Kp.C9 (h.1.fT λu hu=>?_)) λt ht j hj=>?_,λi hi=>?_⟩,h.2⟩
 ·simp at hv;rcases hv with rfl|rfl<;>exact⟨rfl,λv hv=>by simp at hv;rcases hv with rfl|rfl|rfl|rfl<;>rfl⟩
 ·simp at hu;rcases hu with rfl|rfl|rfl|rfl|rfl|rfl|rfl|rfl<;>rfl
 ·rw[h.1.cell]
  match t,j,ht,hj with
  |0,0,_,_=>rfl
  |0,1,_,_=>rfl
  |0,2,_,_=>rfl
  |0,3,_,_=>rfl
  |1,0,_,_=>rfl
  |1,1,_,_=>rfl
  |1,2,_,_=>rfl
  |1,3,_,_=>rfl
 ·match i,hi with
  |0,_=>exact⟨_,_,_,_,_,_,_,_,_,_,rfl,(hx.below' h.2).rx⟩
  |1,_=>exact⟨_,_,_,_,_,_,_,_,_,_,rfl,(hy.below' h.2).rx⟩
theorem Gg [Ol] (w:World) (ht:zX w) (hE:qW w) (hG:6<w.heap.size):Calls Tryz.prog 9 #[] w (cu (.bool true) w):=by
 have HT:Hid (∀V,Below w.heap.size w V->zX V):=λV hV=>ht.below hV
 have HE:Hid (∀V,Below w.heap.size w V->qW V/\ 6<V.heap.size):=λV hV=>⟨hE.below hG hV,Nat.lt_of_lt_of_le hG hV.size⟩
 have vJ:=hid (Below.refl w.heap.size w);clear ht hE hG;go_enter Tryz.func9,Tryz.ntmps9;go_wp2_with fail;refine(Qb 1 _ (by unfold gQ;omega)).mono ?_;rintro e w1 ⟨vxo,vxn,vxc,rfl,hX,hB⟩;rw[<-kx]at hX;obtain rfl:vxn=1:=hX.len.symm.trans (by decide+kernel);have uK:=hid (Below.steps vJ.out hB);have X_1:=hid (hX);clear hB hX vJ;go_wp2_with fail;refine(Qb 2 _ (by unfold gQ;omega)).mono ?_;rintro e w2 ⟨vyo,vyn,vyc,rfl,hX,hB⟩;rw[<-ky]at hX;obtain rfl:vyn=1:=hX.len.symm.trans (by decide+kernel);have X_2:=hid (X_1.out.below hB);have xh:=hid (Below.steps uK.out hB);have Y_2:=hid (hX);clear hB hX uK X_1;go_wp2_with fail;refine(zY Y_2.out Y_2.out (bU Lh) (bU Lh) (by omega)).mono ?_;rintro e w3 ⟨vao,van,vac,rfl,hX,hB⟩;rw[aa0]at hX;obtain rfl:van=1:=hX.len.symm.trans (by decide+kernel);have TS:=hid (X_2.out.below hB);have Y_3:=hid (Y_2.out.below hB);have zS:=hid (Below.steps xh.out hB);have ZE:=hid (hX);clear hB hX xh X_2 Y_2;go_wp2_with fail;refine(zY TS.out ZE.out (bU Li) (bU ML) (by omega)).mono ?_;rintro e w4 ⟨vbo,vbn,vbc,rfl,hX,hB⟩;rw[aa1]at hX;obtain rfl:vbn=1:=hX.len.symm.trans (by decide+kernel);have X_4:=hid (TS.out.below hB);have Y_4:=hid (Y_3.out.below hB);have A_4:=hid (ZE.out.below hB);have zT:=hid (Below.steps zS.out hB);have B_4:=hid (hX);clear hB hX zS TS Y_3 ZE;clear Y_4;clear A_4;go_wp2_with fail;refine(zZ 2 _ (by omega)).mono ?_;rintro e w5 ⟨vso,vsn,vsc,rfl,hX,hB⟩;obtain rfl:vsn=1:=hX.len.symm.trans (by decide+kernel);have ZF:=hid (X_4.out.below hB);have B_5:=hid (B_4.out.below hB);have yY:=hid (Below.steps zT.out hB);have XK:=hid (hX);clear hB hX zT X_4 B_4;go_wp2_with fail;refine(zY XK.out ZF.out (bU (yu 2)) (bU Li) (by omega)).mono ?_;rintro e w6 ⟨vco,vcn,vcc,rfl,hX,hB⟩;rw[aa2]at hX;obtain rfl:vcn=1:=hX.len.symm.trans (by decide+kernel);have X_6:=hid (ZF.out.below hB);have B_6:=hid (B_5.out.below hB);have ah8:=hid (XK.out.below hB);have Ce:=hid (Below.steps yY.out hB);have C_6:=hid (hX);clear hB hX yY ZF B_5 XK;clear ah8;clear X_6;go_wp2_with fail;refine(Qc (K:=20) (B_6.out.mono (by omega)) (C_6.out.mono (by omega)) MN (bU MO) (by omega) (by omega)).mono ?_
 rintro e w7 ⟨vdo,vdn,vdc,rfl,hX,hB⟩;rw[aa3]at hX;obtain rfl:vdn=2:=hX.len.symm.trans (by decide+kernel);have B_7:=hid (B_6.out.below hB);have C_7:=hid (C_6.out.below hB);have Ei:=hid (Below.steps Ce.out hB);have D_7:=hid (hX);clear hB hX Ce B_6 C_6;clear B_7;clear C_7;go_wp2_with fail;refine(zZ 1 _ (by omega)).mono ?_;rintro e w8 ⟨vto,vtn,vtc,rfl,hX,hB⟩;obtain rfl:vtn=1:=hX.len.symm.trans (by decide+kernel);have D_8:=hid (D_7.out.below hB);have Jr:=hid (Below.steps Ei.out hB);have XL:=hid (hX);clear hB hX Ei D_7;go_wp2_with fail;refine(Qd (K:=30) (D_8.out.mono (by omega)) (XL.out.mono (by omega)) MP (bU (yu 1)) (by omega) (by omega)).mono ?_;rintro e w9 ⟨veo,ven,vec,rfl,hX,hB⟩;rw[aa4]at hX;obtain rfl:ven=3:=hX.len.symm.trans (by decide+kernel);have D_9:=hid (D_8.out.below hB);have ah9:=hid (XL.out.below hB);have PN:=hid (Below.steps Jr.out hB);have E_9:=hid (hX);clear hB hX Jr D_8 XL;clear D_9;clear ah9;go_wp2_with fail;refine(MQ E_9.out (by omega) (by omega)).mono ?_;rintro e XM ⟨vpo,vpn,vpc,rfl,hX,hB⟩;obtain rfl:vpn=3:=hX.len.symm.trans (by decide+kernel);have ai0:=hid (E_9.out.below hB);have WE:=hid (Below.steps PN.out hB);have aa5:=hid (hX);clear hB hX PN E_9;clear ai0;go_wp2_with fail;refine(qf 1 2 _ (by omega) (by omega) (by decide)).mono ?_;rintro e ZI ⟨um,ua,un,uc,uk,ub,ul,ud,rfl,hX,hB⟩;have aa6:=hid (aa5.out.below hB);have WG:=hid (Below.steps WE.out hB);have aa7:=hid (hX);clear hB hX WE aa5;go_wp2_with fail;refine(q8 aa7.out (by omega) (by omega)).mono ?_;rintro e ZJ ⟨am,aa,an,ac,ak,ab,al,ad,rfl,hX,hB⟩;have aa8:=hid (aa6.out.below hB);have WH:=hid (Below.steps WG.out hB);have aa9:=hid (hX);clear hB hX aa7 WG aa6;go_wp2_with fail;refine(qf 3 1 _ (by omega) (by omega) (by decide)).mono ?_;rintro e w13 ⟨um,ua,un,uc,uk,ub,ul,ud,rfl,hX,hB⟩;have ab0:=hid (aa8.out.below hB);have ab1:=hid (aa9.out.below' hB);have WI:=hid (Below.steps WH.out hB);have ab2:=hid (hX);clear hB hX WH aa8 aa9;go_wp2_with fail;refine(q8 ab2.out (by omega) (by omega)).mono ?_;rintro e Lj ⟨bm,ba,bn,bc,bk,bb,bl,bd,rfl,hX,hB⟩;have ab3:=hid (ab0.out.below hB);have ab4:=hid (ab1.out.below' hB);have WJ:=hid (Below.steps WI.out hB);have ab5:=hid (hX);clear hB hX ab2 WI ab0 ab1;have hpt:=XJ ab4.out ab5.out 31;go_wp2_with fail
 refine Cm (λW0 hW=>?_);rw[<-hW]at hpt;have XO:=hid (ab3.out.below hpt.2);have WK:=hid (Below.steps WJ.out hpt.2);have TU:=hid hpt.1;clear hpt hW ab3 WJ ab4 ab5;refine(La (K:=40) (J:=50) (j:=2) (XO.out.mono (by omega)) CZ (by omega) (by rw[Ul];decide) Un (by omega) TU.out Uo).mono ?_;rintro e w16 ⟨cm,ca,cn,cc,ck,cb,cl,cd,rfl,hX,hB⟩;have hX:Rc _ _ _ _ _ _ _ _ _ (a0b 9 2) 50:=XI▸hX;have ab6:=hid (XO.out.below hB);have WL:=hid (Below.steps WK.out hB);have ab7:=hid (hX);clear hB hX TU WK XO;obtain⟨b4,hb4⟩:∃b,b=w16.heap.size:=⟨_,rfl⟩;go_upto_region 4 with(fail)
 refine aj (λW1 hW=>?_);have a4:bD W1 b4 [.bool cm,a0a ca cn cc,.bool ck,a0a cb cl cd] 31/\ Below w16.heap.size w16 W1:=by rw[hW,hb4];exact jC w16 _ 31
 rw[<-hb4];have ab8:=hid (ab6.out.below a4.2);have ab9:=hid (ab7.out.below' a4.2);have Ll:=hid (Below.steps WL.out a4.2);have WM:=hid a4.1;clear hW hb4 a4 ab6 ab7 WL;go_wp2_with fail;refine(z8 (o:=some Ck) (by decide) (HE.out _ Ll.out).1 (HE.out _ Ll.out).2 C8.symm).mono ?_;rintro e w18 ⟨vqo,vqn,vqc,rfl,hX,hB⟩;have ac0:=hid (ab8.out.below hB);have ac1:=hid (ab9.out.below' hB);have WN:=hid (WM.out.below hB);have Lm:=hid (Below.steps Ll.out hB);have ac2:=hid (hX);clear hB hX Ll ab8 ab9 WM;go_wp2_with fail;refine(z8 (o:=none) (by decide) (HE.out _ Lm.out).1 (HE.out _ Lm.out).2 P8.symm).mono ?_;rintro e w19 ⟨rfl,hB⟩;have ac3:=hid (ac0.out.below hB);have ac4:=hid (ac1.out.below' hB);have Qe:=hid (WN.out.below hB);have ac5:=hid (ac2.out.below hB);have WO:=hid (Below.steps Lm.out hB);clear hB  Lm ac0 ac1 WN ac2;go_upto_region 6 with(fail)
 refine wp_region_held_drew (S:=(λw'=>w'.cell? ⟨b4,0,none⟩=some (.bool cm)/\ w'.cell? ⟨b4,1,none⟩=some (a0a ca cn cc)/\ w'.cell? ⟨b4,2,none⟩=some (.bool ck)/\ w'.cell? ⟨b4,3,none⟩=some (a0a cb cl cd))) (by kernel_rfl) (Qe.out.below (Below.refl _ _).drew).q4 (λhH=>?_);refine ai (λV0 hW=>?_);have hD:Below w19.heap.size w19 V0:=by rw[hW];exact(Below.refl _ _).drew
 rw[<-hW]at hH;have P0:=hid (ac3.out.below hD);have Z0:=hid (ac4.out.below' hD);have X0:=hid (Qe.out.below hD);have G0:=hid (ac5.out.below hD);have B0:=hid (Below.steps WO.out hD);clear hW hD ac3 ac4 Qe ac5 WO;refine aQ 0 hH ?_
 try simp only[ax]
 refine aQ 1 hH ?_
 try simp only[ax]
 refine aQ 2 hH ?_
 try simp only[ax]
 refine aQ 3 hH ?_
 try simp only[ax]
 refine ah 4 rfl (by kernel_rfl) (λKK hK=>?_);go_simp;refine(qf 9 2 _ (by omega) (by omega) (by decide)).mono ?_;rintro e V1 ⟨dm,da,dn,dc,dk,db,dl,dd,rfl,hX,hB⟩;have P1:=hid (P0.out.below hB);have Z1:=hid (Z0.out.below' hB);have X1:=hid (X0.out.below hB);have G1:=hid (G0.out.below hB);have B1:=hid (Below.steps B0.out hB);have U1:=hid (hX);clear hB hX P0 Z0 X0 G0 B0;go_wp2_with fail;clear hH;refine hK.out _ _ X1.out.q4 λhH=>?_;clear hK KK
 try simp only[ax]
 refine ah 5 rfl (by kernel_rfl) (λKK hK=>?_);go_simp;refine(q8 U1.out (by omega) (by omega)).mono ?_;rintro e V2 ⟨em,ea,en,ec,ek,eb,el,ed,rfl,hX,hB⟩;have P2:=hid (P1.out.below hB);have Z2:=hid (Z1.out.below' hB);have X2:=hid (X1.out.below hB);have G2:=hid (G1.out.below hB);have B2:=hid (Below.steps B1.out hB);have V2:=hid (hX);clear hB hX U1 P1 Z1 X1 G1 B1;go_wp2_with fail;clear hH;refine hK.out _ _ X2.out.q4 λhH=>?_;clear hK KK
 try simp only[ax]
 refine ah 6 rfl (by kernel_rfl) (λKK hK=>?_);go_simp;refine(F9 Z2.out V2.out P9).mono ?_;rintro e V3 ⟨rfl,hB⟩;have P3:=hid (P2.out.below hB);have Z3:=hid (Z2.out.below' hB);have X3:=hid (X2.out.below hB);have G3:=hid (G2.out.below hB);have V3:=hid (V2.out.below' hB);have B3:=hid (Below.steps B2.out hB);clear hB  P2 Z2 X2 G2 V2 B2;go_wp2_with fail;clear hH;refine hK.out _ _ X3.out.q4 λhH=>?_;clear hK KK
 try simp only[ax]
 clear V3;clear Z3;refine aQ 7 hH ?_
 try simp only[ax]
 refine aQ 8 hH ?_
 try simp only[ax]
 refine aQ 9 hH ?_
 try simp only[ax]
 refine ah 10 rfl (by kernel_rfl) (λKK hK=>?_);go_simp;refine(Da (K:=1000) (P3.out.mono (by omega)) CZ (HT.out _ B3.out) (by omega) (by omega)).mono ?_;rintro e V4 ⟨rfl,hB⟩;rw[<-Um];have P4:=hid (P3.out.below hB);have X4:=hid (X3.out.below hB);have G4:=hid (G3.out.below hB);have B4:=hid (Below.steps B3.out hB);clear hB  P3 X3 G3 B3;go_wp2_with fail;clear hH;refine hK.out _ _ X4.out.q4 λhH=>?_;clear hK KK
 try simp only[ax]
 refine aQ 11 hH ?_
 try simp only[ax]
 refine aQ 12 hH ?_
 try simp only[ax]
 refine aQ 13 hH ?_
 try simp only[ax]
 refine ah 14 rfl (by kernel_rfl) (λKK hK=>?_);go_simp;refine(Da (K:=1) (p:=[]) (Pw.zero 0 _ _).pc trivial (HT.out _ B4.out) (by omega) (by omega)).mono ?_;rintro e V5 ⟨rfl,hB⟩;have P5:=hid (P4.out.below hB);have X5:=hid (X4.out.below hB);have G5:=hid (G4.out.below hB);have B5:=hid (Below.steps B4.out hB);clear hB  P4 X4 G4 B4;go_wp2_with fail;clear hH;refine hK.out _ _ X5.out.q4 λhH=>?_;clear hK KK
 try simp only[ax]
 refine aQ 15 hH ?_
 try simp only[ax]
 refine aQ 16 hH ?_
 try simp only[ax]
 refine aQ 17 hH ?_
 try simp only[ax]
 refine aQ 18 hH ?_
 try simp only[ax]
 refine aQ 19 hH ?_
 try simp only[ax]
 refine aQ 20 hH ?_
 try simp only[ax]
 refine aQ 21 hH ?_
 try simp only[ax]
 refine aQ 22 hH ?_
 try simp only[ax]
 refine aQ 23 hH ?_
 try simp only[ax]
 refine ah 24 rfl (by kernel_rfl) (λKK hK=>?_);go_simp;refine(MR true G5.out.raw P5.out.raw (decide_eq_true rfl)).mono ?_;rintro e V6 ⟨rfl,hB⟩;have P6:=hid (P5.out.below hB);have X6:=hid (X5.out.below hB);have G6:=hid (G5.out.below hB);have B6:=hid (Below.steps B5.out hB);clear hB  P5 X5 G5 B5;go_wp2_with fail;clear hH;refine hK.out _ _ X6.out.q4 λhH=>?_;clear hK KK
 try simp only[ax]
 refine aQ 25 hH ?_
 try simp only[ax]
 refine aQ 26 hH ?_
 try simp only[ax]
 refine aQ 27 hH ?_
 try simp only[ax]
 refine aQ 28 hH ?_
 try simp only[ax]
 refine aQ 29 hH ?_
 try simp only[ax]
 refine aQ 30 hH ?_
 try simp only[ax]
 refine wpAnyH_done (by kernel_rfl) ?_ _
 have HBF:=hid B6.out;go_wp2_with fail;go_ret;exact⟨rfl,HBF.out⟩
def Env (w:World):Prop:=zX w/\ qW w/\ 6<w.heap.size
theorem Env.below {w V:World} (h:Env w) (hV:Below w.heap.size w V):Env V:=⟨h.1.below hV,h.2.1.below h.2.2 hV,Nat.lt_of_lt_of_le h.2.2 hV.size⟩
theorem nS [Ol] {w:World} (h:Env w):Calls Tryz.prog 9 #[] w (cu (.bool true) w):=Gg w h.1 h.2.1 h.2.2
end Go.Proofs.YtmenbpmciblnlaaGreatDoor
