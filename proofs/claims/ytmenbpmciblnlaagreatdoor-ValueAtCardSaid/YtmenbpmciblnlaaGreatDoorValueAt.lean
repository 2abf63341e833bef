/-
  The law ValueAt: the value, and the sign, of any polynomial at any point are the document's, or refused.
-/
import Derived.Test.YtmenbpmciblnlaaGreatDoorGVz
import Derived.Test.YtmenbpmciblnlaaGreatDoorGVR
set_option maxHeartbeats 0
set_option maxRecDepth 100000
open Go.RowKit.Below renaming refl->a0a
open Go.Value renaming slice->a0b
open Nat renaming le_trans->a0c
namespace Go.Proofs.YtmenbpmciblnlaaGreatDoor
open Lib (hid)
open Go.RowKit
theorem Mt [Ol] {ao po:Option Addr} {n cap pn pc:Nat} {ps:List Raw} {rs:List oC} {w:World} (he:Env w) (hp:Pr w ao n cap ps) (hr:F4 w po pn pc rs) (g1:iU ps rs=true):
  Calls Tryz.prog 3 #[a0b ao n cap,a0b po pn pc] w (cu (.bool true) w):=by
 have HE:Hid (∀V,Below w.heap.size w V->Env V):=λV hV=>he.below hV
 have Jo:=hid hp;have uJ:=hid hr;have vJ:=hid (a0a w.heap.size w);clear he hp hr;go_enter Tryz.func3,Tryz.ntmps3;go_wp2_with fail;refine(nR true Jo.out uJ.out g1).mono ?_;rintro e w1 ⟨rfl,hB⟩;have Pk:=hid (Jo.out.below hB);have F5:=hid (uJ.out.below hB);have uK:=hid (Below.steps vJ.out hB);clear hB  vJ Jo uJ;go_wp2_with fail;refine(nS (HE.out _ uK.out)).mono ?_;rintro e w2 ⟨rfl,hB⟩;have Ue:=hid (Pk.out.below hB);have al2:=hid (F5.out.below hB);have xh:=hid (Below.steps uK.out hB);clear hB  uK Pk F5;go_wp2_with fail;go_ret;exact⟨rfl,xh.out⟩
theorem Mv [Ol] {ao po:Option Addr} {n cap pn pc:Nat} {ps:List Raw} {rs:List oC} {w:World} (he:Env w) (hp:Pr w ao n cap ps) (hr:F4 w po pn pc rs) (g1:iU ps rs=false) (hm:kX ps=false):
  Calls Tryz.prog 3 #[a0b ao n cap,a0b po pn pc] w (cu (.bool true) w):=by
 have HE:Hid (∀V,Below w.heap.size w V->Env V):=λV hV=>he.below hV
 have Jo:=hid hp;have uJ:=hid hr;have vJ:=hid (a0a w.heap.size w);have HP:=hid (Wv.of g1);obtain⟨Ww,hr1,_,hr2⟩:=qb g1;have HG8:Hid (∀t∈ps,t.2.length<=12):=λt ht=>((sM Ww).1 t ht).2
 have Wx:=hid (hr.pt hr2);have HL:=hid ((hr.pt hr2).lq (by omega) (by rw[<-hr.len];exact hr1));have hl2:∀t∈ps,t.1.2.length<=1000:=λt ht=>a0c (HP.out.l t ht) (by omega)
 clear Ww;clear he hp hr hr1 hr2;go_enter Tryz.func3,Tryz.ntmps3;go_wp2_with fail;refine(nR false Jo.out uJ.out g1).mono ?_;rintro e w1 ⟨rfl,hB⟩;have Pk:=hid (Jo.out.below hB);have F5:=hid (uJ.out.below hB);have Xw:=hid (Wx.out.below hB);have uK:=hid (Below.steps vJ.out hB);clear hB  vJ Jo uJ Wx;clear F5;clear Xw;go_wp2_with fail;refine(K8 (er:=2) rfl λV hV=>yg (Pk.out.below hV) hl2 hm).mono ?_;rintro e w2 ⟨rfl,hB⟩;have Ue:=hid (Pk.out.below hB);have xh:=hid (Below.steps uK.out hB);clear hB  uK Pk;obtain⟨b5,hb5⟩:∃b,b=w2.heap.size:=⟨_,rfl⟩;go_upto_region 4 with(fail)
 refine aj (λw3 hW=>?_);have a4:bD w3 b5 [.bool false,a0b none 0 0,.bool false,a0b none 0 0] 31/\ Below w2.heap.size w2 w3:=by rw[hW,hb5];exact jC w2 _ 31
 rw[<-hb5];have Uf:=hid (Ue.out.below a4.2);have zS:=hid (Below.steps xh.out a4.2);have TS:=hid a4.1;clear hW hb5 a4 xh Ue;clear TS;go_wp2_with fail;refine(CS (yg Uf.out hl2 hm)).mono ?_;rintro e w4 ⟨rfl,hB⟩;have PE:=hid (Uf.out.below hB);have zT:=hid (Below.steps zS.out hB);clear hB  zS Uf;go_wp2_with fail;refine(zU false PE.out hl2 hm).mono ?_;rintro e w5 ⟨rfl,hB⟩;have P_5:=hid (PE.out.below hB);have yY:=hid (Below.steps zT.out hB);clear hB  zT PE;clear P_5;go_wp2_with fail;refine(nS (HE.out _ yY.out)).mono ?_;rintro e w6 ⟨rfl,hB⟩;have Ce:=hid (Below.steps yY.out hB);clear hB  yY;go_wp2_with fail;go_ret;exact⟨rfl,Ce.out⟩
theorem Mw [Ol] {ao po:Option Addr} {n cap pn pc:Nat} {ps:List Raw} {rs:List oC} {w:World} (he:Env w) (hp:Pr w ao n cap ps) (hr:F4 w po pn pc rs) (g1:iU ps rs=false) (hm:kX ps=true) (ho:(pn:Int)<bC (ps.map mq)):
  Calls Tryz.prog 3 #[a0b ao n cap,a0b po pn pc] w (cu (.bool true) w):=by
 have HE:Hid (∀V,Below w.heap.size w V->Env V):=λV hV=>he.below hV
 have Jo:=hid hp;have uJ:=hid hr;have vJ:=hid (a0a w.heap.size w);have HP:=hid (Wv.of g1);obtain⟨Ww,hr1,_,hr2⟩:=qb g1;have HG8:Hid (∀t∈ps,t.2.length<=12):=λt ht=>((sM Ww).1 t ht).2
 have Wx:=hid (hr.pt hr2);have HL:=hid ((hr.pt hr2).lq (by omega) (by rw[<-hr.len];exact hr1));have hl2:∀t∈ps,t.1.2.length<=1000:=λt ht=>a0c (HP.out.l t ht) (by omega)
 clear Ww;have hpc:=PG hp HP.out hm;obtain⟨p,hpp⟩:∃p,ps.map mq=p:=⟨_,rfl⟩;obtain⟨z,hz⟩:∃z,bC p=z:=⟨_,rfl⟩;have PI:Hid (Pc 20 w ao n cap p):=by rw[<-hpp];exact hpc.1
 have HF:Hid (fall p/\ n<=12/\ bC p=z):=by rw[<-hz,<-hpp];exact⟨hpc.2.1,hpc.2.2,rfl⟩
 rw[hpp,hz]at ho;clear he hp hr hr1 hr2 hpc hz;go_enter Tryz.func3,Tryz.ntmps3;go_wp2_with fail;refine(nR false Jo.out uJ.out g1).mono ?_;rintro e w1 ⟨rfl,hB⟩;have Pk:=hid (Jo.out.below hB);have F5:=hid (uJ.out.below hB);have Xw:=hid (Wx.out.below hB);have Jp:=hid (PI.out.below hB);have uK:=hid (Below.steps vJ.out hB);clear hB  vJ Jo uJ Wx PI;clear F5;clear Xw;go_wp2_with fail;refine(K8 (er:=5) rfl λV hV=>vK (Jp.out.below hV) HF.out.1 (by omega) (by rw[HF.out.2.2];exact ho)).mono ?_;rintro e w2 ⟨rfl,hB⟩;have Ue:=hid (Pk.out.below hB);have PK:=hid (Jp.out.below hB);have xh:=hid (Below.steps uK.out hB);clear hB  uK Pk Jp;obtain⟨b5,hb5⟩:∃b,b=w2.heap.size:=⟨_,rfl⟩;go_upto_region 4 with(fail)
 refine aj (λw3 hW=>?_);have a4:bD w3 b5 [.bool false,a0b none 0 0,.bool false,a0b none 0 0] 31/\ Below w2.heap.size w2 w3:=by rw[hW,hb5];exact jC w2 _ 31
 rw[<-hb5];have Uf:=hid (Ue.out.below a4.2);have Jq:=hid (PK.out.below a4.2);have zS:=hid (Below.steps xh.out a4.2);have TS:=hid a4.1;clear hW hb5 a4 xh Ue PK;clear TS;go_wp2_with fail;refine(CS (vK Jq.out HF.out.1 (by omega) (by rw[HF.out.2.2];exact ho))).mono ?_;rintro e w4 ⟨rfl,hB⟩;have PE:=hid (Uf.out.below hB);have PL:=hid (Jq.out.below hB);have zT:=hid (Below.steps zS.out hB);clear hB  zS Uf Jq;go_wp2_with fail;refine(zU true PE.out hl2 hm).mono ?_;rintro e w5 ⟨rfl,hB⟩;have P_5:=hid (PE.out.below hB);have F6:=hid (PL.out.below hB);have yY:=hid (Below.steps zT.out hB);clear hB  zT PE PL;clear P_5;go_wp2_with fail;refine(K9 F6.out.inn (bU HF.out.1) (by have:=HF.out;omega) (by have:=HF.out;omega)).mono ?_;rintro e w6 ⟨zo,zn,zc,rfl,hX,hB⟩;rw[F7 HF.out.1]at hX;have Xx:=hid (F6.out.below hB);have Ce:=hid (Below.steps yY.out hB);have Xy:=hid (hX);clear hB hX yY F6;clear Xx;go_wp2_with fail;refine(F8 z Xy.out HF.out.1 HF.out.2.2).mono ?_;rintro e w7 ⟨rfl,hB⟩;have Z_7:=hid (Xy.out.below hB);have Ei:=hid (Below.steps Ce.out hB);clear hB  Ce Xy;clear Z_7;go_wp2_with fail;refine(nS (HE.out _ Ei.out)).mono ?_;rintro e w8 ⟨rfl,hB⟩;have Jr:=hid (Below.steps Ei.out hB);clear hB  Ei;go_wp2_with fail;go_ret;exact⟨rfl,Jr.out⟩
theorem Js [Ol] {ao po:Option Addr} {n cap pn pc:Nat} {ps:List Raw} {rs:List oC} {w:World} (he:Env w) (hp:Pr w ao n cap ps) (hr:F4 w po pn pc rs) (g1:iU ps rs=false) (hm:kX ps=true) (ho:bC (ps.map mq)<=(pn:Int)):
  Calls Tryz.prog 3 #[a0b ao n cap,a0b po pn pc] w (cu (.bool true) w):=by
 have HE:Hid (∀V,Below w.heap.size w V->Env V):=λV hV=>he.below hV
 have Jo:=hid hp;have uJ:=hid hr;have vJ:=hid (a0a w.heap.size w);have HP:=hid (Wv.of g1);obtain⟨Ww,hr1,_,hr2⟩:=qb g1;have HG8:Hid (∀t∈ps,t.2.length<=12):=λt ht=>((sM Ww).1 t ht).2
 have Wx:=hid (hr.pt hr2);have HL:=hid ((hr.pt hr2).lq (by omega) (by rw[<-hr.len];exact hr1));have hl2:∀t∈ps,t.1.2.length<=1000:=λt ht=>a0c (HP.out.l t ht) (by omega)
 clear Ww;have hpc:=PG hp HP.out hm;obtain⟨p,hpp⟩:∃p,ps.map mq=p:=⟨_,rfl⟩;obtain⟨z,hz⟩:∃z,bC p=z:=⟨_,rfl⟩;have PI:Hid (Pc 20 w ao n cap p):=by rw[<-hpp];exact hpc.1
 have HF:Hid (fall p/\ n<=12/\ bC p=z):=by rw[<-hz,<-hpp];exact⟨hpc.2.1,hpc.2.2,rfl⟩
 rw[hpp,hz]at ho;obtain⟨v,hv⟩:∃v,rv (kM (rs.map Jt)) p=v:=⟨_,rfl⟩;obtain⟨s,hs⟩:∃s,qs v=s:=⟨_,rfl⟩
 have TT:Hid ((∀u,fD p u<=999)/\ Big p (Cf (rs.map Jt)) (Cg (rs.map Jt)) 820/\ rv (kM (rs.map Jt)) p=v/\ qs v=s/\∀t∈p,t.2.length<=12/\∀x∈t.2,x.2<=12):=by
  refine⟨?_,?_,hv,hs,?_⟩
  ·rw[<-hpp];exact λu=>a0c (HP.out.eb.fD u) (by omega)
  ·rw[<-hpp];exact Big.deg HP.out.eb.fD HL.out (Ug (Xz hpc.1) (by rw[hpc.1.len];omega)) (by omega) (by omega)
  ·rw[<-hpp];intro t ht;obtain⟨u,hu,rfl⟩:=List.mem_map.1 ht;exact⟨HG8.out u hu,HP.out.e u hu⟩
 have hzz:¬(pn:Int)<z:=by omega
 clear he hp hr hr1 hr2 hpc hz hv hs;go_enter Tryz.func3,Tryz.ntmps3;go_wp2_with fail;refine(nR false Jo.out uJ.out g1).mono ?_;rintro e w1 ⟨rfl,hB⟩;have Pk:=hid (Jo.out.below hB);have F5:=hid (uJ.out.below hB);have Xw:=hid (Wx.out.below hB);have Jp:=hid (PI.out.below hB);have uK:=hid (Below.steps vJ.out hB);clear hB  vJ Jo uJ Wx PI;clear F5;go_wp2_with fail;refine(La (K:=20) (J:=820) (j:=3) Jp.out HF.out.1 (by omega) (by rw[HF.out.2.2];exact ho) TT.out.1 (by have:=HF.out;omega) Xw.out TT.out.2.1).mono ?_;rintro e w2 ⟨am,aa,an,ac,ak,ab,al,ad,rfl,hX,hB⟩;rw[TT.out.2.2.1]at hX;have Ue:=hid (Pk.out.below hB);have R_2:=hid (Xw.out.below hB);have PK:=hid (Jp.out.below hB);have xh:=hid (Below.steps uK.out hB);have A_2:=hid (hX);clear hB hX uK Pk Xw Jp;obtain⟨b5,hb5⟩:∃b,b=w2.heap.size:=⟨_,rfl⟩;go_upto_region 4 with(fail)
 refine aj (λw3 hW=>?_);have a4:bD w3 b5 [.bool am,a0b aa an ac,.bool ak,a0b ab al ad] 31/\ Below w2.heap.size w2 w3:=by rw[hW,hb5];exact jC w2 _ 31
 rw[<-hb5];have Uf:=hid (Ue.out.below a4.2);have R_3:=hid (R_2.out.below a4.2);have Jq:=hid (PK.out.below a4.2);have ZE:=hid (A_2.out.below' a4.2);have zS:=hid (Below.steps xh.out a4.2);have TS:=hid a4.1;clear hW hb5 a4 xh Ue R_2 PK A_2;go_wp2_with fail;refine(Mx (K:=20) (J:=820) (j:=3) s Jq.out HF.out.1 (by omega) (by rw[HF.out.2.2];exact ho) TT.out.1 (by have:=HF.out;omega) R_3.out TT.out.2.1 (by rw[TT.out.2.2.1];exact TT.out.2.2.2.1)).mono ?_;rintro e w4 ⟨rfl,hB⟩;have PE:=hid (Uf.out.below hB);have R_4:=hid (R_3.out.below hB);have PL:=hid (Jq.out.below hB);have A_4:=hid (ZE.out.below' hB);have X_4:=hid (TS.out.below hB);have zT:=hid (Below.steps zS.out hB);clear hB  zS Uf R_3 Jq ZE TS;go_wp2_with fail;refine(zU true PE.out hl2 hm).mono ?_;rintro e w5 ⟨rfl,hB⟩;have P_5:=hid (PE.out.below hB);have R_5:=hid (R_4.out.below hB);have F6:=hid (PL.out.below hB);have A_5:=hid (A_4.out.below' hB);have ZF:=hid (X_4.out.below hB);have yY:=hid (Below.steps zT.out hB);clear hB  zT PE R_4 PL A_4 X_4;clear P_5;go_wp2_with fail;refine(K9 F6.out.inn (bU HF.out.1) (by have:=HF.out;omega) (by have:=HF.out;omega)).mono ?_;rintro e w6 ⟨zo,zn,zc,rfl,hX,hB⟩;rw[F7 HF.out.1]at hX;have hzn:zn=n:=by rw[<-hX.len,F6.out.len]
 subst hzn;have R_6:=hid (R_5.out.below hB);have Xx:=hid (F6.out.below hB);have A_6:=hid (A_5.out.below' hB);have X_6:=hid (ZF.out.below hB);have Ce:=hid (Below.steps yY.out hB);have Xy:=hid (hX.mono (show 20+zn<=32 by have:=HF.out;omega));clear hB hX yY R_5 F6 A_5 ZF;clear Xx;go_wp2_with fail;refine(F8 z Xy.out HF.out.1 HF.out.2.2).mono ?_;rintro e w7 ⟨rfl,hB⟩;have R_7:=hid (R_6.out.below hB);have A_7:=hid (A_6.out.below' hB);have X_7:=hid (X_6.out.below hB);have Z_7:=hid (Xy.out.below hB);have Ei:=hid (Below.steps Ce.out hB);clear hB  Ce R_6 A_6 X_6 Xy;go_wp2_with fail;refine(MB Z_7.out HF.out.1 R_7.out (by rw[HF.out.2.2];exact ho) TT.out.2.2.2.2 (by have:=HF.out;omega)).mono ?_;rintro e w8 ⟨x,y,wm,wa,wn,wc,wk,wb,wl,wd,rfl,hX,hB⟩;rw[TT.out.2.2.1]at hX;have R_8:=hid (R_7.out.below hB);have A_8:=hid (A_7.out.below' hB);have X_8:=hid (X_7.out.below hB);have Z_8:=hid (Z_7.out.below hB);have Jr:=hid (Below.steps Ei.out hB);have W_8:=hid (hX);clear hB hX Ei R_7 A_7 X_7 Z_7;clear Z_8;clear R_8;obtain⟨b10,Ch⟩:∃b,b=w8.heap.size:=⟨_,rfl⟩;go_upto_region 13 with(fail)
 refine aj (λw9 hW=>?_);have a4:bD w9 b10 [.bool wm,a0b wa wn wc,.bool wk,a0b wb wl wd] 47/\ Below w8.heap.size w8 w9:=by rw[hW,Ch];exact jC w8 _ 47
 rw[<-Ch];have A_9:=hid (A_8.out.below' a4.2);have X_9:=hid (X_8.out.below a4.2);have W_9:=hid (W_8.out.oD a4.2);have PN:=hid (Below.steps Jr.out a4.2);have Y_9:=hid a4.1;clear hW Ch a4 Jr A_8 X_8 W_8;refine wp_region_held_drew (S:=(λw'=>(w'.cell? ⟨b5,0,none⟩=some (.bool am)/\ w'.cell? ⟨b5,1,none⟩=some (a0b aa an ac)/\ w'.cell? ⟨b5,2,none⟩=some (.bool ak)/\ w'.cell? ⟨b5,3,none⟩=some (a0b ab al ad))/\ (w'.cell? ⟨b10,0,none⟩=some (.bool wm)/\ w'.cell? ⟨b10,1,none⟩=some (a0b wa wn wc)/\ w'.cell? ⟨b10,2,none⟩=some (.bool wk)/\ w'.cell? ⟨b10,3,none⟩=some (a0b wb wl wd)))) (by kernel_rfl) ⟨(X_9.out.below (a0a _ _).drew).q4,(Y_9.out.below (a0a _ _).drew).q4⟩ (λhH=>?_);refine ai (λV0 hW=>?_);have hD:Below w9.heap.size w9 V0:=by rw[hW];exact(a0a _ _).drew
 rw[<-hW]at hH;have A0:=hid (A_9.out.below' hD);have W0:=hid (W_9.out.oD hD);have X0:=hid (X_9.out.below hD);have Y0:=hid (Y_9.out.below hD);have G0:=hid (Below.steps PN.out hD);clear hW hD PN A_9 W_9 X_9 Y_9;refine aQ 0 hH ?_
 try simp only[ax]
 refine aQ 1 hH ?_
 try simp only[ax]
 refine aQ 2 hH ?_
 try simp only[ax]
 refine aQ 3 hH ?_
 try simp only[ax]
 refine aQ 4 hH ?_
 try simp only[ax]
 refine ah 5 rfl (by kernel_rfl) (λKK hK=>?_);go_simp;refine(q8 W0.out (by omega) (by omega)).mono ?_;rintro e V1 ⟨em,ea,en,ec,ek,eb,el,ed,rfl,hX,hB⟩;have A1:=hid (A0.out.below' hB);have W1:=hid (W0.out.oD hB);have X1:=hid (X0.out.below hB);have Y1:=hid (Y0.out.below hB);have G1:=hid (Below.steps G0.out hB);have E1:=hid (hX);clear hB hX A0 W0 X0 Y0 G0;go_wp2_with fail;clear hH;refine hK.out _ _ ⟨X1.out.q4,Y1.out.q4⟩ λhH=>?_;clear hK KK
 try simp only[ax]
 refine ah 6 rfl (by kernel_rfl) (λKK hK=>?_);go_simp;refine(F9 A1.out E1.out rfl).mono ?_;rintro e V2 ⟨rfl,hB⟩;have A2:=hid (A1.out.below' hB);have W2:=hid (W1.out.oD hB);have X2:=hid (X1.out.below hB);have Y2:=hid (Y1.out.below hB);have E2:=hid (E1.out.below' hB);have G2:=hid (Below.steps G1.out hB);clear hB  A1 W1 X1 Y1 E1 G1;go_wp2_with fail;clear hH;refine hK.out _ _ ⟨X2.out.q4,Y2.out.q4⟩ λhH=>?_;clear hK KK
 try simp only[ax]
 clear E2;clear A2;refine aQ 7 hH ?_
 try simp only[ax]
 refine aQ 8 hH ?_
 try simp only[ax]
 refine aQ 9 hH ?_
 try simp only[ax]
 refine aQ 10 hH ?_
 try simp only[ax]
 refine ah 11 rfl (by kernel_rfl) (λKK hK=>?_);go_simp;refine(MC s W2.out TT.out.2.2.2.1).mono ?_;rintro e V3 ⟨rfl,hB⟩;have W3:=hid (W2.out.oD hB);have X3:=hid (X2.out.below hB);have Y3:=hid (Y2.out.below hB);have G3:=hid (Below.steps G2.out hB);clear hB  W2 X2 Y2 G2;go_wp2_with fail;clear hH;refine hK.out _ _ ⟨X3.out.q4,Y3.out.q4⟩ λhH=>?_;clear hK KK
 try simp only[ax]
 clear W3;refine aQ 12 hH ?_
 try simp only[ax]
 refine aQ 13 hH ?_
 try simp only[ax]
 refine aQ 14 hH ?_
 try simp only[ax]
 refine ah 15 rfl (by kernel_rfl) (λKK hK=>?_);go_simp;refine(nS (HE.out _ G3.out)).mono ?_;rintro e V4 ⟨rfl,hB⟩;have X4:=hid (X3.out.below hB);have Y4:=hid (Y3.out.below hB);have G4:=hid (Below.steps G3.out hB);clear hB  X3 Y3 G3;go_wp2_with fail;clear hH;refine hK.out _ _ ⟨X4.out.q4,Y4.out.q4⟩ λhH=>?_;clear hK KK
 try simp only[ax]
 refine aQ 16 hH ?_
 try simp only[ax]
 refine aQ 17 hH ?_
 try simp only[ax]
 refine wpAnyH_done (by kernel_rfl) ?_ _
 have HBF:=hid G4.out;go_wp2_with fail;go_ret;exact⟨rfl,HBF.out⟩
theorem FZ [Ol] {ao po:Option Addr} {n cap pn pc:Nat} {ps:List Raw} {rs:List oC} {w:World} (he:Env w) (hp:Pr w ao n cap ps) (hr:F4 w po pn pc rs):Calls Tryz.prog 3 #[a0b ao n cap,a0b po pn pc] w (cu (.bool true) w):=by
 cases g1:iU ps rs with
 |true=>exact Mt he hp hr g1
 |false=>cases hm:kX ps with
  |false=>exact Mv he hp hr g1 hm
  |true=>
   by_cases ho:bC (ps.map mq)<=(pn:Int)
   ·exact Js he hp hr g1 hm ho
   ·exact Mw he hp hr g1 hm (by omega)
end Go.Proofs.YtmenbpmciblnlaaGreatDoor
