import Derived.Test.YtmenbpmciblnlaaGreatDoorGVz
set_option maxHeartbeats 0
set_option maxRecDepth 100000
open Go.RowKit renaming Below->ah5
open Go.RowKit.Below renaming refl->ah6
open Go.Value renaming bool->ah8,slice->ah7
namespace Go.Proofs.YtmenbpmciblnlaaGreatDoor
open Lib (hid)
open Go.RowKit
theorem Aq [Ol] {ao bo po:Z'} {n ae m cb pn pc:Nat} {ps qs:List kr} {rs:List ly} {w:World} (he:EU w) (hp:Pr w ao n ae ps) (hq:Pr w bo m cb qs) (hr:xW w po pn pc rs) (g1:dZ ps rs=true):
  Calls Tryz.prog 5 #[ah7 ao n ae,ah7 bo m cb,ah7 po pn pc] w (cr (ah8 true) w):=by
 have HE:Hid (∀V,ah5 w.heap.size w V->EU V):=λV hV=>he.below hV
 have Ar:=hid hp;have Hl:=hid hq;have EH:=hid hr;have ox:=hid (ah6 w.heap.size w);clear he hp hq hr;go_enter Tryz.func5,Tryz.ntmps5;go_wp2_with fail;refine(fp true Ar.o EH.o g1).mono ?_;rintro e w1 ⟨rfl,hB⟩;have Hm:=hid (Ar.o.below hB);have Ci:=hid (Hl.o.below hB);have Ho:=hid (EH.o.below hB);have oh:=hid (Below.ar ox.o hB);clear hB  ox Ar Hl EH;go_wp2_with fail;refine(jI (HE.o _ oh.o)).mono ?_;rintro e w2 ⟨rfl,hB⟩;have EY:=hid (Hm.o.below hB);have LD:=hid (Ci.o.below hB);have Hp:=hid (Ho.o.below hB);have oy:=hid (Below.ar oh.o hB);clear hB  oh Hm Ci Ho;go_wp2_with fail;go_ret;exact⟨rfl,oy.o⟩
theorem Au [Ol] {ao bo po:Z'} {n ae m cb pn pc:Nat} {ps qs:List kr} {rs:List ly} {w:World} (he:EU w) (hp:Pr w ao n ae ps) (hq:Pr w bo m cb qs) (hr:xW w po pn pc rs) (g1:dZ ps rs=false) (g2:dZ qs []=true):
  Calls Tryz.prog 5 #[ah7 ao n ae,ah7 bo m cb,ah7 po pn pc] w (cr (ah8 true) w):=by
 have HE:Hid (∀V,ah5 w.heap.size w V->EU V):=λV hV=>he.below hV
 have Ar:=hid hp;have Hl:=hid hq;have EH:=hid hr;have ox:=hid (ah6 w.heap.size w);clear he hp hq hr;go_enter Tryz.func5,Tryz.ntmps5;go_wp2_with fail;refine(fp false Ar.o EH.o g1).mono ?_;rintro e w1 ⟨rfl,hB⟩;have Hm:=hid (Ar.o.below hB);have Ci:=hid (Hl.o.below hB);have Ho:=hid (EH.o.below hB);have oh:=hid (Below.ar ox.o hB);clear hB  ox Ar Hl EH;go_wp2_with fail;refine(fp true Ci.o (xW.nil _) g2).mono ?_;rintro e w2 ⟨rfl,hB⟩;have EY:=hid (Hm.o.below hB);have LD:=hid (Ci.o.below hB);have Hp:=hid (Ho.o.below hB);have oy:=hid (Below.ar oh.o hB);clear hB  oh Hm Ci Ho;go_wp2_with fail;refine(jI (HE.o _ oy.o)).mono ?_;rintro e w3 ⟨rfl,hB⟩;have Wp:=hid (EY.o.below hB);have P7:=hid (LD.o.below hB);have P8:=hid (Hp.o.below hB);have tu:=hid (Below.ar oy.o hB);clear hB  oy EY LD Hp;go_wp2_with fail;go_ret;exact⟨rfl,tu.o⟩
theorem Av [Ol] {ao bo po:Z'} {n ae m cb pn pc:Nat} {ps qs:List kr} {rs:List ly} {w:World} (he:EU w) (hp:Pr w ao n ae ps) (hq:Pr w bo m cb qs) (hr:xW w po pn pc rs) (g1:dZ ps rs=false) (g2:dZ qs []=false) (ho:¬yg ps pn):
  Calls Tryz.prog 5 #[ah7 ao n ae,ah7 bo m cb,ah7 po pn pc] w (cr (ah8 true) w):=by
 have HE:Hid (∀V,ah5 w.heap.size w V->EU V):=λV hV=>he.below hV
 have Ar:=hid hp;have Hl:=hid hq;have vL:=hid hr;have ox:=hid (ah6 w.heap.size w);have HP:=hid (Hq.of g1);have HQ:=hid (Hq.of g2);obtain⟨_,hr1,_,hr2⟩:=nj g1;have EH:=hid (hr.pt hr2);have HL:=hid ((hr.pt hr2).lq (by omega) (by rw[<-hr.len];exact hr1));clear he hp hq hr hr1 hr2;go_enter Tryz.func5,Tryz.ntmps5;go_wp2_with fail;refine(fp false Ar.o vL.o g1).mono ?_;rintro e w1 ⟨rfl,hB⟩;have Hm:=hid (Ar.o.below hB);have Ci:=hid (Hl.o.below hB);have LQ:=hid (vL.o.below hB);have Ho:=hid (EH.o.below hB);have oh:=hid (Below.ar ox.o hB);clear hB  ox Ar Hl vL EH LQ;go_wp2_with fail;refine(fp false Ci.o (xW.nil _) g2).mono ?_;rintro e w2 ⟨rfl,hB⟩;have EY:=hid (Hm.o.below hB);have LD:=hid (Ci.o.below hB);have Hp:=hid (Ho.o.below hB);have oy:=hid (Below.ar oh.o hB);clear hB  oh Hm Ci Ho;go_wp2_with fail;obtain⟨er,her,hat⟩:=LR (po:=po) (pc:=pc) EY.o HP.o ho;refine(hat).mono ?_;rintro e w3 ⟨rfl,hB⟩;have Wp:=hid (EY.o.below hB);have P7:=hid (LD.o.below hB);have P8:=hid (Hp.o.below hB);have tu:=hid (Below.ar oy.o hB);clear hB  oy EY LD Hp hat;clear Wp;obtain⟨b7,sX⟩:∃b,b=w3.heap.size:=⟨_,rfl⟩;go_upto_region 4 with(fail)
 refine aj (λw4 hW=>?_);have a4:aS w4 b7 [ah8 false,ah7 none 0 0,ah8 false,ah7 none 0 0] 31/\ ah5 w3.heap.size w3 w4:=by rw[hW,sX];exact gp w3 _ 31
 rw[<-sX];have LS:=hid (P7.o.below a4.2);have PI:=hid (P8.o.below a4.2);have vM:=hid (Below.ar tu.o a4.2);have P9:=hid a4.1;clear hW sX a4 tu P7 P8 P9;go_wp2_with fail;obtain⟨er2,hat⟩:=TP LS.o HQ.o PI.o HL.o;refine(hat).mono ?_;rintro e w5 ⟨um,ua,un,uc,uk,ub,ul,ud,rfl,hB⟩;have Wq:=hid (LS.o.below hB);have SK:=hid (PI.o.below hB);have vN:=hid (Below.ar vM.o hB);clear hB  vM LS PI hat;obtain⟨b9,Cs⟩:∃b,b=w5.heap.size:=⟨_,rfl⟩;go_upto_region 5 with(fail)
 refine aj (λw6 hW=>?_);have a4:aS w6 b9 [ah8 um,ah7 ua un uc,ah8 uk,ah7 ub ul ud] 31/\ ah5 w5.heap.size w5 w6:=by rw[hW,Cs];exact gp w5 _ 31
 rw[<-Cs];have Q_6:=hid (Wq.o.below a4.2);have SL:=hid (SK.o.below a4.2);have tv:=hid (Below.ar vN.o a4.2);have SM:=hid a4.1;clear hW Cs a4 vN Wq SK;go_wp2_with fail;refine(jI (HE.o _ tv.o)).mono ?_;rintro e w7 ⟨rfl,hB⟩;have Q_7:=hid (Q_6.o.below hB);have Z8:=hid (SL.o.below hB);have Z9:=hid (SM.o.below hB);have Aw:=hid (Below.ar tv.o hB);clear hB  tv Q_6 SL SM;go_wp2_with fail;go_ret;exact⟨rfl,Aw.o⟩
theorem Ax [Ol] {ao bo po:Z'} {n ae m cb pn pc:Nat} {ps qs:List kr} {rs:List ly} {w:World} (he:EU w) (hp:Pr w ao n ae ps) (hq:Pr w bo m cb qs) (hr:xW w po pn pc rs) (g1:dZ ps rs=false) (g2:dZ qs []=false) (ho:yg ps pn) (ho2:¬yg qs pn):
  Calls Tryz.prog 5 #[ah7 ao n ae,ah7 bo m cb,ah7 po pn pc] w (cr (ah8 true) w):=by
 have HE:Hid (∀V,ah5 w.heap.size w V->EU V):=λV hV=>he.below hV
 have Ar:=hid hp;have Hl:=hid hq;have vL:=hid hr;have ox:=hid (ah6 w.heap.size w);have HP:=hid (Hq.of g1);have HQ:=hid (Hq.of g2);obtain⟨_,hr1,_,hr2⟩:=nj g1;have EH:=hid (hr.pt hr2);have HL:=hid ((hr.pt hr2).lq (by omega) (by rw[<-hr.len];exact hr1));clear he hp hq hr hr1 hr2;go_enter Tryz.func5,Tryz.ntmps5;go_wp2_with fail;refine(fp false Ar.o vL.o g1).mono ?_;rintro e w1 ⟨rfl,hB⟩;have Hm:=hid (Ar.o.below hB);have Ci:=hid (Hl.o.below hB);have LQ:=hid (vL.o.below hB);have Ho:=hid (EH.o.below hB);have oh:=hid (Below.ar ox.o hB);clear hB  ox Ar Hl vL EH LQ;go_wp2_with fail;refine(fp false Ci.o (xW.nil _) g2).mono ?_;rintro e w2 ⟨rfl,hB⟩;have EY:=hid (Hm.o.below hB);have LD:=hid (Ci.o.below hB);have Hp:=hid (Ho.o.below hB);have oy:=hid (Below.ar oh.o hB);clear hB  oh Hm Ci Ho;go_wp2_with fail;refine(Hr EY.o HP.o ho Hp.o HL.o).mono ?_;rintro e w3 ⟨am,aa,an,ac,ak,ab,al,ad,rfl,hX,hB⟩;have Wp:=hid (EY.o.below hB);have P7:=hid (LD.o.below hB);have P8:=hid (Hp.o.below hB);have tu:=hid (Below.ar oy.o hB);have SN:=hid (hX);clear hB hX oy EY LD Hp Wp;clear SN;obtain⟨b7,sX⟩:∃b,b=w3.heap.size:=⟨_,rfl⟩;go_upto_region 4 with(fail)
 refine aj (λw4 hW=>?_);have a4:aS w4 b7 [ah8 am,ah7 aa an ac,ah8 ak,ah7 ab al ad] 31/\ ah5 w3.heap.size w3 w4:=by rw[hW,sX];exact gp w3 _ 31
 rw[<-sX];have LS:=hid (P7.o.below a4.2);have PI:=hid (P8.o.below a4.2);have vM:=hid (Below.ar tu.o a4.2);have P9:=hid a4.1;clear hW sX a4 tu P7 P8 P9;go_wp2_with fail;obtain⟨er,her,hat⟩:=LR (po:=po) (pc:=pc) LS.o HQ.o ho2;refine(hat).mono ?_;rintro e w5 ⟨rfl,hB⟩;have Wq:=hid (LS.o.below hB);have SK:=hid (PI.o.below hB);have vN:=hid (Below.ar vM.o hB);clear hB  vM LS PI hat;clear Wq;obtain⟨b9,Cs⟩:∃b,b=w5.heap.size:=⟨_,rfl⟩;go_upto_region 5 with(fail)
 refine aj (λw6 hW=>?_);have a4:aS w6 b9 [ah8 false,ah7 none 0 0,ah8 false,ah7 none 0 0] 31/\ ah5 w5.heap.size w5 w6:=by rw[hW,Cs];exact gp w5 _ 31
 rw[<-Cs];have SL:=hid (SK.o.below a4.2);have tv:=hid (Below.ar vN.o a4.2);have SM:=hid a4.1;clear hW Cs a4 vN SK;go_wp2_with fail;refine(jI (HE.o _ tv.o)).mono ?_;rintro e w7 ⟨rfl,hB⟩;have Z8:=hid (SL.o.below hB);have Z9:=hid (SM.o.below hB);have Aw:=hid (Below.ar tv.o hB);clear hB  tv SL SM;go_wp2_with fail;go_ret;exact⟨rfl,Aw.o⟩
theorem Ay [Ol] {ao bo po:Z'} {n ae m cb pn pc:Nat} {ps qs:List kr} {rs:List ly} {w:World} (he:EU w) (hp:Pr w ao n ae ps) (hq:Pr w bo m cb qs) (hr:xW w po pn pc rs) (g1:dZ ps rs=false) (g2:dZ qs []=false) (ho:yg ps pn) (ho2:yg qs pn):
  Calls Tryz.prog 5 #[ah7 ao n ae,ah7 bo m cb,ah7 po pn pc] w (cr (ah8 true) w):=by
 have HE:Hid (∀V,ah5 w.heap.size w V->EU V):=λV hV=>he.below hV
 have Ar:=hid hp;have Hl:=hid hq;have vL:=hid hr;have ox:=hid (ah6 w.heap.size w);have HP:=hid (Hq.of g1);have HQ:=hid (Hq.of g2);obtain⟨_,hr1,_,hr2⟩:=nj g1;have EH:=hid (hr.pt hr2);have HL:=hid ((hr.pt hr2).lq (by omega) (by rw[<-hr.len];exact hr1));have hpc:=Az hp HP.o ho.1;have hqc:=Az hq HQ.o ho2.1;have hfit:kC (ps.map iP) (qs.map iP):=EB.fit (bG hpc.2.1) (bG hqc.2.1) HP.o.eb HQ.o.eb (by omega);obtain⟨p,hpp⟩:∃p,ps.map iP=p:=⟨_,rfl⟩;obtain⟨q,hqq⟩:∃q,qs.map iP=q:=⟨_,rfl⟩
 have HS:Hid (bD (eu p q)/\ bA (eu p q)<=(pn:Int)/\ (∀u,dK (eu p q) u<=12)/\ ye (eu p q) (yh (rs.map tx)) (yi (rs.map tx)) 820/\ rv (rO (rs.map tx)) (eu p q)=rv (rO (rs.map tx)) p+rv (rO (rs.map tx)) q):=by
  rw[<-hpp,<-hqq];have e:=EB.add hpc.2.1 (bG hqc.2.1) HP.o.eb HQ.o.eb;have f:=(iG hpc.2.1 (bG hqc.2.1)).1;exact⟨f,Cl.le f (Cl.add hpc.2.1 (bG hqc.2.1) (Cl.of hpc.2.1 ho.2) (Cl.of hqc.2.1 ho2.2)) (by omega),e.dK,ye.TQ e.dK HL.o (LU (rP (vO hpc.1) (by rw[hpc.1.len];omega)) (rP (vO hqc.1) (by rw[hqc.1.len];omega))) (by omega) (by omega),Qa _ hpc.2.1 (bG hqc.2.1)⟩
 have HT:Hid (bD (df p q)/\ bA (df p q)<=(pn:Int)/\ (∀u,dK (df p q) u<=24)/\ ye (df p q) (yh (rs.map tx)) (yi (rs.map tx)) 1700/\ rv (rO (rs.map tx)) (df p q)=rv (rO (rs.map tx)) p*rv (rO (rs.map tx)) q):=by
  rw[<-hpp,<-hqq];have e:=EB.Ao hpc.2.1 hqc.2.1 hfit HP.o.eb HQ.o.eb;have f:=oz hpc.2.1 hqc.2.1 hfit;exact⟨f,Cl.le f (Cl.Ao hpc.2.1 hqc.2.1 hfit (Cl.of hpc.2.1 ho.2) (Cl.of hqc.2.1 ho2.2)) (by omega),e.dK,ye.TQ e.dK HL.o (EZ (rP (vO hpc.1) (by rw[hpc.1.len];omega)) (rP (vO hqc.1) (by rw[hqc.1.len];omega))) (by omega) (by omega),I' _ (bG hpc.2.1) (bG hqc.2.1) hfit⟩
 have E5:Hid (bD p/\ bD q/\ AA p q=true/\ n<=12/\ m<=12):=by rw[<-hpp,<-hqq];exact⟨hpc.2.1,hqc.2.1,oA.2 hfit,hpc.2.2,hqc.2.2⟩
 have W6:Hid (Pc 20 w ao n ae p):=by rw[<-hpp];exact hpc.1
 have Xa:Hid (Pc 20 w bo m cb q):=by rw[<-hqq];exact hqc.1
 have LF:Hid (ps.map iP=p/\ qs.map iP=q):=⟨hpp,hqq⟩;clear he hp hq hr hr1 hr2 hpc hqc hfit hpp hqq;go_enter Tryz.func5,Tryz.ntmps5;go_wp2_with fail;refine(fp false Ar.o vL.o g1).mono ?_;rintro e w1 ⟨rfl,hB⟩;have Hm:=hid (Ar.o.below hB);have Ci:=hid (Hl.o.below hB);have LQ:=hid (vL.o.below hB);have Ho:=hid (EH.o.below hB);have Xb:=hid (W6.o.below hB);have Xc:=hid (Xa.o.below hB);have oh:=hid (Below.ar ox.o hB);clear hB  ox Ar Hl vL EH W6 Xa LQ;go_wp2_with fail;refine(fp false Ci.o (xW.nil _) g2).mono ?_;rintro e w2 ⟨rfl,hB⟩;have EY:=hid (Hm.o.below hB);have LD:=hid (Ci.o.below hB);have Hp:=hid (Ho.o.below hB);have Xd:=hid (Xb.o.below hB);have Xe:=hid (Xc.o.below hB);have oy:=hid (Below.ar oh.o hB);clear hB  oh Hm Ci Ho Xb Xc;go_wp2_with fail;refine(Hr EY.o HP.o ho Hp.o HL.o).mono ?_;rintro e w3 ⟨am,aa,an,ac,ak,ab,al,ad,rfl,hX,hB⟩;rw[LF.o.1]at hX;have Wp:=hid (EY.o.below hB);have P7:=hid (LD.o.below hB);have P8:=hid (Hp.o.below hB);have Xf:=hid (Xd.o.below hB);have Xg:=hid (Xe.o.below hB);have tu:=hid (Below.ar oy.o hB);have SN:=hid (hX);clear hB hX oy EY LD Hp Xd Xe Wp;obtain⟨b7,sX⟩:∃b,b=w3.heap.size:=⟨_,rfl⟩;go_upto_region 4 with(fail)
 refine aj (λw4 hW=>?_);have a4:aS w4 b7 [ah8 am,ah7 aa an ac,ah8 ak,ah7 ab al ad] 31/\ ah5 w3.heap.size w3 w4:=by rw[hW,sX];exact gp w3 _ 31
 rw[<-sX];have LS:=hid (P7.o.below a4.2);have PI:=hid (P8.o.below a4.2);have Xh:=hid (Xf.o.below a4.2);have Xi:=hid (Xg.o.below a4.2);have A_4:=hid (SN.o.aW a4.2);have vM:=hid (Below.ar tu.o a4.2);have P9:=hid a4.1;clear hW sX a4 tu P7 P8 Xf Xg SN;go_wp2_with fail;refine(Hr LS.o HQ.o ho2 PI.o HL.o).mono ?_;rintro e w5 ⟨bm,ba,bn,bc,bk,bb,bl,bd,rfl,hX,hB⟩;rw[LF.o.2]at hX;have Wq:=hid (LS.o.below hB);have SK:=hid (PI.o.below hB);have Xj:=hid (Xh.o.below hB);have Xk:=hid (Xi.o.below hB);have A_5:=hid (A_4.o.aW hB);have Ws:=hid (P9.o.below hB);have vN:=hid (Below.ar vM.o hB);have Xl:=hid (hX);clear hB hX vM LS PI Xh Xi A_4 P9 Wq;obtain⟨b9,Cs⟩:∃b,b=w5.heap.size:=⟨_,rfl⟩;go_upto_region 5 with(fail)
 refine aj (λw6 hW=>?_);have a4:aS w6 b9 [ah8 bm,ah7 ba bn bc,ah8 bk,ah7 bb bl bd] 31/\ ah5 w5.heap.size w5 w6:=by rw[hW,Cs];exact gp w5 _ 31
 rw[<-Cs];have SL:=hid (SK.o.below a4.2);have Qb:=hid (Xj.o.below a4.2);have Qc:=hid (Xk.o.below a4.2);have A_6:=hid (A_5.o.aW a4.2);have X_6:=hid (Ws.o.below a4.2);have Wt:=hid (Xl.o.aW a4.2);have tv:=hid (Below.ar vN.o a4.2);have SM:=hid a4.1;clear hW Cs a4 vN SK Xj Xk A_5 Ws Xl;go_wp2_with fail;refine(LV Qb.o Qc.o E5.o.1 E5.o.2.1 (by have:=E5.o;omega) (by omega)).mono ?_;rintro e w7 ⟨so,sn,sc,rfl,hX,hB⟩;have hsn:sn<=24:=by have h1:=hX.len;have h2:=lB p q;rw[Qb.o.len,Qc.o.len]at h2;have:=E5.o;omega
 have Z8:=hid (SL.o.below hB);have Qd:=hid (Qb.o.below hB);have Qe:=hid (Qc.o.below hB);have A_7:=hid (A_6.o.aW hB);have X_7:=hid (X_6.o.below hB);have B_7:=hid (Wt.o.aW hB);have Z9:=hid (SM.o.below hB);have Aw:=hid (Below.ar tv.o hB);have S_7:=hid (hX);clear hB hX tv SL Qb Qc A_6 X_6 Wt SM;go_wp2_with fail;refine(E6 Qd.o Qe.o E5.o.1 E5.o.2.1 (by have:=E5.o;omega) (by have:=E5.o;omega) (by have:=E5.o;have:=Nat.mul_le_mul E5.o.2.2.2.1 E5.o.2.2.2.2;omega) (by omega) E5.o.2.2.1).mono ?_;rintro e w8 ⟨zo,zn,zc,rfl,hX,hB⟩;have hzn:zn<=100000:=by have h1:=hX.len;have h2:=yj p q;rw[Qd.o.len,Qe.o.len]at h2;have:=Nat.mul_le_mul E5.o.2.2.2.1 E5.o.2.2.2.2;omega
 have R_8:=hid (Z8.o.below hB);have aa0:=hid (Qd.o.below hB);have aa1:=hid (Qe.o.below hB);have A_8:=hid (A_7.o.aW hB);have X_8:=hid (X_7.o.below hB);have B_8:=hid (B_7.o.aW hB);have Y_8:=hid (Z9.o.below hB);have S_8:=hid (S_7.o.below hB);have LW:=hid (Below.ar Aw.o hB);have T_8:=hid (hX.mono (show 20+20+n+m<=100 by have:=E5.o;omega));clear hB hX Aw Z8 Qd Qe A_7 X_7 B_7 Z9 S_7 aa0;clear aa1;go_wp2_with fail;refine(vg (K:=21) (J:=820) (j:=3) S_8.o HS.o.1 (by omega) HS.o.2.1 (λu=>Nat.le_trans (HS.o.2.2.1 u) (by omega)) (by omega) R_8.o HS.o.2.2.2.1).mono ?_;rintro e w9 ⟨cm,ca,cn,cc,ck,cb,cl,cd,rfl,hX,hB⟩;rw[HS.o.2.2.2.2]at hX;have R_9:=hid (R_8.o.below hB);have A_9:=hid (A_8.o.aW hB);have X_9:=hid (X_8.o.below hB);have B_9:=hid (B_8.o.aW hB);have Y_9:=hid (Y_8.o.below hB);have S_9:=hid (S_8.o.below hB);have T_9:=hid (T_8.o.below hB);have LX:=hid (Below.ar LW.o hB);have C_9:=hid (hX);clear hB hX LW R_8 A_8 X_8 B_8 Y_8 S_8 T_8 S_9;obtain⟨b15,TR⟩:∃b,b=w9.heap.size:=⟨_,rfl⟩;go_upto_region 10 with(fail)
 refine aj (λPJ hW=>?_);have a4:aS PJ b15 [ah8 cm,ah7 ca cn cc,ah8 ck,ah7 cb cl cd] 31/\ ah5 w9.heap.size w9 PJ:=by rw[hW,TR];exact gp w9 _ 31
 rw[<-TR];have TS:=hid (R_9.o.below a4.2);have Xm:=hid (A_9.o.aW a4.2);have Xn:=hid (X_9.o.below a4.2);have Xo:=hid (B_9.o.aW a4.2);have Xp:=hid (Y_9.o.below a4.2);have TT:=hid (T_9.o.below a4.2);have Xq:=hid (C_9.o.aW a4.2);have Ct:=hid (Below.ar LX.o a4.2);have Xr:=hid a4.1;clear hW TR a4 LX R_9 A_9 X_9 B_9 Y_9 T_9 C_9;go_wp2_with fail;refine(vg (K:=100) (J:=1700) (j:=3) TT.o HT.o.1 (by omega) HT.o.2.1 (λu=>Nat.le_trans (HT.o.2.2.1 u) (by omega)) (by omega) TS.o HT.o.2.2.2.1).mono ?_;rintro e Hs ⟨dm,da,dn,dc,dk,db,dl,dd,rfl,hX,hB⟩;rw[HT.o.2.2.2.2]at hX;have aa2:=hid (TS.o.below hB);have Xs:=hid (Xm.o.aW hB);have Xt:=hid (Xn.o.below hB);have Xu:=hid (Xo.o.aW hB);have Xv:=hid (Xp.o.below hB);have aa3:=hid (TT.o.below hB);have Xw:=hid (Xq.o.aW hB);have Xx:=hid (Xr.o.below hB);have Cu:=hid (Below.ar Ct.o hB);have Xy:=hid (hX);clear hB hX Ct TS Xm Xn Xo Xp TT Xq Xr;clear aa3 aa2;obtain⟨b17,TU⟩:∃b,b=Hs.heap.size:=⟨_,rfl⟩;go_upto_region 11 with(fail)
 refine aj (λLY hW=>?_);have a4:aS LY b17 [ah8 dm,ah7 da dn dc,ah8 dk,ah7 db dl dd] 31/\ ah5 Hs.heap.size Hs LY:=by rw[hW,TU];exact gp Hs _ 31
 rw[<-TU];have Xz:=hid (Xs.o.aW a4.2);have TV:=hid (Xt.o.below a4.2);have XA:=hid (Xu.o.aW a4.2);have TW:=hid (Xv.o.below a4.2);have XB:=hid (Xw.o.aW a4.2);have TX:=hid (Xx.o.below a4.2);have XC:=hid (Xy.o.aW a4.2);have Cv:=hid (Below.ar Cu.o a4.2);have Ja:=hid a4.1;clear hW TU a4 Cu Xs Xt Xu Xv Xw Xx Xy;refine wp_region_held_drew (S:=(λw'=>(w'.cell? ⟨b15,0,none⟩=some (ah8 cm)/\ w'.cell? ⟨b15,1,none⟩=some (ah7 ca cn cc)/\ w'.cell? ⟨b15,2,none⟩=some (ah8 ck)/\ w'.cell? ⟨b15,3,none⟩=some (ah7 cb cl cd))/\ (w'.cell? ⟨b7,0,none⟩=some (ah8 am)/\ w'.cell? ⟨b7,1,none⟩=some (ah7 aa an ac)/\ w'.cell? ⟨b7,2,none⟩=some (ah8 ak)/\ w'.cell? ⟨b7,3,none⟩=some (ah7 ab al ad))/\ (w'.cell? ⟨b9,0,none⟩=some (ah8 bm)/\ w'.cell? ⟨b9,1,none⟩=some (ah7 ba bn bc)/\ w'.cell? ⟨b9,2,none⟩=some (ah8 bk)/\ w'.cell? ⟨b9,3,none⟩=some (ah7 bb bl bd))/\ (w'.cell? ⟨b17,0,none⟩=some (ah8 dm)/\ w'.cell? ⟨b17,1,none⟩=some (ah7 da dn dc)/\ w'.cell? ⟨b17,2,none⟩=some (ah8 dk)/\ w'.cell? ⟨b17,3,none⟩=some (ah7 db dl dd)))) (by kernel_rfl) ⟨(TX.o.below (ah6 _ _).drew).q4,(TV.o.below (ah6 _ _).drew).q4,(TW.o.below (ah6 _ _).drew).q4,(Ja.o.below (ah6 _ _).drew).q4⟩ (λhH=>?_);refine ah (λV0 hW=>?_);have hD:ah5 LY.heap.size LY V0:=by rw[hW];exact(ah6 _ _).drew
 rw[<-hW]at hH;have A0:=hid (Xz.o.aW hD);have B0:=hid (XA.o.aW hD);have C0:=hid (XB.o.aW hD);have D0:=hid (XC.o.aW hD);have X0:=hid (TV.o.below hD);have Y0:=hid (TW.o.below hD);have Z0:=hid (TX.o.below hD);have U0:=hid (Ja.o.below hD);have G0:=hid (Below.ar Cv.o hD);clear hW hD Cv Xz XA XB XC TV TW TX Ja;refine aT 0 hH ?_
 try simp only[ax]
 refine aT 1 hH ?_
 try simp only[ax]
 refine aT 2 hH ?_
 try simp only[ax]
 refine aT 4 hH ?_
 try simp only[ax]
 refine ag 3 rfl (by kernel_rfl) (λKK hK=>?_);go_simp;refine(Cw A0.o.rx B0.o.rx (by omega) (by omega) (by omega)).mono ?_;rintro e V1 ⟨em,ea,en,ec,ek,eb,el,ed,rfl,hX,hB⟩;have A1:=hid (A0.o.aW hB);have B1:=hid (B0.o.aW hB);have C1:=hid (C0.o.aW hB);have D1:=hid (D0.o.aW hB);have X1:=hid (X0.o.below hB);have Y1:=hid (Y0.o.below hB);have Z1:=hid (Z0.o.below hB);have U1:=hid (U0.o.below hB);have G1:=hid (Below.ar G0.o hB);have E1:=hid (hX);clear hB hX A0 B0 C0 D0 X0 Y0 Z0 U0 G0;go_wp2_with fail;clear hH;refine hK.o _ _ ⟨Z1.o.q4,X1.o.q4,Y1.o.q4,U1.o.q4⟩ λhH=>?_;clear hK KK
 try simp only[ax]
 refine ag 5 rfl (by kernel_rfl) (λKK hK=>?_);go_simp;refine(vP C1.o E1.o rfl (by omega) (by omega) (by omega)).mono ?_;rintro e V2 ⟨rfl,hB⟩;have A2:=hid (A1.o.aW hB);have B2:=hid (B1.o.aW hB);have C2:=hid (C1.o.aW hB);have D2:=hid (D1.o.aW hB);have X2:=hid (X1.o.below hB);have Y2:=hid (Y1.o.below hB);have Z2:=hid (Z1.o.below hB);have U2:=hid (U1.o.below hB);have E2:=hid (E1.o.aW hB);have G2:=hid (Below.ar G1.o hB);clear hB  A1 B1 C1 D1 X1 Y1 Z1 U1 E1 G1;go_wp2_with fail;clear hH;refine hK.o _ _ ⟨Z2.o.q4,X2.o.q4,Y2.o.q4,U2.o.q4⟩ λhH=>?_;clear hK KK
 try simp only[ax]
 clear E2 C2;refine aT 6 hH ?_
 try simp only[ax]
 refine aT 7 hH ?_
 try simp only[ax]
 refine aT 8 hH ?_
 try simp only[ax]
 refine aT 9 hH ?_
 try simp only[ax]
 refine aT 11 hH ?_
 try simp only[ax]
 refine ag 10 rfl (by kernel_rfl) (λKK hK=>?_);go_simp;refine(LZ A2.o.rx B2.o.rx (by omega) (by omega) (by omega)).mono ?_;rintro e V3 ⟨fm,fa,fn,fc,fk,fb,fl,fd,rfl,hX,hB⟩;have A3:=hid (A2.o.aW hB);have B3:=hid (B2.o.aW hB);have D3:=hid (D2.o.aW hB);have X3:=hid (X2.o.below hB);have Y3:=hid (Y2.o.below hB);have Z3:=hid (Z2.o.below hB);have U3:=hid (U2.o.below hB);have G3:=hid (Below.ar G2.o hB);have E3:=hid (hX);clear hB hX A2 B2 D2 X2 Y2 Z2 U2 G2;go_wp2_with fail;clear hH;refine hK.o _ _ ⟨Z3.o.q4,X3.o.q4,Y3.o.q4,U3.o.q4⟩ λhH=>?_;clear hK KK
 try simp only[ax]
 refine ag 12 rfl (by kernel_rfl) (λKK hK=>?_);go_simp;refine(vP D3.o E3.o rfl (by omega) (by omega) (by omega)).mono ?_;rintro e V4 ⟨rfl,hB⟩;have A4:=hid (A3.o.aW hB);have B4:=hid (B3.o.aW hB);have D4:=hid (D3.o.aW hB);have X4:=hid (X3.o.below hB);have Y4:=hid (Y3.o.below hB);have Z4:=hid (Z3.o.below hB);have U4:=hid (U3.o.below hB);have E4:=hid (E3.o.aW hB);have G4:=hid (Below.ar G3.o hB);clear hB  A3 B3 D3 X3 Y3 Z3 U3 E3 G3;go_wp2_with fail;clear hH;refine hK.o _ _ ⟨Z4.o.q4,X4.o.q4,Y4.o.q4,U4.o.q4⟩ λhH=>?_;clear hK KK
 try simp only[ax]
 clear E4 D4;refine aT 13 hH ?_
 try simp only[ax]
 refine aT 14 hH ?_
 try simp only[ax]
 refine ag 15 rfl (by kernel_rfl) (λKK hK=>?_);go_simp;refine(jI (HE.o _ G4.o)).mono ?_;rintro e V5 ⟨rfl,hB⟩;have A5:=hid (A4.o.aW hB);have B5:=hid (B4.o.aW hB);have X5:=hid (X4.o.below hB);have Y5:=hid (Y4.o.below hB);have Z5:=hid (Z4.o.below hB);have U5:=hid (U4.o.below hB);have G5:=hid (Below.ar G4.o hB);clear hB  A4 B4 X4 Y4 Z4 U4 G4;go_wp2_with fail;clear hH;refine hK.o _ _ ⟨Z5.o.q4,X5.o.q4,Y5.o.q4,U5.o.q4⟩ λhH=>?_;clear hK KK
 try simp only[ax]
 refine aT 16 hH ?_
 try simp only[ax]
 refine aT 17 hH ?_
 try simp only[ax]
 refine wpAnyH_done (by kernel_rfl) ?_ _
 have HBF:=hid G5.o;go_wp2_with fail;go_ret;exact⟨rfl,HBF.o⟩
theorem yf [Ol] {ao bo po:Z'} {n ae m cb pn pc:Nat} {ps qs:List kr} {rs:List ly} {w:World} (he:EU w) (hp:Pr w ao n ae ps) (hq:Pr w bo m cb qs) (hr:xW w po pn pc rs):Calls Tryz.prog 5 #[ah7 ao n ae,ah7 bo m cb,ah7 po pn pc] w (cr (ah8 true) w):=by
 cases g1:dZ ps rs with
 |true=>exact Aq he hp hq hr g1
 |false=>cases g2:dZ qs []with
  |true=>exact Au he hp hq hr g1 g2
  |false=>
   by_cases ho:yg ps pn
   ·by_cases ho2:yg qs pn
    ·exact Ay he hp hq hr g1 g2 ho ho2
    ·exact Ax he hp hq hr g1 g2 ho ho2
   ·exact Av he hp hq hr g1 g2 ho
end Go.Proofs.YtmenbpmciblnlaaGreatDoor
