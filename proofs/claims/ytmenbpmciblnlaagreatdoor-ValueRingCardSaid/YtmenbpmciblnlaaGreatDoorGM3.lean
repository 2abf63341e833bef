import Derived.Test.YtmenbpmciblnlaaGreatDoorGM2
set_option maxHeartbeats 0
set_option maxRecDepth 100000
open Go renaming below_drewN->ah5
open Go.RowKit.Below renaming refl->ah6
namespace Go.Proofs.YtmenbpmciblnlaaGreatDoor
open Go.RowKit
open Lib (hid)
theorem rU [Ol] {a0 b0:Z'} {la ca lc cc:Nat} {xs ys:List (Int×Int)} {w:World} (ha:Ml w a0 la ca xs) (hb:Ml w b0 lc cc ys) (z:Int) (hz:oC z (qF xs) (qF ys)):
  Calls Tryz.prog 45 #[.slice a0 la ca,.slice b0 lc cc] w (cr (.int .i64 z) w):=by
 have zr:=sq;have HZ:=hid hz;have HA:=hid ha;have rV:=hid hb;have HB:=hid (ah6 w.heap.size w);clear ha hb hz;go_enter Tryz.func45,Tryz.ntmps45;go_wp2_with fail;refine(sr HA.o).mono ?_;rintro e w1 ⟨rfl,hB⟩;have HB1:=hid (Below.ar HB.o hB);have zj:=hid (rV.o.below hB);clear hB HA rV HB;go_wp2_with (refine fh rfl (.tmp 5) (.tmp 9) rfl _ rfl _ _ rfl (gm.cS w1 _) ?_);refine uy (λW1 hW=>?_);have PS:Hid (gm W1 w1.heap.size (qF xs)):=by rw[hW];exact(gm.cS w1 _).put _
 have HB2:Hid (Below w.heap.size w W1):=by rw[hW];exact below_setRow (Below.ar HB1.o (af _ _)) HB1.o.size _
 have Il:Hid (Ml W1 b0 lc cc ys):=by rw[hW];exact(zj.o.below (below_setRow (af w1 _) (Nat.le_refl _) _))
 have hx2:=HB1.o.size;clear hW HB1 zj;refine(sr Il.o).mono ?_;rintro e w2 ⟨rfl,hB⟩;have HB3:=hid (Below.ar HB2.o hB);have Fb:=hid (PS.o.below hB);clear hB PS HB2 Il;go_wp2_with (refine fh rfl (.tmp 6) (.tmp 11) rfl _ rfl _ _ rfl (gm.cS w2 _) ?_);have hy2:=HB3.o.size;have hxy:=Fb.o.lt;refine aj (λW2 hW=>?_);have QS:Hid (gm W2 w1.heap.size (qF xs)):=by rw[hW];exact(Fb.o.below (af _ _)).M7 (by omega) _
 have UA:Hid (gm W2 w2.heap.size (qF ys)):=by rw[hW];exact(gm.cS w2 _).put _
 have lx:Hid (Below w.heap.size w W2):=by rw[hW];exact below_setRow (Below.ar HB3.o (af _ _)) hy2 _
 obtain⟨by',hby⟩:∃b,b=w2.heap.size:=⟨_,rfl⟩;rw[<-hby]at UA hy2 hxy
 try rw[<-hby]
 clear hW Fb HB3 hby zr;go_wp2;go_loopw [7] (λi wr=>∃k:Nat,k<=200/\ i= .int .i64 k/\ Hid (∀u:Int,(k:Int)<u->qF xs u=qF ys u)/\ Hid (gm wr w1.heap.size (qF xs)/\ gm wr by' (qF ys)/\ Below w.heap.size w wr)) (λi _=>(intOf i).toNat)
 case atStart=>exact⟨200,by omega,rfl,λu hu=>by unfold qF;rw[lJ (pY _) (by omega),lJ (pY _) (by omega)],QS.o,UA.o,lx.o⟩
 case round=>
  clear QS UA lx;obtain⟨k,hk,rfl,HT,HS⟩:=hrel;by_cases hk2:1<=k
  ·have hk3:(k:Int)<=200:=by omega
   have hk4:(k:Int)<201:=by omega
   have hk5:(0:Int)<=k:=by omega
   have hk6:(1:Int)<=k:=by omega
   have c1:=HS.o.1.cell k (by omega);have c2:=HS.o.2.1.cell k (by omega);have HL:Hid (qF xs k<qF ys k->z= -1):=λh=>HZ.o.Ch (.inr (.inl ⟨k,rfl,h,HT.o⟩))
   have HG:Hid (qF ys k<qF xs k->z=1):=λh=>HZ.o.Ch (.inr (.inr ⟨k,rfl,h,HT.o⟩))
   have HE:Hid (∀u:Int,((k-1:Nat):Int)<u->qF xs k=qF ys k->qF xs u=qF ys u):=λu hu h=>by
    by_cases hu2:u=(k:Int)
    ·subst hu2;exact h
    ·exact HT.o u (by omega)
   obtain⟨p,hp⟩:∃p,p=qF xs k:=⟨_,rfl⟩;obtain⟨q,hq⟩:∃q,q=qF ys k:=⟨_,rfl⟩;rw[<-hp]at c1 HL HG HE;rw[<-hq]at c2 HL HG HE;clear hp hq;rcases Int.lt_trichotomy p q with g|g|g
   ·have g1:decide (p<q)=true:=decide_eq_true g;have HM:=hid (HL.o g);clear g HL HG HE;go_wp2;go_quiet (fail);go_wp2;go_ret;exact⟨fe HM.o.symm,HS.o.2.2.trans (ah5 (ah6 _ _) _)⟩
   ·subst g;clear HL HG;go_wp2;go_quiet (fail);go_wp2;go_quiet (fail);go_wp2;go_roundw
    case rel=>exact⟨k-1,by omega,by go_num,λu hu=>HE.o u hu (by simp),(HS.o.1.below (ah5 (ah6 _ _) _)),(HS.o.2.1.below (ah5 (ah6 _ _) _)),(HS.o.2.2.trans (ah5 (ah6 _ _) _))⟩
    case measure=>simp[intOf];omega
   ·have g1:decide (p<q)=false:=decide_eq_false (by omega);have g2:decide (q<p)=true:=decide_eq_true g;have HM:=hid (HG.o g);clear g HL HG HE;go_wp2;go_quiet (fail);go_wp2;go_quiet (fail);go_wp2;go_ret;exact⟨fe HM.o.symm,(HS.o.2.2.trans (ah5 (ah5 (ah6 _ _) _) _))⟩
  ·obtain rfl:k=0:=by omega
   have HM:Hid (z=0):=HZ.o.Ch (.inl ⟨rfl,λu=>by
    by_cases hu:0<u
    ·exact HT.o u (by omega)
    ·unfold qF;rw[lJ (pY _) (by omega),lJ (pY _) (by omega)]⟩)
   go_wp2;go_ret;exact⟨fe HM.o.symm,HS.o.2.2⟩
theorem oT:∀{ps:List (Int×Int)} {lo:Int},ic lo ps->(ps=[]/\ fU ps=0)∨(lo<fU ps/\ fU ps<=200/\ aI ps (fU ps)≠0/\∀u,fU ps<u->aI ps u=0)
 |[],_,_=> .inl ⟨rfl,rfl⟩
 |p::r,lo,h=>by
  have h1:=h.1;refine .inr ?_;rcases oT h.2.2.2 with⟨hr,_⟩|⟨k1,k2,k3,k4⟩
  ·subst hr;have e:fU [p]=p.1:=rfl;rw[e];refine⟨h1,h.2.1,by simp[aI];exact h.2.2.1,λu hu=>?_⟩;simp only[aI];rw[if_neg (by omega)]
  ·have hne:r≠[]:=λe=>by rw[e]at k3;exact k3 rfl
   have e:fU (p::r)=fU r:=by simp only[fU];rw[if_neg hne]
   rw[e];refine⟨by omega,k2,by simp only[aI];rw[if_neg (by omega)];exact k3,λu hu=>?_⟩;simp only[aI];rw[if_neg (by omega)];exact k4 u hu
section
variable {a0 b0:Option Addr} {la ca lc cc:Nat} {xs ys:List (Int×Int)} {w:World}
theorem M8 [Ol] (qs:List (Int×Int)) (z:Int) (ha:Ml w a0 la ca xs) (hb:Ml w b0 lc cc ys) (h:gq (λx y=>x+y) 8 xs ys=(qs,z)):
  Calls Tryz.prog 73 #[.slice a0 la ca,.slice b0 lc cc] w (qH w qs z):=by have:=tI ha hb;rw[h]at this;exact this
theorem FN [Ol] (c z:Int) (ha:Ml w a0 la ca xs) (hb:Ml w b0 lc cc ys) (h:JM xs ys=(c,z)):
  Calls Tryz.prog 144 #[.slice a0 la ca,.slice b0 lc cc] w (cr (.tuple #[.int .i64 c,.int .i64 z]) w):=by have:=C6 ha hb;rw[h]at this;exact this
end
end Go.Proofs.YtmenbpmciblnlaaGreatDoor
