/- MRDeg, MROver, MRCom, MRCmp, MRWo, MLaw -/
import Derived.Test.YtmenbpmciblnlaaGreatDoorGM2
set_option maxHeartbeats 0
set_option maxRecDepth 100000
open Go renaming below_drewN->a0a
open Go.RowKit.Below renaming refl->a0b
namespace Go.Proofs.YtmenbpmciblnlaaGreatDoor
open Go.RowKit
open Lib (hid)
theorem ql [Ol] {a0 b0:Option Addr} {la ca lc cc:Nat} {xs ys:List (Int×Int)} {w:World} (ha:Ml w a0 la ca xs) (hb:Ml w b0 lc cc ys) (z:Int) (hz:qN z (nW xs) (nW ys)):
  Calls Tryz.prog 45 #[.slice a0 la ca,.slice b0 lc cc] w (cu (.int .i64 z) w):=by
 have zr:=rQ;have HZ:=hid hz;have HA:=hid ha;have vS:=hid hb;have HB:=hid (a0b w.heap.size w);clear ha hb hz;go_enter Tryz.func45,Tryz.ntmps45;go_wp2_with fail;refine(rR HA.out).mono ?_;rintro e w1 ⟨rfl,hB⟩;have HB1:=hid (Below.steps HB.out hB);have Hg:=hid (vS.out.below hB);clear hB HA vS HB;go_wp2_with (refine fO rfl (.tmp 5) (.tmp 9) rfl _ rfl _ _ rfl (Row.new w1 _) ?_);refine yI (λW1 hW=>?_);have Yp:Hid (Row W1 w1.heap.size (nW xs)):=by rw[hW];exact(Row.new w1 _).put _
 have HB2:Hid (Below w.heap.size w W1):=by rw[hW];exact below_setRow (Below.steps HB1.out (af _ _)) HB1.out.size _
 have Rf:Hid (Ml W1 b0 lc cc ys):=by rw[hW];exact(Hg.out.below (below_setRow (af w1 _) (Nat.le_refl _) _))
 have hx2:=HB1.out.size;clear hW HB1 Hg;refine(rR Rf.out).mono ?_;rintro e w2 ⟨rfl,hB⟩;have HB3:=hid (Below.steps HB2.out hB);have JG:=hid (Yp.out.below hB);clear hB Yp HB2 Rf;go_wp2_with (refine fO rfl (.tmp 6) (.tmp 11) rfl _ rfl _ _ rfl (Row.new w2 _) ?_);have hy2:=HB3.out.size;have hxy:=JG.out.lt;refine aj (λW2 hW=>?_);have HX4:Hid (Row W2 w1.heap.size (nW xs)):=by rw[hW];exact(JG.out.below (af _ _)).Rh (by omega) _
 have Yq:Hid (Row W2 w2.heap.size (nW ys)):=by rw[hW];exact(Row.new w2 _).put _
 have qP:Hid (Below w.heap.size w W2):=by rw[hW];exact below_setRow (Below.steps HB3.out (af _ _)) hy2 _
 obtain⟨by',hby⟩:∃b,b=w2.heap.size:=⟨_,rfl⟩;rw[<-hby]at Yq hy2 hxy
 try rw[<-hby]
 clear hW JG HB3 hby zr;go_wp2;go_loopw [7] (λi wr=>∃k:Nat,k<=200/\ i= .int .i64 k/\ Hid (∀u:Int,(k:Int)<u->nW xs u=nW ys u)/\ Hid (Row wr w1.heap.size (nW xs)/\ Row wr by' (nW ys)/\ Below w.heap.size w wr)) (λi _=>(intOf i).toNat)
 case atStart=>exact⟨200,by omega,rfl,λu hu=>by unfold nW;rw[lJ (mE _) (by omega),lJ (mE _) (by omega)],HX4.out,Yq.out,qP.out⟩
 case round=>
  clear HX4 Yq qP;obtain⟨k,hk,rfl,HT,HS⟩:=hrel;by_cases hk2:1<=k
  ·have hk3:(k:Int)<=200:=by omega
   have hk4:(k:Int)<201:=by omega
   have hk5:(0:Int)<=k:=by omega
   have hk6:(1:Int)<=k:=by omega
   have c1:=HS.out.1.cell k (by omega);have c2:=HS.out.2.1.cell k (by omega);have HL:Hid (nW xs k<nW ys k->z= -1):=λh=>HZ.out.unique (.inr (.inl ⟨k,rfl,h,HT.out⟩))
   have HG:Hid (nW ys k<nW xs k->z=1):=λh=>HZ.out.unique (.inr (.inr ⟨k,rfl,h,HT.out⟩))
   have HE:Hid (∀u:Int,((k-1:Nat):Int)<u->nW xs k=nW ys k->nW xs u=nW ys u):=λu hu h=>by
    by_cases hu2:u=(k:Int)
    ·subst hu2;exact h
    ·exact HT.out u (by omega)
   obtain⟨p,hp⟩:∃p,p=nW xs k:=⟨_,rfl⟩;obtain⟨q,hq⟩:∃q,q=nW ys k:=⟨_,rfl⟩;rw[<-hp]at c1 HL HG HE;rw[<-hq]at c2 HL HG HE;clear hp hq;rcases Int.lt_trichotomy p q with g|g|g
   ·have g1:decide (p<q)=true:=decide_eq_true g;have HM:=hid (HL.out g);clear g HL HG HE;go_wp2;go_quiet (fail);go_wp2;go_ret;exact⟨fZ HM.out.symm,HS.out.2.2.trans (a0a (a0b _ _) _)⟩
   ·subst g;clear HL HG;go_wp2;go_quiet (fail);go_wp2;go_quiet (fail);go_wp2;go_roundw
    case rel=>exact⟨k-1,by omega,by go_num,λu hu=>HE.out u hu (by simp),(HS.out.1.below (a0a (a0b _ _) _)),(HS.out.2.1.below (a0a (a0b _ _) _)),(HS.out.2.2.trans (a0a (a0b _ _) _))⟩
    case measure=>simp[intOf];omega
   ·have g1:decide (p<q)=false:=decide_eq_false (by omega);have g2:decide (q<p)=true:=decide_eq_true g;have HM:=hid (HG.out g);clear g HL HG HE;go_wp2;go_quiet (fail);go_wp2;go_quiet (fail);go_wp2;go_ret;exact⟨fZ HM.out.symm,(HS.out.2.2.trans (a0a (a0a (a0b _ _) _) _))⟩
  ·obtain rfl:k=0:=by omega
   have HM:Hid (z=0):=HZ.out.unique (.inl ⟨rfl,λu=>by
    by_cases hu:0<u
    ·exact HT.out u (by omega)
    ·unfold nW;rw[lJ (mE _) (by omega),lJ (mE _) (by omega)]⟩)
   go_wp2;go_ret;exact⟨fZ HM.out.symm,HS.out.2.2⟩
theorem mV:∀{ps:List (Int×Int)} {lo:Int},jm lo ps->(ps=[]/\ fe ps=0)∨(lo<fe ps/\ fe ps<=200/\ aJ ps (fe ps)≠0/\∀u,fe ps<u->aJ ps u=0)
 |[],_,_=> .inl ⟨rfl,rfl⟩
 |p::r,lo,h=>by
  have h1:=h.1;refine .inr ?_;rcases mV h.2.2.2 with⟨hr,_⟩|⟨k1,k2,k3,k4⟩
  ·subst hr;have e:fe [p]=p.1:=rfl;rw[e];refine⟨h1,h.2.1,by simp[aJ];exact h.2.2.1,λu hu=>?_⟩;simp only[aJ];rw[if_neg (by omega)]
  ·have hne:r≠[]:=λe=>by rw[e]at k3;exact k3 rfl
   have e:fe (p::r)=fe r:=by simp only[fe];rw[if_neg hne]
   rw[e];refine⟨by omega,k2,by simp only[aJ];rw[if_neg (by omega)];exact k3,λu hu=>?_⟩;simp only[aJ];rw[if_neg (by omega)];exact k4 u hu
theorem Yr {ps:List (Int×Int)} (h:jm 0 ps) {k:Int} (h1:aJ ps k≠0) (h2:∀u,k<u->aJ ps u=0):fe ps=k:=by
 rcases mV h with⟨rfl,_⟩|⟨k1,k2,k3,k4⟩
 ·exact absurd rfl h1
 ·rcases Int.lt_trichotomy (fe ps) k with g|g|g
  ·exact absurd (k4 k g) h1
  ·exact g
  ·exact absurd (h2 _ g) k3
theorem Ri {ps:List (Int×Int)} (h:jm 0 ps) (h2:∀u,aJ ps u=0):fe ps=0:=by
 rcases mV h with⟨_,h3⟩|⟨_,_,k3,_⟩
 ·exact h3
 ·exact absurd (h2 _) k3
theorem uL [Ol] {ao:Option Addr} {n cap:Nat} {ps:List (Int×Int)} {w:World} (h:Ml w ao n cap ps) (z:Int) (hz:fe (orM ps)=z):
  Calls Tryz.prog 48 #[.slice ao n cap] w (cu (.int .i64 z) w):=by
 have zr:=rQ;have HZ:=hid hz;have HA:=hid h;clear h hz;go_enter Tryz.func48,Tryz.ntmps48;go_wp2_with fail;refine(rR HA.out).mono ?_;rintro e w1 ⟨rfl,hB⟩;have HB1:=hid hB;clear hB HA;go_wp2_with (refine fO rfl (.tmp 3) (.tmp 6) rfl _ rfl _ _ rfl (Row.new w1 _) ?_);refine aj (λW1 hW=>?_);have ZR:Hid (Row W1 w1.heap.size (nW ps)):=by rw[hW];exact(Row.new w1 _).put _
 have HB2:Hid (Below w.heap.size w W1):=by rw[hW];exact below_setRow (Below.steps HB1.out (af _ _)) HB1.out.size _
 have hx2:=HB1.out.size;clear hW HB1 zr;go_wp2;go_loopw [4] (λi wr=>∃k:Nat,k<=200/\ i= .int .i64 k/\ Hid (∀u:Int,(k:Int)<u->nW ps u=0)/\ Hid (Row wr w1.heap.size (nW ps)/\ Below w.heap.size w wr)) (λi _=>(intOf i).toNat)
 case atStart=>exact⟨200,by omega,rfl,λu hu=>by unfold nW;rw[lJ (mE _) (by omega)],ZR.out,HB2.out⟩
 case round=>
  clear ZR HB2;obtain⟨k,hk,rfl,HT,HS⟩:=hrel;by_cases hk2:1<=k
  ·have hk3:(k:Int)<=200:=by omega
   have hk4:(k:Int)<201:=by omega
   have hk5:(0:Int)<=k:=by omega
   have hk6:(1:Int)<=k:=by omega
   have c1:=HS.out.1.cell k (by omega);have HL:Hid (0<nW ps k->z=k):=λh=>by rw[<-HZ.out];exact Yr (fU (mE _)) (by unfold nW at h;omega) HT.out
   have HE:Hid (∀u:Int,((k-1:Nat):Int)<u->¬0<nW ps k->nW ps u=0):=λu hu h=>by
    by_cases hu2:u=(k:Int)
    ·subst hu2;have:=(fE (mE ps) k).1;unfold nW at h ⊢;omega
    ·exact HT.out u (by omega)
   obtain⟨p,hp⟩:∃p,p=nW ps k:=⟨_,rfl⟩;rw[<-hp]at c1 HL HE;clear hp;by_cases g:0<p
   ·have g1:decide (0<p)=true:=decide_eq_true g;have HM:=hid (HL.out g);clear g HL HE;go_wp2;go_ret;exact⟨fZ HM.out.symm,HS.out.2⟩
   ·have g1:decide (0<p)=false:=decide_eq_false g;have HG:=hid g;clear g HL;go_wp2;go_roundw
    case rel=>exact⟨k-1,by omega,by go_num,λu hu=>HE.out u hu HG.out,HS.out⟩
    case measure=>simp[intOf];omega
  ·obtain rfl:k=0:=by omega
   have HM:Hid (z=0):=by
    rw[Hid,<-HZ.out];refine Ri (fU (mE _)) λu=>?_
    by_cases hu:0<u
    ·exact HT.out u (by omega)
    ·exact lJ (mE _) (by omega)
   go_wp2;go_ret;exact⟨fZ HM.out.symm,HS.out.2⟩
def rT [Ol] (w:World):List (Option Addr×Nat×Nat×List (Int×Int))->Prop
 |[]=>True
 |s::r=>Ml w s.1 s.2.1 s.2.2.1 s.2.2.2/\ rT w r
theorem rT.nil [Ol] (w:World):rT w []:=trivial
theorem rT.cons [Ol] {w:World} {ao:Option Addr} {n cap:Nat} {xs:List (Int×Int)} {r:List (Option Addr×Nat×Nat×List (Int×Int))} (h:Ml w ao n cap xs) (hr:rT w r):rT w ((ao,n,cap,xs)::r):=⟨h,hr⟩
theorem rT.head [Ol] {w:World} {ao:Option Addr} {n cap:Nat} {xs:List (Int×Int)} {r:List (Option Addr×Nat×Nat×List (Int×Int))} (h:rT w ((ao,n,cap,xs)::r)):Ml w ao n cap xs:=h.1
theorem rT.tl [Ol] {w:World} {s:Option Addr×Nat×Nat×List (Int×Int)} {r:List (Option Addr×Nat×Nat×List (Int×Int))} (h:rT w (s::r)):rT w r:=h.2
theorem rT.below [Ol] {w w':World} (hb:Below w.heap.size w w'):∀{r:List (Option Addr×Nat×Nat×List (Int×Int))},rT w r->rT w' r
 |[],_=>trivial
 | _::_,h=>⟨h.1.below hb,rT.below hb h.2⟩
theorem rT.ZQ [Ol] {w:World} {a0:Option Addr} {l0 c0:Nat} {xs:List (Int×Int)} (h0:Ml w a0 l0 c0 xs):rT w [(a0,l0,c0,xs)]:= .cons h0 (.nil w)
section
variable {a0 b0:Option Addr} {la ca lc cc:Nat} {xs ys:List (Int×Int)} {w:World}
theorem JZ [Ol] (c z:Int) (ha:Ml w a0 la ca xs) (hb:Ml w b0 lc cc ys) (h:Nn xs ys=(c,z)):
  Calls Tryz.prog 144 #[.slice a0 la ca,.slice b0 lc cc] w (cu (.tuple #[.int .i64 c,.int .i64 z]) w):=by have:=Hl ha hb;rw[h]at this;exact this
end
end Go.Proofs.YtmenbpmciblnlaaGreatDoor
