/- MRDeg, MROver, MRCom, MRCmp, MRWo, MLaw -/
import Derived.Test.YtmenbpmciblnlaaGreatDoorGM2
set_option maxHeartbeats 40000000
set_option maxRecDepth 100000
namespace Go.Proofs.YtmenbpmciblnlaaGreatDoor
open Go.RowKit
open Lib (hid)
theorem uQ [Ol] {a0 b0:Option Addr} {la ca lc cc:Nat} {xs ys:List (Int×Int)} {w:World} (ha:Ml w a0 la ca xs) (hb:Ml w b0 lc cc ys) (z:Int) (hz:qA z (si xs) (si ys)):
  Calls Tryz.prog 45 #[.slice a0 la ca,.slice b0 lc cc] w (dI (.int .i64 z) w):=by
 have zr:=vo;have HZ:=hid hz;have HA:=hid ha;have yP:=hid hb;have HB:=hid (Below.refl w.heap.size w);clear ha hb hz;go_enter Tryz.func45,Tryz.ntmps45;go_wp2_with fail;refine(vv HA.out).mono ?_;rintro e w1 ⟨rfl,hB⟩;have HB1:=hid (Below.steps HB.out hB);have LA:=hid (yP.out.below hB);clear hB HA yP HB;go_wp2_with (refine gG rfl (.tmp 5) (.tmp 9) rfl _ rfl _ _ rfl (Row.new w1 _) ?_);refine wZ (fun W1 hW=>?_);have Uy:Hid (Row W1 w1.heap.size (si xs)):=by rw[hW];exact(Row.new w1 _).put _
 have HB2:Hid (Below w.heap.size w W1):=by rw[hW];exact below_setRow (Below.steps HB1.out (af _ _)) HB1.out.size _
 have TK:Hid (Ml W1 b0 lc cc ys):=by rw[hW];exact(LA.out.below (below_setRow (af w1 _) (Nat.le_refl _) _))
 have hx2:=HB1.out.size;clear hW HB1 LA;refine(vv TK.out).mono ?_;rintro e w2 ⟨rfl,hB⟩;have HB3:=hid (Below.steps HB2.out hB);have Gb:=hid (Uy.out.below hB);clear hB Uy HB2 TK;go_wp2_with (refine gG rfl (.tmp 6) (.tmp 11) rfl _ rfl _ _ rfl (Row.new w2 _) ?_);have hy2:=HB3.out.size;have hxy:=Gb.out.lt;refine aj (fun W2 hW=>?_);have Yy:Hid (Row W2 w1.heap.size (si xs)):=by rw[hW];exact(Gb.out.below (af _ _)).O4 (by omega) _
 have Vi:Hid (Row W2 w2.heap.size (si ys)):=by rw[hW];exact(Row.new w2 _).put _
 have oJ:Hid (Below w.heap.size w W2):=by rw[hW];exact below_setRow (Below.steps HB3.out (af _ _)) hy2 _
 obtain⟨by',hby⟩:∃b,b=w2.heap.size:=⟨_,rfl⟩;rw[<-hby]at Vi hy2 hxy
 try rw[<-hby]
 clear hW Gb HB3 hby zr;go_wp2;go_loopw [7] (fun i wr=>∃k:Nat,k<=200/\ i= .int .i64 k/\ Hid (∀u:Int,(k:Int)<u->si xs u=si ys u)/\ Hid (Row wr w1.heap.size (si xs)/\ Row wr by' (si ys)/\ Below w.heap.size w wr)) (fun i _=>(intOf i).toNat)
 case atStart=>exact⟨200,by omega,rfl,fun u hu=>by unfold si;rw[rQ (xR _) (by omega),rQ (xR _) (by omega)],Yy.out,Vi.out,oJ.out⟩
 case round=>
  clear Yy Vi oJ;obtain⟨k,hk,rfl,HT,HS⟩:=hrel;by_cases hk2:1<=k
  ·have hk3:(k:Int)<=200:=by omega
   have hk4:(k:Int)<201:=by omega
   have hk5:(0:Int)<=k:=by omega
   have hk6:(1:Int)<=k:=by omega
   have c1:=HS.out.1.cell k (by omega);have c2:=HS.out.2.1.cell k (by omega);have HL:Hid (si xs k<si ys k->z= -1):=fun h=>HZ.out.unique (.inr (.inl ⟨k,rfl,h,HT.out⟩))
   have HG:Hid (si ys k<si xs k->z=1):=fun h=>HZ.out.unique (.inr (.inr ⟨k,rfl,h,HT.out⟩))
   have HE:Hid (∀u:Int,((k-1:Nat):Int)<u->si xs k=si ys k->si xs u=si ys u):=fun u hu h=>by
    by_cases hu2:u=(k:Int)
    ·subst hu2;exact h
    ·exact HT.out u (by omega)
   obtain⟨p,hp⟩:∃p,p=si xs k:=⟨_,rfl⟩;obtain⟨q,hq⟩:∃q,q=si ys k:=⟨_,rfl⟩;rw[<-hp]at c1 HL HG HE;rw[<-hq]at c2 HL HG HE;clear hp hq;rcases Int.lt_trichotomy p q with g|g|g
   ·have g1:decide (p<q)=true:=decide_eq_true g;have HM:=hid (HL.out g);clear g HL HG HE;go_wp2;go_quiet (fail);go_wp2;go_ret;exact⟨gN HM.out.symm,HS.out.2.2.trans (_root_.Go.below_drewN (Below.refl _ _) _)⟩
   ·subst g;clear HL HG;go_wp2;go_quiet (fail);go_wp2;go_quiet (fail);go_wp2;go_roundw
    case rel=>exact⟨k-1,by omega,by go_num,fun u hu=>HE.out u hu (by simp),(HS.out.1.below (_root_.Go.below_drewN (Below.refl _ _) _)),(HS.out.2.1.below (_root_.Go.below_drewN (Below.refl _ _) _)),(HS.out.2.2.trans (_root_.Go.below_drewN (Below.refl _ _) _))⟩
    case measure=>simp[intOf];omega
   ·have g1:decide (p<q)=false:=decide_eq_false (by omega);have g2:decide (q<p)=true:=decide_eq_true g;have HM:=hid (HG.out g);clear g HL HG HE;go_wp2;go_quiet (fail);go_wp2;go_quiet (fail);go_wp2;go_ret;exact⟨gN HM.out.symm,(HS.out.2.2.trans (_root_.Go.below_drewN (_root_.Go.below_drewN (Below.refl _ _) _) _))⟩
  ·obtain rfl:k=0:=by omega
   have HM:Hid (z=0):=HZ.out.unique (.inl ⟨rfl,fun u=>by
    by_cases hu:0<u
    ·exact HT.out u (by omega)
    ·unfold si;rw[rQ (xR _) (by omega),rQ (xR _) (by omega)]⟩)
   go_wp2;go_ret;exact⟨gN HM.out.symm,HS.out.2.2⟩
theorem qL:∀{ps:List (Int×Int)} {lo:Int},jg lo ps->(ps=[]/\ iC ps=0)∨(lo<iC ps/\ iC ps<=200/\ aH ps (iC ps)≠0/\∀u,iC ps<u->aH ps u=0)
 |[],_,_=> .inl ⟨rfl,rfl⟩
 |p::r,lo,h=>by
  have h1:=h.1;refine .inr ?_;rcases qL h.2.2.2 with⟨hr,_⟩|⟨k1,k2,k3,k4⟩
  ·subst hr;have e:iC [p]=p.1:=rfl;rw[e];refine⟨h1,h.2.1,by simp[aH];exact h.2.2.1,fun u hu=>?_⟩;simp only[aH];rw[if_neg (by omega)]
  ·have hne:r≠[]:=fun e=>by rw[e]at k3;exact k3 rfl
   have e:iC (p::r)=iC r:=by simp only[iC];rw[if_neg hne]
   rw[e];refine⟨by omega,k2,by simp only[aH];rw[if_neg (by omega)];exact k3,fun u hu=>?_⟩;simp only[aH];rw[if_neg (by omega)];exact k4 u hu
def qM [Ol] (w:World):List (Option Addr×Nat×Nat×List (Int×Int))->Prop
 |[]=>True
 |s::r=>Ml w s.1 s.2.1 s.2.2.1 s.2.2.2/\ qM w r
theorem qM.nil [Ol] (w:World):qM w []:=trivial
theorem qM.cons [Ol] {w:World} {ao:Option Addr} {n cap:Nat} {xs:List (Int×Int)} {r:List (Option Addr×Nat×Nat×List (Int×Int))} (h:Ml w ao n cap xs) (hr:qM w r):qM w ((ao,n,cap,xs)::r):=⟨h,hr⟩
theorem qM.head [Ol] {w:World} {ao:Option Addr} {n cap:Nat} {xs:List (Int×Int)} {r:List (Option Addr×Nat×Nat×List (Int×Int))} (h:qM w ((ao,n,cap,xs)::r)):Ml w ao n cap xs:=h.1
theorem qM.tl [Ol] {w:World} {s:Option Addr×Nat×Nat×List (Int×Int)} {r:List (Option Addr×Nat×Nat×List (Int×Int))} (h:qM w (s::r)):qM w r:=h.2
theorem qM.below [Ol] {w w':World} (hb:Below w.heap.size w w'):∀{r:List (Option Addr×Nat×Nat×List (Int×Int))},qM w r->qM w' r
 |[],_=>trivial
 | _::_,h=>⟨h.1.below hb,qM.below hb h.2⟩
theorem qM.V8 [Ol] {w:World} {a0:Option Addr} {l0 c0:Nat} {xs:List (Int×Int)} (h0:Ml w a0 l0 c0 xs):qM w [(a0,l0,c0,xs)]:= .cons h0 (.nil w)
section
variable {a0 b0:Option Addr} {la ca lc cc:Nat} {xs ys:List (Int×Int)} {w:World}
theorem Ik [Ol] (c z:Int) (ha:Ml w a0 la ca xs) (hb:Ml w b0 lc cc ys) (h:LB xs ys=(c,z)):
  Calls Tryz.prog 144 #[.slice a0 la ca,.slice b0 lc cc] w (dI (.tuple #[.int .i64 c,.int .i64 z]) w):=by have:=Fv ha hb;rw[h]at this;exact this
end
end Go.Proofs.YtmenbpmciblnlaaGreatDoor
