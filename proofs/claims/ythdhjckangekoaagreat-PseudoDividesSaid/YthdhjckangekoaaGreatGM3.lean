/- MRDeg, MROver, MRCom, MRCmp, MRWo, MLaw -/
import Derived.Test.YthdhjckangekoaaGreatGM2
set_option maxHeartbeats 40000000
set_option maxRecDepth 100000
namespace Go.Proofs.YthdhjckangekoaaGreat
open Go.RowKit
theorem Cf (A:Array Value) (k:Nat) (z:Int) (hk:k<201) (hg:A[k]? =some (.int .i64 z)) (w:World):(Instr.index 125 (.agg A) (.int .i64 (k:Int))).run Tryz.prog w= .ok (.int .i64 z) w:=by
 have h1:∃i,Tryz.prog.info? 3=some i/\ i.size=1:=by
  obtain⟨i,hi,h⟩:=Option.map_eq_some_iff.1 (show(Tryz.prog.info? 3).map (·.size)=some 1 by kernel_rfl);exact⟨i,hi,h⟩
 obtain⟨i,hi,hs⟩:=h1;have h2:(0:Int)<=k/\ (k:Int)<(201:Nat):=by omega
 simp[Instr.index,asIntOf,run_underlying Tryz.underlying125,sizeOf,typeInfo,hi,hs,hg,part,h2,hk]
theorem ko [Ol] {ao:Option Addr} {n cap:Nat} {ps:List (Int×Int)} {w:World} (h:Ml w ao n cap ps) (v z:Int) (hz:jv ps v=z):
  Calls Tryz.prog 28 #[.slice ao n cap,.int .i64 v] w (bN (.int .i64 z) w):=by
 by_cases g1:v<1
 ·have e:z=0:=by rw[<-hz];exact jA (gZ _) (.inl g1)
  subst e;clear hz;have d1:decide (v<1)=true:=decide_eq_true g1;clear g1;go_enter Tryz.func28,Tryz.ntmps28;go_wp2;go_ret;exact⟨rfl,Below.refl _ _⟩
 ·have d1:decide (v<1)=false:=decide_eq_false g1;by_cases g2:200<v
  ·have e:z=0:=by rw[<-hz];exact jA (gZ _) (.inr g2)
   subst e;clear hz;have d2:decide (200<v)=true:=decide_eq_true g2;clear g1 g2;go_enter Tryz.func28,Tryz.ntmps28;go_wp2;go_ret;exact⟨rfl,Below.refl _ _⟩
  ·have d2:decide (200<v)=false:=decide_eq_false g2;obtain⟨k,rfl⟩:∃k:Nat,v=(k:Int):=⟨v.toNat,by omega⟩;have hk:k<201:=by omega
   have hk2:(k:Int)<201:=by omega
   have hk3:(0:Int)<=k:=by omega
   have HA:=Lib.hid h;have hg:(jm (jv ps)).toArray[k]? =some (.int .i64 z):=by rw[List.getElem?_toArray,nH _ _ hk,hz]
   have hs:(jm (jv ps)).toArray.size=201:=by simp[eP]
   clear h hz g1 g2;go_enter Tryz.func28,Tryz.ntmps28;go_wp2_with fail;refine(kr HA.out).mono ?_;rintro e w1 ⟨rfl,hB⟩;have HB1:=Lib.hid hB;clear hB HA;obtain⟨A,hA⟩:∃A,A=(jm (jv ps)).toArray:=⟨_,rfl⟩;rw[<-hA]at hg hs ⊢;clear hA;have hx:=Cf A k z hk hg;clear hg hs;go_wp2_with fail;go_ret;exact⟨rfl,HB1.out⟩
open Lib (hid)
theorem oI [Ol] {a0 b0:Option Addr} {la ca lc cc:Nat} {xs ys:List (Int×Int)} {w:World} (ha:Ml w a0 la ca xs) (hb:Ml w b0 lc cc ys) (z:Int) (hz:pQ z (jv xs) (jv ys)):
  Calls Tryz.prog 27 #[.slice a0 la ca,.slice b0 lc cc] w (bN (.int .i64 z) w):=by
 have zr:=nI;have HZ:=hid hz;have HA:=hid ha;have qb:=hid hb;have HB:=hid (Below.refl w.heap.size w);clear ha hb hz;go_enter Tryz.func27,Tryz.ntmps27;go_wp2_with fail;refine(kr HA.out).mono ?_;rintro e w1 ⟨rfl,hB⟩;have HB1:=hid (Below.steps HB.out hB);have Aw:=hid (qb.out.below hB);clear hB HA qb HB;go_wp2_with (refine cu rfl (.tmp 5) (.tmp 9) rfl _ rfl _ _ rfl (Row.new w1 _) ?_);refine wu (fun W1 hW=>?_);have Oz:Hid (Row W1 w1.heap.size (jv xs)):=by rw[hW];exact(Row.new w1 _).put _
 have HB2:Hid (Below w.heap.size w W1):=by rw[hW];exact below_setRow (Below.steps HB1.out (af _ _)) HB1.out.size _
 have Js:Hid (Ml W1 b0 lc cc ys):=by rw[hW];exact(Aw.out.below (below_setRow (af w1 _) (Nat.le_refl _) _))
 have hx2:=HB1.out.size;clear hW HB1 Aw;refine(kr Js.out).mono ?_;rintro e w2 ⟨rfl,hB⟩;have HB3:=hid (Below.steps HB2.out hB);have Q8:=hid (Oz.out.below hB);clear hB Oz HB2 Js;go_wp2_with (refine cu rfl (.tmp 6) (.tmp 11) rfl _ rfl _ _ rfl (Row.new w2 _) ?_);have hy2:=HB3.out.size;have hxy:=Q8.out.lt;refine au (fun W2 hW=>?_);have KN:Hid (Row W2 w1.heap.size (jv xs)):=by rw[hW];exact(Q8.out.below (af _ _)).OA (by omega) _
 have Wn:Hid (Row W2 w2.heap.size (jv ys)):=by rw[hW];exact(Row.new w2 _).put _
 have mW:Hid (Below w.heap.size w W2):=by rw[hW];exact below_setRow (Below.steps HB3.out (af _ _)) hy2 _
 obtain⟨by',hby⟩:∃b,b=w2.heap.size:=⟨_,rfl⟩;rw[<-hby]at Wn hy2 hxy
 try rw[<-hby]
 clear hW Q8 HB3 hby zr;go_wp2;go_loopw [7] (fun i wr=>∃k:Nat,k<=200/\ i= .int .i64 k/\ Hid (∀u:Int,(k:Int)<u->jv xs u=jv ys u)/\ Hid (Row wr w1.heap.size (jv xs)/\ Row wr by' (jv ys)/\ Below w.heap.size w wr)) (fun i _=>(intOf i).toNat)
 case atStart=>exact⟨200,by omega,rfl,fun u hu=>by unfold jv;rw[jA (gZ _) (by omega),jA (gZ _) (by omega)],KN.out,Wn.out,mW.out⟩
 case round=>
  clear KN Wn mW;obtain⟨k,hk,rfl,HT,HS⟩:=hrel;by_cases hk2:1<=k
  ·have hk3:(k:Int)<=200:=by omega
   have hk4:(k:Int)<201:=by omega
   have hk5:(0:Int)<=k:=by omega
   have hk6:(1:Int)<=k:=by omega
   have c1:=HS.out.1.cell k (by omega);have c2:=HS.out.2.1.cell k (by omega);have HL:Hid (jv xs k<jv ys k->z= -1):=fun h=>HZ.out.unique (.inr (.inl ⟨k,rfl,h,HT.out⟩))
   have HG:Hid (jv ys k<jv xs k->z=1):=fun h=>HZ.out.unique (.inr (.inr ⟨k,rfl,h,HT.out⟩))
   have HE:Hid (∀u:Int,((k-1:Nat):Int)<u->jv xs k=jv ys k->jv xs u=jv ys u):=fun u hu h=>by
    by_cases hu2:u=(k:Int)
    ·subst hu2;exact h
    ·exact HT.out u (by omega)
   obtain⟨p,hp⟩:∃p,p=jv xs k:=⟨_,rfl⟩;obtain⟨q,hq⟩:∃q,q=jv ys k:=⟨_,rfl⟩;rw[<-hp]at c1 HL HG HE;rw[<-hq]at c2 HL HG HE;clear hp hq;rcases Int.lt_trichotomy p q with g|g|g
   ·have g1:decide (p<q)=true:=decide_eq_true g;have HM:=hid (HL.out g);clear g HL HG HE;go_wp2;go_quiet (fail);go_wp2;go_ret;exact⟨dZ HM.out.symm,HS.out.2.2.trans (_root_.Go.below_drewN (Below.refl _ _) _)⟩
   ·subst g;clear HL HG;go_wp2;go_quiet (fail);go_wp2;go_quiet (fail);go_wp2;go_roundw
    case rel=>exact⟨k-1,by omega,by go_num,fun u hu=>HE.out u hu (by simp),(HS.out.1.below (_root_.Go.below_drewN (Below.refl _ _) _)),(HS.out.2.1.below (_root_.Go.below_drewN (Below.refl _ _) _)),(HS.out.2.2.trans (_root_.Go.below_drewN (Below.refl _ _) _))⟩
    case measure=>simp[intOf];omega
   ·have g1:decide (p<q)=false:=decide_eq_false (by omega);have g2:decide (q<p)=true:=decide_eq_true g;have HM:=hid (HG.out g);clear g HL HG HE;go_wp2;go_quiet (fail);go_wp2;go_quiet (fail);go_wp2;go_ret;exact⟨dZ HM.out.symm,(HS.out.2.2.trans (_root_.Go.below_drewN (_root_.Go.below_drewN (Below.refl _ _) _) _))⟩
  ·obtain rfl:k=0:=by omega
   have HM:Hid (z=0):=HZ.out.unique (.inl ⟨rfl,fun u=>by
    by_cases hu:0<u
    ·exact HT.out u (by omega)
    ·unfold jv;rw[jA (gZ _) (by omega),jA (gZ _) (by omega)]⟩)
   go_wp2;go_ret;exact⟨dZ HM.out.symm,HS.out.2.2⟩
open Lib (hid)
theorem Eb [Ol] {ao:Option Addr} {n cap:Nat} {ps:List (Int×Int)} {w:World} (h:Ml w ao n cap ps) (v:Nat) (h1:1<=v) (h2:v<=200):
  Calls Tryz.prog 96 #[.slice ao n cap,.int .i64 v] w (Ec w (eF v (orM ps))):=by
 have zr:=nI;have hk3:(v:Int)<=200:=by omega
 have hk4:(v:Int)<201:=by omega
 have hk5:(0:Int)<=v:=by omega
 have hk6:(1:Int)<=v:=by omega
 obtain⟨R,hR⟩:∃R,R=eF v (orM ps):=⟨_,rfl⟩;rw[<-hR]
 have HQ:Hid (R=QM (upd (jv ps) v 0)):=by
  rw[Hid,hR];refine(GQ (tK _ (gY (gZ _))) (fun u _ _=>by rw[dN];rfl) (fun u _ _=>?_)).symm;have:=(eD (gZ ps) u).1;unfold upd jv;by_cases hu:u=(v:Int)
  ·rw[if_pos hu];omega
  ·rw[if_neg hu];exact this
 have HI:Hid (∀u,1<=u->u<=200->dW (upd (jv ps) v 0 u)):=fun u _ _=>by
  have:=eD (gZ ps) u;unfold upd jv dW;by_cases hu:u=(v:Int)
  ·rw[if_pos hu];omega
  ·rw[if_neg hu];omega
 have HA:=hid h;clear h hR;go_enter Tryz.func96,Tryz.ntmps96;go_wp2_with fail;refine(kr HA.out).mono ?_;rintro e w1 ⟨rfl,hB⟩;have HB1:=hid hB;clear hB HA;go_upto_region 2 with(refine cu rfl (.tmp 5) (.tmp 7) rfl _ rfl _ _ rfl (Row.new w1 _) ?_)
 refine au (fun W1 hW=>?_);have OB:Hid (Row W1 w1.heap.size (jv ps)):=by rw[hW];exact(Row.new w1 _).put _
 have HB2:Hid (Below w.heap.size w W1):=by rw[hW];exact below_setRow (Below.steps HB1.out (af _ _)) HB1.out.size _
 have hx2:=HB1.out.size;clear hW HB1 zr;have c1:=OB.out.cell v (by omega);have f1:=OB.out.fz v;obtain⟨old,ho⟩:∃o,o=jv ps v:=⟨_,rfl⟩;rw[<-ho]at c1;have H2:=hid (OB.out.set v (by omega) 0);have HB3:=hid (HB2.out.setCell (p:=⟨w1.heap.size,v,none⟩) hx2 (.int .i64 0));clear ho OB HB2;go_wp2_with (refine gm rfl (.tmp 5) rfl _ rfl _ H2.out ?_);refine(wX _ HI.out _).mono ?_;rintro e w9 ⟨qo,m,cm,rfl,hM,hB⟩;have HM:=hid hM;have q8:=hid (Below.steps HB3.out hB);clear hM hB HB3;go_wp2_with fail;go_ret;exact⟨_,_,_,rfl,by rw[HQ.out];exact HM.out,q8.out⟩
theorem Cg [Ol] {ao:Option Addr} {n cap:Nat} {ps:List (Int×Int)} {w:World} (h:Ml w ao n cap ps) (v:Int) (hv:v<1∨200<v):
  Calls Tryz.prog 96 #[.slice ao n cap,.int .i64 v] w (Ec w (eF v (orM ps))):=by
 have zr:=nI;obtain⟨R,hR⟩:∃R,R=eF v (orM ps):=⟨_,rfl⟩;rw[<-hR]
 have HQ:Hid (R=QM (jv ps)):=by
  rw[Hid,hR];refine(GQ (tK _ (gY (gZ _))) (fun u _ _=>?_) (fun u _ _=>(eD (gZ ps) u).1)).symm;rw[dN,if_neg (by omega)]
  try rfl
 have HI:Hid (∀u,1<=u->u<=200->dW (jv ps u)):=fun u _ _=>by
  have:=eD (gZ ps) u;unfold jv dW;omega
 have HA:=hid h;clear h hR;have g1:decide (1<=v)=true∨decide (1<=v)=false:=by cases decide (1<=v)<;>simp
 rcases g1 with g1|g1
 ·have g2:decide (v<=200)=false:=decide_eq_false (by have:=of_decide_eq_true g1;omega);clear hv;go_enter Tryz.func96,Tryz.ntmps96;go_wp2_with fail;refine(kr HA.out).mono ?_;rintro e w1 ⟨rfl,hB⟩;have HB1:=hid hB;clear hB HA;go_upto_region 2 with(refine cu rfl (.tmp 5) (.tmp 7) rfl _ rfl _ _ rfl (Row.new w1 _) ?_)
  refine au (fun W1 hW=>?_);have OB:Hid (Row W1 w1.heap.size (jv ps)):=by rw[hW];exact(Row.new w1 _).put _
  have HB2:Hid (Below w.heap.size w W1):=by rw[hW];exact below_setRow (Below.steps HB1.out (af _ _)) HB1.out.size _
  have hx2:=HB1.out.size;clear hW HB1 zr;go_wp2_with (refine gm rfl (.tmp 5) rfl _ rfl _ OB.out ?_);refine(wX _ HI.out _).mono ?_;rintro e w9 ⟨qo,m,cm,rfl,hM,hB⟩;have HM:=hid hM;have q8:=hid (Below.steps HB2.out hB);clear hM hB HB2;go_wp2_with fail;go_ret;exact⟨_,_,_,rfl,by rw[HQ.out];exact HM.out,q8.out⟩
 ·clear hv;go_enter Tryz.func96,Tryz.ntmps96;go_wp2_with fail;refine(kr HA.out).mono ?_;rintro e w1 ⟨rfl,hB⟩;have HB1:=hid hB;clear hB HA;go_upto_region 2 with(refine cu rfl (.tmp 5) (.tmp 7) rfl _ rfl _ _ rfl (Row.new w1 _) ?_)
  refine au (fun W1 hW=>?_);have OB:Hid (Row W1 w1.heap.size (jv ps)):=by rw[hW];exact(Row.new w1 _).put _
  have HB2:Hid (Below w.heap.size w W1):=by rw[hW];exact below_setRow (Below.steps HB1.out (af _ _)) HB1.out.size _
  have hx2:=HB1.out.size;clear hW HB1 zr;go_wp2_with (refine gm rfl (.tmp 5) rfl _ rfl _ OB.out ?_);refine(wX _ HI.out _).mono ?_;rintro e w9 ⟨qo,m,cm,rfl,hM,hB⟩;have HM:=hid hM;have q8:=hid (Below.steps HB2.out hB);clear hM hB HB2;go_wp2_with fail;go_ret;exact⟨_,_,_,rfl,by rw[HQ.out];exact HM.out,q8.out⟩
theorem Ch [Ol] {ao:Option Addr} {n cap:Nat} {ps:List (Int×Int)} {w:World} (h:Ml w ao n cap ps) (v:Int):
  Calls Tryz.prog 96 #[.slice ao n cap,.int .i64 v] w (Ec w (eF v (orM ps))):=by
 by_cases hv:v<1∨200<v
 ·exact Cg h v hv
 ·obtain⟨k,rfl⟩:∃k:Nat,v=(k:Int):=⟨v.toNat,by omega⟩;exact Eb h k (by omega) (by omega)
def qB [Ol] (w:World):List (Option Addr×Nat×Nat×List (Int×Int))->Prop
 |[]=>True
 |s::r=>Ml w s.1 s.2.1 s.2.2.1 s.2.2.2/\ qB w r
theorem qB.nil [Ol] (w:World):qB w []:=trivial
theorem qB.cons [Ol] {w:World} {ao:Option Addr} {n cap:Nat} {xs:List (Int×Int)} {r:List (Option Addr×Nat×Nat×List (Int×Int))} (h:Ml w ao n cap xs) (hr:qB w r):qB w ((ao,n,cap,xs)::r):=⟨h,hr⟩
theorem qB.head [Ol] {w:World} {ao:Option Addr} {n cap:Nat} {xs:List (Int×Int)} {r:List (Option Addr×Nat×Nat×List (Int×Int))} (h:qB w ((ao,n,cap,xs)::r)):Ml w ao n cap xs:=h.1
theorem qB.tl [Ol] {w:World} {s:Option Addr×Nat×Nat×List (Int×Int)} {r:List (Option Addr×Nat×Nat×List (Int×Int))} (h:qB w (s::r)):qB w r:=h.2
theorem qB.below [Ol] {w w':World} (hb:Below w.heap.size w w'):∀{r:List (Option Addr×Nat×Nat×List (Int×Int))},qB w r->qB w' r
 |[],_=>trivial
 | _::_,h=>⟨h.1.below hb,qB.below hb h.2⟩
theorem qB.V8 [Ol] {w:World} {a0:Option Addr} {l0 c0:Nat} {xs:List (Int×Int)} (h0:Ml w a0 l0 c0 xs):qB w [(a0,l0,c0,xs)]:= .cons h0 (.nil w)
section
variable {a0 b0:Option Addr} {la ca lc cc:Nat} {xs ys:List (Int×Int)} {w:World}
theorem OC [Ol] (qs:List (Int×Int)) (z:Int) (ha:Ml w a0 la ca xs) (hb:Ml w b0 lc cc ys) (h:gD (fun x y=>x+y) 8 xs ys=(qs,z)):
  Calls Tryz.prog 88 #[.slice a0 la ca,.slice b0 lc cc] w (pV w qs z):=by have:=lu ha hb;rw[h]at this;exact this
theorem GU [Ol] (c z:Int) (ha:Ml w a0 la ca xs) (hb:Ml w b0 lc cc ys) (h:KO xs ys=(c,z)):
  Calls Tryz.prog 105 #[.slice a0 la ca,.slice b0 lc cc] w (bN (.tuple #[.int .i64 c,.int .i64 z]) w):=by have:=Ed ha hb;rw[h]at this;exact this
end
end Go.Proofs.YthdhjckangekoaaGreat
