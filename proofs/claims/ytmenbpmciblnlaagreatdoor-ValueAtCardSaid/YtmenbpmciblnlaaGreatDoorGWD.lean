/- WDiv, WGcd, WPow -/
import Derived.Test.YtmenbpmciblnlaaGreatDoorGWA
import Derived.Test.YtmenbpmciblnlaaGreatDoorGDiv
set_option maxHeartbeats 0
set_option maxRecDepth 100000
open And renaming intro->a0a
open Go.Value renaming slice->a0b
open Int renaming mul_neg->a0d,tmod_eq_emod_of_nonneg->a0c
open Nat renaming eq_zero_or_pos->a0j,gcd_comm->a0f,gcd_rec->a0g,gcd_zero_right->a0h,le_refl->a0i,le_trans->a0k,mod_lt->a0e,mul_le_mul->a0n,pow_add->a0m,pow_zero->a0l
namespace Go.Proofs.YtmenbpmciblnlaaGreatDoor
open Lib (hid)
open Go.RowKit
def Ma (w:World) (q:Int) (er:Int) (e:Ending) (w':World):Prop:=
 ∃m ao n cap,e= .returned (.tuple #[.agg #[.bool m,a0b ao n cap],.int .i64 er])/\ Cn w' m ao n cap q/\ Below w.heap.size w w'
theorem wD (m k:Bool) (a b:Nat):dK (m !=k) (a/b)=(dK m a).tdiv (dK k b):=by cases m<;>cases k<;>simp[dK,Int.tdiv_neg,Int.neg_tdiv]
theorem tL (m k:Bool) (a b:Nat):dK m (a%b)=(dK m a).tmod (dK k b):=by cases m<;>cases k<;>simp[dK,Int.tmod_neg,Int.neg_tmod,a0c]
theorem yN {m:Bool} {v:Nat} {x:Int} (h:dK m v=x):x=0↔v=0:=by
 have:=gW m v;rw[h]at this;omega
theorem lu [Ol] {m k:Bool} {ao bo:Option Addr} {n cap l cb:Nat} {x y:Int} {w:World} (hx:Nx w m ao n cap x) (hy:Nx w k bo l cb y) (h0:y≠0) (hr:x.tmod y=0):
  Calls Tryz.prog 127 #[.agg #[.bool m,a0b ao n cap],.agg #[.bool k,a0b bo l cb]] w (Ma w (x.tdiv y) 0):=by
 obtain⟨⟨xs,hs,hz⟩,hle⟩:=hx;obtain⟨⟨ys,ht,hz2⟩,hle2⟩:=hy;have H0:Hid (val ys≠0):=λh=>h0 ((yN hz2).2 h)
 have HR:Hid (val xs%val ys=0):=by
  have h1:=tL m k (val xs) (val ys);rw[hz,hz2,hr]at h1;exact(yN h1).1 rfl
 have HQ:Hid (dK (m !=k) (val xs/val ys)=x.tdiv y):=by rw[Hid,wD,hz,hz2]
 clear h0 hr hz hz2;go_enter Tryz.func127,Tryz.ntmps127;go_upto_region 1 with(fail)
 refine aj (λW hW=>?_);have HB0:Hid (Below w.heap.size w W):=by rw[hW];exact aN (aN (af _ _))
 have aM:bR W (w.heap.size) m ao n cap:=by rw[hW];exact((bR.new _ _ _ _ _ _ _ (by simp)).below (af _ _)).below (af _ _)
 have bO:bR W (w.heap.size+1) k bo l cb:=by rw[hW];exact(bR.new _ _ _ _ _ _ _ (by simp)).below (af _ _)
 have aP:bR W (w.heap.size+2) false none 0 0:=by rw[hW];exact bR.new _ _ _ _ _ _ _ (by simp)
 have av:=hid (Live.dH (hs.below HB0.out) (Live.dH (ht.below HB0.out) (Live.aD aM (Live.aD bO (Live.aD aP (Live.nil W))))));clear hW aM bO aP;have aB:=av.out.tl.tl.box.c0;have aC:=av.out.tl.tl.box.c1;have aH:=av.out.tl.tl.box.f0;have aI:=av.out.tl.tl.box.f1;have aX:=av.out.tl.tl.tl.box.c0;have aY:=av.out.tl.tl.tl.box.c1;have bf:=av.out.tl.tl.tl.box.f0;have bg:=av.out.tl.tl.tl.box.f1;have ay:=av.out.tl.tl.tl.tl.box.c0;have aA:=av.out.tl.tl.tl.tl.box.c1;have aF:=av.out.tl.tl.tl.tl.box.f0;have aG:=av.out.tl.tl.tl.tl.box.f1;go_wp2_with fail;refine(Om _ _ _ _ _ _ _ _ _ av.out.sl av.out.tl.sl H0.out (by omega) HR.out).mono ?_;rintro e w1 ⟨q0,qn,qc,rfl,hQ,hB⟩;have aL:=hid (Live.dH hQ (av.out.below hB));have HB1:=hid (Below.steps HB0.out hB);clear aB aC aH aI aX aY bf bg ay aA aF aG;clear av HB0 hQ hB;have aB:=aL.out.tl.tl.tl.box.c0;have aC:=aL.out.tl.tl.tl.box.c1;have aH:=aL.out.tl.tl.tl.box.f0;have aI:=aL.out.tl.tl.tl.box.f1;have aX:=aL.out.tl.tl.tl.tl.box.c0;have aY:=aL.out.tl.tl.tl.tl.box.c1;have bf:=aL.out.tl.tl.tl.tl.box.f0;have bg:=aL.out.tl.tl.tl.tl.box.f1;have ay:=aL.out.tl.tl.tl.tl.tl.box.c0;have aA:=aL.out.tl.tl.tl.tl.tl.box.c1;have aF:=aL.out.tl.tl.tl.tl.tl.box.f0;have aG:=aL.out.tl.tl.tl.tl.tl.box.f1;go_wp2_with fail;refine(gK _ _).mono ?_;rintro e w2 ⟨b,rfl,hb1,hb2,hbc,hB⟩;have bL:=hid (Live.nL hb2 hbc (aL.out.below hB));have HB2:=hid (Below.steps HB1.out hB);clear aB aC aH aI aX aY bf bg ay aA aF aG;clear aL HB1 hb1 hbc hB;have aB:=bL.out.tl.tl.tl.tl.box.c0;have aC:=bL.out.tl.tl.tl.tl.box.c1;have aH:=bL.out.tl.tl.tl.tl.box.f0;have aI:=bL.out.tl.tl.tl.tl.box.f1;have aX:=bL.out.tl.tl.tl.tl.tl.box.c0;have aY:=bL.out.tl.tl.tl.tl.tl.box.c1;have bf:=bL.out.tl.tl.tl.tl.tl.box.f0;have bg:=bL.out.tl.tl.tl.tl.tl.box.f1;have ay:=bL.out.tl.tl.tl.tl.tl.tl.box.c0;have aA:=bL.out.tl.tl.tl.tl.tl.tl.box.c1;have aF:=bL.out.tl.tl.tl.tl.tl.tl.box.f0;have aG:=bL.out.tl.tl.tl.tl.tl.tl.box.f1;go_wp2_with fail;refine(iM _ _ _ _ _ _ _ bL.out.fn bL.out.tl.sl).mono ?_;rintro e w3 ⟨rm,r0,rn,rc,rfl,hX,hB⟩;have bY:=hid (bL.out.below hB);have HB3:=hid (Below.steps HB2.out hB);clear aB aC aH aI aX aY bf bg ay aA aF aG;clear bL HB2 hB;have aB:=bY.out.tl.tl.tl.tl.box.c0;have aC:=bY.out.tl.tl.tl.tl.box.c1;have aH:=bY.out.tl.tl.tl.tl.box.f0;have aI:=bY.out.tl.tl.tl.tl.box.f1;have aX:=bY.out.tl.tl.tl.tl.tl.box.c0;have aY:=bY.out.tl.tl.tl.tl.tl.box.c1;have bf:=bY.out.tl.tl.tl.tl.tl.box.f0
 have bg:=bY.out.tl.tl.tl.tl.tl.box.f1;have ay:=bY.out.tl.tl.tl.tl.tl.tl.box.c0;have aA:=bY.out.tl.tl.tl.tl.tl.tl.box.c1;have aF:=bY.out.tl.tl.tl.tl.tl.tl.box.f0;have aG:=bY.out.tl.tl.tl.tl.tl.tl.box.f1;go_wp2_with fail;refine bodyPost_ret (v:= .tuple #[.agg #[.bool rm,a0b r0 rn rc],.int .i64 0]) (by simp[results,Tryz.results127,go_sem,ay,aA]) rfl ?_;exact⟨_,_,_,_,rfl,HQ.out▸hX.set2 bY.out.tl.tl.tl.tl.tl.tl.box _ _,aW HB3.out (by omega) _ _⟩
open Lib (hid)
theorem Bj (a b:Nat) (w:World) (ha:a<18446744073709551616) (hb:b<18446744073709551616):
  Calls Tryz.prog 211 #[.int .u64 (a:Int),.int .u64 (b:Int)] w (lM (.int .u64 ((a.gcd b:Nat):Int)) w):=by
 go_enter Tryz.func211,Tryz.ntmps211;go_wp2_with fail;go_loopg [0,1] b (λg x y wr=>∃u v k:Nat,x= .int .u64 ((u:Nat):Int)/\ y= .int .u64 ((v:Nat):Int)/\ u<18446744073709551616/\ v<18446744073709551616/\ Hid (v=g)/\ Hid (u.gcd v=a.gcd b)/\ wr=w.drewN k)
 case atStart=>exact⟨a,b,0,rfl,rfl,ha,hb,rfl,rfl,rfl⟩
 case round=>
  obtain⟨u,v,k,rfl,rfl,hu,hv,HVG,HG,rfl⟩:=hrel;by_cases h0:0<v
  ·have hi:(0:Int)<((v:Nat):Int):=by omega
   have hne:(((v:Nat):Int)==0)=false:=by simp;omega
   go_wp2;go_quiet (fail);go_wp2;have HM:Hid (u%v<gk):=by rw[Hid,<-HVG.out];exact a0e u h0
   go_roundg (u%v)
   case rel=>exact⟨v,u%v,k+nq,rfl,by go_num,hv,by have:=a0e u h0;omega,rfl,by rw[Hid,a0f v,<-a0g,a0f];exact HG.out,by rw[World.drewN_drewN]⟩
   case measure=>exact HM.out
  ·obtain rfl:v=0:=by omega
   go_wp2_with fail;go_ret;exact⟨by rw[<-HG.out,a0h];rfl,k,rfl⟩
theorem Bn {u v g:Nat} (h:u.gcd v=g):v.gcd (u%v)=g:=by rw[a0f v,<-a0g,a0f];exact h
theorem Bo {xs ys:List Nat} {l k:Nat} {w:World} {bo zo:Option Addr} {cb cz:Nat} (h:Sl w bo l cb ys) (hz:Sl w zo k cz (limbs (val xs%val ys))) (h0:val ys≠0):k<=l:=by
 rw[<-hz.len];exact gD (Nat.lt_trans (a0e _ (by omega)) (tQ l h.wf h.len (a0i _)))
theorem Oo (a0 b0:Option Addr) (la ca lb cb:Nat) (xs0 ys0:List Nat) (w:World) (ha:Sl w a0 la ca xs0) (hb:Sl w b0 lb cb ys0) (h1:la<=1000000) (h2:lb<=1000000):
  Calls Tryz.prog 176 #[a0b a0 la ca,a0b b0 lb cb] w (gP w (limbs ((val xs0).gcd (val ys0)))):=by
 obtain⟨G,hG⟩:∃G,G=(val xs0).gcd (val ys0):=⟨_,rfl⟩;rw[<-hG];have Ub:=hid hG.symm;clear hG;have Vx:=hid ha;have HB0:=hid hb;clear ha hb;go_enter Tryz.func176,Tryz.ntmps176;go_wp2_with fail;go_loopg [0,1] (val ys0) (λg x y wr=>∃(ao:Option Addr) (n cap:Nat) (bo:Option Addr) (l cc:Nat) (xs ys:List Nat),x=a0b ao n cap/\ y=a0b bo l cc/\ n<=1000000/\ l<=1000000/\ Hid (Sl wr ao n cap xs/\ Sl wr bo l cc ys/\ (val xs).gcd (val ys)=G/\ val ys=g/\ Below w.heap.size w wr))
 case atStart=>exact⟨_,_,_,_,_,_,xs0,ys0,rfl,rfl,h1,h2,Vx.out,HB0.out,Ub.out,rfl,Below.refl _ _⟩
 case round=>
  clear Ub Vx HB0;obtain⟨ao,n,cap,bo,l,cc,xs,ys,rfl,rfl,hn,hl,HI⟩:=hrel;obtain⟨wo,rfl⟩:∃wo:World,wo=wr:=⟨_,rfl⟩;by_cases h0:val ys=0
  ·have HE:Hid (val xs=G):=by rw[Hid,<-HI.out.2.2.1,h0,a0h]
   have H0:=hid h0;clear h0;go_wp2_with fail;refine(iC 0 _ _ _ _ _ HI.out.2.1 (by rw[H0.out];rfl)).mono ?_;rintro e w' ⟨rfl,rfl⟩;go_wp2_with fail;refine(Bp _ _ _ _ _ HI.out.1).mono ?_;rintro e w1 ⟨t0,tn,tc,rfl,hT,hB⟩;rw[HE.out]at hT;have HT:=hid hT;have HB:=hid hB;clear hT hB;go_wp2_with fail;go_ret;exact⟨_,_,_,rfl,HT.out.mono HI.out.2.2.2.2.size,Below.steps HI.out.2.2.2.2 HB.out⟩
  ·obtain⟨k,hk⟩:∃k,k=nbits (val ys):=⟨_,rfl⟩
   have hk0:0<k:=by
    rw[hk];rcases a0j (nbits (val ys))with h|h
    ·exact absurd (lN.1 h) h0
    ·exact h
   have hk1:(0:Int)<((k:Nat):Int):=by omega
   have HN:=hid hk.symm;have H0:=hid h0;clear hk h0;obtain⟨u,hu⟩:∃u,u=val xs:=⟨_,rfl⟩;obtain⟨v,hv⟩:∃v,v=val ys:=⟨_,rfl⟩;have HU:=hid hu.symm;have HV:=hid hv.symm;by_cases hsx:u<18446744073709551616
   ·have Xe:Hid (nl xs<=2):=Br (by rw[<-hu];exact hsx);by_cases hsy:v<18446744073709551616
    ·have YN:Hid (nl ys<=2):=Br (by rw[<-hv];exact hsy);have HSU:=hid hsx;have HSV:=hid hsy;have HG2:Hid (u.gcd v=G):=by rw[Hid,hu,hv];exact HI.out.2.2.1
     obtain⟨gg,hgg⟩:∃gg,gg=u.gcd v:=⟨_,rfl⟩
     have hgl:gg<18446744073709551616:=by
      have:0<v:=by rw[hv];have:=H0.out;omega
      have:=Nat.le_of_dvd this (Nat.gcd_dvd_right u v);omega
     have HGG:=hid hgg.symm;have hcw:=Bj u v wo hsx hsy;rw[<-hgg]at hcw;have HCW:=hid hcw;clear hu hv hgg hcw;go_wp2_with fail;refine(iC k _ _ _ _ _ HI.out.2.1 HN.out).mono ?_;rintro e w' ⟨rfl,rfl⟩;go_wp2_with fail;refine(zN u _ _ _ _ _ HI.out.1 Xe.out HU.out).mono ?_;rintro e w' ⟨rfl,rfl⟩;go_wp2_with fail;refine(zN v _ _ _ _ _ HI.out.2.1 YN.out HV.out).mono ?_;rintro e w' ⟨rfl,rfl⟩;go_wp2_with fail;refine HCW.out.mono ?_;rintro e w1 ⟨rfl,q,rfl⟩;go_wp2_with fail;refine(ku gg _ (by omega)).mono ?_;rintro e w2 ⟨t0,tn,tc,rfl,hT,hB⟩;have HBQ:Hid (Below wo.heap.size wo (wo.drewN q)):=(show lM (.bool true) wo (.returned (.bool true)) (wo.drewN q)from⟨rfl,q,rfl⟩).b.2;have HT:=hid hT;have HB:=hid hB;clear hT hB;go_wp2_with fail;go_ret;exact⟨_,_,_,rfl,by rw[<-HG2.out,HGG.out];exact HT.out.mono (a0k HI.out.2.2.2.2.size HBQ.out.size),Below.steps HI.out.2.2.2.2 (Below.steps HBQ.out HB.out)⟩
    ·have YN:Hid (2<nl ys):=Fj HI.out.2.1.wf (by rw[<-hv];omega);clear hu hv;go_wp2_with fail;refine(iC k _ _ _ _ _ HI.out.2.1 HN.out).mono ?_;rintro e w' ⟨rfl,rfl⟩;go_wp2_with fail;refine(zN u _ _ _ _ _ HI.out.1 Xe.out HU.out).mono ?_;rintro e w' ⟨rfl,rfl⟩;go_wp2_with fail;refine(tZ _ _ _ _ _ HI.out.2.1 YN.out).mono ?_;rintro e w' ⟨rfl,rfl⟩;go_wp2_with fail;refine(wN _ _ _ _ _ _ _ _ _ HI.out.1 HI.out.2.1 H0.out (by omega)).mono ?_;rintro e w1 ⟨q0,qn,qc,r0,rn,rc,rfl,hQ,hR,hB⟩;have hrn:rn<=1000000:=a0k (Bo (HI.out.2.1.below hB) hR H0.out) hl
     have HJ:Hid (Sl w1 bo l cc ys/\ Sl w1 r0 rn rc (limbs (val xs%val ys))/\ (val ys).gcd (val (limbs (val xs%val ys)))=G/\ val (limbs (val xs%val ys))=val xs%val ys/\ Below w.heap.size w w1):=
      ⟨HI.out.2.1.below hB,hR,by rw[au];exact Bn HI.out.2.2.1,au _,Below.steps HI.out.2.2.2.2 hB⟩
     have HM:Hid (val xs%val ys<gk):=by rw[Hid,<-HI.out.2.2.2.1];exact a0e _ (by have:=H0.out;omega)
     clear hQ hR hB;go_wp2_with fail;go_roundg (val xs%val ys)
     case measure=>exact HM.out
     case rel=>exact⟨_,_,_,_,_,_,ys,_,rfl,rfl,hl,hrn,HJ.out⟩
   ·have Xe:Hid (2<nl xs):=Fj HI.out.1.wf (by rw[<-hu];omega);by_cases hsy:v<18446744073709551616
    ·have YN:Hid (nl ys<=2):=Br (by rw[<-hv];exact hsy);clear hu hv;go_wp2_with fail;refine(iC k _ _ _ _ _ HI.out.2.1 HN.out).mono ?_;rintro e w' ⟨rfl,rfl⟩;go_wp2_with fail;refine(tZ _ _ _ _ _ HI.out.1 Xe.out).mono ?_;rintro e w' ⟨rfl,rfl⟩;go_wp2_with fail;refine(zN v _ _ _ _ _ HI.out.2.1 YN.out HV.out).mono ?_;rintro e w' ⟨rfl,rfl⟩;go_wp2_with fail;refine(wN _ _ _ _ _ _ _ _ _ HI.out.1 HI.out.2.1 H0.out (by omega)).mono ?_;rintro e w1 ⟨q0,qn,qc,r0,rn,rc,rfl,hQ,hR,hB⟩;have hrn:rn<=1000000:=a0k (Bo (HI.out.2.1.below hB) hR H0.out) hl
     have HJ:Hid (Sl w1 bo l cc ys/\ Sl w1 r0 rn rc (limbs (val xs%val ys))/\ (val ys).gcd (val (limbs (val xs%val ys)))=G/\ val (limbs (val xs%val ys))=val xs%val ys/\ Below w.heap.size w w1):=
      ⟨HI.out.2.1.below hB,hR,by rw[au];exact Bn HI.out.2.2.1,au _,Below.steps HI.out.2.2.2.2 hB⟩
     have HM:Hid (val xs%val ys<gk):=by rw[Hid,<-HI.out.2.2.2.1];exact a0e _ (by have:=H0.out;omega)
     clear hQ hR hB;go_wp2_with fail;go_roundg (val xs%val ys)
     case measure=>exact HM.out
     case rel=>exact⟨_,_,_,_,_,_,ys,_,rfl,rfl,hl,hrn,HJ.out⟩
    ·have YN:Hid (2<nl ys):=Fj HI.out.2.1.wf (by rw[<-hv];omega);clear hu hv;go_wp2_with fail;refine(iC k _ _ _ _ _ HI.out.2.1 HN.out).mono ?_;rintro e w' ⟨rfl,rfl⟩;go_wp2_with fail;refine(tZ _ _ _ _ _ HI.out.1 Xe.out).mono ?_;rintro e w' ⟨rfl,rfl⟩;go_wp2_with fail;refine(tZ _ _ _ _ _ HI.out.2.1 YN.out).mono ?_;rintro e w' ⟨rfl,rfl⟩;go_wp2_with fail;refine(wN _ _ _ _ _ _ _ _ _ HI.out.1 HI.out.2.1 H0.out (by omega)).mono ?_;rintro e w1 ⟨q0,qn,qc,r0,rn,rc,rfl,hQ,hR,hB⟩;have hrn:rn<=1000000:=a0k (Bo (HI.out.2.1.below hB) hR H0.out) hl
     have HJ:Hid (Sl w1 bo l cc ys/\ Sl w1 r0 rn rc (limbs (val xs%val ys))/\ (val ys).gcd (val (limbs (val xs%val ys)))=G/\ val (limbs (val xs%val ys))=val xs%val ys/\ Below w.heap.size w w1):=
      ⟨HI.out.2.1.below hB,hR,by rw[au];exact Bn HI.out.2.2.1,au _,Below.steps HI.out.2.2.2.2 hB⟩
     have HM:Hid (val xs%val ys<gk):=by rw[Hid,<-HI.out.2.2.2.1];exact a0e _ (by have:=H0.out;omega)
     clear hQ hR hB;go_wp2_with fail;go_roundg (val xs%val ys)
     case measure=>exact HM.out
     case rel=>exact⟨_,_,_,_,_,_,ys,_,rfl,rfl,hl,hrn,HJ.out⟩
theorem AX [Ol] {m k:Bool} {ao bo:Option Addr} {n cap l cb:Nat} {x y:Int} {w:World} (hx:Nx w m ao n cap x) (hy:Nx w k bo l cb y):
  Calls Tryz.prog 126 #[.agg #[.bool m,a0b ao n cap],.agg #[.bool k,a0b bo l cb]] w (rC w ((x.gcd y:Nat):Int)):=by
 obtain⟨⟨xs,hs,hz⟩,hle⟩:=hx;obtain⟨⟨ys,ht,hz2⟩,hle2⟩:=hy
 have HZ:Hid (dK false ((val xs).gcd (val ys))=((x.gcd y:Nat):Int)):=by
  have h1:=gW m (val xs);have h2:=gW k (val ys);rw[hz]at h1;rw[hz2]at h2;rw[Hid,<-h1,<-h2];rfl
 clear hz hz2;go_enter Tryz.func126,Tryz.ntmps126;go_upto_region 1 with(fail)
 refine aj (λW hW=>?_);have HB0:Hid (Below w.heap.size w W):=by rw[hW];exact aN (aN (af _ _))
 have aM:bR W (w.heap.size) m ao n cap:=by rw[hW];exact((bR.new _ _ _ _ _ _ _ (by simp)).below (af _ _)).below (af _ _)
 have bO:bR W (w.heap.size+1) k bo l cb:=by rw[hW];exact(bR.new _ _ _ _ _ _ _ (by simp)).below (af _ _)
 have aP:bR W (w.heap.size+2) false none 0 0:=by rw[hW];exact bR.new _ _ _ _ _ _ _ (by simp)
 have av:=hid (Live.dH (hs.below HB0.out) (Live.dH (ht.below HB0.out) (Live.aD aM (Live.aD bO (Live.aD aP (Live.nil W))))));clear hW aM bO aP;have aB:=av.out.tl.tl.box.c0;have aC:=av.out.tl.tl.box.c1;have aH:=av.out.tl.tl.box.f0;have aI:=av.out.tl.tl.box.f1;have aX:=av.out.tl.tl.tl.box.c0;have aY:=av.out.tl.tl.tl.box.c1;have bf:=av.out.tl.tl.tl.box.f0;have bg:=av.out.tl.tl.tl.box.f1;have ay:=av.out.tl.tl.tl.tl.box.c0;have aA:=av.out.tl.tl.tl.tl.box.c1;have aF:=av.out.tl.tl.tl.tl.box.f0;have aG:=av.out.tl.tl.tl.tl.box.f1;have jR:=hid (av.out.below ((Below.refl _ _).drew));have jS:=hid HB0.out.drew;clear aB aC aH aI aX aY bf bg ay aA aF aG;clear av HB0;have av:=hid jR.out;have HB0:=hid jS.out;clear jR jS;have aB:=av.out.tl.tl.box.c0;have aC:=av.out.tl.tl.box.c1;have aH:=av.out.tl.tl.box.f0;have aI:=av.out.tl.tl.box.f1;have aX:=av.out.tl.tl.tl.box.c0;have aY:=av.out.tl.tl.tl.box.c1;have bf:=av.out.tl.tl.tl.box.f0;have bg:=av.out.tl.tl.tl.box.f1;have ay:=av.out.tl.tl.tl.tl.box.c0;have aA:=av.out.tl.tl.tl.tl.box.c1;have aF:=av.out.tl.tl.tl.tl.box.f0;have aG:=av.out.tl.tl.tl.tl.box.f1;have r9:True:=trivial;have Ig:=hid (a0a av.out.tl.tl.box.c0 (a0a av.out.tl.tl.box.c1 (a0a av.out.tl.tl.tl.box.c0 (av.out.tl.tl.tl.box.c1))))
 go_region_held3 (λw'=>w'.cell? ⟨w.heap.size,0,none⟩=some (.bool m)/\ w'.cell? ⟨w.heap.size,1,none⟩=some (a0b ao n cap)/\ w'.cell? ⟨w.heap.size+1,0,none⟩=some (.bool k)/\ w'.cell? ⟨w.heap.size+1,1,none⟩=some (a0b bo l cb))
  (first|exact Ih.out|exact Ii.out|exact Ij.out|exact Ig.out|exact(a0a ((bT (λe=>by have e2:w.heap.size=w.heap.size+2:=e;omega) _ _).trans aB) (a0a ((bT (λe=>by have e2:w.heap.size=w.heap.size+2:=e;omega) _ _).trans aC) (a0a ((bT (λe=>by have e2:w.heap.size+1=w.heap.size+2:=e;omega) _ _).trans aX) ((bT (λe=>by have e2:w.heap.size+1=w.heap.size+2:=e;omega) _ _).trans aY))))|go_keep)
  (first
   |(have _t:=r9;clear _t r9;go_at_call 129;go_must (with_reducible refine(gK _ _).mono ?_);rintro e w1 ⟨Vy,rfl,hb1,hb2,hbc,hB⟩;have aL:=hid (Live.nL hb2 hbc (av.out.below hB));have HB1:=hid (Below.steps HB0.out hB);clear aB aC aH aI aX aY bf bg ay aA aF aG;clear av HB0 hb1 hbc hB;have aB:=aL.out.tl.tl.tl.box.c0;have aC:=aL.out.tl.tl.tl.box.c1;have aH:=aL.out.tl.tl.tl.box.f0;have aI:=aL.out.tl.tl.tl.box.f1;have aX:=aL.out.tl.tl.tl.tl.box.c0;have aY:=aL.out.tl.tl.tl.tl.box.c1;have bf:=aL.out.tl.tl.tl.tl.box.f0;have bg:=aL.out.tl.tl.tl.tl.box.f1;have ay:=aL.out.tl.tl.tl.tl.tl.box.c0;have aA:=aL.out.tl.tl.tl.tl.tl.box.c1;have aF:=aL.out.tl.tl.tl.tl.tl.box.f0;have aG:=aL.out.tl.tl.tl.tl.tl.box.f1;have Ij:=hid (a0a aL.out.tl.tl.tl.box.c0 (a0a aL.out.tl.tl.tl.box.c1 (a0a aL.out.tl.tl.tl.tl.box.c0 (aL.out.tl.tl.tl.tl.box.c1))));have si:True:=trivial)
   |(have _t:=si;clear _t si;go_at_call 176;go_must (with_reducible refine(Oo _ _ _ _ _ _ _ _ _ aL.out.tl.sl aL.out.tl.tl.sl (by omega) (by omega)).mono ?_);rintro e w2 ⟨t0,tn,tc,rfl,hT,hB⟩;have bL:=hid (Live.dH hT.sl (aL.out.below hB));have HB2:=hid (Below.steps HB1.out hB);clear aB aC aH aI aX aY bf bg ay aA aF aG;clear aL HB1 hT hB;have aB:=bL.out.tl.tl.tl.tl.box.c0;have aC:=bL.out.tl.tl.tl.tl.box.c1;have aH:=bL.out.tl.tl.tl.tl.box.f0;have aI:=bL.out.tl.tl.tl.tl.box.f1;have aX:=bL.out.tl.tl.tl.tl.tl.box.c0;have aY:=bL.out.tl.tl.tl.tl.tl.box.c1;have bf:=bL.out.tl.tl.tl.tl.tl.box.f0;have bg:=bL.out.tl.tl.tl.tl.tl.box.f1;have ay:=bL.out.tl.tl.tl.tl.tl.tl.box.c0;have aA:=bL.out.tl.tl.tl.tl.tl.tl.box.c1;have aF:=bL.out.tl.tl.tl.tl.tl.tl.box.f0;have aG:=bL.out.tl.tl.tl.tl.tl.tl.box.f1;have Ii:=hid (a0a bL.out.tl.tl.tl.tl.box.c0 (a0a bL.out.tl.tl.tl.tl.box.c1 (a0a bL.out.tl.tl.tl.tl.tl.box.c0 (bL.out.tl.tl.tl.tl.tl.box.c1))));have sj:True:=trivial)
   |(have _t:=sj;clear _t sj;go_at_call 178;go_must (with_reducible refine(iM _ _ _ _ _ _ _ bL.out.tl.fn bL.out.sl).mono ?_);rintro e w3 ⟨rm,r0,rn,rc,rfl,hX,hB⟩;have bY:=hid (bL.out.below hB);have HB3:=hid (Below.steps HB2.out hB);clear aB aC aH aI aX aY bf bg ay aA aF aG;clear bL HB2 hB;have aB:=bY.out.tl.tl.tl.tl.box.c0;have aC:=bY.out.tl.tl.tl.tl.box.c1;have aH:=bY.out.tl.tl.tl.tl.box.f0;have aI:=bY.out.tl.tl.tl.tl.box.f1;have aX:=bY.out.tl.tl.tl.tl.tl.box.c0;have aY:=bY.out.tl.tl.tl.tl.tl.box.c1;have bf:=bY.out.tl.tl.tl.tl.tl.box.f0;have bg:=bY.out.tl.tl.tl.tl.tl.box.f1;have ay:=bY.out.tl.tl.tl.tl.tl.tl.box.c0;have aA:=bY.out.tl.tl.tl.tl.tl.tl.box.c1;have aF:=bY.out.tl.tl.tl.tl.tl.tl.box.f0;have aG:=bY.out.tl.tl.tl.tl.tl.tl.box.f1;have Ih:=hid (a0a bY.out.tl.tl.tl.tl.box.c0 (a0a bY.out.tl.tl.tl.tl.box.c1 (a0a bY.out.tl.tl.tl.tl.tl.box.c0 (bY.out.tl.tl.tl.tl.tl.box.c1))));have R7:True:=trivial))
 clear Ig Ij Ii Ih;go_wp2_with fail;refine bodyPost_ret (v:= .agg #[.bool rm,a0b r0 rn rc]) (by simp[results,Tryz.results126,go_sem,ay,aA]) rfl ?_;exact⟨_,_,_,_,rfl,HZ.out▸hX.set2 bY.out.tl.tl.tl.tl.tl.tl.box _ _,aW HB3.out (by omega) _ _⟩
open Lib (hid)
theorem yO {w:World} {ao:Option Addr} {n cap V B la:Nat} (h:Sl w ao n cap (limbs (V^B))) (hV:V<4294967296^la):n<=la*B+1:=by
 rw[<-h.len];refine gD ?_;rcases a0j B with h0|h0
 ·subst h0;rw[a0l];exact Nat.one_lt_pow (by omega) (by omega)
 ·refine Nat.lt_of_lt_of_le (Nat.pow_lt_pow_left hV (by omega)) ?_;rw[<-Nat.pow_mul];exact Nat.pow_le_pow_right (by omega) (by omega)
structure PowInv (V N:Nat) (w:World) (ao:Option Addr) (n cap:Nat) (po:Option Addr) (pn pc B P r:Nat) (zs:List Nat) (wr:World):Prop where
 base:Sl wr ao n cap zs
 val:val zs=V^B
 prod:Own w.heap.size wr po pn pc (limbs (V^P))
 sum:P+B*r=N
 below:Below w.heap.size w wr
theorem PowInv.small {V N:Nat} {w:World} {ao:Option Addr} {n cap:Nat} {po:Option Addr} {pn pc B P r:Nat} {zs:List Nat} {wr:World} (h:PowInv V N w ao n cap po pn pc B P r zs wr) (hN:N<=1000) (hr:0<r):P+B<=1000:=by
 have h1:=h.sum;have h2:B<=B*r:=Nat.le_mul_of_pos_right _ hr;omega
theorem PowInv.YO {V N:Nat} {w:World} {ao:Option Addr} {n cap:Nat} {po:Option Addr} {pn pc B P r:Nat} {zs:List Nat} {wr:World} (h:PowInv V N w ao n cap po pn pc B P r zs wr) (hN:N<=1000) (hr:2<=r):B+B<=1000:=by
 have h1:=h.sum;have h2:B*2<=B*r:=Nat.mul_le_mul_left _ hr;omega
theorem R8 {P B r N:Nat} (h:P+B*r=N) (h2:r%2=0):P+(B+B)*(r/2)=N:=by
 have e:B*r=(B+B)*(r/2):=by
  have e1:r=2*(r/2):=by omega
  have e2:B+B=B*2:=by omega
  rw[e2,Nat.mul_assoc,<-e1]
 rw[<-e];exact h
theorem Vz {P B r N:Nat} (h:P+B*r=N) (h2:0<r):(P+B)+B*(r-1)=N:=by
 obtain⟨j,rfl⟩:∃j,r=j+1:=⟨r-1,by omega⟩;rw[Nat.mul_add]at h;simp;omega
theorem DW (a0:Option Addr) (la ca:Nat) (xs:List Nat) (N:Nat) (w:World) (ha:Sl w a0 la ca xs) (h1:la<=1000000) (hN:N<=1000):
  Calls Tryz.prog 230 #[a0b a0 la ca,.int .i64 (N:Int)] w (gP w (limbs (val xs^N))):=by
 have HVL:Hid (val xs<4294967296^la):=tQ la ha.wf ha.len (a0i _);have Vx:=hid ha;clear ha;go_enter Tryz.func230,Tryz.ntmps230;go_wp2;go_step3;go_wp2_with fail;refine(ku 1 _ (by omega)).mono ?_;rintro e w1 ⟨p0,pn,pc,rfl,hP,hB⟩;have HI0:Hid (PowInv (val xs) N w a0 la ca p0 pn pc 1 0 N xs w1):=⟨Vx.out.below hB,by rw[Nat.pow_one],by rw[a0l];exact hP,by omega,hB⟩;have hpn:pn<=1000000001:=by rw[<-hP.len];exact a0k (gD (k:=1) (by omega)) (by omega)
 clear hP hB Vx;go_wp2;go_step3;go_wp2;go_loopg [0,1,5] N (λg x nn y wr=>∃(ao:Option Addr) (n cap:Nat) (po:Option Addr) (pn pc B P r:Nat) (zs:List Nat),x=a0b ao n cap/\ nn= .int .i64 ((r:Nat):Int)/\ y=a0b po pn pc/\ n<=1000000001/\ pn<=1000000001/\ r<=1000/\ Hid (r=g)/\ Hid (PowInv (val xs) N w ao n cap po pn pc B P r zs wr))
 case atStart=>exact⟨_,_,_,_,_,_,1,0,N,xs,rfl,rfl,rfl,by omega,hpn,hN,rfl,HI0⟩
 case round=>
  clear HI0 hpn;obtain⟨ao,n,cap,po,pn,pc,B,P,r,zs,rfl,rfl,rfl,hn,hpn,hr,HR,HI⟩:=hrel;obtain⟨wo,rfl⟩:∃wo:World,wo=wr:=⟨_,rfl⟩;by_cases h0:r=0
  ·subst h0;have HE:Hid (P=N):=by have:=HI.out.sum;rw[Hid];omega
   go_wp2_with fail;rw[Exit.noGoto_ret];go_ret;exact⟨_,_,_,rfl,by rw[<-HE.out];exact HI.out.prod,HI.out.below⟩
  ·have hz:(((r:Nat):Int)==0)=false:=by simp;omega
   have hr0:0<r:=by omega
   by_cases h2:r%2=0
   ·have hm:(((r:Nat):Int)%2==0)=true:=by simp;omega
    have hs2:=HI.out.YO hN (by omega);have H2:=hid h2;clear h2;go_wp2_with fail;refine(tY _ _ _ _ _ _ _ _ _ HI.out.base HI.out.base (by omega) (by omega)).mono ?_;rintro e w2 ⟨q0,qn,qc,rfl,hQ,hB⟩;rw[HI.out.val,<-a0m]at hQ
    have ZW:qn<=1000000001:=by
     have h3:=yO hQ.sl HVL.out;have h4:=a0n h1 hs2;omega
    have HJ:Hid (PowInv (val xs) N w q0 qn qc po pn pc (B+B) P (r/2) (limbs (val xs^(B+B))) w2):=⟨hQ.sl,au _,HI.out.prod.below hB,R8 HI.out.sum H2.out,Below.steps HI.out.below hB⟩;clear hQ hB;go_wp2_with fail;go_roundg (r/2)
    case measure=>have:=HR.out;omega
    case rel=>exact⟨_,_,_,_,_,_,_,_,r/2,_,rfl,by go_num,rfl,ZW,hpn,by omega,rfl,HJ⟩
   ·have hm:(((r:Nat):Int)%2==0)=false:=by simp;omega
    have hs2:=HI.out.small hN hr0;clear h2;go_wp2_with fail;refine(tY _ _ _ _ _ _ _ _ _ HI.out.prod.sl HI.out.base (by omega) (by omega)).mono ?_;rintro e w2 ⟨q0,qn,qc,rfl,hQ,hB⟩;rw[HI.out.val,au,<-a0m]at hQ
    have ZW:qn<=1000000001:=by
     have h3:=yO hQ.sl HVL.out;have h4:=a0n h1 hs2;omega
    have HJ:Hid (PowInv (val xs) N w ao n cap q0 qn qc B (P+B) (r-1) zs w2):=⟨HI.out.base.below hB,HI.out.val,hQ.mono HI.out.below.size,Vz HI.out.sum hr0,Below.steps HI.out.below hB⟩;clear hQ hB;go_wp2_with fail;go_roundg (r-1)
    case measure=>have:=HR.out;omega
    case rel=>exact⟨_,_,_,_,_,_,_,_,r-1,_,rfl,by go_num,rfl,hn,ZW,by omega,rfl,HJ⟩
theorem Mc (m:Bool) (v N:Nat):dK (m&&decide (N%2=1)) (v^N)=dK m v^N:=by
 cases m
 ·simp[dK]
 ·simp only[dK,Bool.true_and,if_true];induction N with
  |zero=>simp
  |succ N ih=>
   rw[Int.pow_succ,<-ih,Nat.pow_succ];by_cases h:N%2=1
   ·have h2:¬((N+1)%2=1):=by omega
    simp[h,h2,a0d,Int.neg_mul]
   ·have h2:(N+1)%2=1:=by omega
    simp[h,h2,a0d]
theorem Oq [Ol] (N:Nat) {ao:Option Addr} {n cap:Nat} {x:Int} {w:World} (hx:Nx w true ao n cap x) (hN:N<=1000):
  Calls Tryz.prog 205 #[.agg #[.bool true,a0b ao n cap],.int .i64 (N:Int)] w (Ma w (x^N) 0):=by
 obtain⟨⟨xs,hs,hz⟩,hle⟩:=hx;obtain⟨s,hs1⟩:∃s,s=decide (N%2=1):=⟨_,rfl⟩;have hs2:(((N:Nat):Int)%2==1)=s:=by rw[hs1,Bool.eq_iff_iff];simp;omega
 have d1:decide (((N:Nat):Int)<0)=false:=by simp
 have d2:decide (1000<((N:Nat):Int))=false:=by simp;omega
 have e1:((N:Nat):Int).tmod 2=((N:Nat):Int)%2:=a0c (by omega);have e2:IntKind.i64.wrap (((N:Nat):Int)%2)=((N:Nat):Int)%2:=by rw[show((N:Nat):Int)%2=((N%2:Nat):Int)from by omega];exact wrap_i64 _ (by omega)
 have HZ:Hid (dK (true&&s) (val xs^N)=x^N):=by rw[Hid,hs1,Mc,hz]
 clear hs1 hz;go_enter Tryz.func205,Tryz.ntmps205;go_upto_region 1 with(fail)
 refine aj (λW hW=>?_);have HB0:Hid (Below w.heap.size w W):=by rw[hW];exact aN (af _ _)
 have aM:bR W (w.heap.size) true ao n cap:=by rw[hW];exact(bR.new _ _ _ _ _ _ _ (by simp)).below (af _ _)
 have aP:bR W (w.heap.size+1) false none 0 0:=by rw[hW];exact bR.new _ _ _ _ _ _ _ (by simp)
 have av:=hid (Live.dH (hs.below HB0.out) (Live.aD aM (Live.aD aP (Live.nil W))));clear hW aM aP;have aB:=av.out.tl.box.c0;have aC:=av.out.tl.box.c1;have aH:=av.out.tl.box.f0;have aI:=av.out.tl.box.f1;have ay:=av.out.tl.tl.box.c0;have aA:=av.out.tl.tl.box.c1;have aF:=av.out.tl.tl.box.f0;have aG:=av.out.tl.tl.box.f1;go_wp2_with fail;have jR:=hid (av.out.below ((Below.refl _ _).drew));have jS:=hid HB0.out.drew;clear aB aC aH aI ay aA aF aG;clear av HB0;have av:=hid jR.out;have HB0:=hid jS.out;clear jR jS;have aB:=av.out.tl.box.c0;have aC:=av.out.tl.box.c1;have aH:=av.out.tl.box.f0;have aI:=av.out.tl.box.f1;have ay:=av.out.tl.tl.box.c0;have aA:=av.out.tl.tl.box.c1;have aF:=av.out.tl.tl.box.f0;have aG:=av.out.tl.tl.box.f1;have r9:True:=trivial;have Ig:=hid (a0a av.out.tl.box.c0 (av.out.tl.box.c1))
 go_region_held3 (λw'=>w'.cell? ⟨w.heap.size,0,none⟩=some (.bool true)/\ w'.cell? ⟨w.heap.size,1,none⟩=some (a0b ao n cap))
  (first|exact Ih.out|exact Ii.out|exact Ij.out|exact Ig.out|exact(a0a ((bT (λe=>by have e2:w.heap.size=w.heap.size+1:=e;omega) _ _).trans aB) ((bT (λe=>by have e2:w.heap.size=w.heap.size+1:=e;omega) _ _).trans aC))|go_keep)
  (first
   |(have _t:=r9;clear _t r9;go_at_call 129;go_must (with_reducible refine(gK _ _).mono ?_);rintro e w1 ⟨Vy,rfl,hb1,hb2,hbc,hB⟩;have aL:=hid (Live.nL hb2 hbc (av.out.below hB));have HB1:=hid (Below.steps HB0.out hB);clear aB aC aH aI ay aA aF aG;clear av HB0 hb1 hbc hB;have aB:=aL.out.tl.tl.box.c0;have aC:=aL.out.tl.tl.box.c1;have aH:=aL.out.tl.tl.box.f0;have aI:=aL.out.tl.tl.box.f1;have ay:=aL.out.tl.tl.tl.box.c0;have aA:=aL.out.tl.tl.tl.box.c1;have aF:=aL.out.tl.tl.tl.box.f0;have aG:=aL.out.tl.tl.tl.box.f1;have Ij:=hid (a0a aL.out.tl.tl.box.c0 (aL.out.tl.tl.box.c1));have si:True:=trivial)
   |(have _t:=si;clear _t si;go_at_call 230;go_must (with_reducible refine(DW _ _ _ _ N _ aL.out.tl.sl (by omega) (by omega)).mono ?_);rintro e w2 ⟨t0,tn,tc,rfl,hT,hB⟩;have bL:=hid (Live.dH hT.sl (aL.out.below hB));have HB2:=hid (Below.steps HB1.out hB);clear aB aC aH aI ay aA aF aG;clear aL HB1 hT hB;have aB:=bL.out.tl.tl.tl.box.c0;have aC:=bL.out.tl.tl.tl.box.c1;have aH:=bL.out.tl.tl.tl.box.f0;have aI:=bL.out.tl.tl.tl.box.f1;have ay:=bL.out.tl.tl.tl.tl.box.c0;have aA:=bL.out.tl.tl.tl.tl.box.c1;have aF:=bL.out.tl.tl.tl.tl.box.f0;have aG:=bL.out.tl.tl.tl.tl.box.f1;have Ii:=hid (a0a bL.out.tl.tl.tl.box.c0 (bL.out.tl.tl.tl.box.c1));have sj:True:=trivial)
   |(have _t:=sj;clear _t sj;go_at_call 178;go_must (with_reducible refine(iM _ _ _ _ _ _ _ bL.out.tl.fn bL.out.sl).mono ?_);rintro e w3 ⟨rm,r0,rn,rc,rfl,hX,hB⟩;have bY:=hid (bL.out.below hB);have HB3:=hid (Below.steps HB2.out hB);clear aB aC aH aI ay aA aF aG;clear bL HB2 hB;have aB:=bY.out.tl.tl.tl.box.c0;have aC:=bY.out.tl.tl.tl.box.c1;have aH:=bY.out.tl.tl.tl.box.f0;have aI:=bY.out.tl.tl.tl.box.f1;have ay:=bY.out.tl.tl.tl.tl.box.c0;have aA:=bY.out.tl.tl.tl.tl.box.c1;have aF:=bY.out.tl.tl.tl.tl.box.f0;have aG:=bY.out.tl.tl.tl.tl.box.f1;have Ih:=hid (a0a bY.out.tl.tl.tl.box.c0 (bY.out.tl.tl.tl.box.c1));have R7:True:=trivial))
 clear Ig Ij Ii Ih;go_wp2_with fail;refine bodyPost_ret (v:= .tuple #[.agg #[.bool rm,a0b r0 rn rc],.int .i64 0]) (by simp[results,Tryz.results205,go_sem,ay,aA]) rfl ?_;exact⟨_,_,_,_,rfl,(show dK s (val xs^N)=x^N from by simpa using HZ.out)▸hX.set2 bY.out.tl.tl.tl.tl.box _ _,aW HB3.out (by omega) _ _⟩
theorem KC [Ol] (N:Nat) {ao:Option Addr} {n cap:Nat} {x:Int} {w:World} (hx:Nx w false ao n cap x) (hN:N<=1000):
  Calls Tryz.prog 205 #[.agg #[.bool false,a0b ao n cap],.int .i64 (N:Int)] w (Ma w (x^N) 0):=by
 obtain⟨⟨xs,hs,hz⟩,hle⟩:=hx;obtain⟨s,hs1⟩:∃s,s=decide (N%2=1):=⟨_,rfl⟩;have hs2:(((N:Nat):Int)%2==1)=s:=by rw[hs1,Bool.eq_iff_iff];simp;omega
 have d1:decide (((N:Nat):Int)<0)=false:=by simp
 have d2:decide (1000<((N:Nat):Int))=false:=by simp;omega
 have e1:((N:Nat):Int).tmod 2=((N:Nat):Int)%2:=a0c (by omega);have e2:IntKind.i64.wrap (((N:Nat):Int)%2)=((N:Nat):Int)%2:=by rw[show((N:Nat):Int)%2=((N%2:Nat):Int)from by omega];exact wrap_i64 _ (by omega)
 have HZ:Hid (dK (false&&s) (val xs^N)=x^N):=by rw[Hid,hs1,Mc,hz]
 clear hs1 hz;go_enter Tryz.func205,Tryz.ntmps205;go_upto_region 1 with(fail)
 refine aj (λW hW=>?_);have HB0:Hid (Below w.heap.size w W):=by rw[hW];exact aN (af _ _)
 have aM:bR W (w.heap.size) false ao n cap:=by rw[hW];exact(bR.new _ _ _ _ _ _ _ (by simp)).below (af _ _)
 have aP:bR W (w.heap.size+1) false none 0 0:=by rw[hW];exact bR.new _ _ _ _ _ _ _ (by simp)
 have av:=hid (Live.dH (hs.below HB0.out) (Live.aD aM (Live.aD aP (Live.nil W))));clear hW aM aP;have aB:=av.out.tl.box.c0;have aC:=av.out.tl.box.c1;have aH:=av.out.tl.box.f0;have aI:=av.out.tl.box.f1;have ay:=av.out.tl.tl.box.c0;have aA:=av.out.tl.tl.box.c1;have aF:=av.out.tl.tl.box.f0;have aG:=av.out.tl.tl.box.f1;go_wp2_with fail;have jR:=hid (av.out.below ((Below.refl _ _).drew));have jS:=hid HB0.out.drew;clear aB aC aH aI ay aA aF aG;clear av HB0;have av:=hid jR.out;have HB0:=hid jS.out;clear jR jS;have aB:=av.out.tl.box.c0;have aC:=av.out.tl.box.c1;have aH:=av.out.tl.box.f0;have aI:=av.out.tl.box.f1;have ay:=av.out.tl.tl.box.c0;have aA:=av.out.tl.tl.box.c1;have aF:=av.out.tl.tl.box.f0;have aG:=av.out.tl.tl.box.f1;have r9:True:=trivial;have Ig:=hid (a0a av.out.tl.box.c0 (av.out.tl.box.c1))
 first
  |(go_region_held (λw'=>w'.cell? ⟨w.heap.size,0,none⟩=some (.bool false)/\ w'.cell? ⟨w.heap.size,1,none⟩=some (a0b ao n cap))
   (first|exact Ih.out|exact Ii.out|exact Ij.out|exact Ig.out|exact(a0a ((bT (λe=>by have e2:w.heap.size=w.heap.size+1:=e;omega) _ _).trans aB) ((bT (λe=>by have e2:w.heap.size=w.heap.size+1:=e;omega) _ _).trans aC))|go_keep)
   (first
    |(have _t:=r9;clear _t r9;go_at_call 129;go_must (with_reducible refine(gK _ _).mono ?_);rintro e w1 ⟨Vy,rfl,hb1,hb2,hbc,hB⟩;have aL:=hid (Live.nL hb2 hbc (av.out.below hB));have HB1:=hid (Below.steps HB0.out hB);clear aB aC aH aI ay aA aF aG;clear av HB0 hb1 hbc hB;have aB:=aL.out.tl.tl.box.c0;have aC:=aL.out.tl.tl.box.c1;have aH:=aL.out.tl.tl.box.f0;have aI:=aL.out.tl.tl.box.f1;have ay:=aL.out.tl.tl.tl.box.c0;have aA:=aL.out.tl.tl.tl.box.c1;have aF:=aL.out.tl.tl.tl.box.f0;have aG:=aL.out.tl.tl.tl.box.f1;have Ij:=hid (a0a aL.out.tl.tl.box.c0 (aL.out.tl.tl.box.c1));have si:True:=trivial)
    |(have _t:=si;clear _t si;go_at_call 230;go_must (with_reducible refine(DW _ _ _ _ N _ aL.out.tl.sl (by omega) (by omega)).mono ?_);rintro e w2 ⟨t0,tn,tc,rfl,hT,hB⟩;have bL:=hid (Live.dH hT.sl (aL.out.below hB));have HB2:=hid (Below.steps HB1.out hB);clear aB aC aH aI ay aA aF aG;clear aL HB1 hT hB;have aB:=bL.out.tl.tl.tl.box.c0;have aC:=bL.out.tl.tl.tl.box.c1;have aH:=bL.out.tl.tl.tl.box.f0;have aI:=bL.out.tl.tl.tl.box.f1;have ay:=bL.out.tl.tl.tl.tl.box.c0;have aA:=bL.out.tl.tl.tl.tl.box.c1;have aF:=bL.out.tl.tl.tl.tl.box.f0;have aG:=bL.out.tl.tl.tl.tl.box.f1;have Ii:=hid (a0a bL.out.tl.tl.tl.box.c0 (bL.out.tl.tl.tl.box.c1));have sj:True:=trivial)
    |(have _t:=sj;clear _t sj;go_at_call 178;go_must (with_reducible refine(iM _ _ _ _ _ _ _ bL.out.tl.fn bL.out.sl).mono ?_);rintro e w3 ⟨rm,r0,rn,rc,rfl,hX,hB⟩;have bY:=hid (bL.out.below hB);have HB3:=hid (Below.steps HB2.out hB);clear aB aC aH aI ay aA aF aG;clear bL HB2 hB;have aB:=bY.out.tl.tl.tl.box.c0;have aC:=bY.out.tl.tl.tl.box.c1;have aH:=bY.out.tl.tl.tl.box.f0;have aI:=bY.out.tl.tl.tl.box.f1;have ay:=bY.out.tl.tl.tl.tl.box.c0;have aA:=bY.out.tl.tl.tl.tl.box.c1;have aF:=bY.out.tl.tl.tl.tl.box.f0;have aG:=bY.out.tl.tl.tl.tl.box.f1;have Ih:=hid (a0a bY.out.tl.tl.tl.box.c0 (bY.out.tl.tl.tl.box.c1));have R7:True:=trivial)))
  |fail
 clear Ig Ij Ii Ih;go_wp2_with fail;refine bodyPost_ret (v:= .tuple #[.agg #[.bool rm,a0b r0 rn rc],.int .i64 0]) (by simp[results,Tryz.results205,go_sem,ay,aA]) rfl ?_;exact⟨_,_,_,_,rfl,(show dK false (val xs^N)=x^N from by simpa using HZ.out)▸hX.set2 bY.out.tl.tl.tl.tl.box _ _,aW HB3.out (by omega) _ _⟩
theorem vW [Ol] (N:Nat) {m:Bool} {ao:Option Addr} {n cap:Nat} {x:Int} {w:World} (hx:Nx w m ao n cap x) (hN:N<=1000):
  Calls Tryz.prog 205 #[.agg #[.bool m,a0b ao n cap],.int .i64 (N:Int)] w (Ma w (x^N) 0):=by
 cases m
 ·exact KC N hx hN
 ·exact Oq N hx hN
end Go.Proofs.YtmenbpmciblnlaaGreatDoor
