/- WDiv, WGcd, WPow -/
import Derived.Test.YtmenbpmciblnlaaGreatDoorGWA
import Derived.Test.YtmenbpmciblnlaaGreatDoorGDiv
import Derived.Deep.LoopGhost
set_option maxHeartbeats 40000000
set_option maxRecDepth 100000
namespace Go.Proofs.YtmenbpmciblnlaaGreatDoor
open Lib (hid)
open Go.RowKit
def Jo (w:World) (q:Int) (er:Int) (e:Ending) (w':World):Prop:=
 ∃m ao n cap,e= .returned (.tuple #[.agg #[.bool m,.slice ao n cap],.int .i64 er])/\ Cn w' m ao n cap q/\ Below w.heap.size w w'
theorem uO (m k:Bool) (a b:Nat):dM (m !=k) (a/b)=(dM m a).tdiv (dM k b):=by cases m<;>cases k<;>simp[dM,Int.tdiv_neg,Int.neg_tdiv]
theorem rC (m k:Bool) (a b:Nat):dM m (a%b)=(dM m a).tmod (dM k b):=by cases m<;>cases k<;>simp[dM,Int.tmod_neg,Int.neg_tmod,Int.tmod_eq_emod_of_nonneg]
theorem wX {m:Bool} {v:Nat} {x:Int} (h:dM m v=x):x=0↔v=0:=by
 have:=gM m v;rw[h]at this;omega
theorem j6 [Ol] {m k:Bool} {ao bo:Option Addr} {n cap l cb:Nat} {x y:Int} {w:World} (hx:Nx w m ao n cap x) (hy:Nx w k bo l cb y) (h0:y≠0) (hr:x.tmod y=0):
  Calls Tryz.prog 127 #[.agg #[.bool m,.slice ao n cap],.agg #[.bool k,.slice bo l cb]] w (Jo w (x.tdiv y) 0):=by
 obtain⟨⟨xs,hs,hz⟩,hle⟩:=hx;obtain⟨⟨ys,ht,hz2⟩,hle2⟩:=hy;have H0:Hid (val ys≠0):=fun h=>h0 ((wX hz2).2 h)
 have HR:Hid (val xs%val ys=0):=by
  have h1:=rC m k (val xs) (val ys);rw[hz,hz2,hr]at h1;exact(wX h1).1 rfl
 have HQ:Hid (dM (m !=k) (val xs/val ys)=x.tdiv y):=by rw[Hid,uO,hz,hz2]
 clear h0 hr hz hz2;go_enter Tryz.func127,Tryz.ntmps127;go_upto_region 1 with(fail)
 refine aj (fun W hW=>?_);have HB0:Hid (Below w.heap.size w W):=by rw[hW];exact aM (aM (af _ _))
 have aN:bJ W (w.heap.size) m ao n cap:=by rw[hW];exact((bJ.new _ _ _ _ _ _ _ (by simp)).below (af _ _)).below (af _ _)
 have bH:bJ W (w.heap.size+1) k bo l cb:=by rw[hW];exact(bJ.new _ _ _ _ _ _ _ (by simp)).below (af _ _)
 have aQ:bJ W (w.heap.size+2) false none 0 0:=by rw[hW];exact bJ.new _ _ _ _ _ _ _ (by simp)
 have av:=hid (Live.dK (hs.below HB0.out) (Live.dK (ht.below HB0.out) (Live.aC aN (Live.aC bH (Live.aC aQ (Live.nil W))))));clear hW aN bH aQ;have aD:=av.out.tl.tl.box.c0;have aF:=av.out.tl.tl.box.c1;have aJ:=av.out.tl.tl.box.f0;have aK:=av.out.tl.tl.box.f1;have aR:=av.out.tl.tl.tl.box.c0;have aS:=av.out.tl.tl.tl.box.c1;have aV:=av.out.tl.tl.tl.box.f0;have aW:=av.out.tl.tl.tl.box.f1;have ax:=av.out.tl.tl.tl.tl.box.c0;have ay:=av.out.tl.tl.tl.tl.box.c1;have aA:=av.out.tl.tl.tl.tl.box.f0;have aB:=av.out.tl.tl.tl.tl.box.f1;go_wp2_with fail;refine(Lb _ _ _ _ _ _ _ _ _ av.out.sl av.out.tl.sl H0.out (by omega) HR.out).mono ?_;rintro e w1 ⟨q0,qn,qc,rfl,hQ,hB⟩;have aL:=hid (Live.dK hQ (av.out.below hB));have HB1:=hid (Below.steps HB0.out hB);clear aD aF aJ aK aR aS aV aW ax ay aA aB;clear av HB0 hQ hB;have aD:=aL.out.tl.tl.tl.box.c0;have aF:=aL.out.tl.tl.tl.box.c1;have aJ:=aL.out.tl.tl.tl.box.f0;have aK:=aL.out.tl.tl.tl.box.f1;have aR:=aL.out.tl.tl.tl.tl.box.c0;have aS:=aL.out.tl.tl.tl.tl.box.c1;have aV:=aL.out.tl.tl.tl.tl.box.f0;have aW:=aL.out.tl.tl.tl.tl.box.f1;have ax:=aL.out.tl.tl.tl.tl.tl.box.c0;have ay:=aL.out.tl.tl.tl.tl.tl.box.c1;have aA:=aL.out.tl.tl.tl.tl.tl.box.f0;have aB:=aL.out.tl.tl.tl.tl.tl.box.f1;go_wp2_with fail;refine(gu _ _).mono ?_;rintro e w2 ⟨b,rfl,hb1,hb2,hbc,hB⟩;have bI:=hid (Live.mE hb2 hbc (aL.out.below hB));have HB2:=hid (Below.steps HB1.out hB);clear aD aF aJ aK aR aS aV aW ax ay aA aB;clear aL HB1 hb1 hbc hB;have aD:=bI.out.tl.tl.tl.tl.box.c0;have aF:=bI.out.tl.tl.tl.tl.box.c1;have aJ:=bI.out.tl.tl.tl.tl.box.f0;have aK:=bI.out.tl.tl.tl.tl.box.f1;have aR:=bI.out.tl.tl.tl.tl.tl.box.c0;have aS:=bI.out.tl.tl.tl.tl.tl.box.c1;have aV:=bI.out.tl.tl.tl.tl.tl.box.f0;have aW:=bI.out.tl.tl.tl.tl.tl.box.f1;have ax:=bI.out.tl.tl.tl.tl.tl.tl.box.c0;have ay:=bI.out.tl.tl.tl.tl.tl.tl.box.c1;have aA:=bI.out.tl.tl.tl.tl.tl.tl.box.f0;have aB:=bI.out.tl.tl.tl.tl.tl.tl.box.f1;go_wp2_with fail;refine(iy _ _ _ _ _ _ _ bI.out.fn bI.out.tl.sl).mono ?_;rintro e w3 ⟨rm,r0,rn,rc,rfl,hX,hB⟩;have bV:=hid (bI.out.below hB);have HB3:=hid (Below.steps HB2.out hB);clear aD aF aJ aK aR aS aV aW ax ay aA aB;clear bI HB2 hB;have aD:=bV.out.tl.tl.tl.tl.box.c0;have aF:=bV.out.tl.tl.tl.tl.box.c1;have aJ:=bV.out.tl.tl.tl.tl.box.f0;have aK:=bV.out.tl.tl.tl.tl.box.f1;have aR:=bV.out.tl.tl.tl.tl.tl.box.c0;have aS:=bV.out.tl.tl.tl.tl.tl.box.c1;have aV:=bV.out.tl.tl.tl.tl.tl.box.f0
 have aW:=bV.out.tl.tl.tl.tl.tl.box.f1;have ax:=bV.out.tl.tl.tl.tl.tl.tl.box.c0;have ay:=bV.out.tl.tl.tl.tl.tl.tl.box.c1;have aA:=bV.out.tl.tl.tl.tl.tl.tl.box.f0;have aB:=bV.out.tl.tl.tl.tl.tl.tl.box.f1;go_wp2_with fail;refine bodyPost_ret (v:= .tuple #[.agg #[.bool rm,.slice r0 rn rc],.int .i64 0]) (by simp[results,Tryz.results127,go_sem,ax,ay]) rfl ?_;exact⟨_,_,_,_,rfl,HQ.out▸hX.set2 bV.out.tl.tl.tl.tl.tl.tl.box _ _,aT HB3.out (by omega) _ _⟩
open Lib (hid)
theorem zN (a b:Nat) (w:World) (ha:a<18446744073709551616) (hb:b<18446744073709551616):
  Calls Tryz.prog 211 #[.int .u64 (a:Int),.int .u64 (b:Int)] w (kz (.int .u64 ((a.gcd b:Nat):Int)) w):=by
 go_enter Tryz.func211,Tryz.ntmps211;go_wp2_with fail;go_loopg [0,1] b (fun g x y wr=>∃u v k:Nat,x= .int .u64 ((u:Nat):Int)/\ y= .int .u64 ((v:Nat):Int)/\ u<18446744073709551616/\ v<18446744073709551616/\ Hid (v=g)/\ Hid (u.gcd v=a.gcd b)/\ wr=w.drewN k)
 case atStart=>exact⟨a,b,0,rfl,rfl,ha,hb,rfl,rfl,rfl⟩
 case round=>
  obtain⟨u,v,k,rfl,rfl,hu,hv,HVG,HG,rfl⟩:=hrel;by_cases h0:0<v
  ·have hi:(0:Int)<((v:Nat):Int):=by omega
   have hne:(((v:Nat):Int)==0)=false:=by simp;omega
   go_wp2;go_quiet (fail);go_wp2;have HM:Hid (u%v<gk):=by rw[Hid,<-HVG.out];exact Nat.mod_lt u h0
   go_roundg (u%v)
   case rel=>exact⟨v,u%v,k+nq,rfl,by go_num,hv,by have:=Nat.mod_lt u h0;omega,rfl,by rw[Hid,Nat.gcd_comm v,<-Nat.gcd_rec,Nat.gcd_comm];exact HG.out,by rw[World.drewN_drewN]⟩
   case measure=>exact HM.out
  ·obtain rfl:v=0:=by omega
   go_wp2_with fail;go_ret;exact⟨by rw[<-HG.out,Nat.gcd_zero_right];rfl,k,rfl⟩
theorem zO {u v g:Nat} (h:u.gcd v=g):v.gcd (u%v)=g:=by rw[Nat.gcd_comm v,<-Nat.gcd_rec,Nat.gcd_comm];exact h
theorem zP {xs ys:List Nat} {l k:Nat} {w:World} {bo zo:Option Addr} {cb cz:Nat} (h:Sl w bo l cb ys) (hz:Sl w zo k cz (limbs (val xs%val ys))) (h0:val ys≠0):k<=l:=by
 rw[<-hz.len];exact gZ (Nat.lt_trans (Nat.mod_lt _ (by omega)) (qU l h.wf h.len (Nat.le_refl _)))
theorem Lm (a0 b0:Option Addr) (la ca lb cb:Nat) (Zh ys0:List Nat) (w:World) (ha:Sl w a0 la ca Zh) (hb:Sl w b0 lb cb ys0) (h1:la<=1000000) (h2:lb<=1000000):
  Calls Tryz.prog 176 #[.slice a0 la ca,.slice b0 lb cb] w (iq w (limbs ((val Zh).gcd (val ys0)))):=by
 obtain⟨G,hG⟩:∃G,G=(val Zh).gcd (val ys0):=⟨_,rfl⟩;rw[<-hG];have Qb:=hid hG.symm;clear hG;have RU:=hid ha;have HB0:=hid hb;clear ha hb;go_enter Tryz.func176,Tryz.ntmps176;go_wp2_with fail;go_loopg [0,1] (val ys0) (fun g x y wr=>∃(ao:Option Addr) (n cap:Nat) (bo:Option Addr) (l cc:Nat) (xs ys:List Nat),x= .slice ao n cap/\ y= .slice bo l cc/\ n<=1000000/\ l<=1000000/\ Hid (Sl wr ao n cap xs/\ Sl wr bo l cc ys/\ (val xs).gcd (val ys)=G/\ val ys=g/\ Below w.heap.size w wr))
 case atStart=>exact⟨_,_,_,_,_,_,Zh,ys0,rfl,rfl,h1,h2,RU.out,HB0.out,Qb.out,rfl,Below.refl _ _⟩
 case round=>
  clear Qb RU HB0;obtain⟨ao,n,cap,bo,l,cc,xs,ys,rfl,rfl,hn,hl,HI⟩:=hrel;obtain⟨wo,rfl⟩:∃wo:World,wo=wr:=⟨_,rfl⟩;by_cases h0:val ys=0
  ·have HE:Hid (val xs=G):=by rw[Hid,<-HI.out.2.2.1,h0,Nat.gcd_zero_right]
   have H0:=hid h0;clear h0;go_wp2_with fail;refine(gX 0 _ _ _ _ _ HI.out.2.1 (by rw[H0.out];rfl)).mono ?_;rintro e w' ⟨rfl,rfl⟩;go_wp2_with fail;refine(zF _ _ _ _ _ HI.out.1).mono ?_;rintro e w1 ⟨t0,tn,tc,rfl,hT,hB⟩;rw[HE.out]at hT;have HT:=hid hT;have HB:=hid hB;clear hT hB;go_wp2_with fail;go_ret;exact⟨_,_,_,rfl,HT.out.mono HI.out.2.2.2.2.size,Below.steps HI.out.2.2.2.2 HB.out⟩
  ·obtain⟨k,hk⟩:∃k,k=nbits (val ys):=⟨_,rfl⟩
   have hk0:0<k:=by
    rw[hk];rcases Nat.eq_zero_or_pos (nbits (val ys))with h|h
    ·exact absurd (kE.1 h) h0
    ·exact h
   have hk1:(0:Int)<((k:Nat):Int):=by omega
   have HN:=hid hk.symm;have H0:=hid h0;clear hk h0;obtain⟨u,hu⟩:∃u,u=val xs:=⟨_,rfl⟩;obtain⟨v,hv⟩:∃v,v=val ys:=⟨_,rfl⟩;have HU:=hid hu.symm;have HV:=hid hv.symm;by_cases hsx:u<18446744073709551616
   ·have Tz:Hid (nl xs<=2):=zQ (by rw[<-hu];exact hsx);by_cases hsy:v<18446744073709551616
    ·have Ve:Hid (nl ys<=2):=zQ (by rw[<-hv];exact hsy);have HSU:=hid hsx;have HSV:=hid hsy;have HG2:Hid (u.gcd v=G):=by rw[Hid,hu,hv];exact HI.out.2.2.1
     obtain⟨gg,hgg⟩:∃gg,gg=u.gcd v:=⟨_,rfl⟩
     have hgl:gg<18446744073709551616:=by
      have:0<v:=by rw[hv];have:=H0.out;omega
      have:=Nat.le_of_dvd this (Nat.gcd_dvd_right u v);omega
     have HGG:=hid hgg.symm;have hcw:=zN u v wo hsx hsy;rw[<-hgg]at hcw;have HCW:=hid hcw;clear hu hv hgg hcw;go_wp2_with fail;refine(gX k _ _ _ _ _ HI.out.2.1 HN.out).mono ?_;rintro e w' ⟨rfl,rfl⟩;go_wp2_with fail;refine(xP u _ _ _ _ _ HI.out.1 Tz.out HU.out).mono ?_;rintro e w' ⟨rfl,rfl⟩;go_wp2_with fail;refine(xP v _ _ _ _ _ HI.out.2.1 Ve.out HV.out).mono ?_;rintro e w' ⟨rfl,rfl⟩;go_wp2_with fail;refine HCW.out.mono ?_;rintro e w1 ⟨rfl,q,rfl⟩;go_wp2_with fail;refine(jG gg _ (by omega)).mono ?_;rintro e w2 ⟨t0,tn,tc,rfl,hT,hB⟩;have Yb:Hid (Below wo.heap.size wo (wo.drewN q)):=(show kz (.bool true) wo (.returned (.bool true)) (wo.drewN q)from⟨rfl,q,rfl⟩).b.2;have HT:=hid hT;have HB:=hid hB;clear hT hB;go_wp2_with fail;go_ret;exact⟨_,_,_,rfl,by rw[<-HG2.out,HGG.out];exact HT.out.mono (Nat.le_trans HI.out.2.2.2.2.size Yb.out.size),Below.steps HI.out.2.2.2.2 (Below.steps Yb.out HB.out)⟩
    ·have Ve:Hid (2<nl ys):=C9 HI.out.2.1.wf (by rw[<-hv];omega);clear hu hv;go_wp2_with fail;refine(gX k _ _ _ _ _ HI.out.2.1 HN.out).mono ?_;rintro e w' ⟨rfl,rfl⟩;go_wp2_with fail;refine(xP u _ _ _ _ _ HI.out.1 Tz.out HU.out).mono ?_;rintro e w' ⟨rfl,rfl⟩;go_wp2_with fail;refine(rP _ _ _ _ _ HI.out.2.1 Ve.out).mono ?_;rintro e w' ⟨rfl,rfl⟩;go_wp2_with fail;refine(vg _ _ _ _ _ _ _ _ _ HI.out.1 HI.out.2.1 H0.out (by omega)).mono ?_;rintro e w1 ⟨q0,qn,qc,r0,rn,rc,rfl,hQ,hR,hB⟩;have hrn:rn<=1000000:=Nat.le_trans (zP (HI.out.2.1.below hB) hR H0.out) hl
     have HJ:Hid (Sl w1 bo l cc ys/\ Sl w1 r0 rn rc (limbs (val xs%val ys))/\ (val ys).gcd (val (limbs (val xs%val ys)))=G/\ val (limbs (val xs%val ys))=val xs%val ys/\ Below w.heap.size w w1):=
      ⟨HI.out.2.1.below hB,hR,by rw[au];exact zO HI.out.2.2.1,au _,Below.steps HI.out.2.2.2.2 hB⟩
     have HM:Hid (val xs%val ys<gk):=by rw[Hid,<-HI.out.2.2.2.1];exact Nat.mod_lt _ (by have:=H0.out;omega)
     clear hQ hR hB;go_wp2_with fail;go_roundg (val xs%val ys)
     case measure=>exact HM.out
     case rel=>exact⟨_,_,_,_,_,_,ys,_,rfl,rfl,hl,hrn,HJ.out⟩
   ·have Tz:Hid (2<nl xs):=C9 HI.out.1.wf (by rw[<-hu];omega);by_cases hsy:v<18446744073709551616
    ·have Ve:Hid (nl ys<=2):=zQ (by rw[<-hv];exact hsy);clear hu hv;go_wp2_with fail;refine(gX k _ _ _ _ _ HI.out.2.1 HN.out).mono ?_;rintro e w' ⟨rfl,rfl⟩;go_wp2_with fail;refine(rP _ _ _ _ _ HI.out.1 Tz.out).mono ?_;rintro e w' ⟨rfl,rfl⟩;go_wp2_with fail;refine(xP v _ _ _ _ _ HI.out.2.1 Ve.out HV.out).mono ?_;rintro e w' ⟨rfl,rfl⟩;go_wp2_with fail;refine(vg _ _ _ _ _ _ _ _ _ HI.out.1 HI.out.2.1 H0.out (by omega)).mono ?_;rintro e w1 ⟨q0,qn,qc,r0,rn,rc,rfl,hQ,hR,hB⟩;have hrn:rn<=1000000:=Nat.le_trans (zP (HI.out.2.1.below hB) hR H0.out) hl
     have HJ:Hid (Sl w1 bo l cc ys/\ Sl w1 r0 rn rc (limbs (val xs%val ys))/\ (val ys).gcd (val (limbs (val xs%val ys)))=G/\ val (limbs (val xs%val ys))=val xs%val ys/\ Below w.heap.size w w1):=
      ⟨HI.out.2.1.below hB,hR,by rw[au];exact zO HI.out.2.2.1,au _,Below.steps HI.out.2.2.2.2 hB⟩
     have HM:Hid (val xs%val ys<gk):=by rw[Hid,<-HI.out.2.2.2.1];exact Nat.mod_lt _ (by have:=H0.out;omega)
     clear hQ hR hB;go_wp2_with fail;go_roundg (val xs%val ys)
     case measure=>exact HM.out
     case rel=>exact⟨_,_,_,_,_,_,ys,_,rfl,rfl,hl,hrn,HJ.out⟩
    ·have Ve:Hid (2<nl ys):=C9 HI.out.2.1.wf (by rw[<-hv];omega);clear hu hv;go_wp2_with fail;refine(gX k _ _ _ _ _ HI.out.2.1 HN.out).mono ?_;rintro e w' ⟨rfl,rfl⟩;go_wp2_with fail;refine(rP _ _ _ _ _ HI.out.1 Tz.out).mono ?_;rintro e w' ⟨rfl,rfl⟩;go_wp2_with fail;refine(rP _ _ _ _ _ HI.out.2.1 Ve.out).mono ?_;rintro e w' ⟨rfl,rfl⟩;go_wp2_with fail;refine(vg _ _ _ _ _ _ _ _ _ HI.out.1 HI.out.2.1 H0.out (by omega)).mono ?_;rintro e w1 ⟨q0,qn,qc,r0,rn,rc,rfl,hQ,hR,hB⟩;have hrn:rn<=1000000:=Nat.le_trans (zP (HI.out.2.1.below hB) hR H0.out) hl
     have HJ:Hid (Sl w1 bo l cc ys/\ Sl w1 r0 rn rc (limbs (val xs%val ys))/\ (val ys).gcd (val (limbs (val xs%val ys)))=G/\ val (limbs (val xs%val ys))=val xs%val ys/\ Below w.heap.size w w1):=
      ⟨HI.out.2.1.below hB,hR,by rw[au];exact zO HI.out.2.2.1,au _,Below.steps HI.out.2.2.2.2 hB⟩
     have HM:Hid (val xs%val ys<gk):=by rw[Hid,<-HI.out.2.2.2.1];exact Nat.mod_lt _ (by have:=H0.out;omega)
     clear hQ hR hB;go_wp2_with fail;go_roundg (val xs%val ys)
     case measure=>exact HM.out
     case rel=>exact⟨_,_,_,_,_,_,ys,_,rfl,rfl,hl,hrn,HJ.out⟩
theorem ze [Ol] {m k:Bool} {ao bo:Option Addr} {n cap l cb:Nat} {x y:Int} {w:World} (hx:Nx w m ao n cap x) (hy:Nx w k bo l cb y):
  Calls Tryz.prog 126 #[.agg #[.bool m,.slice ao n cap],.agg #[.bool k,.slice bo l cb]] w (pW w ((x.gcd y:Nat):Int)):=by
 obtain⟨⟨xs,hs,hz⟩,hle⟩:=hx;obtain⟨⟨ys,ht,hz2⟩,hle2⟩:=hy
 have HZ:Hid (dM false ((val xs).gcd (val ys))=((x.gcd y:Nat):Int)):=by
  have h1:=gM m (val xs);have h2:=gM k (val ys);rw[hz]at h1;rw[hz2]at h2;rw[Hid,<-h1,<-h2];rfl
 clear hz hz2;go_enter Tryz.func126,Tryz.ntmps126;go_upto_region 1 with(fail)
 refine aj (fun W hW=>?_);have HB0:Hid (Below w.heap.size w W):=by rw[hW];exact aM (aM (af _ _))
 have aN:bJ W (w.heap.size) m ao n cap:=by rw[hW];exact((bJ.new _ _ _ _ _ _ _ (by simp)).below (af _ _)).below (af _ _)
 have bH:bJ W (w.heap.size+1) k bo l cb:=by rw[hW];exact(bJ.new _ _ _ _ _ _ _ (by simp)).below (af _ _)
 have aQ:bJ W (w.heap.size+2) false none 0 0:=by rw[hW];exact bJ.new _ _ _ _ _ _ _ (by simp)
 have av:=hid (Live.dK (hs.below HB0.out) (Live.dK (ht.below HB0.out) (Live.aC aN (Live.aC bH (Live.aC aQ (Live.nil W))))));clear hW aN bH aQ;have aD:=av.out.tl.tl.box.c0;have aF:=av.out.tl.tl.box.c1;have aJ:=av.out.tl.tl.box.f0;have aK:=av.out.tl.tl.box.f1;have aR:=av.out.tl.tl.tl.box.c0;have aS:=av.out.tl.tl.tl.box.c1;have aV:=av.out.tl.tl.tl.box.f0;have aW:=av.out.tl.tl.tl.box.f1;have ax:=av.out.tl.tl.tl.tl.box.c0;have ay:=av.out.tl.tl.tl.tl.box.c1;have aA:=av.out.tl.tl.tl.tl.box.f0;have aB:=av.out.tl.tl.tl.tl.box.f1;have jO:=hid (av.out.below ((Below.refl _ _).drew));have jP:=hid HB0.out.drew;clear aD aF aJ aK aR aS aV aW ax ay aA aB;clear av HB0;have av:=hid jO.out;have HB0:=hid jP.out;clear jO jP;have aD:=av.out.tl.tl.box.c0;have aF:=av.out.tl.tl.box.c1;have aJ:=av.out.tl.tl.box.f0;have aK:=av.out.tl.tl.box.f1;have aR:=av.out.tl.tl.tl.box.c0;have aS:=av.out.tl.tl.tl.box.c1;have aV:=av.out.tl.tl.tl.box.f0;have aW:=av.out.tl.tl.tl.box.f1;have ax:=av.out.tl.tl.tl.tl.box.c0;have ay:=av.out.tl.tl.tl.tl.box.c1;have aA:=av.out.tl.tl.tl.tl.box.f0;have aB:=av.out.tl.tl.tl.tl.box.f1;have qG:True:=trivial;have Fh:=hid (And.intro av.out.tl.tl.box.c0 (And.intro av.out.tl.tl.box.c1 (And.intro av.out.tl.tl.tl.box.c0 (av.out.tl.tl.tl.box.c1))))
 go_region_held3 (fun w'=>w'.cell? ⟨w.heap.size,0,none⟩=some (.bool m)/\ w'.cell? ⟨w.heap.size,1,none⟩=some (.slice ao n cap)/\ w'.cell? ⟨w.heap.size+1,0,none⟩=some (.bool k)/\ w'.cell? ⟨w.heap.size+1,1,none⟩=some (.slice bo l cb))
  (first|exact Fj.out|exact Fp.out|exact Fq.out|exact Fh.out|exact(And.intro ((bT (fun e=>by have e2:w.heap.size=w.heap.size+2:=e;omega) _ _).trans aD) (And.intro ((bT (fun e=>by have e2:w.heap.size=w.heap.size+2:=e;omega) _ _).trans aF) (And.intro ((bT (fun e=>by have e2:w.heap.size+1=w.heap.size+2:=e;omega) _ _).trans aR) ((bT (fun e=>by have e2:w.heap.size+1=w.heap.size+2:=e;omega) _ _).trans aS))))|go_keep)
  (first
   |(have _t:=qG;clear _t qG;go_at_call 129;go_must (with_reducible refine(gu _ _).mono ?_);rintro e w1 ⟨RV,rfl,hb1,hb2,hbc,hB⟩;have aL:=hid (Live.mE hb2 hbc (av.out.below hB));have HB1:=hid (Below.steps HB0.out hB);clear aD aF aJ aK aR aS aV aW ax ay aA aB;clear av HB0 hb1 hbc hB;have aD:=aL.out.tl.tl.tl.box.c0;have aF:=aL.out.tl.tl.tl.box.c1;have aJ:=aL.out.tl.tl.tl.box.f0;have aK:=aL.out.tl.tl.tl.box.f1;have aR:=aL.out.tl.tl.tl.tl.box.c0;have aS:=aL.out.tl.tl.tl.tl.box.c1;have aV:=aL.out.tl.tl.tl.tl.box.f0;have aW:=aL.out.tl.tl.tl.tl.box.f1;have ax:=aL.out.tl.tl.tl.tl.tl.box.c0;have ay:=aL.out.tl.tl.tl.tl.tl.box.c1;have aA:=aL.out.tl.tl.tl.tl.tl.box.f0;have aB:=aL.out.tl.tl.tl.tl.tl.box.f1;have Fq:=hid (And.intro aL.out.tl.tl.tl.box.c0 (And.intro aL.out.tl.tl.tl.box.c1 (And.intro aL.out.tl.tl.tl.tl.box.c0 (aL.out.tl.tl.tl.tl.box.c1))));have qH:True:=trivial)
   |(have _t:=qH;clear _t qH;go_at_call 176;go_must (with_reducible refine(Lm _ _ _ _ _ _ _ _ _ aL.out.tl.sl aL.out.tl.tl.sl (by omega) (by omega)).mono ?_);rintro e w2 ⟨t0,tn,tc,rfl,hT,hB⟩;have bI:=hid (Live.dK hT.sl (aL.out.below hB));have HB2:=hid (Below.steps HB1.out hB);clear aD aF aJ aK aR aS aV aW ax ay aA aB;clear aL HB1 hT hB;have aD:=bI.out.tl.tl.tl.tl.box.c0;have aF:=bI.out.tl.tl.tl.tl.box.c1;have aJ:=bI.out.tl.tl.tl.tl.box.f0;have aK:=bI.out.tl.tl.tl.tl.box.f1;have aR:=bI.out.tl.tl.tl.tl.tl.box.c0;have aS:=bI.out.tl.tl.tl.tl.tl.box.c1;have aV:=bI.out.tl.tl.tl.tl.tl.box.f0;have aW:=bI.out.tl.tl.tl.tl.tl.box.f1;have ax:=bI.out.tl.tl.tl.tl.tl.tl.box.c0;have ay:=bI.out.tl.tl.tl.tl.tl.tl.box.c1;have aA:=bI.out.tl.tl.tl.tl.tl.tl.box.f0;have aB:=bI.out.tl.tl.tl.tl.tl.tl.box.f1;have Fp:=hid (And.intro bI.out.tl.tl.tl.tl.box.c0 (And.intro bI.out.tl.tl.tl.tl.box.c1 (And.intro bI.out.tl.tl.tl.tl.tl.box.c0 (bI.out.tl.tl.tl.tl.tl.box.c1))));have qI:True:=trivial)
   |(have _t:=qI;clear _t qI;go_at_call 178;go_must (with_reducible refine(iy _ _ _ _ _ _ _ bI.out.tl.fn bI.out.sl).mono ?_);rintro e w3 ⟨rm,r0,rn,rc,rfl,hX,hB⟩;have bV:=hid (bI.out.below hB);have HB3:=hid (Below.steps HB2.out hB);clear aD aF aJ aK aR aS aV aW ax ay aA aB;clear bI HB2 hB;have aD:=bV.out.tl.tl.tl.tl.box.c0;have aF:=bV.out.tl.tl.tl.tl.box.c1;have aJ:=bV.out.tl.tl.tl.tl.box.f0;have aK:=bV.out.tl.tl.tl.tl.box.f1;have aR:=bV.out.tl.tl.tl.tl.tl.box.c0;have aS:=bV.out.tl.tl.tl.tl.tl.box.c1;have aV:=bV.out.tl.tl.tl.tl.tl.box.f0;have aW:=bV.out.tl.tl.tl.tl.tl.box.f1;have ax:=bV.out.tl.tl.tl.tl.tl.tl.box.c0;have ay:=bV.out.tl.tl.tl.tl.tl.tl.box.c1;have aA:=bV.out.tl.tl.tl.tl.tl.tl.box.f0;have aB:=bV.out.tl.tl.tl.tl.tl.tl.box.f1;have Fj:=hid (And.intro bV.out.tl.tl.tl.tl.box.c0 (And.intro bV.out.tl.tl.tl.tl.box.c1 (And.intro bV.out.tl.tl.tl.tl.tl.box.c0 (bV.out.tl.tl.tl.tl.tl.box.c1))));have OU:True:=trivial))
 clear Fh Fq Fp Fj;go_wp2_with fail;refine bodyPost_ret (v:= .agg #[.bool rm,.slice r0 rn rc]) (by simp[results,Tryz.results126,go_sem,ax,ay]) rfl ?_;exact⟨_,_,_,_,rfl,HZ.out▸hX.set2 bV.out.tl.tl.tl.tl.tl.tl.box _ _,aT HB3.out (by omega) _ _⟩
open Lib (hid)
theorem wY {w:World} {ao:Option Addr} {n cap V B la:Nat} (h:Sl w ao n cap (limbs (V^B))) (hV:V<4294967296^la):n<=la*B+1:=by
 rw[<-h.len];refine gZ ?_;rcases Nat.eq_zero_or_pos B with h0|h0
 ·subst h0;rw[Nat.pow_zero];exact Nat.one_lt_pow (by omega) (by omega)
 ·refine Nat.lt_of_lt_of_le (Nat.pow_lt_pow_left hV (by omega)) ?_;rw[<-Nat.pow_mul];exact Nat.pow_le_pow_right (by omega) (by omega)
structure PowInv (V N:Nat) (w:World) (ao:Option Addr) (n cap:Nat) (po:Option Addr) (pn pc B P r:Nat) (zs:List Nat) (wr:World):Prop where
 base:Sl wr ao n cap zs
 val:val zs=V^B
 prod:Own w.heap.size wr po pn pc (limbs (V^P))
 sum:P+B*r=N
 below:Below w.heap.size w wr
theorem PowInv.small {V N:Nat} {w:World} {ao:Option Addr} {n cap:Nat} {po:Option Addr} {pn pc B P r:Nat} {zs:List Nat} {wr:World} (h:PowInv V N w ao n cap po pn pc B P r zs wr) (hN:N<=1000) (hr:0<r):P+B<=1000:=by
 have h1:=h.sum;have h2:B<=B*r:=Nat.le_mul_of_pos_right _ hr;omega
theorem PowInv.Vf {V N:Nat} {w:World} {ao:Option Addr} {n cap:Nat} {po:Option Addr} {pn pc B P r:Nat} {zs:List Nat} {wr:World} (h:PowInv V N w ao n cap po pn pc B P r zs wr) (hN:N<=1000) (hr:2<=r):B+B<=1000:=by
 have h1:=h.sum;have h2:B*2<=B*r:=Nat.mul_le_mul_left _ hr;omega
theorem OV {P B r N:Nat} (h:P+B*r=N) (h2:r%2=0):P+(B+B)*(r/2)=N:=by
 have e:B*r=(B+B)*(r/2):=by
  have e1:r=2*(r/2):=by omega
  have e2:B+B=B*2:=by omega
  rw[e2,Nat.mul_assoc,<-e1]
 rw[<-e];exact h
theorem RX {P B r N:Nat} (h:P+B*r=N) (h2:0<r):(P+B)+B*(r-1)=N:=by
 obtain⟨j,rfl⟩:∃j,r=j+1:=⟨r-1,by omega⟩;rw[Nat.mul_add]at h;simp;omega
theorem BG (a0:Option Addr) (la ca:Nat) (xs:List Nat) (N:Nat) (w:World) (ha:Sl w a0 la ca xs) (h1:la<=1000000) (hN:N<=1000):
  Calls Tryz.prog 230 #[.slice a0 la ca,.int .i64 (N:Int)] w (iq w (limbs (val xs^N))):=by
 have HVL:Hid (val xs<4294967296^la):=qU la ha.wf ha.len (Nat.le_refl _);have RU:=hid ha;clear ha;go_enter Tryz.func230,Tryz.ntmps230;go_wp2;go_step3;go_wp2_with fail;refine(jG 1 _ (by omega)).mono ?_;rintro e w1 ⟨p0,pn,pc,rfl,hP,hB⟩;have HI0:Hid (PowInv (val xs) N w a0 la ca p0 pn pc 1 0 N xs w1):=⟨RU.out.below hB,by rw[Nat.pow_one],by rw[Nat.pow_zero];exact hP,by omega,hB⟩;have hpn:pn<=1000000001:=by rw[<-hP.len];exact Nat.le_trans (gZ (k:=1) (by omega)) (by omega)
 clear hP hB RU;go_wp2;go_step3;go_wp2;go_loopg [0,1,5] N (fun g x nn y wr=>∃(ao:Option Addr) (n cap:Nat) (po:Option Addr) (pn pc B P r:Nat) (zs:List Nat),x= .slice ao n cap/\ nn= .int .i64 ((r:Nat):Int)/\ y= .slice po pn pc/\ n<=1000000001/\ pn<=1000000001/\ r<=1000/\ Hid (r=g)/\ Hid (PowInv (val xs) N w ao n cap po pn pc B P r zs wr))
 case atStart=>exact⟨_,_,_,_,_,_,1,0,N,xs,rfl,rfl,rfl,by omega,hpn,hN,rfl,HI0⟩
 case round=>
  clear HI0 hpn;obtain⟨ao,n,cap,po,pn,pc,B,P,r,zs,rfl,rfl,rfl,hn,hpn,hr,HR,HI⟩:=hrel;obtain⟨wo,rfl⟩:∃wo:World,wo=wr:=⟨_,rfl⟩;by_cases h0:r=0
  ·subst h0;have HE:Hid (P=N):=by have:=HI.out.sum;rw[Hid];omega
   go_wp2_with fail;rw[Exit.noGoto_ret];go_ret;exact⟨_,_,_,rfl,by rw[<-HE.out];exact HI.out.prod,HI.out.below⟩
  ·have hz:(((r:Nat):Int)==0)=false:=by simp;omega
   have hr0:0<r:=by omega
   by_cases h2:r%2=0
   ·have hm:(((r:Nat):Int)%2==0)=true:=by simp;omega
    have hs2:=HI.out.Vf hN (by omega);have H2:=hid h2;clear h2;go_wp2_with fail;refine(qZ _ _ _ _ _ _ _ _ _ HI.out.base HI.out.base (by omega) (by omega)).mono ?_;rintro e w2 ⟨q0,qn,qc,rfl,hQ,hB⟩;rw[HI.out.val,<-Nat.pow_add]at hQ
    have VZ:qn<=1000000001:=by
     have h3:=wY hQ.sl HVL.out;have h4:=Nat.mul_le_mul h1 hs2;omega
    have HJ:Hid (PowInv (val xs) N w q0 qn qc po pn pc (B+B) P (r/2) (limbs (val xs^(B+B))) w2):=⟨hQ.sl,au _,HI.out.prod.below hB,OV HI.out.sum H2.out,Below.steps HI.out.below hB⟩;clear hQ hB;go_wp2_with fail;go_roundg (r/2)
    case measure=>have:=HR.out;omega
    case rel=>exact⟨_,_,_,_,_,_,_,_,r/2,_,rfl,by go_num,rfl,VZ,hpn,by omega,rfl,HJ⟩
   ·have hm:(((r:Nat):Int)%2==0)=false:=by simp;omega
    have hs2:=HI.out.small hN hr0;clear h2;go_wp2_with fail;refine(qZ _ _ _ _ _ _ _ _ _ HI.out.prod.sl HI.out.base (by omega) (by omega)).mono ?_;rintro e w2 ⟨q0,qn,qc,rfl,hQ,hB⟩;rw[HI.out.val,au,<-Nat.pow_add]at hQ
    have VZ:qn<=1000000001:=by
     have h3:=wY hQ.sl HVL.out;have h4:=Nat.mul_le_mul h1 hs2;omega
    have HJ:Hid (PowInv (val xs) N w ao n cap q0 qn qc B (P+B) (r-1) zs w2):=⟨HI.out.base.below hB,HI.out.val,hQ.mono HI.out.below.size,RX HI.out.sum hr0,Below.steps HI.out.below hB⟩;clear hQ hB;go_wp2_with fail;go_roundg (r-1)
    case measure=>have:=HR.out;omega
    case rel=>exact⟨_,_,_,_,_,_,_,_,r-1,_,rfl,by go_num,rfl,hn,VZ,by omega,rfl,HJ⟩
theorem Jp (m:Bool) (v N:Nat):dM (m&&decide (N%2=1)) (v^N)=dM m v^N:=by
 cases m
 ·simp[dM]
 ·simp only[dM,Bool.true_and,if_true];induction N with
  |zero=>simp
  |succ N ih=>
   rw[Int.pow_succ,<-ih,Nat.pow_succ];by_cases h:N%2=1
   ·have h2:¬((N+1)%2=1):=by omega
    simp[h,h2,Int.mul_neg,Int.neg_mul]
   ·have h2:(N+1)%2=1:=by omega
    simp[h,h2,Int.mul_neg]
theorem Lp [Ol] (N:Nat) {ao:Option Addr} {n cap:Nat} {x:Int} {w:World} (hx:Nx w true ao n cap x) (hN:N<=1000):
  Calls Tryz.prog 205 #[.agg #[.bool true,.slice ao n cap],.int .i64 (N:Int)] w (Jo w (x^N) 0):=by
 obtain⟨⟨xs,hs,hz⟩,hle⟩:=hx;obtain⟨s,hs1⟩:∃s,s=decide (N%2=1):=⟨_,rfl⟩;have hs2:(((N:Nat):Int)%2==1)=s:=by rw[hs1,Bool.eq_iff_iff];simp;omega
 have d1:decide (((N:Nat):Int)<0)=false:=by simp
 have d2:decide (1000<((N:Nat):Int))=false:=by simp;omega
 have e1:((N:Nat):Int).tmod 2=((N:Nat):Int)%2:=Int.tmod_eq_emod_of_nonneg (by omega);have e2:IntKind.i64.wrap (((N:Nat):Int)%2)=((N:Nat):Int)%2:=by rw[show((N:Nat):Int)%2=((N%2:Nat):Int)from by omega];exact wrap_i64 _ (by omega)
 have HZ:Hid (dM (true&&s) (val xs^N)=x^N):=by rw[Hid,hs1,Jp,hz]
 clear hs1 hz;go_enter Tryz.func205,Tryz.ntmps205;go_upto_region 1 with(fail)
 refine aj (fun W hW=>?_);have HB0:Hid (Below w.heap.size w W):=by rw[hW];exact aM (af _ _)
 have aN:bJ W (w.heap.size) true ao n cap:=by rw[hW];exact(bJ.new _ _ _ _ _ _ _ (by simp)).below (af _ _)
 have aQ:bJ W (w.heap.size+1) false none 0 0:=by rw[hW];exact bJ.new _ _ _ _ _ _ _ (by simp)
 have av:=hid (Live.dK (hs.below HB0.out) (Live.aC aN (Live.aC aQ (Live.nil W))));clear hW aN aQ;have aD:=av.out.tl.box.c0;have aF:=av.out.tl.box.c1;have aJ:=av.out.tl.box.f0;have aK:=av.out.tl.box.f1;have ax:=av.out.tl.tl.box.c0;have ay:=av.out.tl.tl.box.c1;have aA:=av.out.tl.tl.box.f0;have aB:=av.out.tl.tl.box.f1;go_wp2_with fail;have jO:=hid (av.out.below ((Below.refl _ _).drew));have jP:=hid HB0.out.drew;clear aD aF aJ aK ax ay aA aB;clear av HB0;have av:=hid jO.out;have HB0:=hid jP.out;clear jO jP;have aD:=av.out.tl.box.c0;have aF:=av.out.tl.box.c1;have aJ:=av.out.tl.box.f0;have aK:=av.out.tl.box.f1;have ax:=av.out.tl.tl.box.c0;have ay:=av.out.tl.tl.box.c1;have aA:=av.out.tl.tl.box.f0;have aB:=av.out.tl.tl.box.f1;have qG:True:=trivial;have Fh:=hid (And.intro av.out.tl.box.c0 (av.out.tl.box.c1))
 go_region_held3 (fun w'=>w'.cell? ⟨w.heap.size,0,none⟩=some (.bool true)/\ w'.cell? ⟨w.heap.size,1,none⟩=some (.slice ao n cap))
  (first|exact Fj.out|exact Fp.out|exact Fq.out|exact Fh.out|exact(And.intro ((bT (fun e=>by have e2:w.heap.size=w.heap.size+1:=e;omega) _ _).trans aD) ((bT (fun e=>by have e2:w.heap.size=w.heap.size+1:=e;omega) _ _).trans aF))|go_keep)
  (first
   |(have _t:=qG;clear _t qG;go_at_call 129;go_must (with_reducible refine(gu _ _).mono ?_);rintro e w1 ⟨RV,rfl,hb1,hb2,hbc,hB⟩;have aL:=hid (Live.mE hb2 hbc (av.out.below hB));have HB1:=hid (Below.steps HB0.out hB);clear aD aF aJ aK ax ay aA aB;clear av HB0 hb1 hbc hB;have aD:=aL.out.tl.tl.box.c0;have aF:=aL.out.tl.tl.box.c1;have aJ:=aL.out.tl.tl.box.f0;have aK:=aL.out.tl.tl.box.f1;have ax:=aL.out.tl.tl.tl.box.c0;have ay:=aL.out.tl.tl.tl.box.c1;have aA:=aL.out.tl.tl.tl.box.f0;have aB:=aL.out.tl.tl.tl.box.f1;have Fq:=hid (And.intro aL.out.tl.tl.box.c0 (aL.out.tl.tl.box.c1));have qH:True:=trivial)
   |(have _t:=qH;clear _t qH;go_at_call 230;go_must (with_reducible refine(BG _ _ _ _ N _ aL.out.tl.sl (by omega) (by omega)).mono ?_);rintro e w2 ⟨t0,tn,tc,rfl,hT,hB⟩;have bI:=hid (Live.dK hT.sl (aL.out.below hB));have HB2:=hid (Below.steps HB1.out hB);clear aD aF aJ aK ax ay aA aB;clear aL HB1 hT hB;have aD:=bI.out.tl.tl.tl.box.c0;have aF:=bI.out.tl.tl.tl.box.c1;have aJ:=bI.out.tl.tl.tl.box.f0;have aK:=bI.out.tl.tl.tl.box.f1;have ax:=bI.out.tl.tl.tl.tl.box.c0;have ay:=bI.out.tl.tl.tl.tl.box.c1;have aA:=bI.out.tl.tl.tl.tl.box.f0;have aB:=bI.out.tl.tl.tl.tl.box.f1;have Fp:=hid (And.intro bI.out.tl.tl.tl.box.c0 (bI.out.tl.tl.tl.box.c1));have qI:True:=trivial)
   |(have _t:=qI;clear _t qI;go_at_call 178;go_must (with_reducible refine(iy _ _ _ _ _ _ _ bI.out.tl.fn bI.out.sl).mono ?_);rintro e w3 ⟨rm,r0,rn,rc,rfl,hX,hB⟩;have bV:=hid (bI.out.below hB);have HB3:=hid (Below.steps HB2.out hB);clear aD aF aJ aK ax ay aA aB;clear bI HB2 hB;have aD:=bV.out.tl.tl.tl.box.c0;have aF:=bV.out.tl.tl.tl.box.c1;have aJ:=bV.out.tl.tl.tl.box.f0;have aK:=bV.out.tl.tl.tl.box.f1;have ax:=bV.out.tl.tl.tl.tl.box.c0;have ay:=bV.out.tl.tl.tl.tl.box.c1;have aA:=bV.out.tl.tl.tl.tl.box.f0;have aB:=bV.out.tl.tl.tl.tl.box.f1;have Fj:=hid (And.intro bV.out.tl.tl.tl.box.c0 (bV.out.tl.tl.tl.box.c1));have OU:True:=trivial))
 clear Fh Fq Fp Fj;go_wp2_with fail;refine bodyPost_ret (v:= .tuple #[.agg #[.bool rm,.slice r0 rn rc],.int .i64 0]) (by simp[results,Tryz.results205,go_sem,ax,ay]) rfl ?_;exact⟨_,_,_,_,rfl,(show dM s (val xs^N)=x^N from by simpa using HZ.out)▸hX.set2 bV.out.tl.tl.tl.tl.box _ _,aT HB3.out (by omega) _ _⟩
theorem Ih [Ol] (N:Nat) {ao:Option Addr} {n cap:Nat} {x:Int} {w:World} (hx:Nx w false ao n cap x) (hN:N<=1000):
  Calls Tryz.prog 205 #[.agg #[.bool false,.slice ao n cap],.int .i64 (N:Int)] w (Jo w (x^N) 0):=by
 obtain⟨⟨xs,hs,hz⟩,hle⟩:=hx;obtain⟨s,hs1⟩:∃s,s=decide (N%2=1):=⟨_,rfl⟩;have hs2:(((N:Nat):Int)%2==1)=s:=by rw[hs1,Bool.eq_iff_iff];simp;omega
 have d1:decide (((N:Nat):Int)<0)=false:=by simp
 have d2:decide (1000<((N:Nat):Int))=false:=by simp;omega
 have e1:((N:Nat):Int).tmod 2=((N:Nat):Int)%2:=Int.tmod_eq_emod_of_nonneg (by omega);have e2:IntKind.i64.wrap (((N:Nat):Int)%2)=((N:Nat):Int)%2:=by rw[show((N:Nat):Int)%2=((N%2:Nat):Int)from by omega];exact wrap_i64 _ (by omega)
 have HZ:Hid (dM (false&&s) (val xs^N)=x^N):=by rw[Hid,hs1,Jp,hz]
 clear hs1 hz;go_enter Tryz.func205,Tryz.ntmps205;go_upto_region 1 with(fail)
 refine aj (fun W hW=>?_);have HB0:Hid (Below w.heap.size w W):=by rw[hW];exact aM (af _ _)
 have aN:bJ W (w.heap.size) false ao n cap:=by rw[hW];exact(bJ.new _ _ _ _ _ _ _ (by simp)).below (af _ _)
 have aQ:bJ W (w.heap.size+1) false none 0 0:=by rw[hW];exact bJ.new _ _ _ _ _ _ _ (by simp)
 have av:=hid (Live.dK (hs.below HB0.out) (Live.aC aN (Live.aC aQ (Live.nil W))));clear hW aN aQ;have aD:=av.out.tl.box.c0;have aF:=av.out.tl.box.c1;have aJ:=av.out.tl.box.f0;have aK:=av.out.tl.box.f1;have ax:=av.out.tl.tl.box.c0;have ay:=av.out.tl.tl.box.c1;have aA:=av.out.tl.tl.box.f0;have aB:=av.out.tl.tl.box.f1;go_wp2_with fail;have jO:=hid (av.out.below ((Below.refl _ _).drew));have jP:=hid HB0.out.drew;clear aD aF aJ aK ax ay aA aB;clear av HB0;have av:=hid jO.out;have HB0:=hid jP.out;clear jO jP;have aD:=av.out.tl.box.c0;have aF:=av.out.tl.box.c1;have aJ:=av.out.tl.box.f0;have aK:=av.out.tl.box.f1;have ax:=av.out.tl.tl.box.c0;have ay:=av.out.tl.tl.box.c1;have aA:=av.out.tl.tl.box.f0;have aB:=av.out.tl.tl.box.f1;have qG:True:=trivial;have Fh:=hid (And.intro av.out.tl.box.c0 (av.out.tl.box.c1))
 first
  |(go_region_held (fun w'=>w'.cell? ⟨w.heap.size,0,none⟩=some (.bool false)/\ w'.cell? ⟨w.heap.size,1,none⟩=some (.slice ao n cap))
   (first|exact Fj.out|exact Fp.out|exact Fq.out|exact Fh.out|exact(And.intro ((bT (fun e=>by have e2:w.heap.size=w.heap.size+1:=e;omega) _ _).trans aD) ((bT (fun e=>by have e2:w.heap.size=w.heap.size+1:=e;omega) _ _).trans aF))|go_keep)
   (first
    |(have _t:=qG;clear _t qG;go_at_call 129;go_must (with_reducible refine(gu _ _).mono ?_);rintro e w1 ⟨RV,rfl,hb1,hb2,hbc,hB⟩;have aL:=hid (Live.mE hb2 hbc (av.out.below hB));have HB1:=hid (Below.steps HB0.out hB);clear aD aF aJ aK ax ay aA aB;clear av HB0 hb1 hbc hB;have aD:=aL.out.tl.tl.box.c0;have aF:=aL.out.tl.tl.box.c1;have aJ:=aL.out.tl.tl.box.f0;have aK:=aL.out.tl.tl.box.f1;have ax:=aL.out.tl.tl.tl.box.c0;have ay:=aL.out.tl.tl.tl.box.c1;have aA:=aL.out.tl.tl.tl.box.f0;have aB:=aL.out.tl.tl.tl.box.f1;have Fq:=hid (And.intro aL.out.tl.tl.box.c0 (aL.out.tl.tl.box.c1));have qH:True:=trivial)
    |(have _t:=qH;clear _t qH;go_at_call 230;go_must (with_reducible refine(BG _ _ _ _ N _ aL.out.tl.sl (by omega) (by omega)).mono ?_);rintro e w2 ⟨t0,tn,tc,rfl,hT,hB⟩;have bI:=hid (Live.dK hT.sl (aL.out.below hB));have HB2:=hid (Below.steps HB1.out hB);clear aD aF aJ aK ax ay aA aB;clear aL HB1 hT hB;have aD:=bI.out.tl.tl.tl.box.c0;have aF:=bI.out.tl.tl.tl.box.c1;have aJ:=bI.out.tl.tl.tl.box.f0;have aK:=bI.out.tl.tl.tl.box.f1;have ax:=bI.out.tl.tl.tl.tl.box.c0;have ay:=bI.out.tl.tl.tl.tl.box.c1;have aA:=bI.out.tl.tl.tl.tl.box.f0;have aB:=bI.out.tl.tl.tl.tl.box.f1;have Fp:=hid (And.intro bI.out.tl.tl.tl.box.c0 (bI.out.tl.tl.tl.box.c1));have qI:True:=trivial)
    |(have _t:=qI;clear _t qI;go_at_call 178;go_must (with_reducible refine(iy _ _ _ _ _ _ _ bI.out.tl.fn bI.out.sl).mono ?_);rintro e w3 ⟨rm,r0,rn,rc,rfl,hX,hB⟩;have bV:=hid (bI.out.below hB);have HB3:=hid (Below.steps HB2.out hB);clear aD aF aJ aK ax ay aA aB;clear bI HB2 hB;have aD:=bV.out.tl.tl.tl.box.c0;have aF:=bV.out.tl.tl.tl.box.c1;have aJ:=bV.out.tl.tl.tl.box.f0;have aK:=bV.out.tl.tl.tl.box.f1;have ax:=bV.out.tl.tl.tl.tl.box.c0;have ay:=bV.out.tl.tl.tl.tl.box.c1;have aA:=bV.out.tl.tl.tl.tl.box.f0;have aB:=bV.out.tl.tl.tl.tl.box.f1;have Fj:=hid (And.intro bV.out.tl.tl.tl.box.c0 (bV.out.tl.tl.tl.box.c1));have OU:True:=trivial)))
  |fail
 clear Fh Fq Fp Fj;go_wp2_with fail;refine bodyPost_ret (v:= .tuple #[.agg #[.bool rm,.slice r0 rn rc],.int .i64 0]) (by simp[results,Tryz.results205,go_sem,ax,ay]) rfl ?_;exact⟨_,_,_,_,rfl,(show dM false (val xs^N)=x^N from by simpa using HZ.out)▸hX.set2 bV.out.tl.tl.tl.tl.box _ _,aT HB3.out (by omega) _ _⟩
theorem ug [Ol] (N:Nat) {m:Bool} {ao:Option Addr} {n cap:Nat} {x:Int} {w:World} (hx:Nx w m ao n cap x) (hN:N<=1000):
  Calls Tryz.prog 205 #[.agg #[.bool m,.slice ao n cap],.int .i64 (N:Int)] w (Jo w (x^N) 0):=by
 cases m
 ·exact Ih N hx hN
 ·exact Lp N hx hN
end Go.Proofs.YtmenbpmciblnlaaGreatDoor
