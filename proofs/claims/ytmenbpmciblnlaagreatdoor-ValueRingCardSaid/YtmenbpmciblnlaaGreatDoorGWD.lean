import Derived.Test.YtmenbpmciblnlaaGreatDoorGWA
import Derived.Test.YtmenbpmciblnlaaGreatDoorGDiv
set_option maxHeartbeats 0
set_option maxRecDepth 100000
open And renaming intro->ah5
open Go renaming World->ah6
open Go.Value renaming bool->ah8,slice->ah7
open Int renaming mul_neg->ai0,tmod_eq_emod_of_nonneg->ah9
open Nat renaming eq_zero_or_pos->ai6,gcd_comm->ai2,gcd_rec->ai3,gcd_zero_right->ai4,le_refl->ai5,le_trans->ai7,mod_lt->ai1,mul_le_mul->aj0,pow_add->ai9,pow_zero->ai8
namespace Go.Proofs.YtmenbpmciblnlaaGreatDoor
open Lib (hid)
open Go.RowKit
def IL (w:ah6) (q:Int) (er:Int) (e:Ending) (w':ah6):Prop:=
 ∃m ao n ae,e= .returned (.tuple #[.agg #[ah8 m,ah7 ao n ae],.int .i64 er])/\ Cn w' m ao n ae q/\ Below w.heap.size w w'
theorem si (m k:Bool) (a b:Nat):cV (m !=k) (a/b)=(cV m a).tdiv (cV k b):=by cases m<;>cases k<;>simp[cV,Int.tdiv_neg,Int.neg_tdiv]
theorem sj (m k:Bool) (a b:Nat):cV m (a%b)=(cV m a).tmod (cV k b):=by cases m<;>cases k<;>simp[cV,Int.tmod_neg,Int.neg_tmod,ah9]
theorem uE {m:Bool} {v:Nat} {x:Int} (h:cV m v=x):x=0↔v=0:=by
 have:=fK m v;rw[h]at this;omega
theorem jx [Ol] {m k:Bool} {ao bo:Z'} {n ae l cb:Nat} {x y:Int} {w:ah6} (hx:Nx w m ao n ae x) (hy:Nx w k bo l cb y) (h0:y≠0) (hr:x.tmod y=0):
  Calls Tryz.prog 127 #[.agg #[ah8 m,ah7 ao n ae],.agg #[ah8 k,ah7 bo l cb]] w (IL w (x.tdiv y) 0):=by
 obtain⟨⟨xs,hs,hz⟩,hle⟩:=hx;obtain⟨⟨ys,ht,hz2⟩,hle2⟩:=hy;have H0:Hid (au ys≠0):=λh=>h0 ((uE hz2).2 h)
 have HR:Hid (au xs%au ys=0):=by
  have h1:=sj m k (au xs) (au ys);rw[hz,hz2,hr]at h1;exact(uE h1).1 rfl
 have HQ:Hid (cV (m !=k) (au xs/au ys)=x.tdiv y):=by rw[Hid,si,hz,hz2]
 clear h0 hr hz hz2;go_enter Tryz.func127,Tryz.ntmps127;go_upto_region 1 with(fail)
 refine aj (λW hW=>?_);have HB0:Hid (Below w.heap.size w W):=by rw[hW];exact aN (aN (af _ _))
 have aO:bS W w.heap.size m ao n ae:=by rw[hW];exact((bS.cS _ _ _ _ _ _ _ (by simp)).below (af _ _)).below (af _ _)
 have bI:bS W (w.heap.size+1) k bo l cb:=by rw[hW];exact(bS.cS _ _ _ _ _ _ _ (by simp)).below (af _ _)
 have aR:bS W (w.heap.size+2) false none 0 0:=by rw[hW];exact bS.cS _ _ _ _ _ _ _ (by simp)
 have aw:=hid (aA.cT (hs.below HB0.o) (aA.cT (ht.below HB0.o) (aA.aD aO (aA.aD bI (aA.aD aR (aA.nil W))))));clear hW aO bI aR;have aF:=aw.o.tl.tl.box.c0;have aG:=aw.o.tl.tl.box.c1;have aJ:=aw.o.tl.tl.box.f0;have aK:=aw.o.tl.tl.box.f1;have aU:=aw.o.tl.tl.tl.box.c0;have aV:=aw.o.tl.tl.tl.box.c1;have bg:=aw.o.tl.tl.tl.box.f0;have bh:=aw.o.tl.tl.tl.box.f1;have ay:=aw.o.tl.tl.tl.tl.box.c0;have az:=aw.o.tl.tl.tl.tl.box.c1;have aB:=aw.o.tl.tl.tl.tl.box.f0;have aC:=aw.o.tl.tl.tl.tl.box.f1;go_wp2_with fail;refine(Kw _ _ _ _ _ _ _ _ _ aw.o.sl aw.o.tl.sl H0.o (by omega) HR.o).mono ?_;rintro e w1 ⟨q0,qn,qc,rfl,hQ,hB⟩;have aL:=hid (aA.cT hQ (aw.o.below hB));have HB1:=hid (Below.ar HB0.o hB);clear aF aG aJ aK aU aV bg bh ay az aB aC aw HB0 hQ hB;have aF:=aL.o.tl.tl.tl.box.c0;have aG:=aL.o.tl.tl.tl.box.c1;have aJ:=aL.o.tl.tl.tl.box.f0;have aK:=aL.o.tl.tl.tl.box.f1;have aU:=aL.o.tl.tl.tl.tl.box.c0;have aV:=aL.o.tl.tl.tl.tl.box.c1;have bg:=aL.o.tl.tl.tl.tl.box.f0;have bh:=aL.o.tl.tl.tl.tl.box.f1;have ay:=aL.o.tl.tl.tl.tl.tl.box.c0;have az:=aL.o.tl.tl.tl.tl.tl.box.c1;have aB:=aL.o.tl.tl.tl.tl.tl.box.f0;have aC:=aL.o.tl.tl.tl.tl.tl.box.f1;go_wp2_with fail;refine(eX _ _).mono ?_;rintro e w2 ⟨b,rfl,hb1,hb2,hbc,hB⟩;have bH:=hid (aA.kZ hb2 hbc (aL.o.below hB));have HB2:=hid (Below.ar HB1.o hB);clear aF aG aJ aK aU aV bg bh ay az aB aC aL HB1 hb1 hbc hB;have aF:=bH.o.tl.tl.tl.tl.box.c0;have aG:=bH.o.tl.tl.tl.tl.box.c1;have aJ:=bH.o.tl.tl.tl.tl.box.f0;have aK:=bH.o.tl.tl.tl.tl.box.f1;have aU:=bH.o.tl.tl.tl.tl.tl.box.c0;have aV:=bH.o.tl.tl.tl.tl.tl.box.c1;have bg:=bH.o.tl.tl.tl.tl.tl.box.f0;have bh:=bH.o.tl.tl.tl.tl.tl.box.f1;have ay:=bH.o.tl.tl.tl.tl.tl.tl.box.c0;have az:=bH.o.tl.tl.tl.tl.tl.tl.box.c1;have aB:=bH.o.tl.tl.tl.tl.tl.tl.box.f0;have aC:=bH.o.tl.tl.tl.tl.tl.tl.box.f1;go_wp2_with fail;refine(fS _ _ _ _ _ _ _ bH.o.fn bH.o.tl.sl).mono ?_;rintro e w3 ⟨rm,r0,rn,rc,rfl,hX,hB⟩;have bU:=hid (bH.o.below hB);have HB3:=hid (Below.ar HB2.o hB);clear aF aG aJ aK aU aV bg bh ay az aB aC bH HB2 hB;have aF:=bU.o.tl.tl.tl.tl.box.c0;have aG:=bU.o.tl.tl.tl.tl.box.c1;have aJ:=bU.o.tl.tl.tl.tl.box.f0;have aK:=bU.o.tl.tl.tl.tl.box.f1;have aU:=bU.o.tl.tl.tl.tl.tl.box.c0;have aV:=bU.o.tl.tl.tl.tl.tl.box.c1;have bg:=bU.o.tl.tl.tl.tl.tl.box.f0
 have bh:=bU.o.tl.tl.tl.tl.tl.box.f1;have ay:=bU.o.tl.tl.tl.tl.tl.tl.box.c0;have az:=bU.o.tl.tl.tl.tl.tl.tl.box.c1;have aB:=bU.o.tl.tl.tl.tl.tl.tl.box.f0;have aC:=bU.o.tl.tl.tl.tl.tl.tl.box.f1;go_wp2_with fail;refine bodyPost_ret (v:= .tuple #[.agg #[ah8 rm,ah7 r0 rn rc],.int .i64 0]) (by simp[results,Tryz.results127,go_sem,ay,az]) rfl ?_;exact⟨_,_,_,_,rfl,HQ.o▸hX.ew bU.o.tl.tl.tl.tl.tl.tl.box _ _,bj HB3.o (by omega) _ _⟩
open Lib (hid)
theorem xf (a b:Nat) (w:ah6) (ha:a<18446744073709551616) (hb:b<18446744073709551616):
  Calls Tryz.prog 211 #[.int .u64 (a:Int),.int .u64 (b:Int)] w (jF (.int .u64 ((a.gcd b:Nat):Int)) w):=by
 go_enter Tryz.func211,Tryz.ntmps211;go_wp2_with fail;go_loopg [0,1] b (λg x y wr=>∃u v k:Nat,x= .int .u64 ((u:Nat):Int)/\ y= .int .u64 ((v:Nat):Int)/\ u<18446744073709551616/\ v<18446744073709551616/\ Hid (v=g)/\ Hid (u.gcd v=a.gcd b)/\ wr=w.drewN k)
 case atStart=>exact⟨a,b,0,rfl,rfl,ha,hb,rfl,rfl,rfl⟩
 case round=>
  obtain⟨u,v,k,rfl,rfl,hu,hv,HVG,HG,rfl⟩:=hrel;by_cases h0:0<v
  ·have hi:(0:Int)<((v:Nat):Int):=by omega
   have hne:(((v:Nat):Int)==0)=false:=by simp;omega
   go_wp2;go_quiet (fail);go_wp2;have HM:Hid (u%v<gk):=by rw[Hid,<-HVG.o];exact ai1 u h0
   go_roundg (u%v)
   case rel=>exact⟨v,u%v,k+nq,rfl,by go_num,hv,by have:=ai1 u h0;omega,rfl,by rw[Hid,ai2 v,<-ai3,ai2];exact HG.o,by rw[World.drewN_drewN]⟩
   case measure=>exact HM.o
  ·obtain rfl:v=0:=by omega
   go_wp2_with fail;go_ret;exact⟨by rw[<-HG.o,ai4];rfl,k,rfl⟩
theorem xg {u v g:Nat} (h:u.gcd v=g):v.gcd (u%v)=g:=by rw[ai2 v,<-ai3,ai2];exact h
theorem xh {xs ys:List Nat} {l k:Nat} {w:ah6} {bo zo:Z'} {cb cz:Nat} (h:Sl w bo l cb ys) (hz:Sl w zo k cz (aq (au xs%au ys))) (h0:au ys≠0):k<=l:=by
 rw[<-hz.len];exact fR (Nat.lt_trans (ai1 _ (by omega)) (qb l h.wf h.len (ai5 _)))
theorem Ky (a0 b0:Z') (la ca lb cb:Nat) (xs0 ys0:List Nat) (w:ah6) (ha:Sl w a0 la ca xs0) (hb:Sl w b0 lb cb ys0) (h1:la<=1000000) (h2:lb<=1000000):
  Calls Tryz.prog 176 #[ah7 a0 la ca,ah7 b0 lb cb] w (fW w (aq ((au xs0).gcd (au ys0)))):=by
 obtain⟨G,hG⟩:∃G,G=(au xs0).gcd (au ys0):=⟨_,rfl⟩;rw[<-hG];have PR:=hid hG.symm;clear hG;have Ry:=hid ha;have HB0:=hid hb;clear ha hb;go_enter Tryz.func176,Tryz.ntmps176;go_wp2_with fail;go_loopg [0,1] (au ys0) (λg x y wr=>∃(ao:Option Addr) (n ae:Nat) (bo:Option Addr) (l cc:Nat) (xs ys:List Nat),x=ah7 ao n ae/\ y=ah7 bo l cc/\ n<=1000000/\ l<=1000000/\ Hid (Sl wr ao n ae xs/\ Sl wr bo l cc ys/\ (au xs).gcd (au ys)=G/\ au ys=g/\ Below w.heap.size w wr))
 case atStart=>exact⟨_,_,_,_,_,_,xs0,ys0,rfl,rfl,h1,h2,Ry.o,HB0.o,PR.o,rfl,Below.refl _ _⟩
 case round=>
  clear PR Ry HB0;obtain⟨ao,n,ae,bo,l,cc,xs,ys,rfl,rfl,hn,hl,HI⟩:=hrel;obtain⟨wo,rfl⟩:∃wo:ah6,wo=wr:=⟨_,rfl⟩;by_cases h0:au ys=0
  ·have HE:Hid (au xs=G):=by rw[Hid,<-HI.o.2.2.1,h0,ai4]
   have H0:=hid h0;clear h0;go_wp2_with fail;refine(fJ 0 _ _ _ _ _ HI.o.2.1 (by rw[H0.o];rfl)).mono ?_;rintro e w' ⟨rfl,rfl⟩;go_wp2_with fail;refine(xi _ _ _ _ _ HI.o.1).mono ?_;rintro e w1 ⟨t0,tn,tc,rfl,hT,hB⟩;rw[HE.o]at hT;have HT:=hid hT;have HB:=hid hB;clear hT hB;go_wp2_with fail;go_ret;exact⟨_,_,_,rfl,HT.o.mono HI.o.2.2.2.2.size,Below.ar HI.o.2.2.2.2 HB.o⟩
  ·obtain⟨k,hk⟩:∃k,k=eM (au ys):=⟨_,rfl⟩
   have hk0:0<k:=by
    rw[hk];rcases ai6 (eM (au ys))with h|h
    ·exact absurd (jG.1 h) h0
    ·exact h
   have hk1:(0:Int)<((k:Nat):Int):=by omega
   have HN:=hid hk.symm;have H0:=hid h0;clear hk h0;obtain⟨u,hu⟩:∃u,u=au xs:=⟨_,rfl⟩;obtain⟨v,hv⟩:∃v,v=au ys:=⟨_,rfl⟩;have HU:=hid hu.symm;have HV:=hid hv.symm;by_cases hsx:u<18446744073709551616
   ·have Tn:Hid (nl xs<=2):=xj (by rw[<-hu];exact hsx);by_cases hsy:v<18446744073709551616
    ·have Vb:Hid (nl ys<=2):=xj (by rw[<-hv];exact hsy);have WM:=hid hsx;have HSV:=hid hsy;have HG2:Hid (u.gcd v=G):=by rw[Hid,hu,hv];exact HI.o.2.2.1
     obtain⟨gg,hgg⟩:∃gg,gg=u.gcd v:=⟨_,rfl⟩
     have hgl:gg<18446744073709551616:=by
      have:0<v:=by rw[hv];have:=H0.o;omega
      have:=Nat.le_of_dvd this (Nat.gcd_dvd_right u v);omega
     have HGG:=hid hgg.symm;have hcw:=xf u v wo hsx hsy;rw[<-hgg]at hcw;have HCW:=hid hcw;clear hu hv hgg hcw;go_wp2_with fail;refine(fJ k _ _ _ _ _ HI.o.2.1 HN.o).mono ?_;rintro e w' ⟨rfl,rfl⟩;go_wp2_with fail;refine(vF u _ _ _ _ _ HI.o.1 Tn.o HU.o).mono ?_;rintro e w' ⟨rfl,rfl⟩;go_wp2_with fail;refine(vF v _ _ _ _ _ HI.o.2.1 Vb.o HV.o).mono ?_;rintro e w' ⟨rfl,rfl⟩;go_wp2_with fail;refine HCW.o.mono ?_;rintro e w1 ⟨rfl,q,rfl⟩;go_wp2_with fail;refine(iK gg _ (by omega)).mono ?_;rintro e w2 ⟨t0,tn,tc,rfl,hT,hB⟩;have Yg:Hid (Below wo.heap.size wo (wo.drewN q)):=(show jF (ah8 true) wo (.returned (ah8 true)) (wo.drewN q)from⟨rfl,q,rfl⟩).b.2;have HT:=hid hT;have HB:=hid hB;clear hT hB;go_wp2_with fail;go_ret;exact⟨_,_,_,rfl,by rw[<-HG2.o,HGG.o];exact HT.o.mono (ai7 HI.o.2.2.2.2.size Yg.o.size),Below.ar HI.o.2.2.2.2 (Below.ar Yg.o HB.o)⟩
    ·have Vb:Hid (2<nl ys):=Bo HI.o.2.1.wf (by rw[<-hv];omega);clear hu hv;go_wp2_with fail;refine(fJ k _ _ _ _ _ HI.o.2.1 HN.o).mono ?_;rintro e w' ⟨rfl,rfl⟩;go_wp2_with fail;refine(vF u _ _ _ _ _ HI.o.1 Tn.o HU.o).mono ?_;rintro e w' ⟨rfl,rfl⟩;go_wp2_with fail;refine(qm _ _ _ _ _ HI.o.2.1 Vb.o).mono ?_;rintro e w' ⟨rfl,rfl⟩;go_wp2_with fail;refine(sI _ _ _ _ _ _ _ _ _ HI.o.1 HI.o.2.1 H0.o (by omega)).mono ?_;rintro e w1 ⟨q0,qn,qc,r0,rn,rc,rfl,hQ,hR,hB⟩;have hrn:rn<=1000000:=ai7 (xh (HI.o.2.1.below hB) hR H0.o) hl
     have HJ:Hid (Sl w1 bo l cc ys/\ Sl w1 r0 rn rc (aq (au xs%au ys))/\ (au ys).gcd (au (aq (au xs%au ys)))=G/\ au (aq (au xs%au ys))=au xs%au ys/\ Below w.heap.size w w1):=
      ⟨HI.o.2.1.below hB,hR,by rw[av];exact xg HI.o.2.2.1,av _,Below.ar HI.o.2.2.2.2 hB⟩
     have HM:Hid (au xs%au ys<gk):=by rw[Hid,<-HI.o.2.2.2.1];exact ai1 _ (by have:=H0.o;omega)
     clear hQ hR hB;go_wp2_with fail;go_roundg (au xs%au ys)
     case measure=>exact HM.o
     case rel=>exact⟨_,_,_,_,_,_,ys,_,rfl,rfl,hl,hrn,HJ.o⟩
   ·have Tn:Hid (2<nl xs):=Bo HI.o.1.wf (by rw[<-hu];omega);by_cases hsy:v<18446744073709551616
    ·have Vb:Hid (nl ys<=2):=xj (by rw[<-hv];exact hsy);clear hu hv;go_wp2_with fail;refine(fJ k _ _ _ _ _ HI.o.2.1 HN.o).mono ?_;rintro e w' ⟨rfl,rfl⟩;go_wp2_with fail;refine(qm _ _ _ _ _ HI.o.1 Tn.o).mono ?_;rintro e w' ⟨rfl,rfl⟩;go_wp2_with fail;refine(vF v _ _ _ _ _ HI.o.2.1 Vb.o HV.o).mono ?_;rintro e w' ⟨rfl,rfl⟩;go_wp2_with fail;refine(sI _ _ _ _ _ _ _ _ _ HI.o.1 HI.o.2.1 H0.o (by omega)).mono ?_;rintro e w1 ⟨q0,qn,qc,r0,rn,rc,rfl,hQ,hR,hB⟩;have hrn:rn<=1000000:=ai7 (xh (HI.o.2.1.below hB) hR H0.o) hl
     have HJ:Hid (Sl w1 bo l cc ys/\ Sl w1 r0 rn rc (aq (au xs%au ys))/\ (au ys).gcd (au (aq (au xs%au ys)))=G/\ au (aq (au xs%au ys))=au xs%au ys/\ Below w.heap.size w w1):=
      ⟨HI.o.2.1.below hB,hR,by rw[av];exact xg HI.o.2.2.1,av _,Below.ar HI.o.2.2.2.2 hB⟩
     have HM:Hid (au xs%au ys<gk):=by rw[Hid,<-HI.o.2.2.2.1];exact ai1 _ (by have:=H0.o;omega)
     clear hQ hR hB;go_wp2_with fail;go_roundg (au xs%au ys)
     case measure=>exact HM.o
     case rel=>exact⟨_,_,_,_,_,_,ys,_,rfl,rfl,hl,hrn,HJ.o⟩
    ·have Vb:Hid (2<nl ys):=Bo HI.o.2.1.wf (by rw[<-hv];omega);clear hu hv;go_wp2_with fail;refine(fJ k _ _ _ _ _ HI.o.2.1 HN.o).mono ?_;rintro e w' ⟨rfl,rfl⟩;go_wp2_with fail;refine(qm _ _ _ _ _ HI.o.1 Tn.o).mono ?_;rintro e w' ⟨rfl,rfl⟩;go_wp2_with fail;refine(qm _ _ _ _ _ HI.o.2.1 Vb.o).mono ?_;rintro e w' ⟨rfl,rfl⟩;go_wp2_with fail;refine(sI _ _ _ _ _ _ _ _ _ HI.o.1 HI.o.2.1 H0.o (by omega)).mono ?_;rintro e w1 ⟨q0,qn,qc,r0,rn,rc,rfl,hQ,hR,hB⟩;have hrn:rn<=1000000:=ai7 (xh (HI.o.2.1.below hB) hR H0.o) hl
     have HJ:Hid (Sl w1 bo l cc ys/\ Sl w1 r0 rn rc (aq (au xs%au ys))/\ (au ys).gcd (au (aq (au xs%au ys)))=G/\ au (aq (au xs%au ys))=au xs%au ys/\ Below w.heap.size w w1):=
      ⟨HI.o.2.1.below hB,hR,by rw[av];exact xg HI.o.2.2.1,av _,Below.ar HI.o.2.2.2.2 hB⟩
     have HM:Hid (au xs%au ys<gk):=by rw[Hid,<-HI.o.2.2.2.1];exact ai1 _ (by have:=H0.o;omega)
     clear hQ hR hB;go_wp2_with fail;go_roundg (au xs%au ys)
     case measure=>exact HM.o
     case rel=>exact⟨_,_,_,_,_,_,ys,_,rfl,rfl,hl,hrn,HJ.o⟩
theorem wT [Ol] {m k:Bool} {ao bo:Z'} {n ae l cb:Nat} {x y:Int} {w:ah6} (hx:Nx w m ao n ae x) (hy:Nx w k bo l cb y):
  Calls Tryz.prog 126 #[.agg #[ah8 m,ah7 ao n ae],.agg #[ah8 k,ah7 bo l cb]] w (mA w ((x.gcd y:Nat):Int)):=by
 obtain⟨⟨xs,hs,hz⟩,hle⟩:=hx;obtain⟨⟨ys,ht,hz2⟩,hle2⟩:=hy
 have HZ:Hid (cV false ((au xs).gcd (au ys))=((x.gcd y:Nat):Int)):=by
  have h1:=fK m (au xs);have h2:=fK k (au ys);rw[hz]at h1;rw[hz2]at h2;rw[Hid,<-h1,<-h2];rfl
 clear hz hz2;go_enter Tryz.func126,Tryz.ntmps126;go_upto_region 1 with(fail)
 refine aj (λW hW=>?_);have HB0:Hid (Below w.heap.size w W):=by rw[hW];exact aN (aN (af _ _))
 have aO:bS W w.heap.size m ao n ae:=by rw[hW];exact((bS.cS _ _ _ _ _ _ _ (by simp)).below (af _ _)).below (af _ _)
 have bI:bS W (w.heap.size+1) k bo l cb:=by rw[hW];exact(bS.cS _ _ _ _ _ _ _ (by simp)).below (af _ _)
 have aR:bS W (w.heap.size+2) false none 0 0:=by rw[hW];exact bS.cS _ _ _ _ _ _ _ (by simp)
 have aw:=hid (aA.cT (hs.below HB0.o) (aA.cT (ht.below HB0.o) (aA.aD aO (aA.aD bI (aA.aD aR (aA.nil W))))));clear hW aO bI aR;have aF:=aw.o.tl.tl.box.c0;have aG:=aw.o.tl.tl.box.c1;have aJ:=aw.o.tl.tl.box.f0;have aK:=aw.o.tl.tl.box.f1;have aU:=aw.o.tl.tl.tl.box.c0;have aV:=aw.o.tl.tl.tl.box.c1;have bg:=aw.o.tl.tl.tl.box.f0;have bh:=aw.o.tl.tl.tl.box.f1;have ay:=aw.o.tl.tl.tl.tl.box.c0;have az:=aw.o.tl.tl.tl.tl.box.c1;have aB:=aw.o.tl.tl.tl.tl.box.f0;have aC:=aw.o.tl.tl.tl.tl.box.f1;have iW:=hid (aw.o.below ((Below.refl _ _).drew));have iX:=hid HB0.o.drew;clear aF aG aJ aK aU aV bg bh ay az aB aC aw HB0;have aw:=hid iW.o;have HB0:=hid iX.o;clear iW iX;have aF:=aw.o.tl.tl.box.c0;have aG:=aw.o.tl.tl.box.c1;have aJ:=aw.o.tl.tl.box.f0;have aK:=aw.o.tl.tl.box.f1;have aU:=aw.o.tl.tl.tl.box.c0;have aV:=aw.o.tl.tl.tl.box.c1;have bg:=aw.o.tl.tl.tl.box.f0;have bh:=aw.o.tl.tl.tl.box.f1;have ay:=aw.o.tl.tl.tl.tl.box.c0;have az:=aw.o.tl.tl.tl.tl.box.c1;have aB:=aw.o.tl.tl.tl.tl.box.f0;have aC:=aw.o.tl.tl.tl.tl.box.f1;have pz:True:=trivial;have Dv:=hid (ah5 aw.o.tl.tl.box.c0 (ah5 aw.o.tl.tl.box.c1 (ah5 aw.o.tl.tl.tl.box.c0 aw.o.tl.tl.tl.box.c1)))
 go_region_held3 (λw'=>w'.cell? ⟨w.heap.size,0,none⟩=some (ah8 m)/\ w'.cell? ⟨w.heap.size,1,none⟩=some (ah7 ao n ae)/\ w'.cell? ⟨w.heap.size+1,0,none⟩=some (ah8 k)/\ w'.cell? ⟨w.heap.size+1,1,none⟩=some (ah7 bo l cb))
  (first|exact Dw.o|exact Dx.o|exact Dy.o|exact Dv.o|exact(ah5 ((bT (λe=>by have e2:w.heap.size=w.heap.size+2:=e;omega) _ _).trans aF) (ah5 ((bT (λe=>by have e2:w.heap.size=w.heap.size+2:=e;omega) _ _).trans aG) (ah5 ((bT (λe=>by have e2:w.heap.size+1=w.heap.size+2:=e;omega) _ _).trans aU) ((bT (λe=>by have e2:w.heap.size+1=w.heap.size+2:=e;omega) _ _).trans aV))))|go_keep)
  (first
   |(have _t:=pz;clear _t pz;go_at_call 129;go_must (with_reducible refine(eX _ _).mono ?_);rintro e w1 ⟨Rz,rfl,hb1,hb2,hbc,hB⟩;have aL:=hid (aA.kZ hb2 hbc (aw.o.below hB));have HB1:=hid (Below.ar HB0.o hB);clear aF aG aJ aK aU aV bg bh ay az aB aC aw HB0 hb1 hbc hB;have aF:=aL.o.tl.tl.tl.box.c0;have aG:=aL.o.tl.tl.tl.box.c1;have aJ:=aL.o.tl.tl.tl.box.f0;have aK:=aL.o.tl.tl.tl.box.f1;have aU:=aL.o.tl.tl.tl.tl.box.c0;have aV:=aL.o.tl.tl.tl.tl.box.c1;have bg:=aL.o.tl.tl.tl.tl.box.f0;have bh:=aL.o.tl.tl.tl.tl.box.f1;have ay:=aL.o.tl.tl.tl.tl.tl.box.c0;have az:=aL.o.tl.tl.tl.tl.tl.box.c1;have aB:=aL.o.tl.tl.tl.tl.tl.box.f0;have aC:=aL.o.tl.tl.tl.tl.tl.box.f1;have Dy:=hid (ah5 aL.o.tl.tl.tl.box.c0 (ah5 aL.o.tl.tl.tl.box.c1 (ah5 aL.o.tl.tl.tl.tl.box.c0 aL.o.tl.tl.tl.tl.box.c1)));have pA:True:=trivial)
   |(have _t:=pA;clear _t pA;go_at_call 176;go_must (with_reducible refine(Ky _ _ _ _ _ _ _ _ _ aL.o.tl.sl aL.o.tl.tl.sl (by omega) (by omega)).mono ?_);rintro e w2 ⟨t0,tn,tc,rfl,hT,hB⟩;have bH:=hid (aA.cT hT.sl (aL.o.below hB));have HB2:=hid (Below.ar HB1.o hB);clear aF aG aJ aK aU aV bg bh ay az aB aC aL HB1 hT hB;have aF:=bH.o.tl.tl.tl.tl.box.c0;have aG:=bH.o.tl.tl.tl.tl.box.c1;have aJ:=bH.o.tl.tl.tl.tl.box.f0;have aK:=bH.o.tl.tl.tl.tl.box.f1;have aU:=bH.o.tl.tl.tl.tl.tl.box.c0;have aV:=bH.o.tl.tl.tl.tl.tl.box.c1;have bg:=bH.o.tl.tl.tl.tl.tl.box.f0;have bh:=bH.o.tl.tl.tl.tl.tl.box.f1;have ay:=bH.o.tl.tl.tl.tl.tl.tl.box.c0;have az:=bH.o.tl.tl.tl.tl.tl.tl.box.c1;have aB:=bH.o.tl.tl.tl.tl.tl.tl.box.f0;have aC:=bH.o.tl.tl.tl.tl.tl.tl.box.f1;have Dx:=hid (ah5 bH.o.tl.tl.tl.tl.box.c0 (ah5 bH.o.tl.tl.tl.tl.box.c1 (ah5 bH.o.tl.tl.tl.tl.tl.box.c0 bH.o.tl.tl.tl.tl.tl.box.c1)));have pB:True:=trivial)
   |(have _t:=pB;clear _t pB;go_at_call 178;go_must (with_reducible refine(fS _ _ _ _ _ _ _ bH.o.tl.fn bH.o.sl).mono ?_);rintro e w3 ⟨rm,r0,rn,rc,rfl,hX,hB⟩;have bU:=hid (bH.o.below hB);have HB3:=hid (Below.ar HB2.o hB);clear aF aG aJ aK aU aV bg bh ay az aB aC bH HB2 hB;have aF:=bU.o.tl.tl.tl.tl.box.c0;have aG:=bU.o.tl.tl.tl.tl.box.c1;have aJ:=bU.o.tl.tl.tl.tl.box.f0;have aK:=bU.o.tl.tl.tl.tl.box.f1;have aU:=bU.o.tl.tl.tl.tl.tl.box.c0;have aV:=bU.o.tl.tl.tl.tl.tl.box.c1;have bg:=bU.o.tl.tl.tl.tl.tl.box.f0;have bh:=bU.o.tl.tl.tl.tl.tl.box.f1;have ay:=bU.o.tl.tl.tl.tl.tl.tl.box.c0;have az:=bU.o.tl.tl.tl.tl.tl.tl.box.c1;have aB:=bU.o.tl.tl.tl.tl.tl.tl.box.f0;have aC:=bU.o.tl.tl.tl.tl.tl.tl.box.f1;have Dw:=hid (ah5 bU.o.tl.tl.tl.tl.box.c0 (ah5 bU.o.tl.tl.tl.tl.box.c1 (ah5 bU.o.tl.tl.tl.tl.tl.box.c0 bU.o.tl.tl.tl.tl.tl.box.c1)));have NV:True:=trivial))
 clear Dv Dy Dx Dw;go_wp2_with fail;refine bodyPost_ret (v:= .agg #[ah8 rm,ah7 r0 rn rc]) (by simp[results,Tryz.results126,go_sem,ay,az]) rfl ?_;exact⟨_,_,_,_,rfl,HZ.o▸hX.ew bU.o.tl.tl.tl.tl.tl.tl.box _ _,bj HB3.o (by omega) _ _⟩
open Lib (hid)
theorem uF {w:ah6} {ao:Z'} {n ae V B la:Nat} (h:Sl w ao n ae (aq (V^B))) (hV:V<4294967296^la):n<=la*B+1:=by
 rw[<-h.len];refine fR ?_;rcases ai6 B with h0|h0
 ·subst h0;rw[ai8];exact Nat.one_lt_pow (by omega) (by omega)
 ·refine Nat.lt_of_lt_of_le (Nat.pow_lt_pow_left hV (by omega)) ?_;rw[<-Nat.pow_mul];exact Nat.pow_le_pow_right (by omega) (by omega)
structure pO (V N:Nat) (w:ah6) (ao:Option Addr) (n ae:Nat) (po:Option Addr) (pn pc B P r:Nat) (zs:List Nat) (wr:ah6):Prop where
 base:Sl wr ao n ae zs
 au:au zs=V^B
 prod:bX w.heap.size wr po pn pc (aq (V^P))
 sum:P+B*r=N
 below:Below w.heap.size w wr
theorem pO.Z6 {V N:Nat} {w:ah6} {ao:Z'} {n ae:Nat} {po:Z'} {pn pc B P r:Nat} {zs:List Nat} {wr:ah6} (h:pO V N w ao n ae po pn pc B P r zs wr) (hN:N<=1000) (hr:0<r):P+B<=1000:=by
 have h1:=h.sum;have h2:B<=B*r:=Nat.le_mul_of_pos_right _ hr;omega
theorem pO.Vc {V N:Nat} {w:ah6} {ao:Z'} {n ae:Nat} {po:Z'} {pn pc B P r:Nat} {zs:List Nat} {wr:ah6} (h:pO V N w ao n ae po pn pc B P r zs wr) (hN:N<=1000) (hr:2<=r):B+B<=1000:=by
 have h1:=h.sum;have h2:B*2<=B*r:=Nat.mul_le_mul_left _ hr;omega
theorem NW {P B r N:Nat} (h:P+B*r=N) (h2:r%2=0):P+(B+B)*(r/2)=N:=by
 have e:B*r=(B+B)*(r/2):=by
  have e1:r=2*(r/2):=by omega
  have e2:B+B=B*2:=by omega
  rw[e2,Nat.mul_assoc,<-e1]
 rw[<-e];exact h
theorem RA {P B r N:Nat} (h:P+B*r=N) (h2:0<r):(P+B)+B*(r-1)=N:=by
 obtain⟨j,rfl⟩:∃j,r=j+1:=⟨r-1,by omega⟩;rw[Nat.mul_add]at h;simp;omega
theorem zN (a0:Z') (la ca:Nat) (xs:List Nat) (N:Nat) (w:ah6) (ha:Sl w a0 la ca xs) (h1:la<=1000000) (hN:N<=1000):
  Calls Tryz.prog 230 #[ah7 a0 la ca,.int .i64 (N:Int)] w (fW w (aq (au xs^N))):=by
 have HVL:Hid (au xs<4294967296^la):=qb la ha.wf ha.len (ai5 _);have Ry:=hid ha;clear ha;go_enter Tryz.func230,Tryz.ntmps230;go_wp2;go_step3;go_wp2_with fail;refine(iK 1 _ (by omega)).mono ?_;rintro e w1 ⟨p0,pn,pc,rfl,hP,hB⟩;have HI0:Hid (pO (au xs) N w a0 la ca p0 pn pc 1 0 N xs w1):=⟨Ry.o.below hB,by rw[Nat.pow_one],by rw[ai8];exact hP,by omega,hB⟩;have hpn:pn<=1000000001:=by rw[<-hP.len];exact ai7 (fR (k:=1) (by omega)) (by omega)
 clear hP hB Ry;go_wp2;go_step3;go_wp2;go_loopg [0,1,5] N (λg x nn y wr=>∃(ao:Option Addr) (n ae:Nat) (po:Option Addr) (pn pc B P r:Nat) (zs:List Nat),x=ah7 ao n ae/\ nn= .int .i64 ((r:Nat):Int)/\ y=ah7 po pn pc/\ n<=1000000001/\ pn<=1000000001/\ r<=1000/\ Hid (r=g)/\ Hid (pO (au xs) N w ao n ae po pn pc B P r zs wr))
 case atStart=>exact⟨_,_,_,_,_,_,1,0,N,xs,rfl,rfl,rfl,by omega,hpn,hN,rfl,HI0⟩
 case round=>
  clear HI0 hpn;obtain⟨ao,n,ae,po,pn,pc,B,P,r,zs,rfl,rfl,rfl,hn,hpn,hr,HR,HI⟩:=hrel;obtain⟨wo,rfl⟩:∃wo:ah6,wo=wr:=⟨_,rfl⟩;by_cases h0:r=0
  ·subst h0;have HE:Hid (P=N):=by have:=HI.o.sum;rw[Hid];omega
   go_wp2_with fail;rw[Exit.noGoto_ret];go_ret;exact⟨_,_,_,rfl,by rw[<-HE.o];exact HI.o.prod,HI.o.below⟩
  ·have hz:(((r:Nat):Int)==0)=false:=by simp;omega
   have hr0:0<r:=by omega
   by_cases h2:r%2=0
   ·have hm:(((r:Nat):Int)%2==0)=true:=by simp;omega
    have hs2:=HI.o.Vc hN (by omega);have H2:=hid h2;clear h2;go_wp2_with fail;refine(ql _ _ _ _ _ _ _ _ _ HI.o.base HI.o.base (by omega) (by omega)).mono ?_;rintro e w2 ⟨q0,qn,qc,rfl,hQ,hB⟩;rw[HI.o.au,<-ai9]at hQ
    have WH:qn<=1000000001:=by
     have h3:=uF hQ.sl HVL.o;have h4:=aj0 h1 hs2;omega
    have HJ:Hid (pO (au xs) N w q0 qn qc po pn pc (B+B) P (r/2) (aq (au xs^(B+B))) w2):=⟨hQ.sl,av _,HI.o.prod.below hB,NW HI.o.sum H2.o,Below.ar HI.o.below hB⟩;clear hQ hB;go_wp2_with fail;go_roundg (r/2)
    case measure=>have:=HR.o;omega
    case rel=>exact⟨_,_,_,_,_,_,_,_,r/2,_,rfl,by go_num,rfl,WH,hpn,by omega,rfl,HJ⟩
   ·have hm:(((r:Nat):Int)%2==0)=false:=by simp;omega
    have hs2:=HI.o.Z6 hN hr0;clear h2;go_wp2_with fail;refine(ql _ _ _ _ _ _ _ _ _ HI.o.prod.sl HI.o.base (by omega) (by omega)).mono ?_;rintro e w2 ⟨q0,qn,qc,rfl,hQ,hB⟩;rw[HI.o.au,av,<-ai9]at hQ
    have WH:qn<=1000000001:=by
     have h3:=uF hQ.sl HVL.o;have h4:=aj0 h1 hs2;omega
    have HJ:Hid (pO (au xs) N w ao n ae q0 qn qc B (P+B) (r-1) zs w2):=⟨HI.o.base.below hB,HI.o.au,hQ.mono HI.o.below.size,RA HI.o.sum hr0,Below.ar HI.o.below hB⟩;clear hQ hB;go_wp2_with fail;go_roundg (r-1)
    case measure=>have:=HR.o;omega
    case rel=>exact⟨_,_,_,_,_,_,_,_,r-1,_,rfl,by go_num,rfl,hn,WH,by omega,rfl,HJ⟩
theorem IM (m:Bool) (v N:Nat):cV (m&&decide (N%2=1)) (v^N)=cV m v^N:=by
 cases m
 ·simp[cV]
 ·simp only[cV,Bool.true_and,if_true];induction N with
  |zero=>simp
  |succ N ih=>
   rw[Int.pow_succ,<-ih,Nat.pow_succ];by_cases h:N%2=1
   ·have h2:¬((N+1)%2=1):=by omega
    simp[h,h2,ai0,Int.neg_mul]
   ·have h2:(N+1)%2=1:=by omega
    simp[h,h2,ai0]
theorem Kz [Ol] (N:Nat) {ao:Z'} {n ae:Nat} {x:Int} {w:ah6} (hx:Nx w true ao n ae x) (hN:N<=1000):
  Calls Tryz.prog 205 #[.agg #[ah8 true,ah7 ao n ae],.int .i64 (N:Int)] w (IL w (x^N) 0):=by
 obtain⟨⟨xs,hs,hz⟩,hle⟩:=hx;obtain⟨s,hs1⟩:∃s,s=decide (N%2=1):=⟨_,rfl⟩;have hs2:(((N:Nat):Int)%2==1)=s:=by rw[hs1,Bool.eq_iff_iff];simp;omega
 have d1:decide (((N:Nat):Int)<0)=false:=by simp
 have d2:decide (1000<((N:Nat):Int))=false:=by simp;omega
 have e1:((N:Nat):Int).tmod 2=((N:Nat):Int)%2:=ah9 (by omega);have e2:IntKind.i64.wrap (((N:Nat):Int)%2)=((N:Nat):Int)%2:=by rw[show((N:Nat):Int)%2=((N%2:Nat):Int)from by omega];exact wrap_i64 _ (by omega)
 have HZ:Hid (cV (true&&s) (au xs^N)=x^N):=by rw[Hid,hs1,IM,hz]
 clear hs1 hz;go_enter Tryz.func205,Tryz.ntmps205;go_upto_region 1 with(fail)
 refine aj (λW hW=>?_);have HB0:Hid (Below w.heap.size w W):=by rw[hW];exact aN (af _ _)
 have aO:bS W w.heap.size true ao n ae:=by rw[hW];exact(bS.cS _ _ _ _ _ _ _ (by simp)).below (af _ _)
 have aR:bS W (w.heap.size+1) false none 0 0:=by rw[hW];exact bS.cS _ _ _ _ _ _ _ (by simp)
 have aw:=hid (aA.cT (hs.below HB0.o) (aA.aD aO (aA.aD aR (aA.nil W))));clear hW aO aR;have aF:=aw.o.tl.box.c0;have aG:=aw.o.tl.box.c1;have aJ:=aw.o.tl.box.f0;have aK:=aw.o.tl.box.f1;have ay:=aw.o.tl.tl.box.c0;have az:=aw.o.tl.tl.box.c1;have aB:=aw.o.tl.tl.box.f0;have aC:=aw.o.tl.tl.box.f1;go_wp2_with fail;have iW:=hid (aw.o.below ((Below.refl _ _).drew));have iX:=hid HB0.o.drew;clear aF aG aJ aK ay az aB aC aw HB0;have aw:=hid iW.o;have HB0:=hid iX.o;clear iW iX;have aF:=aw.o.tl.box.c0;have aG:=aw.o.tl.box.c1;have aJ:=aw.o.tl.box.f0;have aK:=aw.o.tl.box.f1;have ay:=aw.o.tl.tl.box.c0;have az:=aw.o.tl.tl.box.c1;have aB:=aw.o.tl.tl.box.f0;have aC:=aw.o.tl.tl.box.f1;have pz:True:=trivial;have Dv:=hid (ah5 aw.o.tl.box.c0 aw.o.tl.box.c1)
 go_region_held3 (λw'=>w'.cell? ⟨w.heap.size,0,none⟩=some (ah8 true)/\ w'.cell? ⟨w.heap.size,1,none⟩=some (ah7 ao n ae))
  (first|exact Dw.o|exact Dx.o|exact Dy.o|exact Dv.o|exact(ah5 ((bT (λe=>by have e2:w.heap.size=w.heap.size+1:=e;omega) _ _).trans aF) ((bT (λe=>by have e2:w.heap.size=w.heap.size+1:=e;omega) _ _).trans aG))|go_keep)
  (first
   |(have _t:=pz;clear _t pz;go_at_call 129;go_must (with_reducible refine(eX _ _).mono ?_);rintro e w1 ⟨Rz,rfl,hb1,hb2,hbc,hB⟩;have aL:=hid (aA.kZ hb2 hbc (aw.o.below hB));have HB1:=hid (Below.ar HB0.o hB);clear aF aG aJ aK ay az aB aC aw HB0 hb1 hbc hB;have aF:=aL.o.tl.tl.box.c0;have aG:=aL.o.tl.tl.box.c1;have aJ:=aL.o.tl.tl.box.f0;have aK:=aL.o.tl.tl.box.f1;have ay:=aL.o.tl.tl.tl.box.c0;have az:=aL.o.tl.tl.tl.box.c1;have aB:=aL.o.tl.tl.tl.box.f0;have aC:=aL.o.tl.tl.tl.box.f1;have Dy:=hid (ah5 aL.o.tl.tl.box.c0 aL.o.tl.tl.box.c1);have pA:True:=trivial)
   |(have _t:=pA;clear _t pA;go_at_call 230;go_must (with_reducible refine(zN _ _ _ _ N _ aL.o.tl.sl (by omega) (by omega)).mono ?_);rintro e w2 ⟨t0,tn,tc,rfl,hT,hB⟩;have bH:=hid (aA.cT hT.sl (aL.o.below hB));have HB2:=hid (Below.ar HB1.o hB);clear aF aG aJ aK ay az aB aC aL HB1 hT hB;have aF:=bH.o.tl.tl.tl.box.c0;have aG:=bH.o.tl.tl.tl.box.c1;have aJ:=bH.o.tl.tl.tl.box.f0;have aK:=bH.o.tl.tl.tl.box.f1;have ay:=bH.o.tl.tl.tl.tl.box.c0;have az:=bH.o.tl.tl.tl.tl.box.c1;have aB:=bH.o.tl.tl.tl.tl.box.f0;have aC:=bH.o.tl.tl.tl.tl.box.f1;have Dx:=hid (ah5 bH.o.tl.tl.tl.box.c0 bH.o.tl.tl.tl.box.c1);have pB:True:=trivial)
   |(have _t:=pB;clear _t pB;go_at_call 178;go_must (with_reducible refine(fS _ _ _ _ _ _ _ bH.o.tl.fn bH.o.sl).mono ?_);rintro e w3 ⟨rm,r0,rn,rc,rfl,hX,hB⟩;have bU:=hid (bH.o.below hB);have HB3:=hid (Below.ar HB2.o hB);clear aF aG aJ aK ay az aB aC bH HB2 hB;have aF:=bU.o.tl.tl.tl.box.c0;have aG:=bU.o.tl.tl.tl.box.c1;have aJ:=bU.o.tl.tl.tl.box.f0;have aK:=bU.o.tl.tl.tl.box.f1;have ay:=bU.o.tl.tl.tl.tl.box.c0;have az:=bU.o.tl.tl.tl.tl.box.c1;have aB:=bU.o.tl.tl.tl.tl.box.f0;have aC:=bU.o.tl.tl.tl.tl.box.f1;have Dw:=hid (ah5 bU.o.tl.tl.tl.box.c0 bU.o.tl.tl.tl.box.c1);have NV:True:=trivial))
 clear Dv Dy Dx Dw;go_wp2_with fail;refine bodyPost_ret (v:= .tuple #[.agg #[ah8 rm,ah7 r0 rn rc],.int .i64 0]) (by simp[results,Tryz.results205,go_sem,ay,az]) rfl ?_;exact⟨_,_,_,_,rfl,(show cV s (au xs^N)=x^N from by simpa using HZ.o)▸hX.ew bU.o.tl.tl.tl.tl.box _ _,bj HB3.o (by omega) _ _⟩
theorem Gp [Ol] (N:Nat) {ao:Z'} {n ae:Nat} {x:Int} {w:ah6} (hx:Nx w false ao n ae x) (hN:N<=1000):
  Calls Tryz.prog 205 #[.agg #[ah8 false,ah7 ao n ae],.int .i64 (N:Int)] w (IL w (x^N) 0):=by
 obtain⟨⟨xs,hs,hz⟩,hle⟩:=hx;obtain⟨s,hs1⟩:∃s,s=decide (N%2=1):=⟨_,rfl⟩;have hs2:(((N:Nat):Int)%2==1)=s:=by rw[hs1,Bool.eq_iff_iff];simp;omega
 have d1:decide (((N:Nat):Int)<0)=false:=by simp
 have d2:decide (1000<((N:Nat):Int))=false:=by simp;omega
 have e1:((N:Nat):Int).tmod 2=((N:Nat):Int)%2:=ah9 (by omega);have e2:IntKind.i64.wrap (((N:Nat):Int)%2)=((N:Nat):Int)%2:=by rw[show((N:Nat):Int)%2=((N%2:Nat):Int)from by omega];exact wrap_i64 _ (by omega)
 have HZ:Hid (cV (false&&s) (au xs^N)=x^N):=by rw[Hid,hs1,IM,hz]
 clear hs1 hz;go_enter Tryz.func205,Tryz.ntmps205;go_upto_region 1 with(fail)
 refine aj (λW hW=>?_);have HB0:Hid (Below w.heap.size w W):=by rw[hW];exact aN (af _ _)
 have aO:bS W w.heap.size false ao n ae:=by rw[hW];exact(bS.cS _ _ _ _ _ _ _ (by simp)).below (af _ _)
 have aR:bS W (w.heap.size+1) false none 0 0:=by rw[hW];exact bS.cS _ _ _ _ _ _ _ (by simp)
 have aw:=hid (aA.cT (hs.below HB0.o) (aA.aD aO (aA.aD aR (aA.nil W))));clear hW aO aR;have aF:=aw.o.tl.box.c0;have aG:=aw.o.tl.box.c1;have aJ:=aw.o.tl.box.f0;have aK:=aw.o.tl.box.f1;have ay:=aw.o.tl.tl.box.c0;have az:=aw.o.tl.tl.box.c1;have aB:=aw.o.tl.tl.box.f0;have aC:=aw.o.tl.tl.box.f1;go_wp2_with fail;have iW:=hid (aw.o.below ((Below.refl _ _).drew));have iX:=hid HB0.o.drew;clear aF aG aJ aK ay az aB aC aw HB0;have aw:=hid iW.o;have HB0:=hid iX.o;clear iW iX;have aF:=aw.o.tl.box.c0;have aG:=aw.o.tl.box.c1;have aJ:=aw.o.tl.box.f0;have aK:=aw.o.tl.box.f1;have ay:=aw.o.tl.tl.box.c0;have az:=aw.o.tl.tl.box.c1;have aB:=aw.o.tl.tl.box.f0;have aC:=aw.o.tl.tl.box.f1;have pz:True:=trivial;have Dv:=hid (ah5 aw.o.tl.box.c0 aw.o.tl.box.c1)
 first
  |(go_region_held (λw'=>w'.cell? ⟨w.heap.size,0,none⟩=some (ah8 false)/\ w'.cell? ⟨w.heap.size,1,none⟩=some (ah7 ao n ae))
   (first|exact Dw.o|exact Dx.o|exact Dy.o|exact Dv.o|exact(ah5 ((bT (λe=>by have e2:w.heap.size=w.heap.size+1:=e;omega) _ _).trans aF) ((bT (λe=>by have e2:w.heap.size=w.heap.size+1:=e;omega) _ _).trans aG))|go_keep)
   (first
    |(have _t:=pz;clear _t pz;go_at_call 129;go_must (with_reducible refine(eX _ _).mono ?_);rintro e w1 ⟨Rz,rfl,hb1,hb2,hbc,hB⟩;have aL:=hid (aA.kZ hb2 hbc (aw.o.below hB));have HB1:=hid (Below.ar HB0.o hB);clear aF aG aJ aK ay az aB aC aw HB0 hb1 hbc hB;have aF:=aL.o.tl.tl.box.c0;have aG:=aL.o.tl.tl.box.c1;have aJ:=aL.o.tl.tl.box.f0;have aK:=aL.o.tl.tl.box.f1;have ay:=aL.o.tl.tl.tl.box.c0;have az:=aL.o.tl.tl.tl.box.c1;have aB:=aL.o.tl.tl.tl.box.f0;have aC:=aL.o.tl.tl.tl.box.f1;have Dy:=hid (ah5 aL.o.tl.tl.box.c0 aL.o.tl.tl.box.c1);have pA:True:=trivial)
    |(have _t:=pA;clear _t pA;go_at_call 230;go_must (with_reducible refine(zN _ _ _ _ N _ aL.o.tl.sl (by omega) (by omega)).mono ?_);rintro e w2 ⟨t0,tn,tc,rfl,hT,hB⟩;have bH:=hid (aA.cT hT.sl (aL.o.below hB));have HB2:=hid (Below.ar HB1.o hB);clear aF aG aJ aK ay az aB aC aL HB1 hT hB;have aF:=bH.o.tl.tl.tl.box.c0;have aG:=bH.o.tl.tl.tl.box.c1;have aJ:=bH.o.tl.tl.tl.box.f0;have aK:=bH.o.tl.tl.tl.box.f1;have ay:=bH.o.tl.tl.tl.tl.box.c0;have az:=bH.o.tl.tl.tl.tl.box.c1;have aB:=bH.o.tl.tl.tl.tl.box.f0;have aC:=bH.o.tl.tl.tl.tl.box.f1;have Dx:=hid (ah5 bH.o.tl.tl.tl.box.c0 bH.o.tl.tl.tl.box.c1);have pB:True:=trivial)
    |(have _t:=pB;clear _t pB;go_at_call 178;go_must (with_reducible refine(fS _ _ _ _ _ _ _ bH.o.tl.fn bH.o.sl).mono ?_);rintro e w3 ⟨rm,r0,rn,rc,rfl,hX,hB⟩;have bU:=hid (bH.o.below hB);have HB3:=hid (Below.ar HB2.o hB);clear aF aG aJ aK ay az aB aC bH HB2 hB;have aF:=bU.o.tl.tl.tl.box.c0;have aG:=bU.o.tl.tl.tl.box.c1;have aJ:=bU.o.tl.tl.tl.box.f0;have aK:=bU.o.tl.tl.tl.box.f1;have ay:=bU.o.tl.tl.tl.tl.box.c0;have az:=bU.o.tl.tl.tl.tl.box.c1;have aB:=bU.o.tl.tl.tl.tl.box.f0;have aC:=bU.o.tl.tl.tl.tl.box.f1;have Dw:=hid (ah5 bU.o.tl.tl.tl.box.c0 bU.o.tl.tl.tl.box.c1);have NV:True:=trivial)))
  |fail
 clear Dv Dy Dx Dw;go_wp2_with fail;refine bodyPost_ret (v:= .tuple #[.agg #[ah8 rm,ah7 r0 rn rc],.int .i64 0]) (by simp[results,Tryz.results205,go_sem,ay,az]) rfl ?_;exact⟨_,_,_,_,rfl,(show cV false (au xs^N)=x^N from by simpa using HZ.o)▸hX.ew bU.o.tl.tl.tl.tl.box _ _,bj HB3.o (by omega) _ _⟩
theorem rY [Ol] (N:Nat) {m:Bool} {ao:Z'} {n ae:Nat} {x:Int} {w:ah6} (hx:Nx w m ao n ae x) (hN:N<=1000):
  Calls Tryz.prog 205 #[.agg #[ah8 m,ah7 ao n ae],.int .i64 (N:Int)] w (IL w (x^N) 0):=by
 cases m
 ·exact Gp N hx hN
 ·exact Kz N hx hN
end Go.Proofs.YtmenbpmciblnlaaGreatDoor
