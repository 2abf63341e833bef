import Derived.Test.YtmenbpmciblnlaaGreatDoorGWInt
import Derived.Deep.Cut
import Derived.Test.YtmenbpmciblnlaaGreatDoorGTimes
set_option maxHeartbeats 0
set_option maxRecDepth 100000
open And renaming intro->ah5
open Go renaming World->ah6
open Go.IntKind renaming bits->ai0,signed->ah9,u64->ah7,wrap->ah8
open Go.RowKit renaming Below->ai1
open Go.Value renaming bool->ai3,slice->ai2
namespace Go.Proofs.YtmenbpmciblnlaaGreatDoor
open Lib (hid)
open Go.RowKit
def ad8 (w:ah6) (neg:Bool) (e:Ending) (w':ah6):Prop:=
 ∃b,e= .returned (.func (.func 178) #[] #[.pointer (some ⟨b,0,none⟩)])/\ w.heap.size<=b/\ b<w'.heap.size/\ w'.cell? ⟨b,0,none⟩=some (ai3 neg)/\ ai1 w.heap.size w w'
theorem eX (neg:Bool) (w:ah6):Calls Tryz.prog 129 #[ai3 neg] w (ad8 w neg):=by
 have WA:∀(fn:Fn) (first ae:Array Value) (w:ah6),(Instr.makeFunc fn first ae).run Tryz.prog w= .ok (.func fn first ae) w:=λ_ _ _ _=>rfl
 go_enter Tryz.func129,Tryz.ntmps129;go_wp2_with fail;go_ret;exact⟨_,rfl,Nat.le_refl _,by simp,by simp[go_sem],af _ _⟩
theorem fS (neg:Bool) (b:Nat) (ao:Z') (n ae v:Nat) (w:ah6) (hb:w.cell? ⟨b,0,none⟩=some (ai3 neg)) (ha:Sl w ao n ae (aq v)):
  Calls Tryz.prog 178 #[ai2 ao n ae,.pointer (some ⟨b,0,none⟩)] w (mA w (cV neg v)):=by
 have hbig:=ha.big;have hlt:b<w.heap.size:=by simpa using World.block_lt_of_cell? w _ hb
 have HA:=hid ha;clear ha;cases neg
 ·go_enter Tryz.func178,Tryz.ntmps178;go_wp2_with fail;refine bodyPost_ret (v:= .agg #[ai3 false,ai2 ao n ae]) (by simp[results,Tryz.results178,go_sem]) rfl ?_;exact⟨_,_,_,_,rfl,Cn.of (HA.o.alloc _) rfl,af _ _⟩
 ·go_enter Tryz.func178,Tryz.ntmps178;go_wp2_with fail;refine bodyPost_ret (v:= .agg #[ai3 (decide (0<n)),ai2 ao n ae]) (by simp[results,Tryz.results178,go_sem]) rfl ?_;exact⟨_,_,_,_,rfl,Cn.of (HA.o.alloc _) (by simp),af _ _⟩
theorem CL [Ol] {m:Bool} {ao:Z'} {n ae:Nat} {x:Int} {w:ah6} (hx:Nx w m ao n ae x):
  Calls Tryz.prog 113 #[.agg #[ai3 m,ai2 ao n ae]] w (mA w (-x)):=by
 obtain⟨⟨xs,hs,hz⟩,hle⟩:=hx;have HZ:Hid (cV (!m) (au xs)= -x):=by rw[Hid,vC,hz]
 clear hz;go_enter Tryz.func113,Tryz.ntmps113;go_upto_region 1 with(fail)
 refine aj (λW hW=>?_);have HB0:Hid (ai1 w.heap.size w W):=by rw[hW];exact aN (af _ _)
 have aO:bS W w.heap.size m ao n ae:=by rw[hW];exact(bS.cS _ _ _ _ _ _ _ (by simp)).below (af _ _)
 have aR:bS W (w.heap.size+1) false none 0 0:=by rw[hW];exact bS.cS _ _ _ _ _ _ _ (by simp)
 have aw:=hid (aA.cT (hs.below HB0.o) (aA.aD aO (aA.aD aR (aA.nil W))));clear hW aO aR;have aF:=aw.o.tl.box.c0;have aG:=aw.o.tl.box.c1;have aJ:=aw.o.tl.box.f0;have aK:=aw.o.tl.box.f1;have ay:=aw.o.tl.tl.box.c0;have az:=aw.o.tl.tl.box.c1;have aB:=aw.o.tl.tl.box.f0;have aC:=aw.o.tl.tl.box.f1;have iW:=hid (aw.o.below ((Below.refl _ _).drew));have iX:=hid HB0.o.drew;clear aF aG aJ aK ay az aB aC;clear aw HB0;have aw:=hid iW.o;have HB0:=hid iX.o;clear iW iX;have aF:=aw.o.tl.box.c0;have aG:=aw.o.tl.box.c1;have aJ:=aw.o.tl.box.f0;have aK:=aw.o.tl.box.f1;have ay:=aw.o.tl.tl.box.c0;have az:=aw.o.tl.tl.box.c1;have aB:=aw.o.tl.tl.box.f0;have aC:=aw.o.tl.tl.box.f1;have pz:True:=trivial;have Dv:=hid (ah5 aw.o.tl.box.c0 aw.o.tl.box.c1)
 go_region_held3 (λw'=>w'.cell? ⟨w.heap.size,0,none⟩=some (ai3 m)/\ w'.cell? ⟨w.heap.size,1,none⟩=some (ai2 ao n ae))
  (first|exact Dw.o|exact Dx.o|exact Dy.o|exact Dv.o|exact(ah5 ((bT (λe=>by have e2:w.heap.size=w.heap.size+1:=e;omega) _ _).trans aF) ((bT (λe=>by have e2:w.heap.size=w.heap.size+1:=e;omega) _ _).trans aG))|go_keep)
  (first
   |(have _t:=pz;clear _t pz;go_at_call 129;go_must (with_reducible refine(eX _ _).mono ?_);rintro e w1 ⟨b,rfl,hb1,hb2,hbc,hB⟩;have aL:=hid (aA.kZ hb2 hbc (aw.o.below hB));have HB1:=hid (Below.ar HB0.o hB);clear aF aG aJ aK ay az aB aC aw HB0 hb1 hbc hB;have aF:=aL.o.tl.tl.box.c0;have aG:=aL.o.tl.tl.box.c1;have aJ:=aL.o.tl.tl.box.f0;have aK:=aL.o.tl.tl.box.f1;have ay:=aL.o.tl.tl.tl.box.c0;have az:=aL.o.tl.tl.tl.box.c1;have aB:=aL.o.tl.tl.tl.box.f0;have aC:=aL.o.tl.tl.tl.box.f1;have Dy:=hid (ah5 aL.o.tl.tl.box.c0 aL.o.tl.tl.box.c1);have pA:True:=trivial)
   |(have _t:=pA;clear _t pA;go_at_call 169;go_must (with_reducible refine(xi _ _ _ _ _ aL.o.tl.sl).mono ?_);rintro e w2 ⟨t0,tn,tc,rfl,hT,hB⟩;have bH:=hid (aA.cT hT.sl (aL.o.below hB));have HB2:=hid (Below.ar HB1.o hB);clear aF aG aJ aK ay az aB aC aL HB1 hT hB;have aF:=bH.o.tl.tl.tl.box.c0;have aG:=bH.o.tl.tl.tl.box.c1;have aJ:=bH.o.tl.tl.tl.box.f0;have aK:=bH.o.tl.tl.tl.box.f1;have ay:=bH.o.tl.tl.tl.tl.box.c0;have az:=bH.o.tl.tl.tl.tl.box.c1;have aB:=bH.o.tl.tl.tl.tl.box.f0;have aC:=bH.o.tl.tl.tl.tl.box.f1;have Dx:=hid (ah5 bH.o.tl.tl.tl.box.c0 bH.o.tl.tl.tl.box.c1);have pB:True:=trivial)
   |(have _t:=pB;clear _t pB;go_at_call 178;go_must (with_reducible refine(fS _ _ _ _ _ _ _ bH.o.tl.fn bH.o.sl).mono ?_);rintro e w3 ⟨rm,r0,rn,rc,rfl,hX,hB⟩;have bU:=hid (bH.o.below hB);have HB3:=hid (Below.ar HB2.o hB);clear aF aG aJ aK ay az aB aC bH HB2 hB;have aF:=bU.o.tl.tl.tl.box.c0;have aG:=bU.o.tl.tl.tl.box.c1;have aJ:=bU.o.tl.tl.tl.box.f0;have aK:=bU.o.tl.tl.tl.box.f1;have ay:=bU.o.tl.tl.tl.tl.box.c0;have az:=bU.o.tl.tl.tl.tl.box.c1;have aB:=bU.o.tl.tl.tl.tl.box.f0;have aC:=bU.o.tl.tl.tl.tl.box.f1;have Dw:=hid (ah5 bU.o.tl.tl.tl.box.c0 bU.o.tl.tl.tl.box.c1);have NV:True:=trivial))
 clear Dv Dy Dx Dw;go_wp2_with fail;refine bodyPost_ret (v:= .agg #[ai3 rm,ai2 r0 rn rc]) (by simp[results,Tryz.results113,go_sem,ay,az]) rfl ?_;exact⟨_,_,_,_,rfl,HZ.o▸hX.ew bU.o.tl.tl.tl.tl.box _ _,bj HB3.o (by omega) _ _⟩
theorem R7 [Ol] {m:Bool} {ao:Z'} {n ae:Nat} {x:Int} {w:ah6} (hx:Nx w m ao n ae x) (h0:x=0):
  Calls Tryz.prog 89 #[.agg #[ai3 m,ai2 ao n ae]] w (cr (.int .i64 0) w):=by
 obtain⟨⟨xs,hs,hz⟩,hle⟩:=hx;have HV:Hid (au xs=0):=by rw[Hid,<-fK m (au xs),hz,h0];rfl
 clear h0 hz;go_enter Tryz.func89,Tryz.ntmps89;go_upto_region 1 with(fail)
 refine aj (λW hW=>?_);have HB0:Hid (ai1 w.heap.size w W):=by rw[hW];exact af _ _
 have aO:bS W w.heap.size m ao n ae:=by rw[hW];exact bS.cS _ _ _ _ _ _ _ (by simp)
 have aw:=hid (aA.cT (hs.below HB0.o) (aA.aD aO (aA.nil W)));clear hW aO;have aF:=aw.o.tl.box.c0;have aG:=aw.o.tl.box.c1;have aJ:=aw.o.tl.box.f0;have aK:=aw.o.tl.box.f1;go_wp2_with fail;refine(fJ 0 _ _ _ _ _ aw.o.sl (by rw[HV.o];rfl)).mono ?_;rintro e w' ⟨rfl,rfl⟩;go_wp2_with fail;go_ret;exact⟨rfl,HB0.o⟩
theorem R8 [Ol] {m:Bool} {ao:Z'} {n ae:Nat} {x:Int} {w:ah6} (hx:Nx w m ao n ae x) (h0:x<0):
  Calls Tryz.prog 89 #[.agg #[ai3 m,ai2 ao n ae]] w (cr (.int .i64 (-1)) w):=by
 obtain⟨⟨xs,hs,hz⟩,hle⟩:=hx;have hv:au xs≠0:=λh=>by rw[h,Dq]at hz;omega
 obtain⟨k,hk⟩:∃k,k=eM (au xs):=⟨_,rfl⟩
 have hq:(((k:Nat):Int)==0)=false:=by
  have:k≠0:=by rw[hk];exact λe=>hv (jG.1 e)
  simp;omega
 have HV:=hid hk.symm
 obtain rfl:m=true:=by
  cases m
  ·unfold cV at hz;simp at hz;omega
  ·rfl
 clear h0 hz hv hk;go_enter Tryz.func89,Tryz.ntmps89;go_upto_region 1 with(fail)
 refine aj (λW hW=>?_);have HB0:Hid (ai1 w.heap.size w W):=by rw[hW];exact af _ _
 have aO:bS W w.heap.size true ao n ae:=by rw[hW];exact bS.cS _ _ _ _ _ _ _ (by simp)
 have aw:=hid (aA.cT (hs.below HB0.o) (aA.aD aO (aA.nil W)));clear hW aO;have aF:=aw.o.tl.box.c0;have aG:=aw.o.tl.box.c1;have aJ:=aw.o.tl.box.f0;have aK:=aw.o.tl.box.f1;go_wp2_with fail;refine(fJ k _ _ _ _ _ aw.o.sl HV.o).mono ?_;rintro e w' ⟨rfl,rfl⟩;go_wp2_with fail;go_ret;exact⟨rfl,HB0.o⟩
theorem R9 [Ol] {m:Bool} {ao:Z'} {n ae:Nat} {x:Int} {w:ah6} (hx:Nx w m ao n ae x) (h0:0<x):
  Calls Tryz.prog 89 #[.agg #[ai3 m,ai2 ao n ae]] w (cr (.int .i64 1) w):=by
 obtain⟨⟨xs,hs,hz⟩,hle⟩:=hx;have hv:au xs≠0:=λh=>by rw[h,Dq]at hz;omega
 obtain⟨k,hk⟩:∃k,k=eM (au xs):=⟨_,rfl⟩
 have hq:(((k:Nat):Int)==0)=false:=by
  have:k≠0:=by rw[hk];exact λe=>hv (jG.1 e)
  simp;omega
 have HV:=hid hk.symm
 obtain rfl:m=false:=by
  cases m
  ·rfl
  ·unfold cV at hz;simp at hz;omega
 clear h0 hz hv hk;go_enter Tryz.func89,Tryz.ntmps89;go_upto_region 1 with(fail)
 refine aj (λW hW=>?_);have HB0:Hid (ai1 w.heap.size w W):=by rw[hW];exact af _ _
 have aO:bS W w.heap.size false ao n ae:=by rw[hW];exact bS.cS _ _ _ _ _ _ _ (by simp)
 have aw:=hid (aA.cT (hs.below HB0.o) (aA.aD aO (aA.nil W)));clear hW aO;have aF:=aw.o.tl.box.c0;have aG:=aw.o.tl.box.c1;have aJ:=aw.o.tl.box.f0;have aK:=aw.o.tl.box.f1;go_wp2_with fail;refine(fJ k _ _ _ _ _ aw.o.sl HV.o).mono ?_;rintro e w' ⟨rfl,rfl⟩;go_wp2_with fail;go_ret;exact⟨rfl,HB0.o⟩
theorem iZ [Ol] (s:Int) {m:Bool} {ao:Z'} {n ae:Nat} {x:Int} {w:ah6} (hx:Nx w m ao n ae x) (h:x.sign=s):
  Calls Tryz.prog 89 #[.agg #[ai3 m,ai2 ao n ae]] w (cr (.int .i64 s) w):=by
 rcases Int.lt_trichotomy x 0 with h0|h0|h0
 ·rw[Int.sign_eq_neg_one_of_neg h0]at h;rw[<-h];exact R8 hx h0
 ·rw[h0,Int.sign_zero]at h;rw[<-h];exact R7 hx h0
 ·rw[Int.sign_eq_one_of_pos h0]at h;rw[<-h];exact R9 hx h0
open Lib (hid)
theorem Zi [Ol] (a:Nat) (w:ah6) (h:a<=9223372036854775807):
  Calls Tryz.prog 84 #[.int .i64 ((a:Int))] w (mA w (cV false a)):=by
 go_enter Tryz.func84,Tryz.ntmps84;go_upto_region 1 with(fail)
 refine aj (λW hW=>?_);have HB0:Hid (ai1 w.heap.size w W):=by rw[hW];exact af _ _
 have aR:bS W w.heap.size false none 0 0:=by rw[hW];exact bS.cS _ _ _ _ _ _ _ (by simp)
 have aw:=hid (aA.aD aR (aA.nil W));clear hW aR;have ay:=aw.o.box.c0;have az:=aw.o.box.c1;have aB:=aw.o.box.f0;have aC:=aw.o.box.f1;go_wp2_with fail;refine(eX _ _).mono ?_;rintro e w1 ⟨b,rfl,hb1,hb2,hbc,hB⟩;have aL:=hid (aA.kZ hb2 hbc (aw.o.below hB));have HB1:=hid (Below.ar HB0.o hB);clear ay az aB aC aw HB0 hb1 hbc hB;have ay:=aL.o.tl.box.c0;have az:=aL.o.tl.box.c1;have aB:=aL.o.tl.box.f0;have aC:=aL.o.tl.box.f1;go_wp2_with fail;refine(iK a _ (by omega)).mono ?_;rintro e w2 ⟨t0,tn,tc,rfl,hT,hB⟩;have bH:=hid (aA.cT hT.sl (aL.o.below hB));have HB2:=hid (Below.ar HB1.o hB);clear ay az aB aC aL HB1 hT hB;have ay:=bH.o.tl.tl.box.c0;have az:=bH.o.tl.tl.box.c1;have aB:=bH.o.tl.tl.box.f0;have aC:=bH.o.tl.tl.box.f1;go_wp2_with fail;refine(fS _ _ _ _ _ _ _ bH.o.tl.fn bH.o.sl).mono ?_;rintro e w3 ⟨rm,r0,rn,rc,rfl,hX,hB⟩;have bU:=hid (bH.o.below hB);have HB3:=hid (Below.ar HB2.o hB);clear ay az aB aC bH HB2 hB;have ay:=bU.o.tl.tl.box.c0;have az:=bU.o.tl.tl.box.c1;have aB:=bU.o.tl.tl.box.f0;have aC:=bU.o.tl.tl.box.f1;go_wp2_with fail;refine bodyPost_ret (v:= .agg #[ai3 rm,ai2 r0 rn rc]) (by simp[results,Tryz.results84,go_sem,ay,az]) rfl ?_;exact⟨_,_,_,_,rfl,hX.ew bU.o.tl.tl.box _ _,bj HB3.o (by omega) _ _⟩
theorem Zj [Ol] (a:Nat) (w:ah6) (h:0<a/\ a<=9223372036854775808):
  Calls Tryz.prog 84 #[.int .i64 (-(a:Int))] w (mA w (cV true a)):=by
 have e1:ah7.wrap (-((a:Nat):Int))=18446744073709551616-((a:Nat):Int):=by unfold ah8;simp[ah9,ai0];omega
 have e2:ah7.wrap (-(18446744073709551616-((a:Nat):Int)))=((a:Nat):Int):=by unfold ah8;simp[ah9,ai0];omega
 have d1:decide (-((a:Nat):Int)<0)=true:=by simp;omega
 have d2:(0:Int)<((a:Nat):Int):=by omega
 go_enter Tryz.func84,Tryz.ntmps84;go_upto_region 1 with(fail)
 refine aj (λW hW=>?_);have HB0:Hid (ai1 w.heap.size w W):=by rw[hW];exact af _ _
 have aR:bS W w.heap.size false none 0 0:=by rw[hW];exact bS.cS _ _ _ _ _ _ _ (by simp)
 have aw:=hid (aA.aD aR (aA.nil W));clear hW aR;have ay:=aw.o.box.c0;have az:=aw.o.box.c1;have aB:=aw.o.box.f0;have aC:=aw.o.box.f1;go_wp2_with fail;refine(eX _ _).mono ?_;rintro e w1 ⟨b,rfl,hb1,hb2,hbc,hB⟩;have aL:=hid (aA.kZ hb2 hbc (aw.o.below hB));have HB1:=hid (Below.ar HB0.o hB);clear ay az aB aC aw HB0 hb1 hbc hB;have ay:=aL.o.tl.box.c0;have az:=aL.o.tl.box.c1;have aB:=aL.o.tl.box.f0;have aC:=aL.o.tl.box.f1;go_wp2_with fail;refine(iK a _ (by omega)).mono ?_;rintro e w2 ⟨t0,tn,tc,rfl,hT,hB⟩;have bH:=hid (aA.cT hT.sl (aL.o.below hB));have HB2:=hid (Below.ar HB1.o hB);clear ay az aB aC aL HB1 hT hB;have ay:=bH.o.tl.tl.box.c0;have az:=bH.o.tl.tl.box.c1;have aB:=bH.o.tl.tl.box.f0;have aC:=bH.o.tl.tl.box.f1;go_wp2_with fail;refine(fS _ _ _ _ _ _ _ bH.o.tl.fn bH.o.sl).mono ?_;rintro e w3 ⟨rm,r0,rn,rc,rfl,hX,hB⟩;have bU:=hid (bH.o.below hB);have HB3:=hid (Below.ar HB2.o hB);clear ay az aB aC bH HB2 hB;have ay:=bU.o.tl.tl.box.c0;have az:=bU.o.tl.tl.box.c1;have aB:=bU.o.tl.tl.box.f0;have aC:=bU.o.tl.tl.box.f1;go_wp2_with fail;refine bodyPost_ret (v:= .agg #[ai3 rm,ai2 r0 rn rc]) (by simp[results,Tryz.results84,go_sem,ay,az]) rfl ?_;exact⟨_,_,_,_,rfl,hX.ew bU.o.tl.tl.box _ _,bj HB3.o (by omega) _ _⟩
theorem rX [Ol] (n:Int) (w:ah6) (h: -9223372036854775808<=n/\ n<=9223372036854775807):
  Calls Tryz.prog 84 #[.int .i64 n] w (mA w n):=by
 by_cases h0:n<0
 ·obtain⟨a,rfl⟩:∃a:Nat,n= -(a:Int):=⟨n.natAbs,by omega⟩;exact Zj a w (by omega)
 ·obtain⟨a,rfl⟩:=Int.eq_ofNat_of_zero_le (Int.not_lt.1 h0);exact Zi a w (by omega)
open Lib (hid)
theorem Ld [Ol] {m:Bool} {ao bo:Z'} {n ae l cb:Nat} {x y:Int} {w:ah6} (hx:Nx w m ao n ae x) (hy:Nx w m bo l cb y):
  Calls Tryz.prog 78 #[.agg #[ai3 m,ai2 ao n ae],.agg #[ai3 m,ai2 bo l cb]] w (mA w (x+y)):=by
 obtain⟨⟨xs,hs,hz⟩,hle⟩:=hx;obtain⟨⟨ys,ht,hz2⟩,hle2⟩:=hy;have HZ:Hid (cV m (au xs+au ys)=x+y):=by rw[Hid,Rp,hz,hz2]
 clear hz hz2;go_enter Tryz.func78,Tryz.ntmps78;go_upto_region 1 with(fail)
 refine aj (λW hW=>?_);have HB0:Hid (ai1 w.heap.size w W):=by rw[hW];exact aN (aN (af _ _))
 have aO:bS W w.heap.size m ao n ae:=by rw[hW];exact((bS.cS _ _ _ _ _ _ _ (by simp)).below (af _ _)).below (af _ _)
 have bI:bS W (w.heap.size+1) m bo l cb:=by rw[hW];exact(bS.cS _ _ _ _ _ _ _ (by simp)).below (af _ _)
 have aR:bS W (w.heap.size+2) false none 0 0:=by rw[hW];exact bS.cS _ _ _ _ _ _ _ (by simp)
 have aw:=hid (aA.cT (hs.below HB0.o) (aA.cT (ht.below HB0.o) (aA.aD aO (aA.aD bI (aA.aD aR (aA.nil W))))));clear hW aO bI aR;have aF:=aw.o.tl.tl.box.c0;have aG:=aw.o.tl.tl.box.c1;have aJ:=aw.o.tl.tl.box.f0;have aK:=aw.o.tl.tl.box.f1;have aU:=aw.o.tl.tl.tl.box.c0;have aV:=aw.o.tl.tl.tl.box.c1;have bg:=aw.o.tl.tl.tl.box.f0;have bh:=aw.o.tl.tl.tl.box.f1;have ay:=aw.o.tl.tl.tl.tl.box.c0;have az:=aw.o.tl.tl.tl.tl.box.c1;have aB:=aw.o.tl.tl.tl.tl.box.f0;have aC:=aw.o.tl.tl.tl.tl.box.f1;go_wp2_with fail;have iW:=hid (aw.o.below ((Below.refl _ _).drew));have iX:=hid HB0.o.drew;clear aF aG aJ aK aU aV bg bh ay az aB aC aw HB0;have aw:=hid iW.o;have HB0:=hid iX.o;clear iW iX;have aF:=aw.o.tl.tl.box.c0;have aG:=aw.o.tl.tl.box.c1;have aJ:=aw.o.tl.tl.box.f0;have aK:=aw.o.tl.tl.box.f1;have aU:=aw.o.tl.tl.tl.box.c0;have aV:=aw.o.tl.tl.tl.box.c1;have bg:=aw.o.tl.tl.tl.box.f0;have bh:=aw.o.tl.tl.tl.box.f1;have ay:=aw.o.tl.tl.tl.tl.box.c0;have az:=aw.o.tl.tl.tl.tl.box.c1;have aB:=aw.o.tl.tl.tl.tl.box.f0;have aC:=aw.o.tl.tl.tl.tl.box.f1;have pz:True:=trivial;have Dv:=hid (ah5 aw.o.tl.tl.box.c0 (ah5 aw.o.tl.tl.box.c1 (ah5 aw.o.tl.tl.tl.box.c0 aw.o.tl.tl.tl.box.c1)))
 go_region_held3 (λw'=>w'.cell? ⟨w.heap.size,0,none⟩=some (ai3 m)/\ w'.cell? ⟨w.heap.size,1,none⟩=some (ai2 ao n ae)/\ w'.cell? ⟨w.heap.size+1,0,none⟩=some (ai3 m)/\ w'.cell? ⟨w.heap.size+1,1,none⟩=some (ai2 bo l cb))
  (first|exact Dw.o|exact Dx.o|exact Dy.o|exact Dv.o|exact(ah5 ((bT (λe=>by have e2:w.heap.size=w.heap.size+2:=e;omega) _ _).trans aF) (ah5 ((bT (λe=>by have e2:w.heap.size=w.heap.size+2:=e;omega) _ _).trans aG) (ah5 ((bT (λe=>by have e2:w.heap.size+1=w.heap.size+2:=e;omega) _ _).trans aU) ((bT (λe=>by have e2:w.heap.size+1=w.heap.size+2:=e;omega) _ _).trans aV))))|go_keep)
  (first
   |(have _t:=pz;clear _t pz;go_at_call 129;go_must (with_reducible refine(eX _ _).mono ?_);rintro e w1 ⟨Rz,rfl,hb1,hb2,hbc,hB⟩;have aL:=hid (aA.kZ hb2 hbc (aw.o.below hB));have HB1:=hid (Below.ar HB0.o hB);clear aF aG aJ aK aU aV bg bh ay az aB aC aw HB0 hb1 hbc hB;have aF:=aL.o.tl.tl.tl.box.c0;have aG:=aL.o.tl.tl.tl.box.c1;have aJ:=aL.o.tl.tl.tl.box.f0;have aK:=aL.o.tl.tl.tl.box.f1;have aU:=aL.o.tl.tl.tl.tl.box.c0;have aV:=aL.o.tl.tl.tl.tl.box.c1;have bg:=aL.o.tl.tl.tl.tl.box.f0;have bh:=aL.o.tl.tl.tl.tl.box.f1;have ay:=aL.o.tl.tl.tl.tl.tl.box.c0;have az:=aL.o.tl.tl.tl.tl.tl.box.c1;have aB:=aL.o.tl.tl.tl.tl.tl.box.f0;have aC:=aL.o.tl.tl.tl.tl.tl.box.f1;have Dy:=hid (ah5 aL.o.tl.tl.tl.box.c0 (ah5 aL.o.tl.tl.tl.box.c1 (ah5 aL.o.tl.tl.tl.tl.box.c0 aL.o.tl.tl.tl.tl.box.c1)));have pA:True:=trivial)
   |(have _t:=pA;clear _t pA;go_at_call 130;go_must (with_reducible refine(pX _ _ _ _ _ _ _ _ _ aL.o.tl.sl aL.o.tl.tl.sl (by omega) (by omega)).mono ?_);rintro e w2 ⟨t0,tn,tc,rfl,hT,hB⟩;have bH:=hid (aA.cT hT.sl (aL.o.below hB));have HB2:=hid (Below.ar HB1.o hB);clear aF aG aJ aK aU aV bg bh ay az aB aC aL HB1 hT hB;have aF:=bH.o.tl.tl.tl.tl.box.c0;have aG:=bH.o.tl.tl.tl.tl.box.c1;have aJ:=bH.o.tl.tl.tl.tl.box.f0;have aK:=bH.o.tl.tl.tl.tl.box.f1;have aU:=bH.o.tl.tl.tl.tl.tl.box.c0;have aV:=bH.o.tl.tl.tl.tl.tl.box.c1;have bg:=bH.o.tl.tl.tl.tl.tl.box.f0;have bh:=bH.o.tl.tl.tl.tl.tl.box.f1;have ay:=bH.o.tl.tl.tl.tl.tl.tl.box.c0;have az:=bH.o.tl.tl.tl.tl.tl.tl.box.c1;have aB:=bH.o.tl.tl.tl.tl.tl.tl.box.f0;have aC:=bH.o.tl.tl.tl.tl.tl.tl.box.f1;have Dx:=hid (ah5 bH.o.tl.tl.tl.tl.box.c0 (ah5 bH.o.tl.tl.tl.tl.box.c1 (ah5 bH.o.tl.tl.tl.tl.tl.box.c0 bH.o.tl.tl.tl.tl.tl.box.c1)));have pB:True:=trivial)
   |(have _t:=pB;clear _t pB;go_at_call 178;go_must (with_reducible refine(fS _ _ _ _ _ _ _ bH.o.tl.fn bH.o.sl).mono ?_);rintro e w3 ⟨rm,r0,rn,rc,rfl,hX,hB⟩;have bU:=hid (bH.o.below hB);have HB3:=hid (Below.ar HB2.o hB);clear aF aG aJ aK aU aV bg bh ay az aB aC bH HB2 hB;have aF:=bU.o.tl.tl.tl.tl.box.c0;have aG:=bU.o.tl.tl.tl.tl.box.c1;have aJ:=bU.o.tl.tl.tl.tl.box.f0;have aK:=bU.o.tl.tl.tl.tl.box.f1;have aU:=bU.o.tl.tl.tl.tl.tl.box.c0;have aV:=bU.o.tl.tl.tl.tl.tl.box.c1;have bg:=bU.o.tl.tl.tl.tl.tl.box.f0;have bh:=bU.o.tl.tl.tl.tl.tl.box.f1;have ay:=bU.o.tl.tl.tl.tl.tl.tl.box.c0;have az:=bU.o.tl.tl.tl.tl.tl.tl.box.c1;have aB:=bU.o.tl.tl.tl.tl.tl.tl.box.f0;have aC:=bU.o.tl.tl.tl.tl.tl.tl.box.f1;have Dw:=hid (ah5 bU.o.tl.tl.tl.tl.box.c0 (ah5 bU.o.tl.tl.tl.tl.box.c1 (ah5 bU.o.tl.tl.tl.tl.tl.box.c0 bU.o.tl.tl.tl.tl.tl.box.c1)));have NV:True:=trivial))
 clear Dv Dy Dx Dw;go_wp2_with fail;refine bodyPost_ret (v:= .agg #[ai3 rm,ai2 r0 rn rc]) (by simp[results,Tryz.results78,go_sem,ay,az]) rfl ?_;exact⟨_,_,_,_,rfl,HZ.o▸hX.ew bU.o.tl.tl.tl.tl.tl.tl.box _ _,bj HB3.o (by omega) _ _⟩
theorem Sa [Ol] {m:Bool} {ao bo:Z'} {n ae l cb:Nat} {x y:Int} {w:ah6} (hx:Nx w m ao n ae x) (hy:Nx w (!m) bo l cb y) (hge:y.natAbs<=x.natAbs):
  Calls Tryz.prog 78 #[.agg #[ai3 m,ai2 ao n ae],.agg #[ai3 (!m),ai2 bo l cb]] w (mA w (x+y)):=by
 obtain⟨⟨xs,hs,hz⟩,hle⟩:=hx;obtain⟨⟨ys,ht,hz2⟩,hle2⟩:=hy;have Vz:=fK m (au xs);have VA:=fK (!m) (au ys);rw[hz]at Vz;rw[hz2]at VA;have uX:Hid (au ys<=au xs):=by rw[Hid,<-Vz,<-VA];exact hge
 have HZ:Hid (cV m (au xs-au ys)=x+y):=by rw[Hid,IG m _ _ uX.o,hz,hz2]
 obtain⟨c,hc⟩:∃c,c=eT (au xs) (au ys):=⟨_,rfl⟩
 have hc0:decide (c<0)=false:=by
  rw[hc];unfold eT;rw[if_neg (by have:=uX.o;omega)];split<;>simp
 have HC:=hid hc.symm;have hmm:(m== !m)=false:=by cases m<;>rfl
 clear hz hz2 hc Vz VA hge;go_enter Tryz.func78,Tryz.ntmps78;go_upto_region 1 with(fail)
 refine aj (λW hW=>?_);have HB0:Hid (ai1 w.heap.size w W):=by rw[hW];exact aN (aN (af _ _))
 have aO:bS W w.heap.size m ao n ae:=by rw[hW];exact((bS.cS _ _ _ _ _ _ _ (by simp)).below (af _ _)).below (af _ _)
 have bI:bS W (w.heap.size+1) (!m) bo l cb:=by rw[hW];exact(bS.cS _ _ _ _ _ _ _ (by simp)).below (af _ _)
 have aR:bS W (w.heap.size+2) false none 0 0:=by rw[hW];exact bS.cS _ _ _ _ _ _ _ (by simp)
 have aw:=hid (aA.cT (hs.below HB0.o) (aA.cT (ht.below HB0.o) (aA.aD aO (aA.aD bI (aA.aD aR (aA.nil W))))));clear hW aO bI aR;have aF:=aw.o.tl.tl.box.c0;have aG:=aw.o.tl.tl.box.c1;have aJ:=aw.o.tl.tl.box.f0;have aK:=aw.o.tl.tl.box.f1;have aU:=aw.o.tl.tl.tl.box.c0;have aV:=aw.o.tl.tl.tl.box.c1;have bg:=aw.o.tl.tl.tl.box.f0;have bh:=aw.o.tl.tl.tl.box.f1;have ay:=aw.o.tl.tl.tl.tl.box.c0;have az:=aw.o.tl.tl.tl.tl.box.c1;have aB:=aw.o.tl.tl.tl.tl.box.f0;have aC:=aw.o.tl.tl.tl.tl.box.f1;go_wp2_with fail;refine(TC c _ _ _ _ _ _ _ _ _ aw.o.sl aw.o.tl.sl HC).mono ?_;rintro e w1 ⟨rfl,hB⟩;have aL:=hid (aw.o.below hB);have HB1:=hid (Below.ar HB0.o hB);clear aF aG aJ aK aU aV bg bh ay az aB aC aw HB0 hB;have aF:=aL.o.tl.tl.box.c0;have aG:=aL.o.tl.tl.box.c1;have aJ:=aL.o.tl.tl.box.f0;have aK:=aL.o.tl.tl.box.f1;have aU:=aL.o.tl.tl.tl.box.c0;have aV:=aL.o.tl.tl.tl.box.c1;have bg:=aL.o.tl.tl.tl.box.f0;have bh:=aL.o.tl.tl.tl.box.f1;have ay:=aL.o.tl.tl.tl.tl.box.c0;have az:=aL.o.tl.tl.tl.tl.box.c1;have aB:=aL.o.tl.tl.tl.tl.box.f0;have aC:=aL.o.tl.tl.tl.tl.box.f1;go_wp2_with fail;refine(kg _ _ _ _ _ _ _ _ _ aL.o.sl aL.o.tl.sl uX.o).mono ?_;rintro e w2 ⟨t0,tn,tc,rfl,hT,hB⟩;have bH:=hid (aA.cT hT.sl (aL.o.below hB));have HB2:=hid (Below.ar HB1.o hB);clear aF aG aJ aK aU aV bg bh ay az aB aC aL HB1 hT hB;have aF:=bH.o.tl.tl.tl.box.c0;have aG:=bH.o.tl.tl.tl.box.c1;have aJ:=bH.o.tl.tl.tl.box.f0;have aK:=bH.o.tl.tl.tl.box.f1;have aU:=bH.o.tl.tl.tl.tl.box.c0;have aV:=bH.o.tl.tl.tl.tl.box.c1;have bg:=bH.o.tl.tl.tl.tl.box.f0;have bh:=bH.o.tl.tl.tl.tl.box.f1;have ay:=bH.o.tl.tl.tl.tl.tl.box.c0;have az:=bH.o.tl.tl.tl.tl.tl.box.c1;have aB:=bH.o.tl.tl.tl.tl.tl.box.f0;have aC:=bH.o.tl.tl.tl.tl.tl.box.f1;go_wp2_with fail;refine(eX _ _).mono ?_;rintro e w3 ⟨b,rfl,hb1,hb2,hbc,hB⟩;have bU:=hid (aA.kZ hb2 hbc (bH.o.below hB));have HB3:=hid (Below.ar HB2.o hB);clear aF aG aJ aK aU aV bg bh ay az aB aC bH HB2 hb1 hbc hB;have aF:=bU.o.tl.tl.tl.tl.box.c0;have aG:=bU.o.tl.tl.tl.tl.box.c1;have aJ:=bU.o.tl.tl.tl.tl.box.f0;have aK:=bU.o.tl.tl.tl.tl.box.f1;have aU:=bU.o.tl.tl.tl.tl.tl.box.c0;have aV:=bU.o.tl.tl.tl.tl.tl.box.c1;have bg:=bU.o.tl.tl.tl.tl.tl.box.f0;have bh:=bU.o.tl.tl.tl.tl.tl.box.f1;have ay:=bU.o.tl.tl.tl.tl.tl.tl.box.c0;have az:=bU.o.tl.tl.tl.tl.tl.tl.box.c1;have aB:=bU.o.tl.tl.tl.tl.tl.tl.box.f0;have aC:=bU.o.tl.tl.tl.tl.tl.tl.box.f1;go_wp2_with fail;refine(fS _ _ _ _ _ _ _ bU.o.fn bU.o.tl.sl).mono ?_
 rintro e w4 ⟨rm,r0,rn,rc,rfl,hX,hB⟩;have mV:=hid (bU.o.below hB);have lx:=hid (Below.ar HB3.o hB);clear aF aG aJ aK aU aV bg bh ay az aB aC bU HB3 hB;have aF:=mV.o.tl.tl.tl.tl.box.c0;have aG:=mV.o.tl.tl.tl.tl.box.c1;have aJ:=mV.o.tl.tl.tl.tl.box.f0;have aK:=mV.o.tl.tl.tl.tl.box.f1;have aU:=mV.o.tl.tl.tl.tl.tl.box.c0;have aV:=mV.o.tl.tl.tl.tl.tl.box.c1;have bg:=mV.o.tl.tl.tl.tl.tl.box.f0;have bh:=mV.o.tl.tl.tl.tl.tl.box.f1;have ay:=mV.o.tl.tl.tl.tl.tl.tl.box.c0;have az:=mV.o.tl.tl.tl.tl.tl.tl.box.c1;have aB:=mV.o.tl.tl.tl.tl.tl.tl.box.f0;have aC:=mV.o.tl.tl.tl.tl.tl.tl.box.f1;go_wp2_with fail;refine bodyPost_ret (v:= .agg #[ai3 rm,ai2 r0 rn rc]) (by simp[results,Tryz.results78,go_sem,ay,az]) rfl ?_;exact⟨_,_,_,_,rfl,HZ.o▸hX.ew mV.o.tl.tl.tl.tl.tl.tl.box _ _,bj lx.o (by omega) _ _⟩
theorem Sb [Ol] {m:Bool} {ao bo:Z'} {n ae l cb:Nat} {x y:Int} {w:ah6} (hx:Nx w m ao n ae x) (hy:Nx w (!m) bo l cb y) (hlt:x.natAbs<y.natAbs):
  Calls Tryz.prog 78 #[.agg #[ai3 m,ai2 ao n ae],.agg #[ai3 (!m),ai2 bo l cb]] w (mA w (x+y)):=by
 obtain⟨⟨xs,hs,hz⟩,hle⟩:=hx;obtain⟨⟨ys,ht,hz2⟩,hle2⟩:=hy;have Vz:=fK m (au xs);have VA:=fK (!m) (au ys);rw[hz]at Vz;rw[hz2]at VA;have uX:Hid (au xs<=au ys):=by rw[Hid,<-Vz,<-VA];omega
 have HZ:Hid (cV (!m) (au ys-au xs)=x+y):=by rw[Hid,IG (!m) _ _ uX.o,hz2,Bool.not_not,hz,Int.add_comm]
 have HC:Hid (eT (au xs) (au ys)= -1):=by rw[Hid];unfold eT;rw[if_pos (by omega)]
 have hmm:(m== !m)=false:=by cases m<;>rfl
 clear hz hz2 Vz VA hlt;go_enter Tryz.func78,Tryz.ntmps78;go_upto_region 1 with(fail)
 refine aj (λW hW=>?_);have HB0:Hid (ai1 w.heap.size w W):=by rw[hW];exact aN (aN (af _ _))
 have aO:bS W w.heap.size m ao n ae:=by rw[hW];exact((bS.cS _ _ _ _ _ _ _ (by simp)).below (af _ _)).below (af _ _)
 have bI:bS W (w.heap.size+1) (!m) bo l cb:=by rw[hW];exact(bS.cS _ _ _ _ _ _ _ (by simp)).below (af _ _)
 have aR:bS W (w.heap.size+2) false none 0 0:=by rw[hW];exact bS.cS _ _ _ _ _ _ _ (by simp)
 have aw:=hid (aA.cT (hs.below HB0.o) (aA.cT (ht.below HB0.o) (aA.aD aO (aA.aD bI (aA.aD aR (aA.nil W))))));clear hW aO bI aR;have aF:=aw.o.tl.tl.box.c0;have aG:=aw.o.tl.tl.box.c1;have aJ:=aw.o.tl.tl.box.f0;have aK:=aw.o.tl.tl.box.f1;have aU:=aw.o.tl.tl.tl.box.c0;have aV:=aw.o.tl.tl.tl.box.c1;have bg:=aw.o.tl.tl.tl.box.f0;have bh:=aw.o.tl.tl.tl.box.f1;have ay:=aw.o.tl.tl.tl.tl.box.c0;have az:=aw.o.tl.tl.tl.tl.box.c1;have aB:=aw.o.tl.tl.tl.tl.box.f0;have aC:=aw.o.tl.tl.tl.tl.box.f1;go_wp2_with fail;refine(TC (-1) _ _ _ _ _ _ _ _ _ aw.o.sl aw.o.tl.sl HC).mono ?_;rintro e w1 ⟨rfl,hB⟩;have aL:=hid (aw.o.below hB);have HB1:=hid (Below.ar HB0.o hB);clear aF aG aJ aK aU aV bg bh ay az aB aC aw HB0 hB;have aF:=aL.o.tl.tl.box.c0;have aG:=aL.o.tl.tl.box.c1;have aJ:=aL.o.tl.tl.box.f0;have aK:=aL.o.tl.tl.box.f1;have aU:=aL.o.tl.tl.tl.box.c0;have aV:=aL.o.tl.tl.tl.box.c1;have bg:=aL.o.tl.tl.tl.box.f0;have bh:=aL.o.tl.tl.tl.box.f1;have ay:=aL.o.tl.tl.tl.tl.box.c0;have az:=aL.o.tl.tl.tl.tl.box.c1;have aB:=aL.o.tl.tl.tl.tl.box.f0;have aC:=aL.o.tl.tl.tl.tl.box.f1;go_upto_region 5 with(fail)
 refine aj (λW2 hW2=>?_);have hX2:bS W2 w.heap.size (!m) bo l cb:=by rw[hW2];exact(aL.o.tl.tl.box.set _ _ _ _).dy (by omega) _ _
 have hY2:bS W2 (w.heap.size+1) m ao n ae:=by rw[hW2];exact(aL.o.tl.tl.tl.box.dy (by omega) _ _).set _ _ _ _
 have hR2:bS W2 (w.heap.size+2) false none 0 0:=by rw[hW2];exact(aL.o.tl.tl.tl.tl.box.dy (by omega) _ _).dy (by omega) _ _
 have CZ:Sl W2 ao n ae xs:=by rw[hW2];exact sG (sG aL.o.sl aL.o.tl.tl.box _ _) (aL.o.tl.tl.tl.box.dy (by omega) _ _) _ _
 have C4:Sl W2 bo l cb ys:=by rw[hW2];exact sG (sG aL.o.tl.sl aL.o.tl.tl.box _ _) (aL.o.tl.tl.tl.box.dy (by omega) _ _) _ _
 have HB2:Hid (ai1 w.heap.size w W2):=by rw[hW2];exact bj (bj HB1.o (by omega) _ _) (by omega) _ _
 have bH:=hid (aA.cT CZ (aA.cT C4 (aA.aD hX2 (aA.aD hY2 (aA.aD hR2 (aA.nil W2))))));clear aF aG aJ aK aU aV bg bh ay az aB aC hW2 hX2 hY2 hR2 CZ C4 aL HB1;have aF:=bH.o.tl.tl.box.c0;have aG:=bH.o.tl.tl.box.c1;have aJ:=bH.o.tl.tl.box.f0;have aK:=bH.o.tl.tl.box.f1;have aU:=bH.o.tl.tl.tl.box.c0;have aV:=bH.o.tl.tl.tl.box.c1;have bg:=bH.o.tl.tl.tl.box.f0;have bh:=bH.o.tl.tl.tl.box.f1;have ay:=bH.o.tl.tl.tl.tl.box.c0;have az:=bH.o.tl.tl.tl.tl.box.c1;have aB:=bH.o.tl.tl.tl.tl.box.f0;have aC:=bH.o.tl.tl.tl.tl.box.f1;go_wp2_with fail;refine(kg _ _ _ _ _ _ _ _ _ bH.o.tl.sl bH.o.sl uX.o).mono ?_;rintro e w3 ⟨t0,tn,tc,rfl,hT,hB⟩;have bU:=hid (aA.cT hT.sl (bH.o.below hB));have HB3:=hid (Below.ar HB2.o hB);clear aF aG aJ aK aU aV bg bh ay az aB aC;clear bH HB2 hT hB;have aF:=bU.o.tl.tl.tl.box.c0;have aG:=bU.o.tl.tl.tl.box.c1;have aJ:=bU.o.tl.tl.tl.box.f0;have aK:=bU.o.tl.tl.tl.box.f1;have aU:=bU.o.tl.tl.tl.tl.box.c0;have aV:=bU.o.tl.tl.tl.tl.box.c1;have bg:=bU.o.tl.tl.tl.tl.box.f0;have bh:=bU.o.tl.tl.tl.tl.box.f1;have ay:=bU.o.tl.tl.tl.tl.tl.box.c0;have az:=bU.o.tl.tl.tl.tl.tl.box.c1;have aB:=bU.o.tl.tl.tl.tl.tl.box.f0;have aC:=bU.o.tl.tl.tl.tl.tl.box.f1;go_wp2_with fail;refine(eX _ _).mono ?_;rintro e w4 ⟨b,rfl,hb1,hb2,hbc,hB⟩;have mV:=hid (aA.kZ hb2 hbc (bU.o.below hB));have lx:=hid (Below.ar HB3.o hB);clear aF aG aJ aK aU aV bg bh ay az aB aC bU HB3 hb1 hbc hB;have aF:=mV.o.tl.tl.tl.tl.box.c0;have aG:=mV.o.tl.tl.tl.tl.box.c1;have aJ:=mV.o.tl.tl.tl.tl.box.f0;have aK:=mV.o.tl.tl.tl.tl.box.f1;have aU:=mV.o.tl.tl.tl.tl.tl.box.c0;have aV:=mV.o.tl.tl.tl.tl.tl.box.c1;have bg:=mV.o.tl.tl.tl.tl.tl.box.f0;have bh:=mV.o.tl.tl.tl.tl.tl.box.f1;have ay:=mV.o.tl.tl.tl.tl.tl.tl.box.c0;have az:=mV.o.tl.tl.tl.tl.tl.tl.box.c1;have aB:=mV.o.tl.tl.tl.tl.tl.tl.box.f0;have aC:=mV.o.tl.tl.tl.tl.tl.tl.box.f1;go_wp2_with fail;refine(fS _ _ _ _ _ _ _ mV.o.fn mV.o.tl.sl).mono ?_;rintro e w5 ⟨rm,r0,rn,rc,rfl,hX,hB⟩;have tV:=hid (mV.o.below hB);have oq:=hid (Below.ar lx.o hB);clear aF aG aJ aK aU aV bg bh ay az aB aC
 clear mV lx hB;have aF:=tV.o.tl.tl.tl.tl.box.c0;have aG:=tV.o.tl.tl.tl.tl.box.c1;have aJ:=tV.o.tl.tl.tl.tl.box.f0;have aK:=tV.o.tl.tl.tl.tl.box.f1;have aU:=tV.o.tl.tl.tl.tl.tl.box.c0;have aV:=tV.o.tl.tl.tl.tl.tl.box.c1;have bg:=tV.o.tl.tl.tl.tl.tl.box.f0;have bh:=tV.o.tl.tl.tl.tl.tl.box.f1;have ay:=tV.o.tl.tl.tl.tl.tl.tl.box.c0;have az:=tV.o.tl.tl.tl.tl.tl.tl.box.c1;have aB:=tV.o.tl.tl.tl.tl.tl.tl.box.f0;have aC:=tV.o.tl.tl.tl.tl.tl.tl.box.f1;go_wp2_with fail;refine bodyPost_ret (v:= .agg #[ai3 rm,ai2 r0 rn rc]) (by simp[results,Tryz.results78,go_sem,ay,az]) rfl ?_;exact⟨_,_,_,_,rfl,HZ.o▸hX.ew tV.o.tl.tl.tl.tl.tl.tl.box _ _,bj oq.o (by omega) _ _⟩
theorem mB [Ol] {m k:Bool} {ao bo:Z'} {n ae l cb:Nat} {x y:Int} {w:ah6} (hx:Nx w m ao n ae x) (hy:Nx w k bo l cb y):
  Calls Tryz.prog 78 #[.agg #[ai3 m,ai2 ao n ae],.agg #[ai3 k,ai2 bo l cb]] w (mA w (x+y)):=by
 by_cases hmk:k=m
 ·subst hmk;exact Ld hx hy
 ·obtain rfl:k= !m:=by cases m<;>cases k<;>simp at hmk ⊢
  by_cases h:y.natAbs<=x.natAbs
  ·exact Sa hx hy h
  ·exact Sb hx hy (by omega)
theorem Nx.neg {m:Bool} {ao:Z'} {n ae:Nat} {x:Int} {w:ah6} (h:Nx w m ao n ae x):Nx w (!m) ao n ae (-x):=by
 obtain⟨⟨xs,hs,hz⟩,hle⟩:=h;exact⟨⟨xs,hs,by rw[vC,hz]⟩,hle⟩
theorem CI [Ol] {m k:Bool} {ao bo:Z'} {n ae l cb:Nat} {x y:Int} {w:ah6} (hx:Nx w m ao n ae x) (hy:Nx w k bo l cb y):
  Calls Tryz.prog 87 #[.agg #[ai3 m,ai2 ao n ae],.agg #[ai3 k,ai2 bo l cb]] w (mA w (x-y)):=by
 go_enter Tryz.func87,Tryz.ntmps87;go_upto_region 1 with(fail)
 refine aj (λW hW=>?_);have HB0:Hid (ai1 w.heap.size w W):=by rw[hW];exact aN (aN (af _ _))
 have aO:bS W w.heap.size m ao n ae:=by rw[hW];exact((bS.cS _ _ _ _ _ _ _ (by simp)).below (af _ _)).below (af _ _)
 have bI:bS W (w.heap.size+1) k bo l cb:=by rw[hW];exact(bS.cS _ _ _ _ _ _ _ (by simp)).below (af _ _)
 have aR:bS W (w.heap.size+2) false none 0 0:=by rw[hW];exact bS.cS _ _ _ _ _ _ _ (by simp)
 have aw:=hid (aA.II (hx.below HB0.o) (aA.II ((hy.neg).below HB0.o) (aA.aD aO (aA.aD bI (aA.aD aR (aA.nil W))))));clear hW aO bI aR;have aF:=aw.o.tl.tl.box.c0;have aG:=aw.o.tl.tl.box.c1;have aJ:=aw.o.tl.tl.box.f0;have aK:=aw.o.tl.tl.box.f1;have aU:=aw.o.tl.tl.tl.box.c0;have aV:=aw.o.tl.tl.tl.box.c1;have bg:=aw.o.tl.tl.tl.box.f0;have bh:=aw.o.tl.tl.tl.box.f1;have ay:=aw.o.tl.tl.tl.tl.box.c0;have az:=aw.o.tl.tl.tl.tl.box.c1;have aB:=aw.o.tl.tl.tl.tl.box.f0;have aC:=aw.o.tl.tl.tl.tl.box.f1;go_wp2_with fail;refine(mB aw.o.num aw.o.tl.num).mono ?_;rintro e w1 ⟨rm,r0,rn,rc,rfl,hX,hB⟩;have aL:=hid (aw.o.below hB);have HB1:=hid (Below.ar HB0.o hB);clear aF aG aJ aK aU aV bg bh ay az aB aC aw HB0 hB;have aF:=aL.o.tl.tl.box.c0;have aG:=aL.o.tl.tl.box.c1;have aJ:=aL.o.tl.tl.box.f0;have aK:=aL.o.tl.tl.box.f1;have aU:=aL.o.tl.tl.tl.box.c0;have aV:=aL.o.tl.tl.tl.box.c1;have bg:=aL.o.tl.tl.tl.box.f0;have bh:=aL.o.tl.tl.tl.box.f1;have ay:=aL.o.tl.tl.tl.tl.box.c0;have az:=aL.o.tl.tl.tl.tl.box.c1;have aB:=aL.o.tl.tl.tl.tl.box.f0;have aC:=aL.o.tl.tl.tl.tl.box.f1;go_wp2_with fail;refine bodyPost_ret (v:= .agg #[ai3 rm,ai2 r0 rn rc]) (by simp[results,Tryz.results87,go_sem,ay,az]) rfl ?_;exact⟨_,_,_,_,rfl,(Int.sub_eq_add_neg (a:=x) (b:=y)).symm▸hX.ew aL.o.tl.tl.tl.tl.box _ _,bj HB1.o (by omega) _ _⟩
open Lib (hid)
theorem eF [Ol] {m k:Bool} {ao bo:Z'} {n ae l cb:Nat} {x y:Int} {w:ah6} (hx:Nx w m ao n ae x) (hy:Nx w k bo l cb y):
  Calls Tryz.prog 79 #[.agg #[ai3 m,ai2 ao n ae],.agg #[ai3 k,ai2 bo l cb]] w (mA w (x*y)):=by
 obtain⟨⟨xs,hs,hz⟩,hle⟩:=hx;obtain⟨⟨ys,ht,hz2⟩,hle2⟩:=hy;have HZ:Hid (cV (m !=k) (au xs*au ys)=x*y):=by rw[Hid,Bn,hz,hz2]
 clear hz hz2;go_enter Tryz.func79,Tryz.ntmps79;go_upto_region 1 with(fail)
 refine aj (λW hW=>?_);have HB0:Hid (ai1 w.heap.size w W):=by rw[hW];exact aN (aN (af _ _))
 have aO:bS W w.heap.size m ao n ae:=by rw[hW];exact((bS.cS _ _ _ _ _ _ _ (by simp)).below (af _ _)).below (af _ _)
 have bI:bS W (w.heap.size+1) k bo l cb:=by rw[hW];exact(bS.cS _ _ _ _ _ _ _ (by simp)).below (af _ _)
 have aR:bS W (w.heap.size+2) false none 0 0:=by rw[hW];exact bS.cS _ _ _ _ _ _ _ (by simp)
 have aw:=hid (aA.cT (hs.below HB0.o) (aA.cT (ht.below HB0.o) (aA.aD aO (aA.aD bI (aA.aD aR (aA.nil W))))));clear hW aO bI aR;have aF:=aw.o.tl.tl.box.c0;have aG:=aw.o.tl.tl.box.c1;have aJ:=aw.o.tl.tl.box.f0;have aK:=aw.o.tl.tl.box.f1;have aU:=aw.o.tl.tl.tl.box.c0;have aV:=aw.o.tl.tl.tl.box.c1;have bg:=aw.o.tl.tl.tl.box.f0;have bh:=aw.o.tl.tl.tl.box.f1;have ay:=aw.o.tl.tl.tl.tl.box.c0;have az:=aw.o.tl.tl.tl.tl.box.c1;have aB:=aw.o.tl.tl.tl.tl.box.f0;have aC:=aw.o.tl.tl.tl.tl.box.f1;have iW:=hid (aw.o.below ((Below.refl _ _).drew));have iX:=hid HB0.o.drew;clear aF aG aJ aK aU aV bg bh ay az aB aC aw HB0;have aw:=hid iW.o;have HB0:=hid iX.o;clear iW iX;have aF:=aw.o.tl.tl.box.c0;have aG:=aw.o.tl.tl.box.c1;have aJ:=aw.o.tl.tl.box.f0;have aK:=aw.o.tl.tl.box.f1;have aU:=aw.o.tl.tl.tl.box.c0;have aV:=aw.o.tl.tl.tl.box.c1;have bg:=aw.o.tl.tl.tl.box.f0;have bh:=aw.o.tl.tl.tl.box.f1;have ay:=aw.o.tl.tl.tl.tl.box.c0;have az:=aw.o.tl.tl.tl.tl.box.c1;have aB:=aw.o.tl.tl.tl.tl.box.f0;have aC:=aw.o.tl.tl.tl.tl.box.f1;have pz:True:=trivial;have Dv:=hid (ah5 aw.o.tl.tl.box.c0 (ah5 aw.o.tl.tl.box.c1 (ah5 aw.o.tl.tl.tl.box.c0 aw.o.tl.tl.tl.box.c1)))
 go_region_held3 (λw'=>w'.cell? ⟨w.heap.size,0,none⟩=some (ai3 m)/\ w'.cell? ⟨w.heap.size,1,none⟩=some (ai2 ao n ae)/\ w'.cell? ⟨w.heap.size+1,0,none⟩=some (ai3 k)/\ w'.cell? ⟨w.heap.size+1,1,none⟩=some (ai2 bo l cb))
  (first|exact Dw.o|exact Dx.o|exact Dy.o|exact Dv.o|exact(ah5 ((bT (λe=>by have e2:w.heap.size=w.heap.size+2:=e;omega) _ _).trans aF) (ah5 ((bT (λe=>by have e2:w.heap.size=w.heap.size+2:=e;omega) _ _).trans aG) (ah5 ((bT (λe=>by have e2:w.heap.size+1=w.heap.size+2:=e;omega) _ _).trans aU) ((bT (λe=>by have e2:w.heap.size+1=w.heap.size+2:=e;omega) _ _).trans aV))))|go_keep)
  (first
   |(have _t:=pz;clear _t pz;go_at_call 129;go_must (with_reducible refine(eX _ _).mono ?_);rintro e w1 ⟨Rz,rfl,hb1,hb2,hbc,hB⟩;have aL:=hid (aA.kZ hb2 hbc (aw.o.below hB));have HB1:=hid (Below.ar HB0.o hB);clear aF aG aJ aK aU aV bg bh ay az aB aC aw HB0 hb1 hbc hB;have aF:=aL.o.tl.tl.tl.box.c0;have aG:=aL.o.tl.tl.tl.box.c1;have aJ:=aL.o.tl.tl.tl.box.f0;have aK:=aL.o.tl.tl.tl.box.f1;have aU:=aL.o.tl.tl.tl.tl.box.c0;have aV:=aL.o.tl.tl.tl.tl.box.c1;have bg:=aL.o.tl.tl.tl.tl.box.f0;have bh:=aL.o.tl.tl.tl.tl.box.f1;have ay:=aL.o.tl.tl.tl.tl.tl.box.c0;have az:=aL.o.tl.tl.tl.tl.tl.box.c1;have aB:=aL.o.tl.tl.tl.tl.tl.box.f0;have aC:=aL.o.tl.tl.tl.tl.tl.box.f1;have Dy:=hid (ah5 aL.o.tl.tl.tl.box.c0 (ah5 aL.o.tl.tl.tl.box.c1 (ah5 aL.o.tl.tl.tl.tl.box.c0 aL.o.tl.tl.tl.tl.box.c1)));have pA:True:=trivial)
   |(have _t:=pA;clear _t pA;go_at_call 133;go_must (with_reducible refine(ql _ _ _ _ _ _ _ _ _ aL.o.tl.sl aL.o.tl.tl.sl (by omega) (by omega)).mono ?_);rintro e w2 ⟨t0,tn,tc,rfl,hT,hB⟩;have bH:=hid (aA.cT hT.sl (aL.o.below hB));have HB2:=hid (Below.ar HB1.o hB);clear aF aG aJ aK aU aV bg bh ay az aB aC aL HB1 hT hB;have aF:=bH.o.tl.tl.tl.tl.box.c0;have aG:=bH.o.tl.tl.tl.tl.box.c1;have aJ:=bH.o.tl.tl.tl.tl.box.f0;have aK:=bH.o.tl.tl.tl.tl.box.f1;have aU:=bH.o.tl.tl.tl.tl.tl.box.c0;have aV:=bH.o.tl.tl.tl.tl.tl.box.c1;have bg:=bH.o.tl.tl.tl.tl.tl.box.f0;have bh:=bH.o.tl.tl.tl.tl.tl.box.f1;have ay:=bH.o.tl.tl.tl.tl.tl.tl.box.c0;have az:=bH.o.tl.tl.tl.tl.tl.tl.box.c1;have aB:=bH.o.tl.tl.tl.tl.tl.tl.box.f0;have aC:=bH.o.tl.tl.tl.tl.tl.tl.box.f1;have Dx:=hid (ah5 bH.o.tl.tl.tl.tl.box.c0 (ah5 bH.o.tl.tl.tl.tl.box.c1 (ah5 bH.o.tl.tl.tl.tl.tl.box.c0 bH.o.tl.tl.tl.tl.tl.box.c1)));have pB:True:=trivial)
   |(have _t:=pB;clear _t pB;go_at_call 178;go_must (with_reducible refine(fS _ _ _ _ _ _ _ bH.o.tl.fn bH.o.sl).mono ?_);rintro e w3 ⟨rm,r0,rn,rc,rfl,hX,hB⟩;have bU:=hid (bH.o.below hB);have HB3:=hid (Below.ar HB2.o hB);clear aF aG aJ aK aU aV bg bh ay az aB aC bH HB2 hB;have aF:=bU.o.tl.tl.tl.tl.box.c0;have aG:=bU.o.tl.tl.tl.tl.box.c1;have aJ:=bU.o.tl.tl.tl.tl.box.f0;have aK:=bU.o.tl.tl.tl.tl.box.f1;have aU:=bU.o.tl.tl.tl.tl.tl.box.c0;have aV:=bU.o.tl.tl.tl.tl.tl.box.c1;have bg:=bU.o.tl.tl.tl.tl.tl.box.f0;have bh:=bU.o.tl.tl.tl.tl.tl.box.f1;have ay:=bU.o.tl.tl.tl.tl.tl.tl.box.c0;have az:=bU.o.tl.tl.tl.tl.tl.tl.box.c1;have aB:=bU.o.tl.tl.tl.tl.tl.tl.box.f0;have aC:=bU.o.tl.tl.tl.tl.tl.tl.box.f1;have Dw:=hid (ah5 bU.o.tl.tl.tl.tl.box.c0 (ah5 bU.o.tl.tl.tl.tl.box.c1 (ah5 bU.o.tl.tl.tl.tl.tl.box.c0 bU.o.tl.tl.tl.tl.tl.box.c1)));have NV:True:=trivial))
 clear Dv Dy Dx Dw;go_wp2_with fail;refine bodyPost_ret (v:= .agg #[ai3 rm,ai2 r0 rn rc]) (by simp[results,Tryz.results79,go_sem,ay,az]) rfl ?_;exact⟨_,_,_,_,rfl,HZ.o▸hX.ew bU.o.tl.tl.tl.tl.tl.tl.box _ _,bj HB3.o (by omega) _ _⟩
theorem VB [Ol] {m:Bool} {ao:Z'} {ae:Nat} {xs:List Nat} {w:ah6} (r:Bool) (hs:Sl w ao 0 ae xs) (h:tO m 0 xs=r):
  Calls Tryz.prog 88 #[.agg #[ai3 m,ai2 ao 0 ae]] w (cr (ai3 r) w):=by
 have hbig:=hs.big;obtain rfl:r= !m:=by rw[<-h];unfold tO;rw[if_pos rfl]
 go_enter Tryz.func88,Tryz.ntmps88;go_upto_region 1 with(fail)
 refine aj (λW hW=>?_);have HB0:Hid (ai1 w.heap.size w W):=by rw[hW];exact af _ _
 have aO:bS W w.heap.size m ao 0 ae:=by rw[hW];exact bS.cS _ _ _ _ _ _ _ (by simp)
 have aw:=Lib.hid (aA.aD aO (aA.nil W));clear hW aO;have aF:=aw.o.box.c0;have aG:=aw.o.box.c1;have aJ:=aw.o.box.f0;have aK:=aw.o.box.f1;go_wp2_with fail;go_ret;exact⟨rfl,HB0.o⟩
theorem VC [Ol] {m:Bool} {ao:Z'} {n ae:Nat} {xs:List Nat} {w:ah6} (r:Bool) (hs:Sl w ao n ae xs) (h:tO m n xs=r) (h0:0<n):
  Calls Tryz.prog 88 #[.agg #[ai3 m,ai2 ao n ae]] w (cr (ai3 r) w):=by
 have hbig:=hs.big;obtain⟨b,off,rfl,hbb,hcell⟩:=hs.at (by omega);obtain⟨j,rfl⟩:∃j,n=j+1:=⟨n-1,by omega⟩;have hc:=hcell j (by omega);obtain⟨u,hu⟩:∃u,u=xs.getD j 0:=⟨_,rfl⟩;rw[<-hu]at hc
 have hr:(((u:Nat):Int) !=0)=r:=by
  rw[<-h];unfold tO;rw[if_neg (by omega),Nat.add_sub_cancel,<-hu];rw[Bool.eq_iff_iff];simp
 have hz:((((j+1:Nat)):Int)==0)=false:=by simp;omega
 have ej:(((j+1:Nat)):Int)-1=(j:Int):=by omega
 clear hcell hu h;go_enter Tryz.func88,Tryz.ntmps88;go_upto_region 1 with(fail)
 refine aj (λW hW=>?_);have HB0:Hid (ai1 w.heap.size w W):=by rw[hW];exact af _ _
 have aO:bS W w.heap.size m (some ⟨b,off,none⟩) (j+1) ae:=by rw[hW];exact bS.cS _ _ _ _ _ _ _ (by simp)
 have aw:=Lib.hid (aA.aD aO (aA.nil W));clear hW aO;have aF:=aw.o.box.c0;have aG:=aw.o.box.c1;have aJ:=aw.o.box.f0;have aK:=aw.o.box.f1;have hcW:W.cell? ⟨b,off+j,none⟩=some (.int .u32 ((u:Nat):Int)):=(HB0.o.cell (by exact hbb)).trans hc;go_wp2_with fail;go_ret;exact⟨rfl,HB0.o⟩
theorem IC [Ol] {m:Bool} {ao:Z'} {n ae:Nat} {xs:List Nat} {w:ah6} (r:Bool) (hs:Sl w ao n ae xs) (h:tO m n xs=r):
  Calls Tryz.prog 88 #[.agg #[ai3 m,ai2 ao n ae]] w (cr (ai3 r) w):=by
 rcases Nat.eq_zero_or_pos n with h0|h0
 ·subst h0;exact VB r hs h
 ·exact VC r hs h h0
end Go.Proofs.YtmenbpmciblnlaaGreatDoor
