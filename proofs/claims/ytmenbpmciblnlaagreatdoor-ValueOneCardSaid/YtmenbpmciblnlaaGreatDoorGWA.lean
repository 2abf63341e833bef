/- WSign, WOfI, WAdd, WMul, WMay, WCmp -/
import Derived.Test.YtmenbpmciblnlaaGreatDoorGWInt
import Derived.Deep.Cut
import Derived.Test.YtmenbpmciblnlaaGreatDoorGTimes
set_option maxHeartbeats 40000000
set_option maxRecDepth 100000
namespace Go.Proofs.YtmenbpmciblnlaaGreatDoor
open Lib (hid)
open Go.RowKit
def ab4 (w:World) (neg:Bool) (e:Ending) (w':World):Prop:=
 ∃b,e= .returned (.func (.func 178) #[] #[.pointer (some ⟨b,0,none⟩)])/\ w.heap.size<=b/\ b<w'.heap.size/\ w'.cell? ⟨b,0,none⟩=some (.bool neg)/\ Below w.heap.size w w'
theorem gu (neg:Bool) (w:World):Calls Tryz.prog 129 #[.bool neg] w (ab4 w neg):=by
 have ZJ:∀(fn:Fn) (first cap:Array Value) (w:World),(Instr.makeFunc fn first cap).run Tryz.prog w= .ok (.func fn first cap) w:=fun _ _ _ _=>rfl
 go_enter Tryz.func129,Tryz.ntmps129;go_wp2_with fail;go_ret;exact⟨_,rfl,Nat.le_refl _,by simp,by simp[go_sem],af _ _⟩
theorem iy (neg:Bool) (b:Nat) (ao:Option Addr) (n cap v:Nat) (w:World) (hb:w.cell? ⟨b,0,none⟩=some (.bool neg)) (ha:Sl w ao n cap (limbs v)):
  Calls Tryz.prog 178 #[.slice ao n cap,.pointer (some ⟨b,0,none⟩)] w (pW w (dM neg v)):=by
 have hbig:=ha.big;have hlt:b<w.heap.size:=by simpa using World.block_lt_of_cell? w _ hb
 have HA:=hid ha;clear ha;cases neg
 ·go_enter Tryz.func178,Tryz.ntmps178;go_wp2_with fail;refine bodyPost_ret (v:= .agg #[.bool false,.slice ao n cap]) (by simp[results,Tryz.results178,go_sem]) rfl ?_;exact⟨_,_,_,_,rfl,Cn.of (HA.out.alloc _) rfl,af _ _⟩
 ·go_enter Tryz.func178,Tryz.ntmps178;go_wp2_with fail;refine bodyPost_ret (v:= .agg #[.bool (decide (0<n)),.slice ao n cap]) (by simp[results,Tryz.results178,go_sem]) rfl ?_;exact⟨_,_,_,_,rfl,Cn.of (HA.out.alloc _) (by simp),af _ _⟩
theorem DY [Ol] {m:Bool} {ao:Option Addr} {n cap:Nat} {x:Int} {w:World} (hx:Nx w m ao n cap x):
  Calls Tryz.prog 113 #[.agg #[.bool m,.slice ao n cap]] w (pW w (-x)):=by
 obtain⟨⟨xs,hs,hz⟩,hle⟩:=hx;have HZ:Hid (dM (!m) (val xs)= -x):=by rw[Hid,xQ,hz]
 clear hz;go_enter Tryz.func113,Tryz.ntmps113;go_upto_region 1 with(fail)
 refine aj (fun W hW=>?_);have HB0:Hid (Below w.heap.size w W):=by rw[hW];exact aM (af _ _)
 have aN:bJ W (w.heap.size) m ao n cap:=by rw[hW];exact(bJ.new _ _ _ _ _ _ _ (by simp)).below (af _ _)
 have aQ:bJ W (w.heap.size+1) false none 0 0:=by rw[hW];exact bJ.new _ _ _ _ _ _ _ (by simp)
 have av:=hid (Live.dK (hs.below HB0.out) (Live.aC aN (Live.aC aQ (Live.nil W))));clear hW aN aQ;have aD:=av.out.tl.box.c0;have aF:=av.out.tl.box.c1;have aJ:=av.out.tl.box.f0;have aK:=av.out.tl.box.f1;have ax:=av.out.tl.tl.box.c0;have ay:=av.out.tl.tl.box.c1;have aA:=av.out.tl.tl.box.f0;have aB:=av.out.tl.tl.box.f1;have jO:=hid (av.out.below ((Below.refl _ _).drew));have jP:=hid HB0.out.drew;clear aD aF aJ aK ax ay aA aB;clear av HB0;have av:=hid jO.out;have HB0:=hid jP.out;clear jO jP;have aD:=av.out.tl.box.c0;have aF:=av.out.tl.box.c1;have aJ:=av.out.tl.box.f0;have aK:=av.out.tl.box.f1;have ax:=av.out.tl.tl.box.c0;have ay:=av.out.tl.tl.box.c1;have aA:=av.out.tl.tl.box.f0;have aB:=av.out.tl.tl.box.f1;have qG:True:=trivial;have Fh:=hid (And.intro av.out.tl.box.c0 (av.out.tl.box.c1))
 go_region_held3 (fun w'=>w'.cell? ⟨w.heap.size,0,none⟩=some (.bool m)/\ w'.cell? ⟨w.heap.size,1,none⟩=some (.slice ao n cap))
  (first|exact Fj.out|exact Fp.out|exact Fq.out|exact Fh.out|exact(And.intro ((bT (fun e=>by have e2:w.heap.size=w.heap.size+1:=e;omega) _ _).trans aD) ((bT (fun e=>by have e2:w.heap.size=w.heap.size+1:=e;omega) _ _).trans aF))|go_keep)
  (first
   |(have _t:=qG;clear _t qG;go_at_call 129;go_must (with_reducible refine(gu _ _).mono ?_);rintro e w1 ⟨b,rfl,hb1,hb2,hbc,hB⟩;have aL:=hid (Live.mE hb2 hbc (av.out.below hB));have HB1:=hid (Below.steps HB0.out hB);clear aD aF aJ aK ax ay aA aB;clear av HB0 hb1 hbc hB;have aD:=aL.out.tl.tl.box.c0;have aF:=aL.out.tl.tl.box.c1;have aJ:=aL.out.tl.tl.box.f0;have aK:=aL.out.tl.tl.box.f1;have ax:=aL.out.tl.tl.tl.box.c0;have ay:=aL.out.tl.tl.tl.box.c1;have aA:=aL.out.tl.tl.tl.box.f0;have aB:=aL.out.tl.tl.tl.box.f1;have Fq:=hid (And.intro aL.out.tl.tl.box.c0 (aL.out.tl.tl.box.c1));have qH:True:=trivial)
   |(have _t:=qH;clear _t qH;go_at_call 169;go_must (with_reducible refine(zF _ _ _ _ _ aL.out.tl.sl).mono ?_);rintro e w2 ⟨t0,tn,tc,rfl,hT,hB⟩;have bI:=hid (Live.dK hT.sl (aL.out.below hB));have HB2:=hid (Below.steps HB1.out hB);clear aD aF aJ aK ax ay aA aB;clear aL HB1 hT hB;have aD:=bI.out.tl.tl.tl.box.c0;have aF:=bI.out.tl.tl.tl.box.c1;have aJ:=bI.out.tl.tl.tl.box.f0;have aK:=bI.out.tl.tl.tl.box.f1;have ax:=bI.out.tl.tl.tl.tl.box.c0;have ay:=bI.out.tl.tl.tl.tl.box.c1;have aA:=bI.out.tl.tl.tl.tl.box.f0;have aB:=bI.out.tl.tl.tl.tl.box.f1;have Fp:=hid (And.intro bI.out.tl.tl.tl.box.c0 (bI.out.tl.tl.tl.box.c1));have qI:True:=trivial)
   |(have _t:=qI;clear _t qI;go_at_call 178;go_must (with_reducible refine(iy _ _ _ _ _ _ _ bI.out.tl.fn bI.out.sl).mono ?_);rintro e w3 ⟨rm,r0,rn,rc,rfl,hX,hB⟩;have bV:=hid (bI.out.below hB);have HB3:=hid (Below.steps HB2.out hB);clear aD aF aJ aK ax ay aA aB;clear bI HB2 hB;have aD:=bV.out.tl.tl.tl.box.c0;have aF:=bV.out.tl.tl.tl.box.c1;have aJ:=bV.out.tl.tl.tl.box.f0;have aK:=bV.out.tl.tl.tl.box.f1;have ax:=bV.out.tl.tl.tl.tl.box.c0;have ay:=bV.out.tl.tl.tl.tl.box.c1;have aA:=bV.out.tl.tl.tl.tl.box.f0;have aB:=bV.out.tl.tl.tl.tl.box.f1;have Fj:=hid (And.intro bV.out.tl.tl.tl.box.c0 (bV.out.tl.tl.tl.box.c1));have OU:True:=trivial))
 clear Fh Fq Fp Fj;go_wp2_with fail;refine bodyPost_ret (v:= .agg #[.bool rm,.slice r0 rn rc]) (by simp[results,Tryz.results113,go_sem,ax,ay]) rfl ?_;exact⟨_,_,_,_,rfl,HZ.out▸hX.set2 bV.out.tl.tl.tl.tl.box _ _,aT HB3.out (by omega) _ _⟩
theorem Sj [Ol] {m:Bool} {ao:Option Addr} {n cap:Nat} {x:Int} {w:World} (hx:Nx w m ao n cap x) (h0:x=0):
  Calls Tryz.prog 89 #[.agg #[.bool m,.slice ao n cap]] w (dI (.int .i64 0) w):=by
 obtain⟨⟨xs,hs,hz⟩,hle⟩:=hx;have HV:Hid (val xs=0):=by rw[Hid,<-gM m (val xs),hz,h0];rfl
 clear h0 hz;go_enter Tryz.func89,Tryz.ntmps89;go_upto_region 1 with(fail)
 refine aj (fun W hW=>?_);have HB0:Hid (Below w.heap.size w W):=by rw[hW];exact af _ _
 have aN:bJ W (w.heap.size) m ao n cap:=by rw[hW];exact bJ.new _ _ _ _ _ _ _ (by simp)
 have av:=hid (Live.dK (hs.below HB0.out) (Live.aC aN (Live.nil W)));clear hW aN;have aD:=av.out.tl.box.c0;have aF:=av.out.tl.box.c1;have aJ:=av.out.tl.box.f0;have aK:=av.out.tl.box.f1;go_wp2_with fail;refine(gX 0 _ _ _ _ _ av.out.sl (by rw[HV.out];rfl)).mono ?_;rintro e w' ⟨rfl,rfl⟩;go_wp2_with fail;go_ret;exact⟨rfl,HB0.out⟩
theorem Sk [Ol] {m:Bool} {ao:Option Addr} {n cap:Nat} {x:Int} {w:World} (hx:Nx w m ao n cap x) (h0:x<0):
  Calls Tryz.prog 89 #[.agg #[.bool m,.slice ao n cap]] w (dI (.int .i64 (-1)) w):=by
 obtain⟨⟨xs,hs,hz⟩,hle⟩:=hx;have hv:val xs≠0:=fun h=>by rw[h,FE]at hz;omega
 obtain⟨k,hk⟩:∃k,k=nbits (val xs):=⟨_,rfl⟩
 have hq:(((k:Nat):Int)==0)=false:=by
  have:k≠0:=by rw[hk];exact fun e=>hv (kE.1 e)
  simp;omega
 have HV:=hid hk.symm
 obtain rfl:m=true:=by
  cases m
  ·unfold dM at hz;simp at hz;omega
  ·rfl
 clear h0 hz hv hk;go_enter Tryz.func89,Tryz.ntmps89;go_upto_region 1 with(fail)
 refine aj (fun W hW=>?_);have HB0:Hid (Below w.heap.size w W):=by rw[hW];exact af _ _
 have aN:bJ W (w.heap.size) true ao n cap:=by rw[hW];exact bJ.new _ _ _ _ _ _ _ (by simp)
 have av:=hid (Live.dK (hs.below HB0.out) (Live.aC aN (Live.nil W)));clear hW aN;have aD:=av.out.tl.box.c0;have aF:=av.out.tl.box.c1;have aJ:=av.out.tl.box.f0;have aK:=av.out.tl.box.f1;go_wp2_with fail;refine(gX k _ _ _ _ _ av.out.sl HV.out).mono ?_;rintro e w' ⟨rfl,rfl⟩;go_wp2_with fail;go_ret;exact⟨rfl,HB0.out⟩
theorem Sn [Ol] {m:Bool} {ao:Option Addr} {n cap:Nat} {x:Int} {w:World} (hx:Nx w m ao n cap x) (h0:0<x):
  Calls Tryz.prog 89 #[.agg #[.bool m,.slice ao n cap]] w (dI (.int .i64 1) w):=by
 obtain⟨⟨xs,hs,hz⟩,hle⟩:=hx;have hv:val xs≠0:=fun h=>by rw[h,FE]at hz;omega
 obtain⟨k,hk⟩:∃k,k=nbits (val xs):=⟨_,rfl⟩
 have hq:(((k:Nat):Int)==0)=false:=by
  have:k≠0:=by rw[hk];exact fun e=>hv (kE.1 e)
  simp;omega
 have HV:=hid hk.symm
 obtain rfl:m=false:=by
  cases m
  ·rfl
  ·unfold dM at hz;simp at hz;omega
 clear h0 hz hv hk;go_enter Tryz.func89,Tryz.ntmps89;go_upto_region 1 with(fail)
 refine aj (fun W hW=>?_);have HB0:Hid (Below w.heap.size w W):=by rw[hW];exact af _ _
 have aN:bJ W (w.heap.size) false ao n cap:=by rw[hW];exact bJ.new _ _ _ _ _ _ _ (by simp)
 have av:=hid (Live.dK (hs.below HB0.out) (Live.aC aN (Live.nil W)));clear hW aN;have aD:=av.out.tl.box.c0;have aF:=av.out.tl.box.c1;have aJ:=av.out.tl.box.f0;have aK:=av.out.tl.box.f1;go_wp2_with fail;refine(gX k _ _ _ _ _ av.out.sl HV.out).mono ?_;rintro e w' ⟨rfl,rfl⟩;go_wp2_with fail;go_ret;exact⟨rfl,HB0.out⟩
theorem qw [Ol] (s:Int) {m:Bool} {ao:Option Addr} {n cap:Nat} {x:Int} {w:World} (hx:Nx w m ao n cap x) (h:x.sign=s):
  Calls Tryz.prog 89 #[.agg #[.bool m,.slice ao n cap]] w (dI (.int .i64 s) w):=by
 rcases Int.lt_trichotomy x 0 with h0|h0|h0
 ·rw[Int.sign_eq_neg_one_of_neg h0]at h;rw[<-h];exact Sk hx h0
 ·rw[h0,Int.sign_zero]at h;rw[<-h];exact Sj hx h0
 ·rw[Int.sign_eq_one_of_pos h0]at h;rw[<-h];exact Sn hx h0
open Lib (hid)
theorem YH [Ol] (a:Nat) (w:World) (h:a<=9223372036854775807):
  Calls Tryz.prog 84 #[.int .i64 ((a:Int))] w (pW w (dM false a)):=by
 go_enter Tryz.func84,Tryz.ntmps84;go_upto_region 1 with(fail)
 refine aj (fun W hW=>?_);have HB0:Hid (Below w.heap.size w W):=by rw[hW];exact af _ _
 have aQ:bJ W (w.heap.size) false none 0 0:=by rw[hW];exact bJ.new _ _ _ _ _ _ _ (by simp)
 have av:=hid (Live.aC aQ (Live.nil W));clear hW aQ;have ax:=av.out.box.c0;have ay:=av.out.box.c1;have aA:=av.out.box.f0;have aB:=av.out.box.f1;go_wp2_with fail;refine(gu _ _).mono ?_;rintro e w1 ⟨b,rfl,hb1,hb2,hbc,hB⟩;have aL:=hid (Live.mE hb2 hbc (av.out.below hB));have HB1:=hid (Below.steps HB0.out hB);clear ax ay aA aB;clear av HB0 hb1 hbc hB;have ax:=aL.out.tl.box.c0;have ay:=aL.out.tl.box.c1;have aA:=aL.out.tl.box.f0;have aB:=aL.out.tl.box.f1;go_wp2_with fail;refine(jG a _ (by omega)).mono ?_;rintro e w2 ⟨t0,tn,tc,rfl,hT,hB⟩;have bI:=hid (Live.dK hT.sl (aL.out.below hB));have HB2:=hid (Below.steps HB1.out hB);clear ax ay aA aB;clear aL HB1 hT hB;have ax:=bI.out.tl.tl.box.c0;have ay:=bI.out.tl.tl.box.c1;have aA:=bI.out.tl.tl.box.f0;have aB:=bI.out.tl.tl.box.f1;go_wp2_with fail;refine(iy _ _ _ _ _ _ _ bI.out.tl.fn bI.out.sl).mono ?_;rintro e w3 ⟨rm,r0,rn,rc,rfl,hX,hB⟩;have bV:=hid (bI.out.below hB);have HB3:=hid (Below.steps HB2.out hB);clear ax ay aA aB;clear bI HB2 hB;have ax:=bV.out.tl.tl.box.c0;have ay:=bV.out.tl.tl.box.c1;have aA:=bV.out.tl.tl.box.f0;have aB:=bV.out.tl.tl.box.f1;go_wp2_with fail;refine bodyPost_ret (v:= .agg #[.bool rm,.slice r0 rn rc]) (by simp[results,Tryz.results84,go_sem,ax,ay]) rfl ?_;exact⟨_,_,_,_,rfl,hX.set2 bV.out.tl.tl.box _ _,aT HB3.out (by omega) _ _⟩
theorem YI [Ol] (a:Nat) (w:World) (h:0<a/\ a<=9223372036854775808):
  Calls Tryz.prog 84 #[.int .i64 (-(a:Int))] w (pW w (dM true a)):=by
 have e1:IntKind.u64.wrap (-((a:Nat):Int))=18446744073709551616-((a:Nat):Int):=by unfold IntKind.wrap;simp[IntKind.signed,IntKind.bits];omega
 have e2:IntKind.u64.wrap (-(18446744073709551616-((a:Nat):Int)))=((a:Nat):Int):=by unfold IntKind.wrap;simp[IntKind.signed,IntKind.bits];omega
 have d1:decide (-((a:Nat):Int)<0)=true:=by simp;omega
 have d2:(0:Int)<((a:Nat):Int):=by omega
 go_enter Tryz.func84,Tryz.ntmps84;go_upto_region 1 with(fail)
 refine aj (fun W hW=>?_);have HB0:Hid (Below w.heap.size w W):=by rw[hW];exact af _ _
 have aQ:bJ W (w.heap.size) false none 0 0:=by rw[hW];exact bJ.new _ _ _ _ _ _ _ (by simp)
 have av:=hid (Live.aC aQ (Live.nil W));clear hW aQ;have ax:=av.out.box.c0;have ay:=av.out.box.c1;have aA:=av.out.box.f0;have aB:=av.out.box.f1;go_wp2_with fail;refine(gu _ _).mono ?_;rintro e w1 ⟨b,rfl,hb1,hb2,hbc,hB⟩;have aL:=hid (Live.mE hb2 hbc (av.out.below hB));have HB1:=hid (Below.steps HB0.out hB);clear ax ay aA aB;clear av HB0 hb1 hbc hB;have ax:=aL.out.tl.box.c0;have ay:=aL.out.tl.box.c1;have aA:=aL.out.tl.box.f0;have aB:=aL.out.tl.box.f1;go_wp2_with fail;refine(jG a _ (by omega)).mono ?_;rintro e w2 ⟨t0,tn,tc,rfl,hT,hB⟩;have bI:=hid (Live.dK hT.sl (aL.out.below hB));have HB2:=hid (Below.steps HB1.out hB);clear ax ay aA aB;clear aL HB1 hT hB;have ax:=bI.out.tl.tl.box.c0;have ay:=bI.out.tl.tl.box.c1;have aA:=bI.out.tl.tl.box.f0;have aB:=bI.out.tl.tl.box.f1;go_wp2_with fail;refine(iy _ _ _ _ _ _ _ bI.out.tl.fn bI.out.sl).mono ?_;rintro e w3 ⟨rm,r0,rn,rc,rfl,hX,hB⟩;have bV:=hid (bI.out.below hB);have HB3:=hid (Below.steps HB2.out hB);clear ax ay aA aB;clear bI HB2 hB;have ax:=bV.out.tl.tl.box.c0;have ay:=bV.out.tl.tl.box.c1;have aA:=bV.out.tl.tl.box.f0;have aB:=bV.out.tl.tl.box.f1;go_wp2_with fail;refine bodyPost_ret (v:= .agg #[.bool rm,.slice r0 rn rc]) (by simp[results,Tryz.results84,go_sem,ax,ay]) rfl ?_;exact⟨_,_,_,_,rfl,hX.set2 bV.out.tl.tl.box _ _,aT HB3.out (by omega) _ _⟩
theorem uf [Ol] (n:Int) (w:World) (h: -9223372036854775808<=n/\ n<=9223372036854775807):
  Calls Tryz.prog 84 #[.int .i64 n] w (pW w n):=by
 by_cases h0:n<0
 ·obtain⟨a,rfl⟩:∃a:Nat,n= -(a:Int):=⟨n.natAbs,by omega⟩;exact YI a w (by omega)
 ·obtain⟨a,rfl⟩:=Int.eq_ofNat_of_zero_le (Int.not_lt.1 h0);exact YH a w (by omega)
open Lib (hid)
theorem LK [Ol] {m:Bool} {ao bo:Option Addr} {n cap l cb:Nat} {x y:Int} {w:World} (hx:Nx w m ao n cap x) (hy:Nx w m bo l cb y):
  Calls Tryz.prog 78 #[.agg #[.bool m,.slice ao n cap],.agg #[.bool m,.slice bo l cb]] w (pW w (x+y)):=by
 obtain⟨⟨xs,hs,hz⟩,hle⟩:=hx;obtain⟨⟨ys,ht,hz2⟩,hle2⟩:=hy;have HZ:Hid (dM m (val xs+val ys)=x+y):=by rw[Hid,Sg,hz,hz2]
 clear hz hz2;go_enter Tryz.func78,Tryz.ntmps78;go_upto_region 1 with(fail)
 refine aj (fun W hW=>?_);have HB0:Hid (Below w.heap.size w W):=by rw[hW];exact aM (aM (af _ _))
 have aN:bJ W (w.heap.size) m ao n cap:=by rw[hW];exact((bJ.new _ _ _ _ _ _ _ (by simp)).below (af _ _)).below (af _ _)
 have bH:bJ W (w.heap.size+1) m bo l cb:=by rw[hW];exact(bJ.new _ _ _ _ _ _ _ (by simp)).below (af _ _)
 have aQ:bJ W (w.heap.size+2) false none 0 0:=by rw[hW];exact bJ.new _ _ _ _ _ _ _ (by simp)
 have av:=hid (Live.dK (hs.below HB0.out) (Live.dK (ht.below HB0.out) (Live.aC aN (Live.aC bH (Live.aC aQ (Live.nil W))))));clear hW aN bH aQ;have aD:=av.out.tl.tl.box.c0;have aF:=av.out.tl.tl.box.c1;have aJ:=av.out.tl.tl.box.f0;have aK:=av.out.tl.tl.box.f1;have aR:=av.out.tl.tl.tl.box.c0;have aS:=av.out.tl.tl.tl.box.c1;have aV:=av.out.tl.tl.tl.box.f0;have aW:=av.out.tl.tl.tl.box.f1;have ax:=av.out.tl.tl.tl.tl.box.c0;have ay:=av.out.tl.tl.tl.tl.box.c1;have aA:=av.out.tl.tl.tl.tl.box.f0;have aB:=av.out.tl.tl.tl.tl.box.f1;go_wp2_with fail;have jO:=hid (av.out.below ((Below.refl _ _).drew));have jP:=hid HB0.out.drew;clear aD aF aJ aK aR aS aV aW ax ay aA aB;clear av HB0;have av:=hid jO.out;have HB0:=hid jP.out;clear jO jP;have aD:=av.out.tl.tl.box.c0;have aF:=av.out.tl.tl.box.c1;have aJ:=av.out.tl.tl.box.f0;have aK:=av.out.tl.tl.box.f1;have aR:=av.out.tl.tl.tl.box.c0;have aS:=av.out.tl.tl.tl.box.c1;have aV:=av.out.tl.tl.tl.box.f0;have aW:=av.out.tl.tl.tl.box.f1;have ax:=av.out.tl.tl.tl.tl.box.c0;have ay:=av.out.tl.tl.tl.tl.box.c1;have aA:=av.out.tl.tl.tl.tl.box.f0;have aB:=av.out.tl.tl.tl.tl.box.f1;have qG:True:=trivial;have Fh:=hid (And.intro av.out.tl.tl.box.c0 (And.intro av.out.tl.tl.box.c1 (And.intro av.out.tl.tl.tl.box.c0 (av.out.tl.tl.tl.box.c1))))
 go_region_held3 (fun w'=>w'.cell? ⟨w.heap.size,0,none⟩=some (.bool m)/\ w'.cell? ⟨w.heap.size,1,none⟩=some (.slice ao n cap)/\ w'.cell? ⟨w.heap.size+1,0,none⟩=some (.bool m)/\ w'.cell? ⟨w.heap.size+1,1,none⟩=some (.slice bo l cb))
  (first|exact Fj.out|exact Fp.out|exact Fq.out|exact Fh.out|exact(And.intro ((bT (fun e=>by have e2:w.heap.size=w.heap.size+2:=e;omega) _ _).trans aD) (And.intro ((bT (fun e=>by have e2:w.heap.size=w.heap.size+2:=e;omega) _ _).trans aF) (And.intro ((bT (fun e=>by have e2:w.heap.size+1=w.heap.size+2:=e;omega) _ _).trans aR) ((bT (fun e=>by have e2:w.heap.size+1=w.heap.size+2:=e;omega) _ _).trans aS))))|go_keep)
  (first
   |(have _t:=qG;clear _t qG;go_at_call 129;go_must (with_reducible refine(gu _ _).mono ?_);rintro e w1 ⟨RV,rfl,hb1,hb2,hbc,hB⟩;have aL:=hid (Live.mE hb2 hbc (av.out.below hB));have HB1:=hid (Below.steps HB0.out hB);clear aD aF aJ aK aR aS aV aW ax ay aA aB;clear av HB0 hb1 hbc hB;have aD:=aL.out.tl.tl.tl.box.c0;have aF:=aL.out.tl.tl.tl.box.c1;have aJ:=aL.out.tl.tl.tl.box.f0;have aK:=aL.out.tl.tl.tl.box.f1;have aR:=aL.out.tl.tl.tl.tl.box.c0;have aS:=aL.out.tl.tl.tl.tl.box.c1;have aV:=aL.out.tl.tl.tl.tl.box.f0;have aW:=aL.out.tl.tl.tl.tl.box.f1;have ax:=aL.out.tl.tl.tl.tl.tl.box.c0;have ay:=aL.out.tl.tl.tl.tl.tl.box.c1;have aA:=aL.out.tl.tl.tl.tl.tl.box.f0;have aB:=aL.out.tl.tl.tl.tl.tl.box.f1;have Fq:=hid (And.intro aL.out.tl.tl.tl.box.c0 (And.intro aL.out.tl.tl.tl.box.c1 (And.intro aL.out.tl.tl.tl.tl.box.c0 (aL.out.tl.tl.tl.tl.box.c1))));have qH:True:=trivial)
   |(have _t:=qH;clear _t qH;go_at_call 130;go_must (with_reducible refine(qY _ _ _ _ _ _ _ _ _ aL.out.tl.sl aL.out.tl.tl.sl (by omega) (by omega)).mono ?_);rintro e w2 ⟨t0,tn,tc,rfl,hT,hB⟩;have bI:=hid (Live.dK hT.sl (aL.out.below hB));have HB2:=hid (Below.steps HB1.out hB);clear aD aF aJ aK aR aS aV aW ax ay aA aB;clear aL HB1 hT hB;have aD:=bI.out.tl.tl.tl.tl.box.c0;have aF:=bI.out.tl.tl.tl.tl.box.c1;have aJ:=bI.out.tl.tl.tl.tl.box.f0;have aK:=bI.out.tl.tl.tl.tl.box.f1;have aR:=bI.out.tl.tl.tl.tl.tl.box.c0;have aS:=bI.out.tl.tl.tl.tl.tl.box.c1;have aV:=bI.out.tl.tl.tl.tl.tl.box.f0;have aW:=bI.out.tl.tl.tl.tl.tl.box.f1;have ax:=bI.out.tl.tl.tl.tl.tl.tl.box.c0;have ay:=bI.out.tl.tl.tl.tl.tl.tl.box.c1;have aA:=bI.out.tl.tl.tl.tl.tl.tl.box.f0;have aB:=bI.out.tl.tl.tl.tl.tl.tl.box.f1;have Fp:=hid (And.intro bI.out.tl.tl.tl.tl.box.c0 (And.intro bI.out.tl.tl.tl.tl.box.c1 (And.intro bI.out.tl.tl.tl.tl.tl.box.c0 (bI.out.tl.tl.tl.tl.tl.box.c1))));have qI:True:=trivial)
   |(have _t:=qI;clear _t qI;go_at_call 178;go_must (with_reducible refine(iy _ _ _ _ _ _ _ bI.out.tl.fn bI.out.sl).mono ?_);rintro e w3 ⟨rm,r0,rn,rc,rfl,hX,hB⟩;have bV:=hid (bI.out.below hB);have HB3:=hid (Below.steps HB2.out hB);clear aD aF aJ aK aR aS aV aW ax ay aA aB;clear bI HB2 hB;have aD:=bV.out.tl.tl.tl.tl.box.c0;have aF:=bV.out.tl.tl.tl.tl.box.c1;have aJ:=bV.out.tl.tl.tl.tl.box.f0;have aK:=bV.out.tl.tl.tl.tl.box.f1;have aR:=bV.out.tl.tl.tl.tl.tl.box.c0;have aS:=bV.out.tl.tl.tl.tl.tl.box.c1;have aV:=bV.out.tl.tl.tl.tl.tl.box.f0;have aW:=bV.out.tl.tl.tl.tl.tl.box.f1;have ax:=bV.out.tl.tl.tl.tl.tl.tl.box.c0;have ay:=bV.out.tl.tl.tl.tl.tl.tl.box.c1;have aA:=bV.out.tl.tl.tl.tl.tl.tl.box.f0;have aB:=bV.out.tl.tl.tl.tl.tl.tl.box.f1;have Fj:=hid (And.intro bV.out.tl.tl.tl.tl.box.c0 (And.intro bV.out.tl.tl.tl.tl.box.c1 (And.intro bV.out.tl.tl.tl.tl.tl.box.c0 (bV.out.tl.tl.tl.tl.tl.box.c1))));have OU:True:=trivial))
 clear Fh Fq Fp Fj;go_wp2_with fail;refine bodyPost_ret (v:= .agg #[.bool rm,.slice r0 rn rc]) (by simp[results,Tryz.results78,go_sem,ax,ay]) rfl ?_;exact⟨_,_,_,_,rfl,HZ.out▸hX.set2 bV.out.tl.tl.tl.tl.tl.tl.box _ _,aT HB3.out (by omega) _ _⟩
theorem Sq [Ol] {m:Bool} {ao bo:Option Addr} {n cap l cb:Nat} {x y:Int} {w:World} (hx:Nx w m ao n cap x) (hy:Nx w (!m) bo l cb y) (hge:y.natAbs<=x.natAbs):
  Calls Tryz.prog 78 #[.agg #[.bool m,.slice ao n cap],.agg #[.bool (!m),.slice bo l cb]] w (pW w (x+y)):=by
 obtain⟨⟨xs,hs,hz⟩,hle⟩:=hx;obtain⟨⟨ys,ht,hz2⟩,hle2⟩:=hy;have Vu:=gM m (val xs);have Vv:=gM (!m) (val ys);rw[hz]at Vu;rw[hz2]at Vv;have xB:Hid (val ys<=val xs):=by rw[Hid,<-Vu,<-Vv];exact hge
 have HZ:Hid (dM m (val xs-val ys)=x+y):=by rw[Hid,Js m _ _ xB.out,hz,hz2]
 obtain⟨c,hc⟩:∃c,c=fP (val xs) (val ys):=⟨_,rfl⟩
 have hc0:decide (c<0)=false:=by
  rw[hc];unfold fP;rw[if_neg (by have:=xB.out;omega)];split<;>simp
 have HC:=hid hc.symm;have hmm:(m== !m)=false:=by cases m<;>rfl
 clear hz hz2 hc Vu Vv hge;go_enter Tryz.func78,Tryz.ntmps78;go_upto_region 1 with(fail)
 refine aj (fun W hW=>?_);have HB0:Hid (Below w.heap.size w W):=by rw[hW];exact aM (aM (af _ _))
 have aN:bJ W (w.heap.size) m ao n cap:=by rw[hW];exact((bJ.new _ _ _ _ _ _ _ (by simp)).below (af _ _)).below (af _ _)
 have bH:bJ W (w.heap.size+1) (!m) bo l cb:=by rw[hW];exact(bJ.new _ _ _ _ _ _ _ (by simp)).below (af _ _)
 have aQ:bJ W (w.heap.size+2) false none 0 0:=by rw[hW];exact bJ.new _ _ _ _ _ _ _ (by simp)
 have av:=hid (Live.dK (hs.below HB0.out) (Live.dK (ht.below HB0.out) (Live.aC aN (Live.aC bH (Live.aC aQ (Live.nil W))))));clear hW aN bH aQ;have aD:=av.out.tl.tl.box.c0;have aF:=av.out.tl.tl.box.c1;have aJ:=av.out.tl.tl.box.f0;have aK:=av.out.tl.tl.box.f1;have aR:=av.out.tl.tl.tl.box.c0;have aS:=av.out.tl.tl.tl.box.c1;have aV:=av.out.tl.tl.tl.box.f0;have aW:=av.out.tl.tl.tl.box.f1;have ax:=av.out.tl.tl.tl.tl.box.c0;have ay:=av.out.tl.tl.tl.tl.box.c1;have aA:=av.out.tl.tl.tl.tl.box.f0;have aB:=av.out.tl.tl.tl.tl.box.f1;go_wp2_with fail;refine(TP c _ _ _ _ _ _ _ _ _ av.out.sl av.out.tl.sl HC).mono ?_;rintro e w1 ⟨rfl,hB⟩;have aL:=hid (av.out.below hB);have HB1:=hid (Below.steps HB0.out hB);clear aD aF aJ aK aR aS aV aW ax ay aA aB;clear av HB0 hB;have aD:=aL.out.tl.tl.box.c0;have aF:=aL.out.tl.tl.box.c1;have aJ:=aL.out.tl.tl.box.f0;have aK:=aL.out.tl.tl.box.f1;have aR:=aL.out.tl.tl.tl.box.c0;have aS:=aL.out.tl.tl.tl.box.c1;have aV:=aL.out.tl.tl.tl.box.f0;have aW:=aL.out.tl.tl.tl.box.f1;have ax:=aL.out.tl.tl.tl.tl.box.c0;have ay:=aL.out.tl.tl.tl.tl.box.c1;have aA:=aL.out.tl.tl.tl.tl.box.f0;have aB:=aL.out.tl.tl.tl.tl.box.f1;go_wp2_with fail;refine(kX _ _ _ _ _ _ _ _ _ aL.out.sl aL.out.tl.sl xB.out).mono ?_;rintro e w2 ⟨t0,tn,tc,rfl,hT,hB⟩;have bI:=hid (Live.dK hT.sl (aL.out.below hB));have HB2:=hid (Below.steps HB1.out hB);clear aD aF aJ aK aR aS aV aW ax ay aA aB;clear aL HB1 hT hB;have aD:=bI.out.tl.tl.tl.box.c0;have aF:=bI.out.tl.tl.tl.box.c1;have aJ:=bI.out.tl.tl.tl.box.f0;have aK:=bI.out.tl.tl.tl.box.f1;have aR:=bI.out.tl.tl.tl.tl.box.c0;have aS:=bI.out.tl.tl.tl.tl.box.c1;have aV:=bI.out.tl.tl.tl.tl.box.f0;have aW:=bI.out.tl.tl.tl.tl.box.f1;have ax:=bI.out.tl.tl.tl.tl.tl.box.c0;have ay:=bI.out.tl.tl.tl.tl.tl.box.c1;have aA:=bI.out.tl.tl.tl.tl.tl.box.f0;have aB:=bI.out.tl.tl.tl.tl.tl.box.f1;go_wp2_with fail;refine(gu _ _).mono ?_;rintro e w3 ⟨b,rfl,hb1,hb2,hbc,hB⟩;have bV:=hid (Live.mE hb2 hbc (bI.out.below hB));have HB3:=hid (Below.steps HB2.out hB);clear aD aF aJ aK aR aS aV aW ax ay aA aB;clear bI HB2 hb1 hbc hB;have aD:=bV.out.tl.tl.tl.tl.box.c0;have aF:=bV.out.tl.tl.tl.tl.box.c1
 have aJ:=bV.out.tl.tl.tl.tl.box.f0;have aK:=bV.out.tl.tl.tl.tl.box.f1;have aR:=bV.out.tl.tl.tl.tl.tl.box.c0;have aS:=bV.out.tl.tl.tl.tl.tl.box.c1;have aV:=bV.out.tl.tl.tl.tl.tl.box.f0;have aW:=bV.out.tl.tl.tl.tl.tl.box.f1;have ax:=bV.out.tl.tl.tl.tl.tl.tl.box.c0;have ay:=bV.out.tl.tl.tl.tl.tl.tl.box.c1;have aA:=bV.out.tl.tl.tl.tl.tl.tl.box.f0;have aB:=bV.out.tl.tl.tl.tl.tl.tl.box.f1;go_wp2_with fail;refine(iy _ _ _ _ _ _ _ bV.out.fn bV.out.tl.sl).mono ?_;rintro e w4 ⟨rm,r0,rn,rc,rfl,hX,hB⟩;have tY:=hid (bV.out.below hB);have oJ:=hid (Below.steps HB3.out hB);clear aD aF aJ aK aR aS aV aW ax ay aA aB;clear bV HB3 hB;have aD:=tY.out.tl.tl.tl.tl.box.c0;have aF:=tY.out.tl.tl.tl.tl.box.c1;have aJ:=tY.out.tl.tl.tl.tl.box.f0;have aK:=tY.out.tl.tl.tl.tl.box.f1;have aR:=tY.out.tl.tl.tl.tl.tl.box.c0;have aS:=tY.out.tl.tl.tl.tl.tl.box.c1;have aV:=tY.out.tl.tl.tl.tl.tl.box.f0;have aW:=tY.out.tl.tl.tl.tl.tl.box.f1;have ax:=tY.out.tl.tl.tl.tl.tl.tl.box.c0;have ay:=tY.out.tl.tl.tl.tl.tl.tl.box.c1;have aA:=tY.out.tl.tl.tl.tl.tl.tl.box.f0;have aB:=tY.out.tl.tl.tl.tl.tl.tl.box.f1;go_wp2_with fail;refine bodyPost_ret (v:= .agg #[.bool rm,.slice r0 rn rc]) (by simp[results,Tryz.results78,go_sem,ax,ay]) rfl ?_;exact⟨_,_,_,_,rfl,HZ.out▸hX.set2 tY.out.tl.tl.tl.tl.tl.tl.box _ _,aT oJ.out (by omega) _ _⟩
theorem Sr [Ol] {m:Bool} {ao bo:Option Addr} {n cap l cb:Nat} {x y:Int} {w:World} (hx:Nx w m ao n cap x) (hy:Nx w (!m) bo l cb y) (hlt:x.natAbs<y.natAbs):
  Calls Tryz.prog 78 #[.agg #[.bool m,.slice ao n cap],.agg #[.bool (!m),.slice bo l cb]] w (pW w (x+y)):=by
 obtain⟨⟨xs,hs,hz⟩,hle⟩:=hx;obtain⟨⟨ys,ht,hz2⟩,hle2⟩:=hy;have Vu:=gM m (val xs);have Vv:=gM (!m) (val ys);rw[hz]at Vu;rw[hz2]at Vv;have xB:Hid (val xs<=val ys):=by rw[Hid,<-Vu,<-Vv];omega
 have HZ:Hid (dM (!m) (val ys-val xs)=x+y):=by rw[Hid,Js (!m) _ _ xB.out,hz2,Bool.not_not,hz,Int.add_comm]
 have HC:Hid (fP (val xs) (val ys)= -1):=by rw[Hid];unfold fP;rw[if_pos (by omega)]
 have hmm:(m== !m)=false:=by cases m<;>rfl
 clear hz hz2 Vu Vv hlt;go_enter Tryz.func78,Tryz.ntmps78;go_upto_region 1 with(fail)
 refine aj (fun W hW=>?_);have HB0:Hid (Below w.heap.size w W):=by rw[hW];exact aM (aM (af _ _))
 have aN:bJ W (w.heap.size) m ao n cap:=by rw[hW];exact((bJ.new _ _ _ _ _ _ _ (by simp)).below (af _ _)).below (af _ _)
 have bH:bJ W (w.heap.size+1) (!m) bo l cb:=by rw[hW];exact(bJ.new _ _ _ _ _ _ _ (by simp)).below (af _ _)
 have aQ:bJ W (w.heap.size+2) false none 0 0:=by rw[hW];exact bJ.new _ _ _ _ _ _ _ (by simp)
 have av:=hid (Live.dK (hs.below HB0.out) (Live.dK (ht.below HB0.out) (Live.aC aN (Live.aC bH (Live.aC aQ (Live.nil W))))));clear hW aN bH aQ;have aD:=av.out.tl.tl.box.c0;have aF:=av.out.tl.tl.box.c1;have aJ:=av.out.tl.tl.box.f0;have aK:=av.out.tl.tl.box.f1;have aR:=av.out.tl.tl.tl.box.c0;have aS:=av.out.tl.tl.tl.box.c1;have aV:=av.out.tl.tl.tl.box.f0;have aW:=av.out.tl.tl.tl.box.f1;have ax:=av.out.tl.tl.tl.tl.box.c0;have ay:=av.out.tl.tl.tl.tl.box.c1;have aA:=av.out.tl.tl.tl.tl.box.f0;have aB:=av.out.tl.tl.tl.tl.box.f1;go_wp2_with fail;refine(TP (-1) _ _ _ _ _ _ _ _ _ av.out.sl av.out.tl.sl HC).mono ?_;rintro e w1 ⟨rfl,hB⟩;have aL:=hid (av.out.below hB);have HB1:=hid (Below.steps HB0.out hB);clear aD aF aJ aK aR aS aV aW ax ay aA aB;clear av HB0 hB;have aD:=aL.out.tl.tl.box.c0;have aF:=aL.out.tl.tl.box.c1;have aJ:=aL.out.tl.tl.box.f0;have aK:=aL.out.tl.tl.box.f1;have aR:=aL.out.tl.tl.tl.box.c0;have aS:=aL.out.tl.tl.tl.box.c1;have aV:=aL.out.tl.tl.tl.box.f0;have aW:=aL.out.tl.tl.tl.box.f1;have ax:=aL.out.tl.tl.tl.tl.box.c0;have ay:=aL.out.tl.tl.tl.tl.box.c1;have aA:=aL.out.tl.tl.tl.tl.box.f0;have aB:=aL.out.tl.tl.tl.tl.box.f1;go_upto_region 5 with(fail)
 refine aj (fun W2 hW2=>?_);have hX2:bJ W2 (w.heap.size) (!m) bo l cb:=by rw[hW2];exact(aL.out.tl.tl.box.set _ _ _ _).far (by omega) _ _
 have hY2:bJ W2 (w.heap.size+1) m ao n cap:=by rw[hW2];exact(aL.out.tl.tl.tl.box.far (by omega) _ _).set _ _ _ _
 have hR2:bJ W2 (w.heap.size+2) false none 0 0:=by rw[hW2];exact(aL.out.tl.tl.tl.tl.box.far (by omega) _ _).far (by omega) _ _
 have EJ:Sl W2 ao n cap xs:=by rw[hW2];exact pE (pE aL.out.sl aL.out.tl.tl.box _ _) (aL.out.tl.tl.tl.box.far (by omega) _ _) _ _
 have EK:Sl W2 bo l cb ys:=by rw[hW2];exact pE (pE aL.out.tl.sl aL.out.tl.tl.box _ _) (aL.out.tl.tl.tl.box.far (by omega) _ _) _ _
 have HB2:Hid (Below w.heap.size w W2):=by rw[hW2];exact aT (aT HB1.out (by omega) _ _) (by omega) _ _
 have bI:=hid (Live.dK EJ (Live.dK EK (Live.aC hX2 (Live.aC hY2 (Live.aC hR2 (Live.nil W2))))));clear aD aF aJ aK aR aS aV aW ax ay aA aB;clear hW2 hX2 hY2 hR2 EJ EK aL HB1;have aD:=bI.out.tl.tl.box.c0;have aF:=bI.out.tl.tl.box.c1;have aJ:=bI.out.tl.tl.box.f0;have aK:=bI.out.tl.tl.box.f1;have aR:=bI.out.tl.tl.tl.box.c0;have aS:=bI.out.tl.tl.tl.box.c1;have aV:=bI.out.tl.tl.tl.box.f0;have aW:=bI.out.tl.tl.tl.box.f1;have ax:=bI.out.tl.tl.tl.tl.box.c0;have ay:=bI.out.tl.tl.tl.tl.box.c1;have aA:=bI.out.tl.tl.tl.tl.box.f0;have aB:=bI.out.tl.tl.tl.tl.box.f1;go_wp2_with fail;refine(kX _ _ _ _ _ _ _ _ _ bI.out.tl.sl bI.out.sl xB.out).mono ?_;rintro e w3 ⟨t0,tn,tc,rfl,hT,hB⟩;have bV:=hid (Live.dK hT.sl (bI.out.below hB));have HB3:=hid (Below.steps HB2.out hB);clear aD aF aJ aK aR aS aV aW ax ay aA aB;clear bI HB2 hT hB;have aD:=bV.out.tl.tl.tl.box.c0;have aF:=bV.out.tl.tl.tl.box.c1;have aJ:=bV.out.tl.tl.tl.box.f0;have aK:=bV.out.tl.tl.tl.box.f1;have aR:=bV.out.tl.tl.tl.tl.box.c0;have aS:=bV.out.tl.tl.tl.tl.box.c1;have aV:=bV.out.tl.tl.tl.tl.box.f0;have aW:=bV.out.tl.tl.tl.tl.box.f1;have ax:=bV.out.tl.tl.tl.tl.tl.box.c0;have ay:=bV.out.tl.tl.tl.tl.tl.box.c1;have aA:=bV.out.tl.tl.tl.tl.tl.box.f0;have aB:=bV.out.tl.tl.tl.tl.tl.box.f1;go_wp2_with fail;refine(gu _ _).mono ?_;rintro e w4 ⟨b,rfl,hb1,hb2,hbc,hB⟩;have tY:=hid (Live.mE hb2 hbc (bV.out.below hB));have oJ:=hid (Below.steps HB3.out hB);clear aD aF aJ aK aR aS aV aW ax ay aA aB;clear bV HB3 hb1 hbc hB;have aD:=tY.out.tl.tl.tl.tl.box.c0;have aF:=tY.out.tl.tl.tl.tl.box.c1;have aJ:=tY.out.tl.tl.tl.tl.box.f0;have aK:=tY.out.tl.tl.tl.tl.box.f1;have aR:=tY.out.tl.tl.tl.tl.tl.box.c0;have aS:=tY.out.tl.tl.tl.tl.tl.box.c1;have aV:=tY.out.tl.tl.tl.tl.tl.box.f0;have aW:=tY.out.tl.tl.tl.tl.tl.box.f1;have ax:=tY.out.tl.tl.tl.tl.tl.tl.box.c0;have ay:=tY.out.tl.tl.tl.tl.tl.tl.box.c1;have aA:=tY.out.tl.tl.tl.tl.tl.tl.box.f0;have aB:=tY.out.tl.tl.tl.tl.tl.tl.box.f1;go_wp2_with fail;refine(iy _ _ _ _ _ _ _ tY.out.fn tY.out.tl.sl).mono ?_;rintro e w5 ⟨rm,r0,rn,rc,rfl,hX,hB⟩;have LM:=hid (tY.out.below hB);have pJ:=hid (Below.steps oJ.out hB);clear aD aF aJ aK aR aS aV aW ax ay aA aB
 clear tY oJ hB;have aD:=LM.out.tl.tl.tl.tl.box.c0;have aF:=LM.out.tl.tl.tl.tl.box.c1;have aJ:=LM.out.tl.tl.tl.tl.box.f0;have aK:=LM.out.tl.tl.tl.tl.box.f1;have aR:=LM.out.tl.tl.tl.tl.tl.box.c0;have aS:=LM.out.tl.tl.tl.tl.tl.box.c1;have aV:=LM.out.tl.tl.tl.tl.tl.box.f0;have aW:=LM.out.tl.tl.tl.tl.tl.box.f1;have ax:=LM.out.tl.tl.tl.tl.tl.tl.box.c0;have ay:=LM.out.tl.tl.tl.tl.tl.tl.box.c1;have aA:=LM.out.tl.tl.tl.tl.tl.tl.box.f0;have aB:=LM.out.tl.tl.tl.tl.tl.tl.box.f1;go_wp2_with fail;refine bodyPost_ret (v:= .agg #[.bool rm,.slice r0 rn rc]) (by simp[results,Tryz.results78,go_sem,ax,ay]) rfl ?_;exact⟨_,_,_,_,rfl,HZ.out▸hX.set2 LM.out.tl.tl.tl.tl.tl.tl.box _ _,aT pJ.out (by omega) _ _⟩
theorem uh [Ol] {m k:Bool} {ao bo:Option Addr} {n cap l cb:Nat} {x y:Int} {w:World} (hx:Nx w m ao n cap x) (hy:Nx w k bo l cb y):
  Calls Tryz.prog 78 #[.agg #[.bool m,.slice ao n cap],.agg #[.bool k,.slice bo l cb]] w (pW w (x+y)):=by
 by_cases hmk:k=m
 ·subst hmk;exact LK hx hy
 ·obtain rfl:k= !m:=by cases m<;>cases k<;>simp at hmk ⊢
  by_cases h:y.natAbs<=x.natAbs
  ·exact Sq hx hy h
  ·exact Sr hx hy (by omega)
theorem Nx.neg {m:Bool} {ao:Option Addr} {n cap:Nat} {x:Int} {w:World} (h:Nx w m ao n cap x):Nx w (!m) ao n cap (-x):=by
 obtain⟨⟨xs,hs,hz⟩,hle⟩:=h;exact⟨⟨xs,hs,by rw[xQ,hz]⟩,hle⟩
theorem MI [Ol] {m k:Bool} {ao bo:Option Addr} {n cap l cb:Nat} {x y:Int} {w:World} (hx:Nx w m ao n cap x) (hy:Nx w k bo l cb y):
  Calls Tryz.prog 87 #[.agg #[.bool m,.slice ao n cap],.agg #[.bool k,.slice bo l cb]] w (pW w (x-y)):=by
 go_enter Tryz.func87,Tryz.ntmps87;go_upto_region 1 with(fail)
 refine aj (fun W hW=>?_);have HB0:Hid (Below w.heap.size w W):=by rw[hW];exact aM (aM (af _ _))
 have aN:bJ W (w.heap.size) m ao n cap:=by rw[hW];exact((bJ.new _ _ _ _ _ _ _ (by simp)).below (af _ _)).below (af _ _)
 have bH:bJ W (w.heap.size+1) k bo l cb:=by rw[hW];exact(bJ.new _ _ _ _ _ _ _ (by simp)).below (af _ _)
 have aQ:bJ W (w.heap.size+2) false none 0 0:=by rw[hW];exact bJ.new _ _ _ _ _ _ _ (by simp)
 have av:=hid (Live.Jt (hx.below HB0.out) (Live.Jt ((hy.neg).below HB0.out) (Live.aC aN (Live.aC bH (Live.aC aQ (Live.nil W))))));clear hW aN bH aQ;have aD:=av.out.tl.tl.box.c0;have aF:=av.out.tl.tl.box.c1;have aJ:=av.out.tl.tl.box.f0;have aK:=av.out.tl.tl.box.f1;have aR:=av.out.tl.tl.tl.box.c0;have aS:=av.out.tl.tl.tl.box.c1;have aV:=av.out.tl.tl.tl.box.f0;have aW:=av.out.tl.tl.tl.box.f1;have ax:=av.out.tl.tl.tl.tl.box.c0;have ay:=av.out.tl.tl.tl.tl.box.c1;have aA:=av.out.tl.tl.tl.tl.box.f0;have aB:=av.out.tl.tl.tl.tl.box.f1;go_wp2_with fail;refine(uh av.out.num av.out.tl.num).mono ?_;rintro e w1 ⟨rm,r0,rn,rc,rfl,hX,hB⟩;have aL:=hid (av.out.below hB);have HB1:=hid (Below.steps HB0.out hB);clear aD aF aJ aK aR aS aV aW ax ay aA aB;clear av HB0 hB;have aD:=aL.out.tl.tl.box.c0;have aF:=aL.out.tl.tl.box.c1;have aJ:=aL.out.tl.tl.box.f0;have aK:=aL.out.tl.tl.box.f1;have aR:=aL.out.tl.tl.tl.box.c0;have aS:=aL.out.tl.tl.tl.box.c1;have aV:=aL.out.tl.tl.tl.box.f0;have aW:=aL.out.tl.tl.tl.box.f1;have ax:=aL.out.tl.tl.tl.tl.box.c0;have ay:=aL.out.tl.tl.tl.tl.box.c1;have aA:=aL.out.tl.tl.tl.tl.box.f0;have aB:=aL.out.tl.tl.tl.tl.box.f1;go_wp2_with fail;refine bodyPost_ret (v:= .agg #[.bool rm,.slice r0 rn rc]) (by simp[results,Tryz.results87,go_sem,ax,ay]) rfl ?_;exact⟨_,_,_,_,rfl,(Int.sub_eq_add_neg (a:=x) (b:=y)).symm▸hX.set2 aL.out.tl.tl.tl.tl.box _ _,aT HB1.out (by omega) _ _⟩
open Lib (hid)
theorem jq [Ol] {m k:Bool} {ao bo:Option Addr} {n cap l cb:Nat} {x y:Int} {w:World} (hx:Nx w m ao n cap x) (hy:Nx w k bo l cb y):
  Calls Tryz.prog 79 #[.agg #[.bool m,.slice ao n cap],.agg #[.bool k,.slice bo l cb]] w (pW w (x*y)):=by
 obtain⟨⟨xs,hs,hz⟩,hle⟩:=hx;obtain⟨⟨ys,ht,hz2⟩,hle2⟩:=hy;have HZ:Hid (dM (m !=k) (val xs*val ys)=x*y):=by rw[Hid,Da,hz,hz2]
 clear hz hz2;go_enter Tryz.func79,Tryz.ntmps79;go_upto_region 1 with(fail)
 refine aj (fun W hW=>?_);have HB0:Hid (Below w.heap.size w W):=by rw[hW];exact aM (aM (af _ _))
 have aN:bJ W (w.heap.size) m ao n cap:=by rw[hW];exact((bJ.new _ _ _ _ _ _ _ (by simp)).below (af _ _)).below (af _ _)
 have bH:bJ W (w.heap.size+1) k bo l cb:=by rw[hW];exact(bJ.new _ _ _ _ _ _ _ (by simp)).below (af _ _)
 have aQ:bJ W (w.heap.size+2) false none 0 0:=by rw[hW];exact bJ.new _ _ _ _ _ _ _ (by simp)
 have av:=hid (Live.dK (hs.below HB0.out) (Live.dK (ht.below HB0.out) (Live.aC aN (Live.aC bH (Live.aC aQ (Live.nil W))))));clear hW aN bH aQ;have aD:=av.out.tl.tl.box.c0;have aF:=av.out.tl.tl.box.c1;have aJ:=av.out.tl.tl.box.f0;have aK:=av.out.tl.tl.box.f1;have aR:=av.out.tl.tl.tl.box.c0;have aS:=av.out.tl.tl.tl.box.c1;have aV:=av.out.tl.tl.tl.box.f0;have aW:=av.out.tl.tl.tl.box.f1;have ax:=av.out.tl.tl.tl.tl.box.c0;have ay:=av.out.tl.tl.tl.tl.box.c1;have aA:=av.out.tl.tl.tl.tl.box.f0;have aB:=av.out.tl.tl.tl.tl.box.f1;have jO:=hid (av.out.below ((Below.refl _ _).drew));have jP:=hid HB0.out.drew;clear aD aF aJ aK aR aS aV aW ax ay aA aB;clear av HB0;have av:=hid jO.out;have HB0:=hid jP.out;clear jO jP;have aD:=av.out.tl.tl.box.c0;have aF:=av.out.tl.tl.box.c1;have aJ:=av.out.tl.tl.box.f0;have aK:=av.out.tl.tl.box.f1;have aR:=av.out.tl.tl.tl.box.c0;have aS:=av.out.tl.tl.tl.box.c1;have aV:=av.out.tl.tl.tl.box.f0;have aW:=av.out.tl.tl.tl.box.f1;have ax:=av.out.tl.tl.tl.tl.box.c0;have ay:=av.out.tl.tl.tl.tl.box.c1;have aA:=av.out.tl.tl.tl.tl.box.f0;have aB:=av.out.tl.tl.tl.tl.box.f1;have qG:True:=trivial;have Fh:=hid (And.intro av.out.tl.tl.box.c0 (And.intro av.out.tl.tl.box.c1 (And.intro av.out.tl.tl.tl.box.c0 (av.out.tl.tl.tl.box.c1))))
 go_region_held3 (fun w'=>w'.cell? ⟨w.heap.size,0,none⟩=some (.bool m)/\ w'.cell? ⟨w.heap.size,1,none⟩=some (.slice ao n cap)/\ w'.cell? ⟨w.heap.size+1,0,none⟩=some (.bool k)/\ w'.cell? ⟨w.heap.size+1,1,none⟩=some (.slice bo l cb))
  (first|exact Fj.out|exact Fp.out|exact Fq.out|exact Fh.out|exact(And.intro ((bT (fun e=>by have e2:w.heap.size=w.heap.size+2:=e;omega) _ _).trans aD) (And.intro ((bT (fun e=>by have e2:w.heap.size=w.heap.size+2:=e;omega) _ _).trans aF) (And.intro ((bT (fun e=>by have e2:w.heap.size+1=w.heap.size+2:=e;omega) _ _).trans aR) ((bT (fun e=>by have e2:w.heap.size+1=w.heap.size+2:=e;omega) _ _).trans aS))))|go_keep)
  (first
   |(have _t:=qG;clear _t qG;go_at_call 129;go_must (with_reducible refine(gu _ _).mono ?_);rintro e w1 ⟨RV,rfl,hb1,hb2,hbc,hB⟩;have aL:=hid (Live.mE hb2 hbc (av.out.below hB));have HB1:=hid (Below.steps HB0.out hB);clear aD aF aJ aK aR aS aV aW ax ay aA aB;clear av HB0 hb1 hbc hB;have aD:=aL.out.tl.tl.tl.box.c0;have aF:=aL.out.tl.tl.tl.box.c1;have aJ:=aL.out.tl.tl.tl.box.f0;have aK:=aL.out.tl.tl.tl.box.f1;have aR:=aL.out.tl.tl.tl.tl.box.c0;have aS:=aL.out.tl.tl.tl.tl.box.c1;have aV:=aL.out.tl.tl.tl.tl.box.f0;have aW:=aL.out.tl.tl.tl.tl.box.f1;have ax:=aL.out.tl.tl.tl.tl.tl.box.c0;have ay:=aL.out.tl.tl.tl.tl.tl.box.c1;have aA:=aL.out.tl.tl.tl.tl.tl.box.f0;have aB:=aL.out.tl.tl.tl.tl.tl.box.f1;have Fq:=hid (And.intro aL.out.tl.tl.tl.box.c0 (And.intro aL.out.tl.tl.tl.box.c1 (And.intro aL.out.tl.tl.tl.tl.box.c0 (aL.out.tl.tl.tl.tl.box.c1))));have qH:True:=trivial)
   |(have _t:=qH;clear _t qH;go_at_call 133;go_must (with_reducible refine(qZ _ _ _ _ _ _ _ _ _ aL.out.tl.sl aL.out.tl.tl.sl (by omega) (by omega)).mono ?_);rintro e w2 ⟨t0,tn,tc,rfl,hT,hB⟩;have bI:=hid (Live.dK hT.sl (aL.out.below hB));have HB2:=hid (Below.steps HB1.out hB);clear aD aF aJ aK aR aS aV aW ax ay aA aB;clear aL HB1 hT hB;have aD:=bI.out.tl.tl.tl.tl.box.c0;have aF:=bI.out.tl.tl.tl.tl.box.c1;have aJ:=bI.out.tl.tl.tl.tl.box.f0;have aK:=bI.out.tl.tl.tl.tl.box.f1;have aR:=bI.out.tl.tl.tl.tl.tl.box.c0;have aS:=bI.out.tl.tl.tl.tl.tl.box.c1;have aV:=bI.out.tl.tl.tl.tl.tl.box.f0;have aW:=bI.out.tl.tl.tl.tl.tl.box.f1;have ax:=bI.out.tl.tl.tl.tl.tl.tl.box.c0;have ay:=bI.out.tl.tl.tl.tl.tl.tl.box.c1;have aA:=bI.out.tl.tl.tl.tl.tl.tl.box.f0;have aB:=bI.out.tl.tl.tl.tl.tl.tl.box.f1;have Fp:=hid (And.intro bI.out.tl.tl.tl.tl.box.c0 (And.intro bI.out.tl.tl.tl.tl.box.c1 (And.intro bI.out.tl.tl.tl.tl.tl.box.c0 (bI.out.tl.tl.tl.tl.tl.box.c1))));have qI:True:=trivial)
   |(have _t:=qI;clear _t qI;go_at_call 178;go_must (with_reducible refine(iy _ _ _ _ _ _ _ bI.out.tl.fn bI.out.sl).mono ?_);rintro e w3 ⟨rm,r0,rn,rc,rfl,hX,hB⟩;have bV:=hid (bI.out.below hB);have HB3:=hid (Below.steps HB2.out hB);clear aD aF aJ aK aR aS aV aW ax ay aA aB;clear bI HB2 hB;have aD:=bV.out.tl.tl.tl.tl.box.c0;have aF:=bV.out.tl.tl.tl.tl.box.c1;have aJ:=bV.out.tl.tl.tl.tl.box.f0;have aK:=bV.out.tl.tl.tl.tl.box.f1;have aR:=bV.out.tl.tl.tl.tl.tl.box.c0;have aS:=bV.out.tl.tl.tl.tl.tl.box.c1;have aV:=bV.out.tl.tl.tl.tl.tl.box.f0;have aW:=bV.out.tl.tl.tl.tl.tl.box.f1;have ax:=bV.out.tl.tl.tl.tl.tl.tl.box.c0;have ay:=bV.out.tl.tl.tl.tl.tl.tl.box.c1;have aA:=bV.out.tl.tl.tl.tl.tl.tl.box.f0;have aB:=bV.out.tl.tl.tl.tl.tl.tl.box.f1;have Fj:=hid (And.intro bV.out.tl.tl.tl.tl.box.c0 (And.intro bV.out.tl.tl.tl.tl.box.c1 (And.intro bV.out.tl.tl.tl.tl.tl.box.c0 (bV.out.tl.tl.tl.tl.tl.box.c1))));have OU:True:=trivial))
 clear Fh Fq Fp Fj;go_wp2_with fail;refine bodyPost_ret (v:= .agg #[.bool rm,.slice r0 rn rc]) (by simp[results,Tryz.results79,go_sem,ax,ay]) rfl ?_;exact⟨_,_,_,_,rfl,HZ.out▸hX.set2 bV.out.tl.tl.tl.tl.tl.tl.box _ _,aT HB3.out (by omega) _ _⟩
theorem Vw [Ol] {m:Bool} {ao:Option Addr} {cap:Nat} {xs:List Nat} {w:World} (r:Bool) (hs:Sl w ao 0 cap xs) (h:vS m 0 xs=r):
  Calls Tryz.prog 88 #[.agg #[.bool m,.slice ao 0 cap]] w (dI (.bool r) w):=by
 have hbig:=hs.big;obtain rfl:r= !m:=by rw[<-h];unfold vS;rw[if_pos rfl]
 go_enter Tryz.func88,Tryz.ntmps88;go_upto_region 1 with(fail)
 refine aj (fun W hW=>?_);have HB0:Hid (Below w.heap.size w W):=by rw[hW];exact af _ _
 have aN:bJ W (w.heap.size) m ao 0 cap:=by rw[hW];exact bJ.new _ _ _ _ _ _ _ (by simp)
 have av:=Lib.hid (Live.aC aN (Live.nil W));clear hW aN;have aD:=av.out.box.c0;have aF:=av.out.box.c1;have aJ:=av.out.box.f0;have aK:=av.out.box.f1;go_wp2_with fail;go_ret;exact⟨rfl,HB0.out⟩
theorem Vx [Ol] {m:Bool} {ao:Option Addr} {n cap:Nat} {xs:List Nat} {w:World} (r:Bool) (hs:Sl w ao n cap xs) (h:vS m n xs=r) (h0:0<n):
  Calls Tryz.prog 88 #[.agg #[.bool m,.slice ao n cap]] w (dI (.bool r) w):=by
 have hbig:=hs.big;obtain⟨b,off,rfl,hbb,hcell⟩:=hs.at (by omega);obtain⟨j,rfl⟩:∃j,n=j+1:=⟨n-1,by omega⟩;have hc:=hcell j (by omega);obtain⟨u,hu⟩:∃u,u=xs.getD j 0:=⟨_,rfl⟩;rw[<-hu]at hc
 have hr:(((u:Nat):Int) !=0)=r:=by
  rw[<-h];unfold vS;rw[if_neg (by omega),Nat.add_sub_cancel,<-hu];rw[Bool.eq_iff_iff];simp
 have hz:((((j+1:Nat)):Int)==0)=false:=by simp;omega
 have ej:(((j+1:Nat)):Int)-1=(j:Int):=by omega
 clear hcell hu h;go_enter Tryz.func88,Tryz.ntmps88;go_upto_region 1 with(fail)
 refine aj (fun W hW=>?_);have HB0:Hid (Below w.heap.size w W):=by rw[hW];exact af _ _
 have aN:bJ W (w.heap.size) m (some ⟨b,off,none⟩) (j+1) cap:=by rw[hW];exact bJ.new _ _ _ _ _ _ _ (by simp)
 have av:=Lib.hid (Live.aC aN (Live.nil W));clear hW aN;have aD:=av.out.box.c0;have aF:=av.out.box.c1;have aJ:=av.out.box.f0;have aK:=av.out.box.f1;have hcW:W.cell? ⟨b,off+j,none⟩=some (.int .u32 ((u:Nat):Int)):=(HB0.out.cell (by exact hbb)).trans hc;go_wp2_with fail;go_ret;exact⟨rfl,HB0.out⟩
theorem Jd [Ol] {m:Bool} {ao:Option Addr} {n cap:Nat} {xs:List Nat} {w:World} (r:Bool) (hs:Sl w ao n cap xs) (h:vS m n xs=r):
  Calls Tryz.prog 88 #[.agg #[.bool m,.slice ao n cap]] w (dI (.bool r) w):=by
 rcases Nat.eq_zero_or_pos n with h0|h0
 ·subst h0;exact Vw r hs h
 ·exact Vx r hs h h0
end Go.Proofs.YtmenbpmciblnlaaGreatDoor
