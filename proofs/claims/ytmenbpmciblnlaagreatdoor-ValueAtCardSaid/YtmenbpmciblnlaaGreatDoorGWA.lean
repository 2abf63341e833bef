/- WSign, WOfI, WAdd, WMul, WMay, WCmp -/
import Derived.Test.YtmenbpmciblnlaaGreatDoorGWInt
import Derived.Deep.Cut
import Derived.Test.YtmenbpmciblnlaaGreatDoorGTimes
set_option maxHeartbeats 0
set_option maxRecDepth 100000
open And renaming intro->a0a
open Go.IntKind renaming bits->a0e,signed->a0d,u64->a0b,wrap->a0c
open Go.Value renaming slice->a0f
namespace Go.Proofs.YtmenbpmciblnlaaGreatDoor
open Lib (hid)
open Go.RowKit
def ak3 (w:World) (neg:Bool) (e:Ending) (w':World):Prop:=
 ∃b,e= .returned (.func (.func 178) #[] #[.pointer (some ⟨b,0,none⟩)])/\ w.heap.size<=b/\ b<w'.heap.size/\ w'.cell? ⟨b,0,none⟩=some (.bool neg)/\ Below w.heap.size w w'
theorem gK (neg:Bool) (w:World):Calls Tryz.prog 129 #[.bool neg] w (ak3 w neg):=by
 have hmf:∀(fn:Fn) (first cap:Array Value) (w:World),(Instr.makeFunc fn first cap).run Tryz.prog w= .ok (.func fn first cap) w:=λ_ _ _ _=>rfl
 go_enter Tryz.func129,Tryz.ntmps129;go_wp2_with fail;go_ret;exact⟨_,rfl,Nat.le_refl _,by simp,by simp[go_sem],af _ _⟩
theorem iM (neg:Bool) (b:Nat) (ao:Option Addr) (n cap v:Nat) (w:World) (hb:w.cell? ⟨b,0,none⟩=some (.bool neg)) (ha:Sl w ao n cap (limbs v)):
  Calls Tryz.prog 178 #[a0f ao n cap,.pointer (some ⟨b,0,none⟩)] w (rC w (dK neg v)):=by
 have hbig:=ha.big;have hlt:b<w.heap.size:=by simpa using World.block_lt_of_cell? w _ hb
 have HA:=hid ha;clear ha;cases neg
 ·go_enter Tryz.func178,Tryz.ntmps178;go_wp2_with fail;refine bodyPost_ret (v:= .agg #[.bool false,a0f ao n cap]) (by simp[results,Tryz.results178,go_sem]) rfl ?_;exact⟨_,_,_,_,rfl,Cn.of (HA.out.alloc _) rfl,af _ _⟩
 ·go_enter Tryz.func178,Tryz.ntmps178;go_wp2_with fail;refine bodyPost_ret (v:= .agg #[.bool (decide (0<n)),a0f ao n cap]) (by simp[results,Tryz.results178,go_sem]) rfl ?_;exact⟨_,_,_,_,rfl,Cn.of (HA.out.alloc _) (by simp),af _ _⟩
theorem Gx [Ol] {m:Bool} {ao:Option Addr} {n cap:Nat} {x:Int} {w:World} (hx:Nx w m ao n cap x):
  Calls Tryz.prog 113 #[.agg #[.bool m,a0f ao n cap]] w (rC w (-x)):=by
 obtain⟨⟨xs,hs,hz⟩,hle⟩:=hx;have HZ:Hid (dK (!m) (val xs)= -x):=by rw[Hid,zK,hz]
 clear hz;go_enter Tryz.func113,Tryz.ntmps113;go_upto_region 1 with(fail)
 refine aj (λW hW=>?_);have HB0:Hid (Below w.heap.size w W):=by rw[hW];exact aN (af _ _)
 have aM:bR W (w.heap.size) m ao n cap:=by rw[hW];exact(bR.new _ _ _ _ _ _ _ (by simp)).below (af _ _)
 have aP:bR W (w.heap.size+1) false none 0 0:=by rw[hW];exact bR.new _ _ _ _ _ _ _ (by simp)
 have av:=hid (Live.dH (hs.below HB0.out) (Live.aD aM (Live.aD aP (Live.nil W))));clear hW aM aP;have aB:=av.out.tl.box.c0;have aC:=av.out.tl.box.c1;have aH:=av.out.tl.box.f0;have aI:=av.out.tl.box.f1;have ay:=av.out.tl.tl.box.c0;have aA:=av.out.tl.tl.box.c1;have aF:=av.out.tl.tl.box.f0;have aG:=av.out.tl.tl.box.f1;have jR:=hid (av.out.below ((Below.refl _ _).drew));have jS:=hid HB0.out.drew;clear aB aC aH aI ay aA aF aG;clear av HB0;have av:=hid jR.out;have HB0:=hid jS.out;clear jR jS;have aB:=av.out.tl.box.c0;have aC:=av.out.tl.box.c1;have aH:=av.out.tl.box.f0;have aI:=av.out.tl.box.f1;have ay:=av.out.tl.tl.box.c0;have aA:=av.out.tl.tl.box.c1;have aF:=av.out.tl.tl.box.f0;have aG:=av.out.tl.tl.box.f1;have r9:True:=trivial;have Ig:=hid (a0a av.out.tl.box.c0 (av.out.tl.box.c1))
 go_region_held3 (λw'=>w'.cell? ⟨w.heap.size,0,none⟩=some (.bool m)/\ w'.cell? ⟨w.heap.size,1,none⟩=some (a0f ao n cap))
  (first|exact Ih.out|exact Ii.out|exact Ij.out|exact Ig.out|exact(a0a ((bT (λe=>by have e2:w.heap.size=w.heap.size+1:=e;omega) _ _).trans aB) ((bT (λe=>by have e2:w.heap.size=w.heap.size+1:=e;omega) _ _).trans aC))|go_keep)
  (first
   |(have _t:=r9;clear _t r9;go_at_call 129;go_must (with_reducible refine(gK _ _).mono ?_);rintro e w1 ⟨b,rfl,hb1,hb2,hbc,hB⟩;have aL:=hid (Live.nL hb2 hbc (av.out.below hB));have HB1:=hid (Below.steps HB0.out hB);clear aB aC aH aI ay aA aF aG;clear av HB0 hb1 hbc hB;have aB:=aL.out.tl.tl.box.c0;have aC:=aL.out.tl.tl.box.c1;have aH:=aL.out.tl.tl.box.f0;have aI:=aL.out.tl.tl.box.f1;have ay:=aL.out.tl.tl.tl.box.c0;have aA:=aL.out.tl.tl.tl.box.c1;have aF:=aL.out.tl.tl.tl.box.f0;have aG:=aL.out.tl.tl.tl.box.f1;have Ij:=hid (a0a aL.out.tl.tl.box.c0 (aL.out.tl.tl.box.c1));have si:True:=trivial)
   |(have _t:=si;clear _t si;go_at_call 169;go_must (with_reducible refine(Bp _ _ _ _ _ aL.out.tl.sl).mono ?_);rintro e w2 ⟨t0,tn,tc,rfl,hT,hB⟩;have bL:=hid (Live.dH hT.sl (aL.out.below hB));have HB2:=hid (Below.steps HB1.out hB);clear aB aC aH aI ay aA aF aG;clear aL HB1 hT hB;have aB:=bL.out.tl.tl.tl.box.c0;have aC:=bL.out.tl.tl.tl.box.c1;have aH:=bL.out.tl.tl.tl.box.f0;have aI:=bL.out.tl.tl.tl.box.f1;have ay:=bL.out.tl.tl.tl.tl.box.c0;have aA:=bL.out.tl.tl.tl.tl.box.c1;have aF:=bL.out.tl.tl.tl.tl.box.f0;have aG:=bL.out.tl.tl.tl.tl.box.f1;have Ii:=hid (a0a bL.out.tl.tl.tl.box.c0 (bL.out.tl.tl.tl.box.c1));have sj:True:=trivial)
   |(have _t:=sj;clear _t sj;go_at_call 178;go_must (with_reducible refine(iM _ _ _ _ _ _ _ bL.out.tl.fn bL.out.sl).mono ?_);rintro e w3 ⟨rm,r0,rn,rc,rfl,hX,hB⟩;have bY:=hid (bL.out.below hB);have HB3:=hid (Below.steps HB2.out hB);clear aB aC aH aI ay aA aF aG;clear bL HB2 hB;have aB:=bY.out.tl.tl.tl.box.c0;have aC:=bY.out.tl.tl.tl.box.c1;have aH:=bY.out.tl.tl.tl.box.f0;have aI:=bY.out.tl.tl.tl.box.f1;have ay:=bY.out.tl.tl.tl.tl.box.c0;have aA:=bY.out.tl.tl.tl.tl.box.c1;have aF:=bY.out.tl.tl.tl.tl.box.f0;have aG:=bY.out.tl.tl.tl.tl.box.f1;have Ih:=hid (a0a bY.out.tl.tl.tl.box.c0 (bY.out.tl.tl.tl.box.c1));have R7:True:=trivial))
 clear Ig Ij Ii Ih;go_wp2_with fail;refine bodyPost_ret (v:= .agg #[.bool rm,a0f r0 rn rc]) (by simp[results,Tryz.results113,go_sem,ay,aA]) rfl ?_;exact⟨_,_,_,_,rfl,HZ.out▸hX.set2 bY.out.tl.tl.tl.tl.box _ _,aW HB3.out (by omega) _ _⟩
theorem VT [Ol] {m:Bool} {ao:Option Addr} {n cap:Nat} {x:Int} {w:World} (hx:Nx w m ao n cap x) (h0:x=0):
  Calls Tryz.prog 89 #[.agg #[.bool m,a0f ao n cap]] w (cu (.int .i64 0) w):=by
 obtain⟨⟨xs,hs,hz⟩,hle⟩:=hx;have HV:Hid (val xs=0):=by rw[Hid,<-gW m (val xs),hz,h0];rfl
 clear h0 hz;go_enter Tryz.func89,Tryz.ntmps89;go_upto_region 1 with(fail)
 refine aj (λW hW=>?_);have HB0:Hid (Below w.heap.size w W):=by rw[hW];exact af _ _
 have aM:bR W (w.heap.size) m ao n cap:=by rw[hW];exact bR.new _ _ _ _ _ _ _ (by simp)
 have av:=hid (Live.dH (hs.below HB0.out) (Live.aD aM (Live.nil W)));clear hW aM;have aB:=av.out.tl.box.c0;have aC:=av.out.tl.box.c1;have aH:=av.out.tl.box.f0;have aI:=av.out.tl.box.f1;go_wp2_with fail;refine(iC 0 _ _ _ _ _ av.out.sl (by rw[HV.out];rfl)).mono ?_;rintro e w' ⟨rfl,rfl⟩;go_wp2_with fail;go_ret;exact⟨rfl,HB0.out⟩
theorem VU [Ol] {m:Bool} {ao:Option Addr} {n cap:Nat} {x:Int} {w:World} (hx:Nx w m ao n cap x) (h0:x<0):
  Calls Tryz.prog 89 #[.agg #[.bool m,a0f ao n cap]] w (cu (.int .i64 (-1)) w):=by
 obtain⟨⟨xs,hs,hz⟩,hle⟩:=hx;have hv:val xs≠0:=λh=>by rw[h,Ia]at hz;omega
 obtain⟨k,hk⟩:∃k,k=nbits (val xs):=⟨_,rfl⟩
 have hq:(((k:Nat):Int)==0)=false:=by
  have:k≠0:=by rw[hk];exact λe=>hv (lN.1 e)
  simp;omega
 have HV:=hid hk.symm
 obtain rfl:m=true:=by
  cases m
  ·unfold dK at hz;simp at hz;omega
  ·rfl
 clear h0 hz hv hk;go_enter Tryz.func89,Tryz.ntmps89;go_upto_region 1 with(fail)
 refine aj (λW hW=>?_);have HB0:Hid (Below w.heap.size w W):=by rw[hW];exact af _ _
 have aM:bR W (w.heap.size) true ao n cap:=by rw[hW];exact bR.new _ _ _ _ _ _ _ (by simp)
 have av:=hid (Live.dH (hs.below HB0.out) (Live.aD aM (Live.nil W)));clear hW aM;have aB:=av.out.tl.box.c0;have aC:=av.out.tl.box.c1;have aH:=av.out.tl.box.f0;have aI:=av.out.tl.box.f1;go_wp2_with fail;refine(iC k _ _ _ _ _ av.out.sl HV.out).mono ?_;rintro e w' ⟨rfl,rfl⟩;go_wp2_with fail;go_ret;exact⟨rfl,HB0.out⟩
theorem VW [Ol] {m:Bool} {ao:Option Addr} {n cap:Nat} {x:Int} {w:World} (hx:Nx w m ao n cap x) (h0:0<x):
  Calls Tryz.prog 89 #[.agg #[.bool m,a0f ao n cap]] w (cu (.int .i64 1) w):=by
 obtain⟨⟨xs,hs,hz⟩,hle⟩:=hx;have hv:val xs≠0:=λh=>by rw[h,Ia]at hz;omega
 obtain⟨k,hk⟩:∃k,k=nbits (val xs):=⟨_,rfl⟩
 have hq:(((k:Nat):Int)==0)=false:=by
  have:k≠0:=by rw[hk];exact λe=>hv (lN.1 e)
  simp;omega
 have HV:=hid hk.symm
 obtain rfl:m=false:=by
  cases m
  ·rfl
  ·unfold dK at hz;simp at hz;omega
 clear h0 hz hv hk;go_enter Tryz.func89,Tryz.ntmps89;go_upto_region 1 with(fail)
 refine aj (λW hW=>?_);have HB0:Hid (Below w.heap.size w W):=by rw[hW];exact af _ _
 have aM:bR W (w.heap.size) false ao n cap:=by rw[hW];exact bR.new _ _ _ _ _ _ _ (by simp)
 have av:=hid (Live.dH (hs.below HB0.out) (Live.aD aM (Live.nil W)));clear hW aM;have aB:=av.out.tl.box.c0;have aC:=av.out.tl.box.c1;have aH:=av.out.tl.box.f0;have aI:=av.out.tl.box.f1;go_wp2_with fail;refine(iC k _ _ _ _ _ av.out.sl HV.out).mono ?_;rintro e w' ⟨rfl,rfl⟩;go_wp2_with fail;go_ret;exact⟨rfl,HB0.out⟩
theorem nJ [Ol] (s:Int) {m:Bool} {ao:Option Addr} {n cap:Nat} {x:Int} {w:World} (hx:Nx w m ao n cap x) (h:x.sign=s):
  Calls Tryz.prog 89 #[.agg #[.bool m,a0f ao n cap]] w (cu (.int .i64 s) w):=by
 rcases Int.lt_trichotomy x 0 with h0|h0|h0
 ·rw[Int.sign_eq_neg_one_of_neg h0]at h;rw[<-h];exact VU hx h0
 ·rw[h0,Int.sign_zero]at h;rw[<-h];exact VT hx h0
 ·rw[Int.sign_eq_one_of_pos h0]at h;rw[<-h];exact VW hx h0
open Lib (hid)
theorem af8 [Ol] (a:Nat) (w:World) (h:a<=9223372036854775807):
  Calls Tryz.prog 84 #[.int .i64 ((a:Int))] w (rC w (dK false a)):=by
 go_enter Tryz.func84,Tryz.ntmps84;go_upto_region 1 with(fail)
 refine aj (λW hW=>?_);have HB0:Hid (Below w.heap.size w W):=by rw[hW];exact af _ _
 have aP:bR W (w.heap.size) false none 0 0:=by rw[hW];exact bR.new _ _ _ _ _ _ _ (by simp)
 have av:=hid (Live.aD aP (Live.nil W));clear hW aP;have ay:=av.out.box.c0;have aA:=av.out.box.c1;have aF:=av.out.box.f0;have aG:=av.out.box.f1;go_wp2_with fail;refine(gK _ _).mono ?_;rintro e w1 ⟨b,rfl,hb1,hb2,hbc,hB⟩;have aL:=hid (Live.nL hb2 hbc (av.out.below hB));have HB1:=hid (Below.steps HB0.out hB);clear ay aA aF aG;clear av HB0 hb1 hbc hB;have ay:=aL.out.tl.box.c0;have aA:=aL.out.tl.box.c1;have aF:=aL.out.tl.box.f0;have aG:=aL.out.tl.box.f1;go_wp2_with fail;refine(ku a _ (by omega)).mono ?_;rintro e w2 ⟨t0,tn,tc,rfl,hT,hB⟩;have bL:=hid (Live.dH hT.sl (aL.out.below hB));have HB2:=hid (Below.steps HB1.out hB);clear ay aA aF aG;clear aL HB1 hT hB;have ay:=bL.out.tl.tl.box.c0;have aA:=bL.out.tl.tl.box.c1;have aF:=bL.out.tl.tl.box.f0;have aG:=bL.out.tl.tl.box.f1;go_wp2_with fail;refine(iM _ _ _ _ _ _ _ bL.out.tl.fn bL.out.sl).mono ?_;rintro e w3 ⟨rm,r0,rn,rc,rfl,hX,hB⟩;have bY:=hid (bL.out.below hB);have HB3:=hid (Below.steps HB2.out hB);clear ay aA aF aG;clear bL HB2 hB;have ay:=bY.out.tl.tl.box.c0;have aA:=bY.out.tl.tl.box.c1;have aF:=bY.out.tl.tl.box.f0;have aG:=bY.out.tl.tl.box.f1;go_wp2_with fail;refine bodyPost_ret (v:= .agg #[.bool rm,a0f r0 rn rc]) (by simp[results,Tryz.results84,go_sem,ay,aA]) rfl ?_;exact⟨_,_,_,_,rfl,hX.set2 bY.out.tl.tl.box _ _,aW HB3.out (by omega) _ _⟩
theorem af9 [Ol] (a:Nat) (w:World) (h:0<a/\ a<=9223372036854775808):
  Calls Tryz.prog 84 #[.int .i64 (-(a:Int))] w (rC w (dK true a)):=by
 have e1:a0b.wrap (-((a:Nat):Int))=18446744073709551616-((a:Nat):Int):=by unfold a0c;simp[a0d,a0e];omega
 have e2:a0b.wrap (-(18446744073709551616-((a:Nat):Int)))=((a:Nat):Int):=by unfold a0c;simp[a0d,a0e];omega
 have d1:decide (-((a:Nat):Int)<0)=true:=by simp;omega
 have d2:(0:Int)<((a:Nat):Int):=by omega
 go_enter Tryz.func84,Tryz.ntmps84;go_upto_region 1 with(fail)
 refine aj (λW hW=>?_);have HB0:Hid (Below w.heap.size w W):=by rw[hW];exact af _ _
 have aP:bR W (w.heap.size) false none 0 0:=by rw[hW];exact bR.new _ _ _ _ _ _ _ (by simp)
 have av:=hid (Live.aD aP (Live.nil W));clear hW aP;have ay:=av.out.box.c0;have aA:=av.out.box.c1;have aF:=av.out.box.f0;have aG:=av.out.box.f1;go_wp2_with fail;refine(gK _ _).mono ?_;rintro e w1 ⟨b,rfl,hb1,hb2,hbc,hB⟩;have aL:=hid (Live.nL hb2 hbc (av.out.below hB));have HB1:=hid (Below.steps HB0.out hB);clear ay aA aF aG;clear av HB0 hb1 hbc hB;have ay:=aL.out.tl.box.c0;have aA:=aL.out.tl.box.c1;have aF:=aL.out.tl.box.f0;have aG:=aL.out.tl.box.f1;go_wp2_with fail;refine(ku a _ (by omega)).mono ?_;rintro e w2 ⟨t0,tn,tc,rfl,hT,hB⟩;have bL:=hid (Live.dH hT.sl (aL.out.below hB));have HB2:=hid (Below.steps HB1.out hB);clear ay aA aF aG;clear aL HB1 hT hB;have ay:=bL.out.tl.tl.box.c0;have aA:=bL.out.tl.tl.box.c1;have aF:=bL.out.tl.tl.box.f0;have aG:=bL.out.tl.tl.box.f1;go_wp2_with fail;refine(iM _ _ _ _ _ _ _ bL.out.tl.fn bL.out.sl).mono ?_;rintro e w3 ⟨rm,r0,rn,rc,rfl,hX,hB⟩;have bY:=hid (bL.out.below hB);have HB3:=hid (Below.steps HB2.out hB);clear ay aA aF aG;clear bL HB2 hB;have ay:=bY.out.tl.tl.box.c0;have aA:=bY.out.tl.tl.box.c1;have aF:=bY.out.tl.tl.box.f0;have aG:=bY.out.tl.tl.box.f1;go_wp2_with fail;refine bodyPost_ret (v:= .agg #[.bool rm,a0f r0 rn rc]) (by simp[results,Tryz.results84,go_sem,ay,aA]) rfl ?_;exact⟨_,_,_,_,rfl,hX.set2 bY.out.tl.tl.box _ _,aW HB3.out (by omega) _ _⟩
theorem vV [Ol] (n:Int) (w:World) (h: -9223372036854775808<=n/\ n<=9223372036854775807):
  Calls Tryz.prog 84 #[.int .i64 n] w (rC w n):=by
 by_cases h0:n<0
 ·obtain⟨a,rfl⟩:∃a:Nat,n= -(a:Int):=⟨n.natAbs,by omega⟩;exact af9 a w (by omega)
 ·obtain⟨a,rfl⟩:=Int.eq_ofNat_of_zero_le (Int.not_lt.1 h0);exact af8 a w (by omega)
open Lib (hid)
theorem O1 [Ol] {m:Bool} {ao bo:Option Addr} {n cap l cb:Nat} {x y:Int} {w:World} (hx:Nx w m ao n cap x) (hy:Nx w m bo l cb y):
  Calls Tryz.prog 78 #[.agg #[.bool m,a0f ao n cap],.agg #[.bool m,a0f bo l cb]] w (rC w (x+y)):=by
 obtain⟨⟨xs,hs,hz⟩,hle⟩:=hx;obtain⟨⟨ys,ht,hz2⟩,hle2⟩:=hy;have HZ:Hid (dK m (val xs+val ys)=x+y):=by rw[Hid,Vq,hz,hz2]
 clear hz hz2;go_enter Tryz.func78,Tryz.ntmps78;go_upto_region 1 with(fail)
 refine aj (λW hW=>?_);have HB0:Hid (Below w.heap.size w W):=by rw[hW];exact aN (aN (af _ _))
 have aM:bR W (w.heap.size) m ao n cap:=by rw[hW];exact((bR.new _ _ _ _ _ _ _ (by simp)).below (af _ _)).below (af _ _)
 have bO:bR W (w.heap.size+1) m bo l cb:=by rw[hW];exact(bR.new _ _ _ _ _ _ _ (by simp)).below (af _ _)
 have aP:bR W (w.heap.size+2) false none 0 0:=by rw[hW];exact bR.new _ _ _ _ _ _ _ (by simp)
 have av:=hid (Live.dH (hs.below HB0.out) (Live.dH (ht.below HB0.out) (Live.aD aM (Live.aD bO (Live.aD aP (Live.nil W))))));clear hW aM bO aP;have aB:=av.out.tl.tl.box.c0;have aC:=av.out.tl.tl.box.c1;have aH:=av.out.tl.tl.box.f0;have aI:=av.out.tl.tl.box.f1;have aX:=av.out.tl.tl.tl.box.c0;have aY:=av.out.tl.tl.tl.box.c1;have bf:=av.out.tl.tl.tl.box.f0;have bg:=av.out.tl.tl.tl.box.f1;have ay:=av.out.tl.tl.tl.tl.box.c0;have aA:=av.out.tl.tl.tl.tl.box.c1;have aF:=av.out.tl.tl.tl.tl.box.f0;have aG:=av.out.tl.tl.tl.tl.box.f1;go_wp2_with fail;have jR:=hid (av.out.below ((Below.refl _ _).drew));have jS:=hid HB0.out.drew;clear aB aC aH aI aX aY bf bg ay aA aF aG;clear av HB0;have av:=hid jR.out;have HB0:=hid jS.out;clear jR jS;have aB:=av.out.tl.tl.box.c0;have aC:=av.out.tl.tl.box.c1;have aH:=av.out.tl.tl.box.f0;have aI:=av.out.tl.tl.box.f1;have aX:=av.out.tl.tl.tl.box.c0;have aY:=av.out.tl.tl.tl.box.c1;have bf:=av.out.tl.tl.tl.box.f0;have bg:=av.out.tl.tl.tl.box.f1;have ay:=av.out.tl.tl.tl.tl.box.c0;have aA:=av.out.tl.tl.tl.tl.box.c1;have aF:=av.out.tl.tl.tl.tl.box.f0;have aG:=av.out.tl.tl.tl.tl.box.f1;have r9:True:=trivial;have Ig:=hid (a0a av.out.tl.tl.box.c0 (a0a av.out.tl.tl.box.c1 (a0a av.out.tl.tl.tl.box.c0 (av.out.tl.tl.tl.box.c1))))
 go_region_held3 (λw'=>w'.cell? ⟨w.heap.size,0,none⟩=some (.bool m)/\ w'.cell? ⟨w.heap.size,1,none⟩=some (a0f ao n cap)/\ w'.cell? ⟨w.heap.size+1,0,none⟩=some (.bool m)/\ w'.cell? ⟨w.heap.size+1,1,none⟩=some (a0f bo l cb))
  (first|exact Ih.out|exact Ii.out|exact Ij.out|exact Ig.out|exact(a0a ((bT (λe=>by have e2:w.heap.size=w.heap.size+2:=e;omega) _ _).trans aB) (a0a ((bT (λe=>by have e2:w.heap.size=w.heap.size+2:=e;omega) _ _).trans aC) (a0a ((bT (λe=>by have e2:w.heap.size+1=w.heap.size+2:=e;omega) _ _).trans aX) ((bT (λe=>by have e2:w.heap.size+1=w.heap.size+2:=e;omega) _ _).trans aY))))|go_keep)
  (first
   |(have _t:=r9;clear _t r9;go_at_call 129;go_must (with_reducible refine(gK _ _).mono ?_);rintro e w1 ⟨Vy,rfl,hb1,hb2,hbc,hB⟩;have aL:=hid (Live.nL hb2 hbc (av.out.below hB));have HB1:=hid (Below.steps HB0.out hB);clear aB aC aH aI aX aY bf bg ay aA aF aG;clear av HB0 hb1 hbc hB;have aB:=aL.out.tl.tl.tl.box.c0;have aC:=aL.out.tl.tl.tl.box.c1;have aH:=aL.out.tl.tl.tl.box.f0;have aI:=aL.out.tl.tl.tl.box.f1;have aX:=aL.out.tl.tl.tl.tl.box.c0;have aY:=aL.out.tl.tl.tl.tl.box.c1;have bf:=aL.out.tl.tl.tl.tl.box.f0;have bg:=aL.out.tl.tl.tl.tl.box.f1;have ay:=aL.out.tl.tl.tl.tl.tl.box.c0;have aA:=aL.out.tl.tl.tl.tl.tl.box.c1;have aF:=aL.out.tl.tl.tl.tl.tl.box.f0;have aG:=aL.out.tl.tl.tl.tl.tl.box.f1;have Ij:=hid (a0a aL.out.tl.tl.tl.box.c0 (a0a aL.out.tl.tl.tl.box.c1 (a0a aL.out.tl.tl.tl.tl.box.c0 (aL.out.tl.tl.tl.tl.box.c1))));have si:True:=trivial)
   |(have _t:=si;clear _t si;go_at_call 130;go_must (with_reducible refine(tK _ _ _ _ _ _ _ _ _ aL.out.tl.sl aL.out.tl.tl.sl (by omega) (by omega)).mono ?_);rintro e w2 ⟨t0,tn,tc,rfl,hT,hB⟩;have bL:=hid (Live.dH hT.sl (aL.out.below hB));have HB2:=hid (Below.steps HB1.out hB);clear aB aC aH aI aX aY bf bg ay aA aF aG;clear aL HB1 hT hB;have aB:=bL.out.tl.tl.tl.tl.box.c0;have aC:=bL.out.tl.tl.tl.tl.box.c1;have aH:=bL.out.tl.tl.tl.tl.box.f0;have aI:=bL.out.tl.tl.tl.tl.box.f1;have aX:=bL.out.tl.tl.tl.tl.tl.box.c0;have aY:=bL.out.tl.tl.tl.tl.tl.box.c1;have bf:=bL.out.tl.tl.tl.tl.tl.box.f0;have bg:=bL.out.tl.tl.tl.tl.tl.box.f1;have ay:=bL.out.tl.tl.tl.tl.tl.tl.box.c0;have aA:=bL.out.tl.tl.tl.tl.tl.tl.box.c1;have aF:=bL.out.tl.tl.tl.tl.tl.tl.box.f0;have aG:=bL.out.tl.tl.tl.tl.tl.tl.box.f1;have Ii:=hid (a0a bL.out.tl.tl.tl.tl.box.c0 (a0a bL.out.tl.tl.tl.tl.box.c1 (a0a bL.out.tl.tl.tl.tl.tl.box.c0 (bL.out.tl.tl.tl.tl.tl.box.c1))));have sj:True:=trivial)
   |(have _t:=sj;clear _t sj;go_at_call 178;go_must (with_reducible refine(iM _ _ _ _ _ _ _ bL.out.tl.fn bL.out.sl).mono ?_);rintro e w3 ⟨rm,r0,rn,rc,rfl,hX,hB⟩;have bY:=hid (bL.out.below hB);have HB3:=hid (Below.steps HB2.out hB);clear aB aC aH aI aX aY bf bg ay aA aF aG;clear bL HB2 hB;have aB:=bY.out.tl.tl.tl.tl.box.c0;have aC:=bY.out.tl.tl.tl.tl.box.c1;have aH:=bY.out.tl.tl.tl.tl.box.f0;have aI:=bY.out.tl.tl.tl.tl.box.f1;have aX:=bY.out.tl.tl.tl.tl.tl.box.c0;have aY:=bY.out.tl.tl.tl.tl.tl.box.c1;have bf:=bY.out.tl.tl.tl.tl.tl.box.f0;have bg:=bY.out.tl.tl.tl.tl.tl.box.f1;have ay:=bY.out.tl.tl.tl.tl.tl.tl.box.c0;have aA:=bY.out.tl.tl.tl.tl.tl.tl.box.c1;have aF:=bY.out.tl.tl.tl.tl.tl.tl.box.f0;have aG:=bY.out.tl.tl.tl.tl.tl.tl.box.f1;have Ih:=hid (a0a bY.out.tl.tl.tl.tl.box.c0 (a0a bY.out.tl.tl.tl.tl.box.c1 (a0a bY.out.tl.tl.tl.tl.tl.box.c0 (bY.out.tl.tl.tl.tl.tl.box.c1))));have R7:True:=trivial))
 clear Ig Ij Ii Ih;go_wp2_with fail;refine bodyPost_ret (v:= .agg #[.bool rm,a0f r0 rn rc]) (by simp[results,Tryz.results78,go_sem,ay,aA]) rfl ?_;exact⟨_,_,_,_,rfl,HZ.out▸hX.set2 bY.out.tl.tl.tl.tl.tl.tl.box _ _,aW HB3.out (by omega) _ _⟩
theorem VX [Ol] {m:Bool} {ao bo:Option Addr} {n cap l cb:Nat} {x y:Int} {w:World} (hx:Nx w m ao n cap x) (hy:Nx w (!m) bo l cb y) (hge:y.natAbs<=x.natAbs):
  Calls Tryz.prog 78 #[.agg #[.bool m,a0f ao n cap],.agg #[.bool (!m),a0f bo l cb]] w (rC w (x+y)):=by
 obtain⟨⟨xs,hs,hz⟩,hle⟩:=hx;obtain⟨⟨ys,ht,hz2⟩,hle2⟩:=hy;have Zf:=gW m (val xs);have Zg:=gW (!m) (val ys);rw[hz]at Zf;rw[hz2]at Zg;have ze:Hid (val ys<=val xs):=by rw[Hid,<-Zf,<-Zg];exact hge
 have HZ:Hid (dK m (val xs-val ys)=x+y):=by rw[Hid,L6 m _ _ ze.out,hz,hz2]
 obtain⟨c,hc⟩:∃c,c=gG (val xs) (val ys):=⟨_,rfl⟩
 have hc0:decide (c<0)=false:=by
  rw[hc];unfold gG;rw[if_neg (by have:=ze.out;omega)];split<;>simp
 have HC:=hid hc.symm;have hmm:(m== !m)=false:=by cases m<;>rfl
 clear hz hz2 hc Zf Zg hge;go_enter Tryz.func78,Tryz.ntmps78;go_upto_region 1 with(fail)
 refine aj (λW hW=>?_);have HB0:Hid (Below w.heap.size w W):=by rw[hW];exact aN (aN (af _ _))
 have aM:bR W (w.heap.size) m ao n cap:=by rw[hW];exact((bR.new _ _ _ _ _ _ _ (by simp)).below (af _ _)).below (af _ _)
 have bO:bR W (w.heap.size+1) (!m) bo l cb:=by rw[hW];exact(bR.new _ _ _ _ _ _ _ (by simp)).below (af _ _)
 have aP:bR W (w.heap.size+2) false none 0 0:=by rw[hW];exact bR.new _ _ _ _ _ _ _ (by simp)
 have av:=hid (Live.dH (hs.below HB0.out) (Live.dH (ht.below HB0.out) (Live.aD aM (Live.aD bO (Live.aD aP (Live.nil W))))));clear hW aM bO aP;have aB:=av.out.tl.tl.box.c0;have aC:=av.out.tl.tl.box.c1;have aH:=av.out.tl.tl.box.f0;have aI:=av.out.tl.tl.box.f1;have aX:=av.out.tl.tl.tl.box.c0;have aY:=av.out.tl.tl.tl.box.c1;have bf:=av.out.tl.tl.tl.box.f0;have bg:=av.out.tl.tl.tl.box.f1;have ay:=av.out.tl.tl.tl.tl.box.c0;have aA:=av.out.tl.tl.tl.tl.box.c1;have aF:=av.out.tl.tl.tl.tl.box.f0;have aG:=av.out.tl.tl.tl.tl.box.f1;go_wp2_with fail;refine(Xn c _ _ _ _ _ _ _ _ _ av.out.sl av.out.tl.sl HC).mono ?_;rintro e w1 ⟨rfl,hB⟩;have aL:=hid (av.out.below hB);have HB1:=hid (Below.steps HB0.out hB);clear aB aC aH aI aX aY bf bg ay aA aF aG;clear av HB0 hB;have aB:=aL.out.tl.tl.box.c0;have aC:=aL.out.tl.tl.box.c1;have aH:=aL.out.tl.tl.box.f0;have aI:=aL.out.tl.tl.box.f1;have aX:=aL.out.tl.tl.tl.box.c0;have aY:=aL.out.tl.tl.tl.box.c1;have bf:=aL.out.tl.tl.tl.box.f0;have bg:=aL.out.tl.tl.tl.box.f1;have ay:=aL.out.tl.tl.tl.tl.box.c0;have aA:=aL.out.tl.tl.tl.tl.box.c1;have aF:=aL.out.tl.tl.tl.tl.box.f0;have aG:=aL.out.tl.tl.tl.tl.box.f1;go_wp2_with fail;refine(mD _ _ _ _ _ _ _ _ _ aL.out.sl aL.out.tl.sl ze.out).mono ?_;rintro e w2 ⟨t0,tn,tc,rfl,hT,hB⟩;have bL:=hid (Live.dH hT.sl (aL.out.below hB));have HB2:=hid (Below.steps HB1.out hB);clear aB aC aH aI aX aY bf bg ay aA aF aG;clear aL HB1 hT hB;have aB:=bL.out.tl.tl.tl.box.c0;have aC:=bL.out.tl.tl.tl.box.c1;have aH:=bL.out.tl.tl.tl.box.f0;have aI:=bL.out.tl.tl.tl.box.f1;have aX:=bL.out.tl.tl.tl.tl.box.c0;have aY:=bL.out.tl.tl.tl.tl.box.c1;have bf:=bL.out.tl.tl.tl.tl.box.f0;have bg:=bL.out.tl.tl.tl.tl.box.f1;have ay:=bL.out.tl.tl.tl.tl.tl.box.c0;have aA:=bL.out.tl.tl.tl.tl.tl.box.c1;have aF:=bL.out.tl.tl.tl.tl.tl.box.f0;have aG:=bL.out.tl.tl.tl.tl.tl.box.f1;go_wp2_with fail;refine(gK _ _).mono ?_;rintro e w3 ⟨b,rfl,hb1,hb2,hbc,hB⟩;have bY:=hid (Live.nL hb2 hbc (bL.out.below hB));have HB3:=hid (Below.steps HB2.out hB);clear aB aC aH aI aX aY bf bg ay aA aF aG;clear bL HB2 hb1 hbc hB;have aB:=bY.out.tl.tl.tl.tl.box.c0;have aC:=bY.out.tl.tl.tl.tl.box.c1
 have aH:=bY.out.tl.tl.tl.tl.box.f0;have aI:=bY.out.tl.tl.tl.tl.box.f1;have aX:=bY.out.tl.tl.tl.tl.tl.box.c0;have aY:=bY.out.tl.tl.tl.tl.tl.box.c1;have bf:=bY.out.tl.tl.tl.tl.tl.box.f0;have bg:=bY.out.tl.tl.tl.tl.tl.box.f1;have ay:=bY.out.tl.tl.tl.tl.tl.tl.box.c0;have aA:=bY.out.tl.tl.tl.tl.tl.tl.box.c1;have aF:=bY.out.tl.tl.tl.tl.tl.tl.box.f0;have aG:=bY.out.tl.tl.tl.tl.tl.tl.box.f1;go_wp2_with fail;refine(iM _ _ _ _ _ _ _ bY.out.fn bY.out.tl.sl).mono ?_;rintro e w4 ⟨rm,r0,rn,rc,rfl,hX,hB⟩;have vI:=hid (bY.out.below hB);have qP:=hid (Below.steps HB3.out hB);clear aB aC aH aI aX aY bf bg ay aA aF aG;clear bY HB3 hB;have aB:=vI.out.tl.tl.tl.tl.box.c0;have aC:=vI.out.tl.tl.tl.tl.box.c1;have aH:=vI.out.tl.tl.tl.tl.box.f0;have aI:=vI.out.tl.tl.tl.tl.box.f1;have aX:=vI.out.tl.tl.tl.tl.tl.box.c0;have aY:=vI.out.tl.tl.tl.tl.tl.box.c1;have bf:=vI.out.tl.tl.tl.tl.tl.box.f0;have bg:=vI.out.tl.tl.tl.tl.tl.box.f1;have ay:=vI.out.tl.tl.tl.tl.tl.tl.box.c0;have aA:=vI.out.tl.tl.tl.tl.tl.tl.box.c1;have aF:=vI.out.tl.tl.tl.tl.tl.tl.box.f0;have aG:=vI.out.tl.tl.tl.tl.tl.tl.box.f1;go_wp2_with fail;refine bodyPost_ret (v:= .agg #[.bool rm,a0f r0 rn rc]) (by simp[results,Tryz.results78,go_sem,ay,aA]) rfl ?_;exact⟨_,_,_,_,rfl,HZ.out▸hX.set2 vI.out.tl.tl.tl.tl.tl.tl.box _ _,aW qP.out (by omega) _ _⟩
theorem VY [Ol] {m:Bool} {ao bo:Option Addr} {n cap l cb:Nat} {x y:Int} {w:World} (hx:Nx w m ao n cap x) (hy:Nx w (!m) bo l cb y) (hlt:x.natAbs<y.natAbs):
  Calls Tryz.prog 78 #[.agg #[.bool m,a0f ao n cap],.agg #[.bool (!m),a0f bo l cb]] w (rC w (x+y)):=by
 obtain⟨⟨xs,hs,hz⟩,hle⟩:=hx;obtain⟨⟨ys,ht,hz2⟩,hle2⟩:=hy;have Zf:=gW m (val xs);have Zg:=gW (!m) (val ys);rw[hz]at Zf;rw[hz2]at Zg;have ze:Hid (val xs<=val ys):=by rw[Hid,<-Zf,<-Zg];omega
 have HZ:Hid (dK (!m) (val ys-val xs)=x+y):=by rw[Hid,L6 (!m) _ _ ze.out,hz2,Bool.not_not,hz,Int.add_comm]
 have HC:Hid (gG (val xs) (val ys)= -1):=by rw[Hid];unfold gG;rw[if_pos (by omega)]
 have hmm:(m== !m)=false:=by cases m<;>rfl
 clear hz hz2 Zf Zg hlt;go_enter Tryz.func78,Tryz.ntmps78;go_upto_region 1 with(fail)
 refine aj (λW hW=>?_);have HB0:Hid (Below w.heap.size w W):=by rw[hW];exact aN (aN (af _ _))
 have aM:bR W (w.heap.size) m ao n cap:=by rw[hW];exact((bR.new _ _ _ _ _ _ _ (by simp)).below (af _ _)).below (af _ _)
 have bO:bR W (w.heap.size+1) (!m) bo l cb:=by rw[hW];exact(bR.new _ _ _ _ _ _ _ (by simp)).below (af _ _)
 have aP:bR W (w.heap.size+2) false none 0 0:=by rw[hW];exact bR.new _ _ _ _ _ _ _ (by simp)
 have av:=hid (Live.dH (hs.below HB0.out) (Live.dH (ht.below HB0.out) (Live.aD aM (Live.aD bO (Live.aD aP (Live.nil W))))));clear hW aM bO aP;have aB:=av.out.tl.tl.box.c0;have aC:=av.out.tl.tl.box.c1;have aH:=av.out.tl.tl.box.f0;have aI:=av.out.tl.tl.box.f1;have aX:=av.out.tl.tl.tl.box.c0;have aY:=av.out.tl.tl.tl.box.c1;have bf:=av.out.tl.tl.tl.box.f0;have bg:=av.out.tl.tl.tl.box.f1;have ay:=av.out.tl.tl.tl.tl.box.c0;have aA:=av.out.tl.tl.tl.tl.box.c1;have aF:=av.out.tl.tl.tl.tl.box.f0;have aG:=av.out.tl.tl.tl.tl.box.f1;go_wp2_with fail;refine(Xn (-1) _ _ _ _ _ _ _ _ _ av.out.sl av.out.tl.sl HC).mono ?_;rintro e w1 ⟨rfl,hB⟩;have aL:=hid (av.out.below hB);have HB1:=hid (Below.steps HB0.out hB);clear aB aC aH aI aX aY bf bg ay aA aF aG;clear av HB0 hB;have aB:=aL.out.tl.tl.box.c0;have aC:=aL.out.tl.tl.box.c1;have aH:=aL.out.tl.tl.box.f0;have aI:=aL.out.tl.tl.box.f1;have aX:=aL.out.tl.tl.tl.box.c0;have aY:=aL.out.tl.tl.tl.box.c1;have bf:=aL.out.tl.tl.tl.box.f0;have bg:=aL.out.tl.tl.tl.box.f1;have ay:=aL.out.tl.tl.tl.tl.box.c0;have aA:=aL.out.tl.tl.tl.tl.box.c1;have aF:=aL.out.tl.tl.tl.tl.box.f0;have aG:=aL.out.tl.tl.tl.tl.box.f1;go_upto_region 5 with(fail)
 refine aj (λW2 hW2=>?_);have hX2:bR W2 (w.heap.size) (!m) bo l cb:=by rw[hW2];exact(aL.out.tl.tl.box.set _ _ _ _).far (by omega) _ _
 have hY2:bR W2 (w.heap.size+1) m ao n cap:=by rw[hW2];exact(aL.out.tl.tl.tl.box.far (by omega) _ _).set _ _ _ _
 have hR2:bR W2 (w.heap.size+2) false none 0 0:=by rw[hW2];exact(aL.out.tl.tl.tl.tl.box.far (by omega) _ _).far (by omega) _ _
 have G9:Sl W2 ao n cap xs:=by rw[hW2];exact qF (qF aL.out.sl aL.out.tl.tl.box _ _) (aL.out.tl.tl.tl.box.far (by omega) _ _) _ _
 have He:Sl W2 bo l cb ys:=by rw[hW2];exact qF (qF aL.out.tl.sl aL.out.tl.tl.box _ _) (aL.out.tl.tl.tl.box.far (by omega) _ _) _ _
 have HB2:Hid (Below w.heap.size w W2):=by rw[hW2];exact aW (aW HB1.out (by omega) _ _) (by omega) _ _
 have bL:=hid (Live.dH G9 (Live.dH He (Live.aD hX2 (Live.aD hY2 (Live.aD hR2 (Live.nil W2))))));clear aB aC aH aI aX aY bf bg ay aA aF aG;clear hW2 hX2 hY2 hR2 G9 He aL HB1;have aB:=bL.out.tl.tl.box.c0;have aC:=bL.out.tl.tl.box.c1;have aH:=bL.out.tl.tl.box.f0;have aI:=bL.out.tl.tl.box.f1;have aX:=bL.out.tl.tl.tl.box.c0;have aY:=bL.out.tl.tl.tl.box.c1;have bf:=bL.out.tl.tl.tl.box.f0;have bg:=bL.out.tl.tl.tl.box.f1;have ay:=bL.out.tl.tl.tl.tl.box.c0;have aA:=bL.out.tl.tl.tl.tl.box.c1;have aF:=bL.out.tl.tl.tl.tl.box.f0;have aG:=bL.out.tl.tl.tl.tl.box.f1;go_wp2_with fail;refine(mD _ _ _ _ _ _ _ _ _ bL.out.tl.sl bL.out.sl ze.out).mono ?_;rintro e w3 ⟨t0,tn,tc,rfl,hT,hB⟩;have bY:=hid (Live.dH hT.sl (bL.out.below hB));have HB3:=hid (Below.steps HB2.out hB);clear aB aC aH aI aX aY bf bg ay aA aF aG;clear bL HB2 hT hB;have aB:=bY.out.tl.tl.tl.box.c0;have aC:=bY.out.tl.tl.tl.box.c1;have aH:=bY.out.tl.tl.tl.box.f0;have aI:=bY.out.tl.tl.tl.box.f1;have aX:=bY.out.tl.tl.tl.tl.box.c0;have aY:=bY.out.tl.tl.tl.tl.box.c1;have bf:=bY.out.tl.tl.tl.tl.box.f0;have bg:=bY.out.tl.tl.tl.tl.box.f1;have ay:=bY.out.tl.tl.tl.tl.tl.box.c0;have aA:=bY.out.tl.tl.tl.tl.tl.box.c1;have aF:=bY.out.tl.tl.tl.tl.tl.box.f0;have aG:=bY.out.tl.tl.tl.tl.tl.box.f1;go_wp2_with fail;refine(gK _ _).mono ?_;rintro e w4 ⟨b,rfl,hb1,hb2,hbc,hB⟩;have vI:=hid (Live.nL hb2 hbc (bY.out.below hB));have qP:=hid (Below.steps HB3.out hB);clear aB aC aH aI aX aY bf bg ay aA aF aG;clear bY HB3 hb1 hbc hB;have aB:=vI.out.tl.tl.tl.tl.box.c0;have aC:=vI.out.tl.tl.tl.tl.box.c1;have aH:=vI.out.tl.tl.tl.tl.box.f0;have aI:=vI.out.tl.tl.tl.tl.box.f1;have aX:=vI.out.tl.tl.tl.tl.tl.box.c0;have aY:=vI.out.tl.tl.tl.tl.tl.box.c1;have bf:=vI.out.tl.tl.tl.tl.tl.box.f0;have bg:=vI.out.tl.tl.tl.tl.tl.box.f1;have ay:=vI.out.tl.tl.tl.tl.tl.tl.box.c0;have aA:=vI.out.tl.tl.tl.tl.tl.tl.box.c1;have aF:=vI.out.tl.tl.tl.tl.tl.tl.box.f0;have aG:=vI.out.tl.tl.tl.tl.tl.tl.box.f1;go_wp2_with fail;refine(iM _ _ _ _ _ _ _ vI.out.fn vI.out.tl.sl).mono ?_;rintro e w5 ⟨rm,r0,rn,rc,rfl,hX,hB⟩;have O3:=hid (vI.out.below hB);have og:=hid (Below.steps qP.out hB);clear aB aC aH aI aX aY bf bg ay aA aF aG
 clear vI qP hB;have aB:=O3.out.tl.tl.tl.tl.box.c0;have aC:=O3.out.tl.tl.tl.tl.box.c1;have aH:=O3.out.tl.tl.tl.tl.box.f0;have aI:=O3.out.tl.tl.tl.tl.box.f1;have aX:=O3.out.tl.tl.tl.tl.tl.box.c0;have aY:=O3.out.tl.tl.tl.tl.tl.box.c1;have bf:=O3.out.tl.tl.tl.tl.tl.box.f0;have bg:=O3.out.tl.tl.tl.tl.tl.box.f1;have ay:=O3.out.tl.tl.tl.tl.tl.tl.box.c0;have aA:=O3.out.tl.tl.tl.tl.tl.tl.box.c1;have aF:=O3.out.tl.tl.tl.tl.tl.tl.box.f0;have aG:=O3.out.tl.tl.tl.tl.tl.tl.box.f1;go_wp2_with fail;refine bodyPost_ret (v:= .agg #[.bool rm,a0f r0 rn rc]) (by simp[results,Tryz.results78,go_sem,ay,aA]) rfl ?_;exact⟨_,_,_,_,rfl,HZ.out▸hX.set2 O3.out.tl.tl.tl.tl.tl.tl.box _ _,aW og.out (by omega) _ _⟩
theorem vX [Ol] {m k:Bool} {ao bo:Option Addr} {n cap l cb:Nat} {x y:Int} {w:World} (hx:Nx w m ao n cap x) (hy:Nx w k bo l cb y):
  Calls Tryz.prog 78 #[.agg #[.bool m,a0f ao n cap],.agg #[.bool k,a0f bo l cb]] w (rC w (x+y)):=by
 by_cases hmk:k=m
 ·subst hmk;exact O1 hx hy
 ·obtain rfl:k= !m:=by cases m<;>cases k<;>simp at hmk ⊢
  by_cases h:y.natAbs<=x.natAbs
  ·exact VX hx hy h
  ·exact VY hx hy (by omega)
theorem Nx.neg {m:Bool} {ao:Option Addr} {n cap:Nat} {x:Int} {w:World} (h:Nx w m ao n cap x):Nx w (!m) ao n cap (-x):=by
 obtain⟨⟨xs,hs,hz⟩,hle⟩:=h;exact⟨⟨xs,hs,by rw[zK,hz]⟩,hle⟩
theorem QE [Ol] {m k:Bool} {ao bo:Option Addr} {n cap l cb:Nat} {x y:Int} {w:World} (hx:Nx w m ao n cap x) (hy:Nx w k bo l cb y):
  Calls Tryz.prog 87 #[.agg #[.bool m,a0f ao n cap],.agg #[.bool k,a0f bo l cb]] w (rC w (x-y)):=by
 go_enter Tryz.func87,Tryz.ntmps87;go_upto_region 1 with(fail)
 refine aj (λW hW=>?_);have HB0:Hid (Below w.heap.size w W):=by rw[hW];exact aN (aN (af _ _))
 have aM:bR W (w.heap.size) m ao n cap:=by rw[hW];exact((bR.new _ _ _ _ _ _ _ (by simp)).below (af _ _)).below (af _ _)
 have bO:bR W (w.heap.size+1) k bo l cb:=by rw[hW];exact(bR.new _ _ _ _ _ _ _ (by simp)).below (af _ _)
 have aP:bR W (w.heap.size+2) false none 0 0:=by rw[hW];exact bR.new _ _ _ _ _ _ _ (by simp)
 have av:=hid (Live.Fh (hx.below HB0.out) (Live.Fh ((hy.neg).below HB0.out) (Live.aD aM (Live.aD bO (Live.aD aP (Live.nil W))))));clear hW aM bO aP;have aB:=av.out.tl.tl.box.c0;have aC:=av.out.tl.tl.box.c1;have aH:=av.out.tl.tl.box.f0;have aI:=av.out.tl.tl.box.f1;have aX:=av.out.tl.tl.tl.box.c0;have aY:=av.out.tl.tl.tl.box.c1;have bf:=av.out.tl.tl.tl.box.f0;have bg:=av.out.tl.tl.tl.box.f1;have ay:=av.out.tl.tl.tl.tl.box.c0;have aA:=av.out.tl.tl.tl.tl.box.c1;have aF:=av.out.tl.tl.tl.tl.box.f0;have aG:=av.out.tl.tl.tl.tl.box.f1;go_wp2_with fail;refine(vX av.out.num av.out.tl.num).mono ?_;rintro e w1 ⟨rm,r0,rn,rc,rfl,hX,hB⟩;have aL:=hid (av.out.below hB);have HB1:=hid (Below.steps HB0.out hB);clear aB aC aH aI aX aY bf bg ay aA aF aG;clear av HB0 hB;have aB:=aL.out.tl.tl.box.c0;have aC:=aL.out.tl.tl.box.c1;have aH:=aL.out.tl.tl.box.f0;have aI:=aL.out.tl.tl.box.f1;have aX:=aL.out.tl.tl.tl.box.c0;have aY:=aL.out.tl.tl.tl.box.c1;have bf:=aL.out.tl.tl.tl.box.f0;have bg:=aL.out.tl.tl.tl.box.f1;have ay:=aL.out.tl.tl.tl.tl.box.c0;have aA:=aL.out.tl.tl.tl.tl.box.c1;have aF:=aL.out.tl.tl.tl.tl.box.f0;have aG:=aL.out.tl.tl.tl.tl.box.f1;go_wp2_with fail;refine bodyPost_ret (v:= .agg #[.bool rm,a0f r0 rn rc]) (by simp[results,Tryz.results87,go_sem,ay,aA]) rfl ?_;exact⟨_,_,_,_,rfl,(Int.sub_eq_add_neg (a:=x) (b:=y)).symm▸hX.set2 aL.out.tl.tl.tl.tl.box _ _,aW HB1.out (by omega) _ _⟩
open Lib (hid)
theorem jP [Ol] {m k:Bool} {ao bo:Option Addr} {n cap l cb:Nat} {x y:Int} {w:World} (hx:Nx w m ao n cap x) (hy:Nx w k bo l cb y):
  Calls Tryz.prog 79 #[.agg #[.bool m,a0f ao n cap],.agg #[.bool k,a0f bo l cb]] w (rC w (x*y)):=by
 obtain⟨⟨xs,hs,hz⟩,hle⟩:=hx;obtain⟨⟨ys,ht,hz2⟩,hle2⟩:=hy;have HZ:Hid (dK (m !=k) (val xs*val ys)=x*y):=by rw[Hid,Fg,hz,hz2]
 clear hz hz2;go_enter Tryz.func79,Tryz.ntmps79;go_upto_region 1 with(fail)
 refine aj (λW hW=>?_);have HB0:Hid (Below w.heap.size w W):=by rw[hW];exact aN (aN (af _ _))
 have aM:bR W (w.heap.size) m ao n cap:=by rw[hW];exact((bR.new _ _ _ _ _ _ _ (by simp)).below (af _ _)).below (af _ _)
 have bO:bR W (w.heap.size+1) k bo l cb:=by rw[hW];exact(bR.new _ _ _ _ _ _ _ (by simp)).below (af _ _)
 have aP:bR W (w.heap.size+2) false none 0 0:=by rw[hW];exact bR.new _ _ _ _ _ _ _ (by simp)
 have av:=hid (Live.dH (hs.below HB0.out) (Live.dH (ht.below HB0.out) (Live.aD aM (Live.aD bO (Live.aD aP (Live.nil W))))));clear hW aM bO aP;have aB:=av.out.tl.tl.box.c0;have aC:=av.out.tl.tl.box.c1;have aH:=av.out.tl.tl.box.f0;have aI:=av.out.tl.tl.box.f1;have aX:=av.out.tl.tl.tl.box.c0;have aY:=av.out.tl.tl.tl.box.c1;have bf:=av.out.tl.tl.tl.box.f0;have bg:=av.out.tl.tl.tl.box.f1;have ay:=av.out.tl.tl.tl.tl.box.c0;have aA:=av.out.tl.tl.tl.tl.box.c1;have aF:=av.out.tl.tl.tl.tl.box.f0;have aG:=av.out.tl.tl.tl.tl.box.f1;have jR:=hid (av.out.below ((Below.refl _ _).drew));have jS:=hid HB0.out.drew;clear aB aC aH aI aX aY bf bg ay aA aF aG;clear av HB0;have av:=hid jR.out;have HB0:=hid jS.out;clear jR jS;have aB:=av.out.tl.tl.box.c0;have aC:=av.out.tl.tl.box.c1;have aH:=av.out.tl.tl.box.f0;have aI:=av.out.tl.tl.box.f1;have aX:=av.out.tl.tl.tl.box.c0;have aY:=av.out.tl.tl.tl.box.c1;have bf:=av.out.tl.tl.tl.box.f0;have bg:=av.out.tl.tl.tl.box.f1;have ay:=av.out.tl.tl.tl.tl.box.c0;have aA:=av.out.tl.tl.tl.tl.box.c1;have aF:=av.out.tl.tl.tl.tl.box.f0;have aG:=av.out.tl.tl.tl.tl.box.f1;have r9:True:=trivial;have Ig:=hid (a0a av.out.tl.tl.box.c0 (a0a av.out.tl.tl.box.c1 (a0a av.out.tl.tl.tl.box.c0 (av.out.tl.tl.tl.box.c1))))
 go_region_held3 (λw'=>w'.cell? ⟨w.heap.size,0,none⟩=some (.bool m)/\ w'.cell? ⟨w.heap.size,1,none⟩=some (a0f ao n cap)/\ w'.cell? ⟨w.heap.size+1,0,none⟩=some (.bool k)/\ w'.cell? ⟨w.heap.size+1,1,none⟩=some (a0f bo l cb))
  (first|exact Ih.out|exact Ii.out|exact Ij.out|exact Ig.out|exact(a0a ((bT (λe=>by have e2:w.heap.size=w.heap.size+2:=e;omega) _ _).trans aB) (a0a ((bT (λe=>by have e2:w.heap.size=w.heap.size+2:=e;omega) _ _).trans aC) (a0a ((bT (λe=>by have e2:w.heap.size+1=w.heap.size+2:=e;omega) _ _).trans aX) ((bT (λe=>by have e2:w.heap.size+1=w.heap.size+2:=e;omega) _ _).trans aY))))|go_keep)
  (first
   |(have _t:=r9;clear _t r9;go_at_call 129;go_must (with_reducible refine(gK _ _).mono ?_);rintro e w1 ⟨Vy,rfl,hb1,hb2,hbc,hB⟩;have aL:=hid (Live.nL hb2 hbc (av.out.below hB));have HB1:=hid (Below.steps HB0.out hB);clear aB aC aH aI aX aY bf bg ay aA aF aG;clear av HB0 hb1 hbc hB;have aB:=aL.out.tl.tl.tl.box.c0;have aC:=aL.out.tl.tl.tl.box.c1;have aH:=aL.out.tl.tl.tl.box.f0;have aI:=aL.out.tl.tl.tl.box.f1;have aX:=aL.out.tl.tl.tl.tl.box.c0;have aY:=aL.out.tl.tl.tl.tl.box.c1;have bf:=aL.out.tl.tl.tl.tl.box.f0;have bg:=aL.out.tl.tl.tl.tl.box.f1;have ay:=aL.out.tl.tl.tl.tl.tl.box.c0;have aA:=aL.out.tl.tl.tl.tl.tl.box.c1;have aF:=aL.out.tl.tl.tl.tl.tl.box.f0;have aG:=aL.out.tl.tl.tl.tl.tl.box.f1;have Ij:=hid (a0a aL.out.tl.tl.tl.box.c0 (a0a aL.out.tl.tl.tl.box.c1 (a0a aL.out.tl.tl.tl.tl.box.c0 (aL.out.tl.tl.tl.tl.box.c1))));have si:True:=trivial)
   |(have _t:=si;clear _t si;go_at_call 133;go_must (with_reducible refine(tY _ _ _ _ _ _ _ _ _ aL.out.tl.sl aL.out.tl.tl.sl (by omega) (by omega)).mono ?_);rintro e w2 ⟨t0,tn,tc,rfl,hT,hB⟩;have bL:=hid (Live.dH hT.sl (aL.out.below hB));have HB2:=hid (Below.steps HB1.out hB);clear aB aC aH aI aX aY bf bg ay aA aF aG;clear aL HB1 hT hB;have aB:=bL.out.tl.tl.tl.tl.box.c0;have aC:=bL.out.tl.tl.tl.tl.box.c1;have aH:=bL.out.tl.tl.tl.tl.box.f0;have aI:=bL.out.tl.tl.tl.tl.box.f1;have aX:=bL.out.tl.tl.tl.tl.tl.box.c0;have aY:=bL.out.tl.tl.tl.tl.tl.box.c1;have bf:=bL.out.tl.tl.tl.tl.tl.box.f0;have bg:=bL.out.tl.tl.tl.tl.tl.box.f1;have ay:=bL.out.tl.tl.tl.tl.tl.tl.box.c0;have aA:=bL.out.tl.tl.tl.tl.tl.tl.box.c1;have aF:=bL.out.tl.tl.tl.tl.tl.tl.box.f0;have aG:=bL.out.tl.tl.tl.tl.tl.tl.box.f1;have Ii:=hid (a0a bL.out.tl.tl.tl.tl.box.c0 (a0a bL.out.tl.tl.tl.tl.box.c1 (a0a bL.out.tl.tl.tl.tl.tl.box.c0 (bL.out.tl.tl.tl.tl.tl.box.c1))));have sj:True:=trivial)
   |(have _t:=sj;clear _t sj;go_at_call 178;go_must (with_reducible refine(iM _ _ _ _ _ _ _ bL.out.tl.fn bL.out.sl).mono ?_);rintro e w3 ⟨rm,r0,rn,rc,rfl,hX,hB⟩;have bY:=hid (bL.out.below hB);have HB3:=hid (Below.steps HB2.out hB);clear aB aC aH aI aX aY bf bg ay aA aF aG;clear bL HB2 hB;have aB:=bY.out.tl.tl.tl.tl.box.c0;have aC:=bY.out.tl.tl.tl.tl.box.c1;have aH:=bY.out.tl.tl.tl.tl.box.f0;have aI:=bY.out.tl.tl.tl.tl.box.f1;have aX:=bY.out.tl.tl.tl.tl.tl.box.c0;have aY:=bY.out.tl.tl.tl.tl.tl.box.c1;have bf:=bY.out.tl.tl.tl.tl.tl.box.f0;have bg:=bY.out.tl.tl.tl.tl.tl.box.f1;have ay:=bY.out.tl.tl.tl.tl.tl.tl.box.c0;have aA:=bY.out.tl.tl.tl.tl.tl.tl.box.c1;have aF:=bY.out.tl.tl.tl.tl.tl.tl.box.f0;have aG:=bY.out.tl.tl.tl.tl.tl.tl.box.f1;have Ih:=hid (a0a bY.out.tl.tl.tl.tl.box.c0 (a0a bY.out.tl.tl.tl.tl.box.c1 (a0a bY.out.tl.tl.tl.tl.tl.box.c0 (bY.out.tl.tl.tl.tl.tl.box.c1))));have R7:True:=trivial))
 clear Ig Ij Ii Ih;go_wp2_with fail;refine bodyPost_ret (v:= .agg #[.bool rm,a0f r0 rn rc]) (by simp[results,Tryz.results79,go_sem,ay,aA]) rfl ?_;exact⟨_,_,_,_,rfl,HZ.out▸hX.set2 bY.out.tl.tl.tl.tl.tl.tl.box _ _,aW HB3.out (by omega) _ _⟩
theorem Zh [Ol] {m:Bool} {ao:Option Addr} {cap:Nat} {xs:List Nat} {w:World} (r:Bool) (hs:Sl w ao 0 cap xs) (h:uw m 0 xs=r):
  Calls Tryz.prog 88 #[.agg #[.bool m,a0f ao 0 cap]] w (cu (.bool r) w):=by
 have hbig:=hs.big;obtain rfl:r= !m:=by rw[<-h];unfold uw;rw[if_pos rfl]
 go_enter Tryz.func88,Tryz.ntmps88;go_upto_region 1 with(fail)
 refine aj (λW hW=>?_);have HB0:Hid (Below w.heap.size w W):=by rw[hW];exact af _ _
 have aM:bR W (w.heap.size) m ao 0 cap:=by rw[hW];exact bR.new _ _ _ _ _ _ _ (by simp)
 have av:=Lib.hid (Live.aD aM (Live.nil W));clear hW aM;have aB:=av.out.box.c0;have aC:=av.out.box.c1;have aH:=av.out.box.f0;have aI:=av.out.box.f1;go_wp2_with fail;go_ret;exact⟨rfl,HB0.out⟩
theorem Zi [Ol] {m:Bool} {ao:Option Addr} {n cap:Nat} {xs:List Nat} {w:World} (r:Bool) (hs:Sl w ao n cap xs) (h:uw m n xs=r) (h0:0<n):
  Calls Tryz.prog 88 #[.agg #[.bool m,a0f ao n cap]] w (cu (.bool r) w):=by
 have hbig:=hs.big;obtain⟨b,off,rfl,hbb,hcell⟩:=hs.at (by omega);obtain⟨j,rfl⟩:∃j,n=j+1:=⟨n-1,by omega⟩;have hc:=hcell j (by omega);obtain⟨u,hu⟩:∃u,u=xs.getD j 0:=⟨_,rfl⟩;rw[<-hu]at hc
 have hr:(((u:Nat):Int) !=0)=r:=by
  rw[<-h];unfold uw;rw[if_neg (by omega),Nat.add_sub_cancel,<-hu];rw[Bool.eq_iff_iff];simp
 have hz:((((j+1:Nat)):Int)==0)=false:=by simp;omega
 have ej:(((j+1:Nat)):Int)-1=(j:Int):=by omega
 clear hcell hu h;go_enter Tryz.func88,Tryz.ntmps88;go_upto_region 1 with(fail)
 refine aj (λW hW=>?_);have HB0:Hid (Below w.heap.size w W):=by rw[hW];exact af _ _
 have aM:bR W (w.heap.size) m (some ⟨b,off,none⟩) (j+1) cap:=by rw[hW];exact bR.new _ _ _ _ _ _ _ (by simp)
 have av:=Lib.hid (Live.aD aM (Live.nil W));clear hW aM;have aB:=av.out.box.c0;have aC:=av.out.box.c1;have aH:=av.out.box.f0;have aI:=av.out.box.f1;have hcW:W.cell? ⟨b,off+j,none⟩=some (.int .u32 ((u:Nat):Int)):=(HB0.out.cell (by exact hbb)).trans hc;go_wp2_with fail;go_ret;exact⟨rfl,HB0.out⟩
theorem LY [Ol] {m:Bool} {ao:Option Addr} {n cap:Nat} {xs:List Nat} {w:World} (r:Bool) (hs:Sl w ao n cap xs) (h:uw m n xs=r):
  Calls Tryz.prog 88 #[.agg #[.bool m,a0f ao n cap]] w (cu (.bool r) w):=by
 rcases Nat.eq_zero_or_pos n with h0|h0
 ·subst h0;exact Zh r hs h
 ·exact Zi r hs h h0
end Go.Proofs.YtmenbpmciblnlaaGreatDoor
