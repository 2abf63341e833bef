/- WSign, WOfI, WAdd, WMul, WMay, WCmp -/
import Derived.Test.YthdhjckangekoaaGreatGWInt
import Derived.Deep.Cut
import Derived.Test.YthdhjckangekoaaGreatGTimes
set_option maxHeartbeats 40000000
set_option maxRecDepth 100000
namespace Go.Proofs.YthdhjckangekoaaGreat
open Lib (hid)
open Go.RowKit
def ag4 (w:World) (neg:Bool) (e:Ending) (w':World):Prop:=
 ∃b,e= .returned (.func (.func 157) #[] #[.pointer (some ⟨b,0,none⟩)])/\ w.heap.size<=b/\ b<w'.heap.size/\ w'.cell? ⟨b,0,none⟩=some (.bool neg)/\ Below w.heap.size w w'
theorem jR (neg:Bool) (w:World):Calls Tryz.prog 135 #[.bool neg] w (ag4 w neg):=by
 have Vb:∀(fn:Fn) (first cap:Array Value) (w:World),(Instr.makeFunc fn first cap).run Tryz.prog w= .ok (.func fn first cap) w:=fun _ _ _ _=>rfl
 go_enter Tryz.func135,Tryz.ntmps135;go_wp2_with fail;go_ret;exact⟨_,rfl,Nat.le_refl _,by simp,by simp[go_sem],af _ _⟩
theorem lC (neg:Bool) (b:Nat) (ao:Option Addr) (n cap v:Nat) (w:World) (hb:w.cell? ⟨b,0,none⟩=some (.bool neg)) (ha:Sl w ao n cap (limbs v)):
  Calls Tryz.prog 157 #[.slice ao n cap,.pointer (some ⟨b,0,none⟩)] w (rR w (dV neg v)):=by
 have hbig:=ha.big;have hlt:b<w.heap.size:=by simpa using World.block_lt_of_cell? w _ hb
 have HA:=hid ha;clear ha;cases neg
 ·go_enter Tryz.func157,Tryz.ntmps157;go_wp2_with fail;refine bodyPost_ret (v:= .agg #[.bool false,.slice ao n cap]) (by simp[results,Tryz.results157,go_sem]) rfl ?_;exact⟨_,_,_,_,rfl,Cn.of (HA.out.alloc _) rfl,af _ _⟩
 ·go_enter Tryz.func157,Tryz.ntmps157;go_wp2_with fail;refine bodyPost_ret (v:= .agg #[.bool (decide (0<n)),.slice ao n cap]) (by simp[results,Tryz.results157,go_sem]) rfl ?_;exact⟨_,_,_,_,rfl,Cn.of (HA.out.alloc _) (by simp),af _ _⟩
theorem RP [Ol] {m:Bool} {ao:Option Addr} {n cap:Nat} {x:Int} {w:World} (hx:Nx w m ao n cap x) (h0:x=0):
  Calls Tryz.prog 71 #[.agg #[.bool m,.slice ao n cap]] w (bN (.int .i64 0) w):=by
 obtain⟨⟨xs,hs,hz⟩,hle⟩:=hx;have HV:Hid (val xs=0):=by rw[Hid,<-jD m (val xs),hz,h0];rfl
 clear h0 hz;go_enter Tryz.func71,Tryz.ntmps71;go_upto_region 1 with(fail)
 refine au (fun W hW=>?_);have HB0:Hid (Below w.heap.size w W):=by rw[hW];exact af _ _
 have aO:bK W (w.heap.size) m ao n cap:=by rw[hW];exact bK.new _ _ _ _ _ _ _ (by simp)
 have ax:=hid (Live.dI (hs.below HB0.out) (Live.aK aO (Live.nil W)));clear hW aO;have aL:=ax.out.tl.box.c0;have aM:=ax.out.tl.box.c1;have aR:=ax.out.tl.box.f0;have aS:=ax.out.tl.box.f1;go_wp2_with fail;refine(o7 0 _ _ _ _ _ ax.out.sl (by rw[HV.out];rfl)).mono ?_;rintro e w' ⟨rfl,rfl⟩;go_wp2_with fail;go_ret;exact⟨rfl,HB0.out⟩
theorem RQ [Ol] {m:Bool} {ao:Option Addr} {n cap:Nat} {x:Int} {w:World} (hx:Nx w m ao n cap x) (h0:x<0):
  Calls Tryz.prog 71 #[.agg #[.bool m,.slice ao n cap]] w (bN (.int .i64 (-1)) w):=by
 obtain⟨⟨xs,hs,hz⟩,hle⟩:=hx;have hv:val xs≠0:=fun h=>by rw[h,Em]at hz;omega
 obtain⟨k,hk⟩:∃k,k=nbits (val xs):=⟨_,rfl⟩
 have hq:(((k:Nat):Int)==0)=false:=by
  have:k≠0:=by rw[hk];exact fun e=>hv (mZ.1 e)
  simp;omega
 have HV:=hid hk.symm
 obtain rfl:m=true:=by
  cases m
  ·unfold dV at hz;simp at hz;omega
  ·rfl
 clear h0 hz hv hk;go_enter Tryz.func71,Tryz.ntmps71;go_upto_region 1 with(fail)
 refine au (fun W hW=>?_);have HB0:Hid (Below w.heap.size w W):=by rw[hW];exact af _ _
 have aO:bK W (w.heap.size) true ao n cap:=by rw[hW];exact bK.new _ _ _ _ _ _ _ (by simp)
 have ax:=hid (Live.dI (hs.below HB0.out) (Live.aK aO (Live.nil W)));clear hW aO;have aL:=ax.out.tl.box.c0;have aM:=ax.out.tl.box.c1;have aR:=ax.out.tl.box.f0;have aS:=ax.out.tl.box.f1;go_wp2_with fail;refine(o7 k _ _ _ _ _ ax.out.sl HV.out).mono ?_;rintro e w' ⟨rfl,rfl⟩;go_wp2_with fail;go_ret;exact⟨rfl,HB0.out⟩
theorem RS [Ol] {m:Bool} {ao:Option Addr} {n cap:Nat} {x:Int} {w:World} (hx:Nx w m ao n cap x) (h0:0<x):
  Calls Tryz.prog 71 #[.agg #[.bool m,.slice ao n cap]] w (bN (.int .i64 1) w):=by
 obtain⟨⟨xs,hs,hz⟩,hle⟩:=hx;have hv:val xs≠0:=fun h=>by rw[h,Em]at hz;omega
 obtain⟨k,hk⟩:∃k,k=nbits (val xs):=⟨_,rfl⟩
 have hq:(((k:Nat):Int)==0)=false:=by
  have:k≠0:=by rw[hk];exact fun e=>hv (mZ.1 e)
  simp;omega
 have HV:=hid hk.symm
 obtain rfl:m=false:=by
  cases m
  ·rfl
  ·unfold dV at hz;simp at hz;omega
 clear h0 hz hv hk;go_enter Tryz.func71,Tryz.ntmps71;go_upto_region 1 with(fail)
 refine au (fun W hW=>?_);have HB0:Hid (Below w.heap.size w W):=by rw[hW];exact af _ _
 have aO:bK W (w.heap.size) false ao n cap:=by rw[hW];exact bK.new _ _ _ _ _ _ _ (by simp)
 have ax:=hid (Live.dI (hs.below HB0.out) (Live.aK aO (Live.nil W)));clear hW aO;have aL:=ax.out.tl.box.c0;have aM:=ax.out.tl.box.c1;have aR:=ax.out.tl.box.f0;have aS:=ax.out.tl.box.f1;go_wp2_with fail;refine(o7 k _ _ _ _ _ ax.out.sl HV.out).mono ?_;rintro e w' ⟨rfl,rfl⟩;go_wp2_with fail;go_ret;exact⟨rfl,HB0.out⟩
theorem uf [Ol] (s:Int) {m:Bool} {ao:Option Addr} {n cap:Nat} {x:Int} {w:World} (hx:Nx w m ao n cap x) (h:x.sign=s):
  Calls Tryz.prog 71 #[.agg #[.bool m,.slice ao n cap]] w (bN (.int .i64 s) w):=by
 rcases Int.lt_trichotomy x 0 with h0|h0|h0
 ·rw[Int.sign_eq_neg_one_of_neg h0]at h;rw[<-h];exact RQ hx h0
 ·rw[h0,Int.sign_zero]at h;rw[<-h];exact RP hx h0
 ·rw[Int.sign_eq_one_of_pos h0]at h;rw[<-h];exact RS hx h0
open Lib (hid)
theorem ZQ [Ol] (a:Nat) (w:World) (h:a<=9223372036854775807):
  Calls Tryz.prog 124 #[.int .i64 ((a:Int))] w (rR w (dV false a)):=by
 go_enter Tryz.func124,Tryz.ntmps124;go_upto_region 1 with(fail)
 refine au (fun W hW=>?_);have HB0:Hid (Below w.heap.size w W):=by rw[hW];exact af _ _
 have bf:bK W (w.heap.size) false none 0 0:=by rw[hW];exact bK.new _ _ _ _ _ _ _ (by simp)
 have ax:=hid (Live.aK bf (Live.nil W));clear hW bf;have aF:=ax.out.box.c0;have aG:=ax.out.box.c1;have aP:=ax.out.box.f0;have aQ:=ax.out.box.f1;go_wp2_with fail;refine(jR _ _).mono ?_;rintro e w1 ⟨b,rfl,hb1,hb2,hbc,hB⟩;have aT:=hid (Live.uZ hb2 hbc (ax.out.below hB));have HB1:=hid (Below.steps HB0.out hB);clear aF aG aP aQ;clear ax HB0 hb1 hbc hB;have aF:=aT.out.tl.box.c0;have aG:=aT.out.tl.box.c1;have aP:=aT.out.tl.box.f0;have aQ:=aT.out.tl.box.f1;go_wp2_with fail;refine(nS a _ (by omega)).mono ?_;rintro e w2 ⟨t0,tn,tc,rfl,hT,hB⟩;have bI:=hid (Live.dI hT.sl (aT.out.below hB));have HB2:=hid (Below.steps HB1.out hB);clear aF aG aP aQ;clear aT HB1 hT hB;have aF:=bI.out.tl.tl.box.c0;have aG:=bI.out.tl.tl.box.c1;have aP:=bI.out.tl.tl.box.f0;have aQ:=bI.out.tl.tl.box.f1;go_wp2_with fail;refine(lC _ _ _ _ _ _ _ bI.out.tl.fn bI.out.sl).mono ?_;rintro e w3 ⟨rm,r0,rn,rc,rfl,hX,hB⟩;have cO:=hid (bI.out.below hB);have HB3:=hid (Below.steps HB2.out hB);clear aF aG aP aQ;clear bI HB2 hB;have aF:=cO.out.tl.tl.box.c0;have aG:=cO.out.tl.tl.box.c1;have aP:=cO.out.tl.tl.box.f0;have aQ:=cO.out.tl.tl.box.f1;go_wp2_with fail;refine bodyPost_ret (v:= .agg #[.bool rm,.slice r0 rn rc]) (by simp[results,Tryz.results124,go_sem,aF,aG]) rfl ?_;exact⟨_,_,_,_,rfl,hX.set2 cO.out.tl.tl.box _ _,bD HB3.out (by omega) _ _⟩
theorem ZR [Ol] (a:Nat) (w:World) (h:0<a/\ a<=9223372036854775808):
  Calls Tryz.prog 124 #[.int .i64 (-(a:Int))] w (rR w (dV true a)):=by
 have e1:IntKind.u64.wrap (-((a:Nat):Int))=18446744073709551616-((a:Nat):Int):=by unfold IntKind.wrap;simp[IntKind.signed,IntKind.bits];omega
 have e2:IntKind.u64.wrap (-(18446744073709551616-((a:Nat):Int)))=((a:Nat):Int):=by unfold IntKind.wrap;simp[IntKind.signed,IntKind.bits];omega
 have d1:decide (-((a:Nat):Int)<0)=true:=by simp;omega
 have d2:(0:Int)<((a:Nat):Int):=by omega
 go_enter Tryz.func124,Tryz.ntmps124;go_upto_region 1 with(fail)
 refine au (fun W hW=>?_);have HB0:Hid (Below w.heap.size w W):=by rw[hW];exact af _ _
 have bf:bK W (w.heap.size) false none 0 0:=by rw[hW];exact bK.new _ _ _ _ _ _ _ (by simp)
 have ax:=hid (Live.aK bf (Live.nil W));clear hW bf;have aF:=ax.out.box.c0;have aG:=ax.out.box.c1;have aP:=ax.out.box.f0;have aQ:=ax.out.box.f1;go_wp2_with fail;refine(jR _ _).mono ?_;rintro e w1 ⟨b,rfl,hb1,hb2,hbc,hB⟩;have aT:=hid (Live.uZ hb2 hbc (ax.out.below hB));have HB1:=hid (Below.steps HB0.out hB);clear aF aG aP aQ;clear ax HB0 hb1 hbc hB;have aF:=aT.out.tl.box.c0;have aG:=aT.out.tl.box.c1;have aP:=aT.out.tl.box.f0;have aQ:=aT.out.tl.box.f1;go_wp2_with fail;refine(nS a _ (by omega)).mono ?_;rintro e w2 ⟨t0,tn,tc,rfl,hT,hB⟩;have bI:=hid (Live.dI hT.sl (aT.out.below hB));have HB2:=hid (Below.steps HB1.out hB);clear aF aG aP aQ;clear aT HB1 hT hB;have aF:=bI.out.tl.tl.box.c0;have aG:=bI.out.tl.tl.box.c1;have aP:=bI.out.tl.tl.box.f0;have aQ:=bI.out.tl.tl.box.f1;go_wp2_with fail;refine(lC _ _ _ _ _ _ _ bI.out.tl.fn bI.out.sl).mono ?_;rintro e w3 ⟨rm,r0,rn,rc,rfl,hX,hB⟩;have cO:=hid (bI.out.below hB);have HB3:=hid (Below.steps HB2.out hB);clear aF aG aP aQ;clear bI HB2 hB;have aF:=cO.out.tl.tl.box.c0;have aG:=cO.out.tl.tl.box.c1;have aP:=cO.out.tl.tl.box.f0;have aQ:=cO.out.tl.tl.box.f1;go_wp2_with fail;refine bodyPost_ret (v:= .agg #[.bool rm,.slice r0 rn rc]) (by simp[results,Tryz.results124,go_sem,aF,aG]) rfl ?_;exact⟨_,_,_,_,rfl,hX.set2 cO.out.tl.tl.box _ _,bD HB3.out (by omega) _ _⟩
theorem xu [Ol] (n:Int) (w:World) (h: -9223372036854775808<=n/\ n<=9223372036854775807):
  Calls Tryz.prog 124 #[.int .i64 n] w (rR w n):=by
 by_cases h0:n<0
 ·obtain⟨a,rfl⟩:∃a:Nat,n= -(a:Int):=⟨n.natAbs,by omega⟩;exact ZR a w (by omega)
 ·obtain⟨a,rfl⟩:=Int.eq_ofNat_of_zero_le (Int.not_lt.1 h0);exact ZQ a w (by omega)
open Lib (hid)
theorem Ld [Ol] {m:Bool} {ao bo:Option Addr} {n cap l cb:Nat} {x y:Int} {w:World} (hx:Nx w m ao n cap x) (hy:Nx w m bo l cb y):
  Calls Tryz.prog 111 #[.agg #[.bool m,.slice ao n cap],.agg #[.bool m,.slice bo l cb]] w (rR w (x+y)):=by
 obtain⟨⟨xs,hs,hz⟩,hle⟩:=hx;obtain⟨⟨ys,ht,hz2⟩,hle2⟩:=hy;have HZ:Hid (dV m (val xs+val ys)=x+y):=by rw[Hid,Rz,hz,hz2]
 clear hz hz2;go_enter Tryz.func111,Tryz.ntmps111;go_upto_region 1 with(fail)
 refine au (fun W hW=>?_);have HB0:Hid (Below w.heap.size w W):=by rw[hW];exact aA (aA (af _ _))
 have aO:bK W (w.heap.size) m ao n cap:=by rw[hW];exact((bK.new _ _ _ _ _ _ _ (by simp)).below (af _ _)).below (af _ _)
 have bL:bK W (w.heap.size+1) m bo l cb:=by rw[hW];exact(bK.new _ _ _ _ _ _ _ (by simp)).below (af _ _)
 have bf:bK W (w.heap.size+2) false none 0 0:=by rw[hW];exact bK.new _ _ _ _ _ _ _ (by simp)
 have ax:=hid (Live.dI (hs.below HB0.out) (Live.dI (ht.below HB0.out) (Live.aK aO (Live.aK bL (Live.aK bf (Live.nil W))))));clear hW aO bL bf;have aL:=ax.out.tl.tl.box.c0;have aM:=ax.out.tl.tl.box.c1;have aR:=ax.out.tl.tl.box.f0;have aS:=ax.out.tl.tl.box.f1;have bq:=ax.out.tl.tl.tl.box.c0;have bA:=ax.out.tl.tl.tl.box.c1;have bB:=ax.out.tl.tl.tl.box.f0;have bC:=ax.out.tl.tl.tl.box.f1;have aF:=ax.out.tl.tl.tl.tl.box.c0;have aG:=ax.out.tl.tl.tl.tl.box.c1;have aP:=ax.out.tl.tl.tl.tl.box.f0;have aQ:=ax.out.tl.tl.tl.tl.box.f1;go_wp2_with fail;have qz:=hid (ax.out.below ((Below.refl _ _).drew));have qA:=hid HB0.out.drew;clear aL aM aR aS bq bA bB bC aF aG aP aQ;clear ax HB0;have ax:=hid qz.out;have HB0:=hid qA.out;clear qz qA;have aL:=ax.out.tl.tl.box.c0;have aM:=ax.out.tl.tl.box.c1;have aR:=ax.out.tl.tl.box.f0;have aS:=ax.out.tl.tl.box.f1;have bq:=ax.out.tl.tl.tl.box.c0;have bA:=ax.out.tl.tl.tl.box.c1;have bB:=ax.out.tl.tl.tl.box.f0;have bC:=ax.out.tl.tl.tl.box.f1;have aF:=ax.out.tl.tl.tl.tl.box.c0;have aG:=ax.out.tl.tl.tl.tl.box.c1;have aP:=ax.out.tl.tl.tl.tl.box.f0;have aQ:=ax.out.tl.tl.tl.tl.box.f1;have O1:True:=trivial;have ZT:=hid (And.intro ax.out.tl.tl.box.c0 (And.intro ax.out.tl.tl.box.c1 (And.intro ax.out.tl.tl.tl.box.c0 (ax.out.tl.tl.tl.box.c1))))
 go_region_held3 (fun w'=>w'.cell? ⟨w.heap.size,0,none⟩=some (.bool m)/\ w'.cell? ⟨w.heap.size,1,none⟩=some (.slice ao n cap)/\ w'.cell? ⟨w.heap.size+1,0,none⟩=some (.bool m)/\ w'.cell? ⟨w.heap.size+1,1,none⟩=some (.slice bo l cb))
  (first|exact ZU.out|exact ZV.out|exact ZW.out|exact ZT.out|exact(And.intro ((bU (fun e=>by have e2:w.heap.size=w.heap.size+2:=e;omega) _ _).trans aL) (And.intro ((bU (fun e=>by have e2:w.heap.size=w.heap.size+2:=e;omega) _ _).trans aM) (And.intro ((bU (fun e=>by have e2:w.heap.size+1=w.heap.size+2:=e;omega) _ _).trans bq) ((bU (fun e=>by have e2:w.heap.size+1=w.heap.size+2:=e;omega) _ _).trans bA))))|go_keep)
  (first
   |(have _t:=O1;clear _t O1;go_at_call 135;go_must (with_reducible refine(jR _ _).mono ?_);rintro e w1 ⟨ag5,rfl,hb1,hb2,hbc,hB⟩;have aT:=hid (Live.uZ hb2 hbc (ax.out.below hB));have HB1:=hid (Below.steps HB0.out hB);clear aL aM aR aS bq bA bB bC aF aG aP aQ;clear ax HB0 hb1 hbc hB;have aL:=aT.out.tl.tl.tl.box.c0;have aM:=aT.out.tl.tl.tl.box.c1;have aR:=aT.out.tl.tl.tl.box.f0;have aS:=aT.out.tl.tl.tl.box.f1;have bq:=aT.out.tl.tl.tl.tl.box.c0;have bA:=aT.out.tl.tl.tl.tl.box.c1;have bB:=aT.out.tl.tl.tl.tl.box.f0;have bC:=aT.out.tl.tl.tl.tl.box.f1;have aF:=aT.out.tl.tl.tl.tl.tl.box.c0;have aG:=aT.out.tl.tl.tl.tl.tl.box.c1;have aP:=aT.out.tl.tl.tl.tl.tl.box.f0;have aQ:=aT.out.tl.tl.tl.tl.tl.box.f1;have ZW:=hid (And.intro aT.out.tl.tl.tl.box.c0 (And.intro aT.out.tl.tl.tl.box.c1 (And.intro aT.out.tl.tl.tl.tl.box.c0 (aT.out.tl.tl.tl.tl.box.c1))));have O3:True:=trivial)
   |(have _t:=O3;clear _t O3;go_at_call 136;go_must (with_reducible refine(rq _ _ _ _ _ _ _ _ _ aT.out.tl.sl aT.out.tl.tl.sl (by omega) (by omega)).mono ?_);rintro e w2 ⟨t0,tn,tc,rfl,hT,hB⟩;have bI:=hid (Live.dI hT.sl (aT.out.below hB));have HB2:=hid (Below.steps HB1.out hB);clear aL aM aR aS bq bA bB bC aF aG aP aQ;clear aT HB1 hT hB;have aL:=bI.out.tl.tl.tl.tl.box.c0;have aM:=bI.out.tl.tl.tl.tl.box.c1;have aR:=bI.out.tl.tl.tl.tl.box.f0;have aS:=bI.out.tl.tl.tl.tl.box.f1;have bq:=bI.out.tl.tl.tl.tl.tl.box.c0;have bA:=bI.out.tl.tl.tl.tl.tl.box.c1;have bB:=bI.out.tl.tl.tl.tl.tl.box.f0;have bC:=bI.out.tl.tl.tl.tl.tl.box.f1;have aF:=bI.out.tl.tl.tl.tl.tl.tl.box.c0;have aG:=bI.out.tl.tl.tl.tl.tl.tl.box.c1;have aP:=bI.out.tl.tl.tl.tl.tl.tl.box.f0;have aQ:=bI.out.tl.tl.tl.tl.tl.tl.box.f1;have ZV:=hid (And.intro bI.out.tl.tl.tl.tl.box.c0 (And.intro bI.out.tl.tl.tl.tl.box.c1 (And.intro bI.out.tl.tl.tl.tl.tl.box.c0 (bI.out.tl.tl.tl.tl.tl.box.c1))));have O4:True:=trivial)
   |(have _t:=O4;clear _t O4;go_at_call 157;go_must (with_reducible refine(lC _ _ _ _ _ _ _ bI.out.tl.fn bI.out.sl).mono ?_);rintro e w3 ⟨rm,r0,rn,rc,rfl,hX,hB⟩;have cO:=hid (bI.out.below hB);have HB3:=hid (Below.steps HB2.out hB);clear aL aM aR aS bq bA bB bC aF aG aP aQ;clear bI HB2 hB;have aL:=cO.out.tl.tl.tl.tl.box.c0;have aM:=cO.out.tl.tl.tl.tl.box.c1;have aR:=cO.out.tl.tl.tl.tl.box.f0;have aS:=cO.out.tl.tl.tl.tl.box.f1;have bq:=cO.out.tl.tl.tl.tl.tl.box.c0;have bA:=cO.out.tl.tl.tl.tl.tl.box.c1;have bB:=cO.out.tl.tl.tl.tl.tl.box.f0;have bC:=cO.out.tl.tl.tl.tl.tl.box.f1;have aF:=cO.out.tl.tl.tl.tl.tl.tl.box.c0;have aG:=cO.out.tl.tl.tl.tl.tl.tl.box.c1;have aP:=cO.out.tl.tl.tl.tl.tl.tl.box.f0;have aQ:=cO.out.tl.tl.tl.tl.tl.tl.box.f1;have ZU:=hid (And.intro cO.out.tl.tl.tl.tl.box.c0 (And.intro cO.out.tl.tl.tl.tl.box.c1 (And.intro cO.out.tl.tl.tl.tl.tl.box.c0 (cO.out.tl.tl.tl.tl.tl.box.c1))));have ag6:True:=trivial))
 clear ZT ZW ZV ZU;go_wp2_with fail;refine bodyPost_ret (v:= .agg #[.bool rm,.slice r0 rn rc]) (by simp[results,Tryz.results111,go_sem,aF,aG]) rfl ?_;exact⟨_,_,_,_,rfl,HZ.out▸hX.set2 cO.out.tl.tl.tl.tl.tl.tl.box _ _,bD HB3.out (by omega) _ _⟩
theorem RU [Ol] {m:Bool} {ao bo:Option Addr} {n cap l cb:Nat} {x y:Int} {w:World} (hx:Nx w m ao n cap x) (hy:Nx w (!m) bo l cb y) (hge:y.natAbs<=x.natAbs):
  Calls Tryz.prog 111 #[.agg #[.bool m,.slice ao n cap],.agg #[.bool (!m),.slice bo l cb]] w (rR w (x+y)):=by
 obtain⟨⟨xs,hs,hz⟩,hle⟩:=hx;obtain⟨⟨ys,ht,hz2⟩,hle2⟩:=hy;have Wv:=jD m (val xs);have Ww:=jD (!m) (val ys);rw[hz]at Wv;rw[hz2]at Ww;have sQ:Hid (val ys<=val xs):=by rw[Hid,<-Wv,<-Ww];exact hge
 have HZ:Hid (dV m (val xs-val ys)=x+y):=by rw[Hid,Jw m _ _ sQ.out,hz,hz2]
 obtain⟨c,hc⟩:∃c,c=fO (val xs) (val ys):=⟨_,rfl⟩
 have hc0:decide (c<0)=false:=by
  rw[hc];unfold fO;rw[if_neg (by have:=sQ.out;omega)];split<;>simp
 have HC:=hid hc.symm;have hmm:(m== !m)=false:=by cases m<;>rfl
 clear hz hz2 hc Wv Ww hge;go_enter Tryz.func111,Tryz.ntmps111;go_upto_region 1 with(fail)
 refine au (fun W hW=>?_);have HB0:Hid (Below w.heap.size w W):=by rw[hW];exact aA (aA (af _ _))
 have aO:bK W (w.heap.size) m ao n cap:=by rw[hW];exact((bK.new _ _ _ _ _ _ _ (by simp)).below (af _ _)).below (af _ _)
 have bL:bK W (w.heap.size+1) (!m) bo l cb:=by rw[hW];exact(bK.new _ _ _ _ _ _ _ (by simp)).below (af _ _)
 have bf:bK W (w.heap.size+2) false none 0 0:=by rw[hW];exact bK.new _ _ _ _ _ _ _ (by simp)
 have ax:=hid (Live.dI (hs.below HB0.out) (Live.dI (ht.below HB0.out) (Live.aK aO (Live.aK bL (Live.aK bf (Live.nil W))))));clear hW aO bL bf;have aL:=ax.out.tl.tl.box.c0;have aM:=ax.out.tl.tl.box.c1;have aR:=ax.out.tl.tl.box.f0;have aS:=ax.out.tl.tl.box.f1;have bq:=ax.out.tl.tl.tl.box.c0;have bA:=ax.out.tl.tl.tl.box.c1;have bB:=ax.out.tl.tl.tl.box.f0;have bC:=ax.out.tl.tl.tl.box.f1;have aF:=ax.out.tl.tl.tl.tl.box.c0;have aG:=ax.out.tl.tl.tl.tl.box.c1;have aP:=ax.out.tl.tl.tl.tl.box.f0;have aQ:=ax.out.tl.tl.tl.tl.box.f1;go_wp2_with fail;refine(Vm c _ _ _ _ _ _ _ _ _ ax.out.sl ax.out.tl.sl HC).mono ?_;rintro e w1 ⟨rfl,hB⟩;have aT:=hid (ax.out.below hB);have HB1:=hid (Below.steps HB0.out hB);clear aL aM aR aS bq bA bB bC aF aG aP aQ;clear ax HB0 hB;have aL:=aT.out.tl.tl.box.c0;have aM:=aT.out.tl.tl.box.c1;have aR:=aT.out.tl.tl.box.f0;have aS:=aT.out.tl.tl.box.f1;have bq:=aT.out.tl.tl.tl.box.c0;have bA:=aT.out.tl.tl.tl.box.c1;have bB:=aT.out.tl.tl.tl.box.f0;have bC:=aT.out.tl.tl.tl.box.f1;have aF:=aT.out.tl.tl.tl.tl.box.c0;have aG:=aT.out.tl.tl.tl.tl.box.c1;have aP:=aT.out.tl.tl.tl.tl.box.f0;have aQ:=aT.out.tl.tl.tl.tl.box.f1;go_wp2_with fail;refine(mH _ _ _ _ _ _ _ _ _ aT.out.sl aT.out.tl.sl sQ.out).mono ?_;rintro e w2 ⟨t0,tn,tc,rfl,hT,hB⟩;have bI:=hid (Live.dI hT.sl (aT.out.below hB));have HB2:=hid (Below.steps HB1.out hB);clear aL aM aR aS bq bA bB bC aF aG aP aQ;clear aT HB1 hT hB;have aL:=bI.out.tl.tl.tl.box.c0;have aM:=bI.out.tl.tl.tl.box.c1;have aR:=bI.out.tl.tl.tl.box.f0;have aS:=bI.out.tl.tl.tl.box.f1;have bq:=bI.out.tl.tl.tl.tl.box.c0;have bA:=bI.out.tl.tl.tl.tl.box.c1;have bB:=bI.out.tl.tl.tl.tl.box.f0;have bC:=bI.out.tl.tl.tl.tl.box.f1;have aF:=bI.out.tl.tl.tl.tl.tl.box.c0;have aG:=bI.out.tl.tl.tl.tl.tl.box.c1;have aP:=bI.out.tl.tl.tl.tl.tl.box.f0;have aQ:=bI.out.tl.tl.tl.tl.tl.box.f1;go_wp2_with fail;refine(jR _ _).mono ?_;rintro e w3 ⟨b,rfl,hb1,hb2,hbc,hB⟩;have cO:=hid (Live.uZ hb2 hbc (bI.out.below hB));have HB3:=hid (Below.steps HB2.out hB);clear aL aM aR aS bq bA bB bC aF aG aP aQ;clear bI HB2 hb1 hbc hB;have aL:=cO.out.tl.tl.tl.tl.box.c0;have aM:=cO.out.tl.tl.tl.tl.box.c1
 have aR:=cO.out.tl.tl.tl.tl.box.f0;have aS:=cO.out.tl.tl.tl.tl.box.f1;have bq:=cO.out.tl.tl.tl.tl.tl.box.c0;have bA:=cO.out.tl.tl.tl.tl.tl.box.c1;have bB:=cO.out.tl.tl.tl.tl.tl.box.f0;have bC:=cO.out.tl.tl.tl.tl.tl.box.f1;have aF:=cO.out.tl.tl.tl.tl.tl.tl.box.c0;have aG:=cO.out.tl.tl.tl.tl.tl.tl.box.c1;have aP:=cO.out.tl.tl.tl.tl.tl.tl.box.f0;have aQ:=cO.out.tl.tl.tl.tl.tl.tl.box.f1;go_wp2_with fail;refine(lC _ _ _ _ _ _ _ cO.out.fn cO.out.tl.sl).mono ?_;rintro e w4 ⟨rm,r0,rn,rc,rfl,hX,hB⟩;have nU:=hid (cO.out.below hB);have mW:=hid (Below.steps HB3.out hB);clear aL aM aR aS bq bA bB bC aF aG aP aQ;clear cO HB3 hB;have aL:=nU.out.tl.tl.tl.tl.box.c0;have aM:=nU.out.tl.tl.tl.tl.box.c1;have aR:=nU.out.tl.tl.tl.tl.box.f0;have aS:=nU.out.tl.tl.tl.tl.box.f1;have bq:=nU.out.tl.tl.tl.tl.tl.box.c0;have bA:=nU.out.tl.tl.tl.tl.tl.box.c1;have bB:=nU.out.tl.tl.tl.tl.tl.box.f0;have bC:=nU.out.tl.tl.tl.tl.tl.box.f1;have aF:=nU.out.tl.tl.tl.tl.tl.tl.box.c0;have aG:=nU.out.tl.tl.tl.tl.tl.tl.box.c1;have aP:=nU.out.tl.tl.tl.tl.tl.tl.box.f0;have aQ:=nU.out.tl.tl.tl.tl.tl.tl.box.f1;go_wp2_with fail;refine bodyPost_ret (v:= .agg #[.bool rm,.slice r0 rn rc]) (by simp[results,Tryz.results111,go_sem,aF,aG]) rfl ?_;exact⟨_,_,_,_,rfl,HZ.out▸hX.set2 nU.out.tl.tl.tl.tl.tl.tl.box _ _,bD mW.out (by omega) _ _⟩
theorem RV [Ol] {m:Bool} {ao bo:Option Addr} {n cap l cb:Nat} {x y:Int} {w:World} (hx:Nx w m ao n cap x) (hy:Nx w (!m) bo l cb y) (hlt:x.natAbs<y.natAbs):
  Calls Tryz.prog 111 #[.agg #[.bool m,.slice ao n cap],.agg #[.bool (!m),.slice bo l cb]] w (rR w (x+y)):=by
 obtain⟨⟨xs,hs,hz⟩,hle⟩:=hx;obtain⟨⟨ys,ht,hz2⟩,hle2⟩:=hy;have Wv:=jD m (val xs);have Ww:=jD (!m) (val ys);rw[hz]at Wv;rw[hz2]at Ww;have sQ:Hid (val xs<=val ys):=by rw[Hid,<-Wv,<-Ww];omega
 have HZ:Hid (dV (!m) (val ys-val xs)=x+y):=by rw[Hid,Jw (!m) _ _ sQ.out,hz2,Bool.not_not,hz,Int.add_comm]
 have HC:Hid (fO (val xs) (val ys)= -1):=by rw[Hid];unfold fO;rw[if_pos (by omega)]
 have hmm:(m== !m)=false:=by cases m<;>rfl
 clear hz hz2 Wv Ww hlt;go_enter Tryz.func111,Tryz.ntmps111;go_upto_region 1 with(fail)
 refine au (fun W hW=>?_);have HB0:Hid (Below w.heap.size w W):=by rw[hW];exact aA (aA (af _ _))
 have aO:bK W (w.heap.size) m ao n cap:=by rw[hW];exact((bK.new _ _ _ _ _ _ _ (by simp)).below (af _ _)).below (af _ _)
 have bL:bK W (w.heap.size+1) (!m) bo l cb:=by rw[hW];exact(bK.new _ _ _ _ _ _ _ (by simp)).below (af _ _)
 have bf:bK W (w.heap.size+2) false none 0 0:=by rw[hW];exact bK.new _ _ _ _ _ _ _ (by simp)
 have ax:=hid (Live.dI (hs.below HB0.out) (Live.dI (ht.below HB0.out) (Live.aK aO (Live.aK bL (Live.aK bf (Live.nil W))))));clear hW aO bL bf;have aL:=ax.out.tl.tl.box.c0;have aM:=ax.out.tl.tl.box.c1;have aR:=ax.out.tl.tl.box.f0;have aS:=ax.out.tl.tl.box.f1;have bq:=ax.out.tl.tl.tl.box.c0;have bA:=ax.out.tl.tl.tl.box.c1;have bB:=ax.out.tl.tl.tl.box.f0;have bC:=ax.out.tl.tl.tl.box.f1;have aF:=ax.out.tl.tl.tl.tl.box.c0;have aG:=ax.out.tl.tl.tl.tl.box.c1;have aP:=ax.out.tl.tl.tl.tl.box.f0;have aQ:=ax.out.tl.tl.tl.tl.box.f1;go_wp2_with fail;refine(Vm (-1) _ _ _ _ _ _ _ _ _ ax.out.sl ax.out.tl.sl HC).mono ?_;rintro e w1 ⟨rfl,hB⟩;have aT:=hid (ax.out.below hB);have HB1:=hid (Below.steps HB0.out hB);clear aL aM aR aS bq bA bB bC aF aG aP aQ;clear ax HB0 hB;have aL:=aT.out.tl.tl.box.c0;have aM:=aT.out.tl.tl.box.c1;have aR:=aT.out.tl.tl.box.f0;have aS:=aT.out.tl.tl.box.f1;have bq:=aT.out.tl.tl.tl.box.c0;have bA:=aT.out.tl.tl.tl.box.c1;have bB:=aT.out.tl.tl.tl.box.f0;have bC:=aT.out.tl.tl.tl.box.f1;have aF:=aT.out.tl.tl.tl.tl.box.c0;have aG:=aT.out.tl.tl.tl.tl.box.c1;have aP:=aT.out.tl.tl.tl.tl.box.f0;have aQ:=aT.out.tl.tl.tl.tl.box.f1;go_upto_region 5 with(fail)
 refine au (fun W2 hW2=>?_);have hX2:bK W2 (w.heap.size) (!m) bo l cb:=by rw[hW2];exact(aT.out.tl.tl.box.set _ _ _ _).far (by omega) _ _
 have hY2:bK W2 (w.heap.size+1) m ao n cap:=by rw[hW2];exact(aT.out.tl.tl.tl.box.far (by omega) _ _).set _ _ _ _
 have hR2:bK W2 (w.heap.size+2) false none 0 0:=by rw[hW2];exact(aT.out.tl.tl.tl.tl.box.far (by omega) _ _).far (by omega) _ _
 have D9:Sl W2 ao n cap xs:=by rw[hW2];exact oV (oV aT.out.sl aT.out.tl.tl.box _ _) (aT.out.tl.tl.tl.box.far (by omega) _ _) _ _
 have Ea:Sl W2 bo l cb ys:=by rw[hW2];exact oV (oV aT.out.tl.sl aT.out.tl.tl.box _ _) (aT.out.tl.tl.tl.box.far (by omega) _ _) _ _
 have HB2:Hid (Below w.heap.size w W2):=by rw[hW2];exact bD (bD HB1.out (by omega) _ _) (by omega) _ _
 have bI:=hid (Live.dI D9 (Live.dI Ea (Live.aK hX2 (Live.aK hY2 (Live.aK hR2 (Live.nil W2))))));clear aL aM aR aS bq bA bB bC aF aG aP aQ;clear hW2 hX2 hY2 hR2 D9 Ea aT HB1;have aL:=bI.out.tl.tl.box.c0;have aM:=bI.out.tl.tl.box.c1;have aR:=bI.out.tl.tl.box.f0;have aS:=bI.out.tl.tl.box.f1;have bq:=bI.out.tl.tl.tl.box.c0;have bA:=bI.out.tl.tl.tl.box.c1;have bB:=bI.out.tl.tl.tl.box.f0;have bC:=bI.out.tl.tl.tl.box.f1;have aF:=bI.out.tl.tl.tl.tl.box.c0;have aG:=bI.out.tl.tl.tl.tl.box.c1;have aP:=bI.out.tl.tl.tl.tl.box.f0;have aQ:=bI.out.tl.tl.tl.tl.box.f1;go_wp2_with fail;refine(mH _ _ _ _ _ _ _ _ _ bI.out.tl.sl bI.out.sl sQ.out).mono ?_;rintro e w3 ⟨t0,tn,tc,rfl,hT,hB⟩;have cO:=hid (Live.dI hT.sl (bI.out.below hB));have HB3:=hid (Below.steps HB2.out hB);clear aL aM aR aS bq bA bB bC aF aG aP aQ;clear bI HB2 hT hB;have aL:=cO.out.tl.tl.tl.box.c0;have aM:=cO.out.tl.tl.tl.box.c1;have aR:=cO.out.tl.tl.tl.box.f0;have aS:=cO.out.tl.tl.tl.box.f1;have bq:=cO.out.tl.tl.tl.tl.box.c0;have bA:=cO.out.tl.tl.tl.tl.box.c1;have bB:=cO.out.tl.tl.tl.tl.box.f0;have bC:=cO.out.tl.tl.tl.tl.box.f1;have aF:=cO.out.tl.tl.tl.tl.tl.box.c0;have aG:=cO.out.tl.tl.tl.tl.tl.box.c1;have aP:=cO.out.tl.tl.tl.tl.tl.box.f0;have aQ:=cO.out.tl.tl.tl.tl.tl.box.f1;go_wp2_with fail;refine(jR _ _).mono ?_;rintro e w4 ⟨b,rfl,hb1,hb2,hbc,hB⟩;have nU:=hid (Live.uZ hb2 hbc (cO.out.below hB));have mW:=hid (Below.steps HB3.out hB);clear aL aM aR aS bq bA bB bC aF aG aP aQ;clear cO HB3 hb1 hbc hB;have aL:=nU.out.tl.tl.tl.tl.box.c0;have aM:=nU.out.tl.tl.tl.tl.box.c1;have aR:=nU.out.tl.tl.tl.tl.box.f0;have aS:=nU.out.tl.tl.tl.tl.box.f1;have bq:=nU.out.tl.tl.tl.tl.tl.box.c0;have bA:=nU.out.tl.tl.tl.tl.tl.box.c1;have bB:=nU.out.tl.tl.tl.tl.tl.box.f0;have bC:=nU.out.tl.tl.tl.tl.tl.box.f1;have aF:=nU.out.tl.tl.tl.tl.tl.tl.box.c0;have aG:=nU.out.tl.tl.tl.tl.tl.tl.box.c1;have aP:=nU.out.tl.tl.tl.tl.tl.tl.box.f0;have aQ:=nU.out.tl.tl.tl.tl.tl.tl.box.f1;go_wp2_with fail;refine(lC _ _ _ _ _ _ _ nU.out.fn nU.out.tl.sl).mono ?_;rintro e w5 ⟨rm,r0,rn,rc,rfl,hX,hB⟩;have vw:=hid (nU.out.below hB);have lY:=hid (Below.steps mW.out hB);clear aL aM aR aS bq bA bB bC aF aG aP aQ
 clear nU mW hB;have aL:=vw.out.tl.tl.tl.tl.box.c0;have aM:=vw.out.tl.tl.tl.tl.box.c1;have aR:=vw.out.tl.tl.tl.tl.box.f0;have aS:=vw.out.tl.tl.tl.tl.box.f1;have bq:=vw.out.tl.tl.tl.tl.tl.box.c0;have bA:=vw.out.tl.tl.tl.tl.tl.box.c1;have bB:=vw.out.tl.tl.tl.tl.tl.box.f0;have bC:=vw.out.tl.tl.tl.tl.tl.box.f1;have aF:=vw.out.tl.tl.tl.tl.tl.tl.box.c0;have aG:=vw.out.tl.tl.tl.tl.tl.tl.box.c1;have aP:=vw.out.tl.tl.tl.tl.tl.tl.box.f0;have aQ:=vw.out.tl.tl.tl.tl.tl.tl.box.f1;go_wp2_with fail;refine bodyPost_ret (v:= .agg #[.bool rm,.slice r0 rn rc]) (by simp[results,Tryz.results111,go_sem,aF,aG]) rfl ?_;exact⟨_,_,_,_,rfl,HZ.out▸hX.set2 vw.out.tl.tl.tl.tl.tl.tl.box _ _,bD lY.out (by omega) _ _⟩
theorem ug [Ol] {m k:Bool} {ao bo:Option Addr} {n cap l cb:Nat} {x y:Int} {w:World} (hx:Nx w m ao n cap x) (hy:Nx w k bo l cb y):
  Calls Tryz.prog 111 #[.agg #[.bool m,.slice ao n cap],.agg #[.bool k,.slice bo l cb]] w (rR w (x+y)):=by
 by_cases hmk:k=m
 ·subst hmk;exact Ld hx hy
 ·obtain rfl:k= !m:=by cases m<;>cases k<;>simp at hmk ⊢
  by_cases h:y.natAbs<=x.natAbs
  ·exact RU hx hy h
  ·exact RV hx hy (by omega)
theorem Nx.neg {m:Bool} {ao:Option Addr} {n cap:Nat} {x:Int} {w:World} (h:Nx w m ao n cap x):Nx w (!m) ao n cap (-x):=by
 obtain⟨⟨xs,hs,hz⟩,hle⟩:=h;exact⟨⟨xs,hs,by rw[Cm,hz]⟩,hle⟩
theorem O5 [Ol] {m k:Bool} {ao bo:Option Addr} {n cap l cb:Nat} {x y:Int} {w:World} (hx:Nx w m ao n cap x) (hy:Nx w k bo l cb y):
  Calls Tryz.prog 128 #[.agg #[.bool m,.slice ao n cap],.agg #[.bool k,.slice bo l cb]] w (rR w (x-y)):=by
 go_enter Tryz.func128,Tryz.ntmps128;go_upto_region 1 with(fail)
 refine au (fun W hW=>?_);have HB0:Hid (Below w.heap.size w W):=by rw[hW];exact aA (aA (af _ _))
 have aO:bK W (w.heap.size) m ao n cap:=by rw[hW];exact((bK.new _ _ _ _ _ _ _ (by simp)).below (af _ _)).below (af _ _)
 have bL:bK W (w.heap.size+1) k bo l cb:=by rw[hW];exact(bK.new _ _ _ _ _ _ _ (by simp)).below (af _ _)
 have bf:bK W (w.heap.size+2) false none 0 0:=by rw[hW];exact bK.new _ _ _ _ _ _ _ (by simp)
 have ax:=hid (Live.Cr (hx.below HB0.out) (Live.Cr ((hy.neg).below HB0.out) (Live.aK aO (Live.aK bL (Live.aK bf (Live.nil W))))));clear hW aO bL bf;have aL:=ax.out.tl.tl.box.c0;have aM:=ax.out.tl.tl.box.c1;have aR:=ax.out.tl.tl.box.f0;have aS:=ax.out.tl.tl.box.f1;have bq:=ax.out.tl.tl.tl.box.c0;have bA:=ax.out.tl.tl.tl.box.c1;have bB:=ax.out.tl.tl.tl.box.f0;have bC:=ax.out.tl.tl.tl.box.f1;have aF:=ax.out.tl.tl.tl.tl.box.c0;have aG:=ax.out.tl.tl.tl.tl.box.c1;have aP:=ax.out.tl.tl.tl.tl.box.f0;have aQ:=ax.out.tl.tl.tl.tl.box.f1;go_wp2_with fail;refine(ug ax.out.num ax.out.tl.num).mono ?_;rintro e w1 ⟨rm,r0,rn,rc,rfl,hX,hB⟩;have aT:=hid (ax.out.below hB);have HB1:=hid (Below.steps HB0.out hB);clear aL aM aR aS bq bA bB bC aF aG aP aQ;clear ax HB0 hB;have aL:=aT.out.tl.tl.box.c0;have aM:=aT.out.tl.tl.box.c1;have aR:=aT.out.tl.tl.box.f0;have aS:=aT.out.tl.tl.box.f1;have bq:=aT.out.tl.tl.tl.box.c0;have bA:=aT.out.tl.tl.tl.box.c1;have bB:=aT.out.tl.tl.tl.box.f0;have bC:=aT.out.tl.tl.tl.box.f1;have aF:=aT.out.tl.tl.tl.tl.box.c0;have aG:=aT.out.tl.tl.tl.tl.box.c1;have aP:=aT.out.tl.tl.tl.tl.box.f0;have aQ:=aT.out.tl.tl.tl.tl.box.f1;go_wp2_with fail;refine bodyPost_ret (v:= .agg #[.bool rm,.slice r0 rn rc]) (by simp[results,Tryz.results128,go_sem,aF,aG]) rfl ?_;exact⟨_,_,_,_,rfl,(Int.sub_eq_add_neg (a:=x) (b:=y)).symm▸hX.set2 aT.out.tl.tl.tl.tl.box _ _,bD HB1.out (by omega) _ _⟩
open Lib (hid)
theorem ED [Ol] {m k:Bool} {ao bo:Option Addr} {n cap l cb:Nat} {x y:Int} {w:World} (hx:Nx w m ao n cap x) (hy:Nx w k bo l cb y):
  Calls Tryz.prog 163 #[.agg #[.bool m,.slice ao n cap],.agg #[.bool k,.slice bo l cb]] w (rR w (x*y)):=by
 obtain⟨⟨xs,hs,hz⟩,hle⟩:=hx;obtain⟨⟨ys,ht,hz2⟩,hle2⟩:=hy;have HZ:Hid (dV (m !=k) (val xs*val ys)=x*y):=by rw[Hid,Co,hz,hz2]
 clear hz hz2;go_enter Tryz.func163,Tryz.ntmps163;go_upto_region 1 with(fail)
 refine au (fun W hW=>?_);have HB0:Hid (Below w.heap.size w W):=by rw[hW];exact aA (aA (af _ _))
 have aO:bK W (w.heap.size) m ao n cap:=by rw[hW];exact((bK.new _ _ _ _ _ _ _ (by simp)).below (af _ _)).below (af _ _)
 have bL:bK W (w.heap.size+1) k bo l cb:=by rw[hW];exact(bK.new _ _ _ _ _ _ _ (by simp)).below (af _ _)
 have bf:bK W (w.heap.size+2) false none 0 0:=by rw[hW];exact bK.new _ _ _ _ _ _ _ (by simp)
 have ax:=hid (Live.dI (hs.below HB0.out) (Live.dI (ht.below HB0.out) (Live.aK aO (Live.aK bL (Live.aK bf (Live.nil W))))));clear hW aO bL bf;have aL:=ax.out.tl.tl.box.c0;have aM:=ax.out.tl.tl.box.c1;have aR:=ax.out.tl.tl.box.f0;have aS:=ax.out.tl.tl.box.f1;have bq:=ax.out.tl.tl.tl.box.c0;have bA:=ax.out.tl.tl.tl.box.c1;have bB:=ax.out.tl.tl.tl.box.f0;have bC:=ax.out.tl.tl.tl.box.f1;have aF:=ax.out.tl.tl.tl.tl.box.c0;have aG:=ax.out.tl.tl.tl.tl.box.c1;have aP:=ax.out.tl.tl.tl.tl.box.f0;have aQ:=ax.out.tl.tl.tl.tl.box.f1;have qz:=hid (ax.out.below ((Below.refl _ _).drew));have qA:=hid HB0.out.drew;clear aL aM aR aS bq bA bB bC aF aG aP aQ;clear ax HB0;have ax:=hid qz.out;have HB0:=hid qA.out;clear qz qA;have aL:=ax.out.tl.tl.box.c0;have aM:=ax.out.tl.tl.box.c1;have aR:=ax.out.tl.tl.box.f0;have aS:=ax.out.tl.tl.box.f1;have bq:=ax.out.tl.tl.tl.box.c0;have bA:=ax.out.tl.tl.tl.box.c1;have bB:=ax.out.tl.tl.tl.box.f0;have bC:=ax.out.tl.tl.tl.box.f1;have aF:=ax.out.tl.tl.tl.tl.box.c0;have aG:=ax.out.tl.tl.tl.tl.box.c1;have aP:=ax.out.tl.tl.tl.tl.box.f0;have aQ:=ax.out.tl.tl.tl.tl.box.f1;have O1:True:=trivial;have ZT:=hid (And.intro ax.out.tl.tl.box.c0 (And.intro ax.out.tl.tl.box.c1 (And.intro ax.out.tl.tl.tl.box.c0 (ax.out.tl.tl.tl.box.c1))))
 go_region_held3 (fun w'=>w'.cell? ⟨w.heap.size,0,none⟩=some (.bool m)/\ w'.cell? ⟨w.heap.size,1,none⟩=some (.slice ao n cap)/\ w'.cell? ⟨w.heap.size+1,0,none⟩=some (.bool k)/\ w'.cell? ⟨w.heap.size+1,1,none⟩=some (.slice bo l cb))
  (first|exact ZU.out|exact ZV.out|exact ZW.out|exact ZT.out|exact(And.intro ((bU (fun e=>by have e2:w.heap.size=w.heap.size+2:=e;omega) _ _).trans aL) (And.intro ((bU (fun e=>by have e2:w.heap.size=w.heap.size+2:=e;omega) _ _).trans aM) (And.intro ((bU (fun e=>by have e2:w.heap.size+1=w.heap.size+2:=e;omega) _ _).trans bq) ((bU (fun e=>by have e2:w.heap.size+1=w.heap.size+2:=e;omega) _ _).trans bA))))|go_keep)
  (first
   |(have _t:=O1;clear _t O1;go_at_call 135;go_must (with_reducible refine(jR _ _).mono ?_);rintro e w1 ⟨ag5,rfl,hb1,hb2,hbc,hB⟩;have aT:=hid (Live.uZ hb2 hbc (ax.out.below hB));have HB1:=hid (Below.steps HB0.out hB);clear aL aM aR aS bq bA bB bC aF aG aP aQ;clear ax HB0 hb1 hbc hB;have aL:=aT.out.tl.tl.tl.box.c0;have aM:=aT.out.tl.tl.tl.box.c1;have aR:=aT.out.tl.tl.tl.box.f0;have aS:=aT.out.tl.tl.tl.box.f1;have bq:=aT.out.tl.tl.tl.tl.box.c0;have bA:=aT.out.tl.tl.tl.tl.box.c1;have bB:=aT.out.tl.tl.tl.tl.box.f0;have bC:=aT.out.tl.tl.tl.tl.box.f1;have aF:=aT.out.tl.tl.tl.tl.tl.box.c0;have aG:=aT.out.tl.tl.tl.tl.tl.box.c1;have aP:=aT.out.tl.tl.tl.tl.tl.box.f0;have aQ:=aT.out.tl.tl.tl.tl.tl.box.f1;have ZW:=hid (And.intro aT.out.tl.tl.tl.box.c0 (And.intro aT.out.tl.tl.tl.box.c1 (And.intro aT.out.tl.tl.tl.tl.box.c0 (aT.out.tl.tl.tl.tl.box.c1))));have O3:True:=trivial)
   |(have _t:=O3;clear _t O3;go_at_call 177;go_must (with_reducible refine(xh _ _ _ _ _ _ _ _ _ aT.out.tl.sl aT.out.tl.tl.sl (by omega) (by omega)).mono ?_);rintro e w2 ⟨t0,tn,tc,rfl,hT,hB⟩;have bI:=hid (Live.dI hT.sl (aT.out.below hB));have HB2:=hid (Below.steps HB1.out hB);clear aL aM aR aS bq bA bB bC aF aG aP aQ;clear aT HB1 hT hB;have aL:=bI.out.tl.tl.tl.tl.box.c0;have aM:=bI.out.tl.tl.tl.tl.box.c1;have aR:=bI.out.tl.tl.tl.tl.box.f0;have aS:=bI.out.tl.tl.tl.tl.box.f1;have bq:=bI.out.tl.tl.tl.tl.tl.box.c0;have bA:=bI.out.tl.tl.tl.tl.tl.box.c1;have bB:=bI.out.tl.tl.tl.tl.tl.box.f0;have bC:=bI.out.tl.tl.tl.tl.tl.box.f1;have aF:=bI.out.tl.tl.tl.tl.tl.tl.box.c0;have aG:=bI.out.tl.tl.tl.tl.tl.tl.box.c1;have aP:=bI.out.tl.tl.tl.tl.tl.tl.box.f0;have aQ:=bI.out.tl.tl.tl.tl.tl.tl.box.f1;have ZV:=hid (And.intro bI.out.tl.tl.tl.tl.box.c0 (And.intro bI.out.tl.tl.tl.tl.box.c1 (And.intro bI.out.tl.tl.tl.tl.tl.box.c0 (bI.out.tl.tl.tl.tl.tl.box.c1))));have O4:True:=trivial)
   |(have _t:=O4;clear _t O4;go_at_call 157;go_must (with_reducible refine(lC _ _ _ _ _ _ _ bI.out.tl.fn bI.out.sl).mono ?_);rintro e w3 ⟨rm,r0,rn,rc,rfl,hX,hB⟩;have cO:=hid (bI.out.below hB);have HB3:=hid (Below.steps HB2.out hB);clear aL aM aR aS bq bA bB bC aF aG aP aQ;clear bI HB2 hB;have aL:=cO.out.tl.tl.tl.tl.box.c0;have aM:=cO.out.tl.tl.tl.tl.box.c1;have aR:=cO.out.tl.tl.tl.tl.box.f0;have aS:=cO.out.tl.tl.tl.tl.box.f1;have bq:=cO.out.tl.tl.tl.tl.tl.box.c0;have bA:=cO.out.tl.tl.tl.tl.tl.box.c1;have bB:=cO.out.tl.tl.tl.tl.tl.box.f0;have bC:=cO.out.tl.tl.tl.tl.tl.box.f1;have aF:=cO.out.tl.tl.tl.tl.tl.tl.box.c0;have aG:=cO.out.tl.tl.tl.tl.tl.tl.box.c1;have aP:=cO.out.tl.tl.tl.tl.tl.tl.box.f0;have aQ:=cO.out.tl.tl.tl.tl.tl.tl.box.f1;have ZU:=hid (And.intro cO.out.tl.tl.tl.tl.box.c0 (And.intro cO.out.tl.tl.tl.tl.box.c1 (And.intro cO.out.tl.tl.tl.tl.tl.box.c0 (cO.out.tl.tl.tl.tl.tl.box.c1))));have ag6:True:=trivial))
 clear ZT ZW ZV ZU;go_wp2_with fail;refine bodyPost_ret (v:= .agg #[.bool rm,.slice r0 rn rc]) (by simp[results,Tryz.results163,go_sem,aF,aG]) rfl ?_;exact⟨_,_,_,_,rfl,HZ.out▸hX.set2 cO.out.tl.tl.tl.tl.tl.tl.box _ _,bD HB3.out (by omega) _ _⟩
theorem Wx [Ol] {m:Bool} {ao:Option Addr} {cap:Nat} {xs:List Nat} {w:World} (r:Bool) (hs:Sl w ao 0 cap xs) (h:rT m 0 xs=r):
  Calls Tryz.prog 70 #[.agg #[.bool m,.slice ao 0 cap]] w (bN (.bool r) w):=by
 have hbig:=hs.big;obtain rfl:r= !m:=by rw[<-h];unfold rT;rw[if_pos rfl]
 go_enter Tryz.func70,Tryz.ntmps70;go_upto_region 1 with(fail)
 refine au (fun W hW=>?_);have HB0:Hid (Below w.heap.size w W):=by rw[hW];exact af _ _
 have aO:bK W (w.heap.size) m ao 0 cap:=by rw[hW];exact bK.new _ _ _ _ _ _ _ (by simp)
 have ax:=Lib.hid (Live.aK aO (Live.nil W));clear hW aO;have aL:=ax.out.box.c0;have aM:=ax.out.box.c1;have aR:=ax.out.box.f0;have aS:=ax.out.box.f1;go_wp2_with fail;go_ret;exact⟨rfl,HB0.out⟩
theorem Wy [Ol] {m:Bool} {ao:Option Addr} {n cap:Nat} {xs:List Nat} {w:World} (r:Bool) (hs:Sl w ao n cap xs) (h:rT m n xs=r) (h0:0<n):
  Calls Tryz.prog 70 #[.agg #[.bool m,.slice ao n cap]] w (bN (.bool r) w):=by
 have hbig:=hs.big;obtain⟨b,off,rfl,hbb,hcell⟩:=hs.at (by omega);obtain⟨j,rfl⟩:∃j,n=j+1:=⟨n-1,by omega⟩;have hc:=hcell j (by omega);obtain⟨u,hu⟩:∃u,u=xs.getD j 0:=⟨_,rfl⟩;rw[<-hu]at hc
 have hr:(((u:Nat):Int) !=0)=r:=by
  rw[<-h];unfold rT;rw[if_neg (by omega),Nat.add_sub_cancel,<-hu];rw[Bool.eq_iff_iff];simp
 have hz:((((j+1:Nat)):Int)==0)=false:=by simp;omega
 have ej:(((j+1:Nat)):Int)-1=(j:Int):=by omega
 clear hcell hu h;go_enter Tryz.func70,Tryz.ntmps70;go_upto_region 1 with(fail)
 refine au (fun W hW=>?_);have HB0:Hid (Below w.heap.size w W):=by rw[hW];exact af _ _
 have aO:bK W (w.heap.size) m (some ⟨b,off,none⟩) (j+1) cap:=by rw[hW];exact bK.new _ _ _ _ _ _ _ (by simp)
 have ax:=Lib.hid (Live.aK aO (Live.nil W));clear hW aO;have aL:=ax.out.box.c0;have aM:=ax.out.box.c1;have aR:=ax.out.box.f0;have aS:=ax.out.box.f1;have hcW:W.cell? ⟨b,off+j,none⟩=some (.int .u32 ((u:Nat):Int)):=(HB0.out.cell (by exact hbb)).trans hc;go_wp2_with fail;go_ret;exact⟨rfl,HB0.out⟩
theorem JF [Ol] {m:Bool} {ao:Option Addr} {n cap:Nat} {xs:List Nat} {w:World} (r:Bool) (hs:Sl w ao n cap xs) (h:rT m n xs=r):
  Calls Tryz.prog 70 #[.agg #[.bool m,.slice ao n cap]] w (bN (.bool r) w):=by
 rcases Nat.eq_zero_or_pos n with h0|h0
 ·subst h0;exact Wx r hs h
 ·exact Wy r hs h h0
end Go.Proofs.YthdhjckangekoaaGreat
