/- WZOf, WZInt, WZSame, WZMul -/
import Derived.Test.YthdhjckangekoaaGreatGWInt
import Derived.Deep.Cut
set_option maxHeartbeats 40000000
set_option maxRecDepth 100000
namespace Go.Proofs.YthdhjckangekoaaGreat
open Lib (hid)
open Go.RowKit
theorem OM [Ol] {ao:Option Addr} {n cap:Nat} {x:Int} {w:World} (hx:Nx w true ao n cap x):
  Calls Tryz.prog 30 #[.agg #[.bool true,.slice ao n cap]] w (pX w x):=by
 obtain⟨⟨xs,hs,hz⟩,hle⟩:=hx;have HZ:=hid hz;clear hz;go_enter Tryz.func30,Tryz.ntmps30;go_upto_region 1 with(fail)
 refine au (fun W hW=>?_);have HB0:Hid (Below w.heap.size w W):=by rw[hW];exact aA (af _ _)
 have aO:bK W (w.heap.size) true ao n cap:=by rw[hW];exact(bK.new _ _ _ _ _ _ _ (by simp)).below (af _ _)
 have bf:bK W (w.heap.size+1) false none 0 0:=by rw[hW];exact bK.new _ _ _ _ _ _ _ (by simp)
 have ax:=hid (Live.dI (hs.below HB0.out) (Live.aK aO (Live.aK bf (Live.nil W))));clear hW aO bf;have aL:=ax.out.tl.box.c0;have aM:=ax.out.tl.box.c1;have aR:=ax.out.tl.box.f0;have aS:=ax.out.tl.box.f1;have aF:=ax.out.tl.tl.box.c0;have aG:=ax.out.tl.tl.box.c1;have aP:=ax.out.tl.tl.box.f0;have aQ:=ax.out.tl.tl.box.f1;go_wp2_with fail;refine(Dg.OO _ _ _ _ _ ax.out.sl (by omega)).mono ?_;rintro e w1 ⟨d0,dn,dc,rfl,hT,hB⟩;have HT:=hid hT.sl;have hdb:=hT.big;have aT:=hid (ax.out.below hB);have HB1:=hid (Below.steps HB0.out hB);clear aL aM aR aS aF aG aP aQ;clear ax HB0 hT hB;have aL:=aT.out.tl.box.c0;have aM:=aT.out.tl.box.c1;have aR:=aT.out.tl.box.f0;have aS:=aT.out.tl.box.f1;have aF:=aT.out.tl.tl.box.c0;have aG:=aT.out.tl.tl.box.c1;have aP:=aT.out.tl.tl.box.f0;have aQ:=aT.out.tl.tl.box.f1;go_wp2_with fail;have HC:Hid (Zd w1 (decide (0<dn)) d0 dn dc (dV true (val xs))):=Zd.of HT.out (by simp);refine bodyPost_ret (v:= .agg #[.bool (decide (0<dn)),.slice d0 dn dc]) (by simp[results,Tryz.results30,go_sem,aF,aG]) rfl ?_;exact⟨_,_,_,_,rfl,HZ.out▸HC.out.set2 aT.out.tl.tl.box _ _,bD HB1.out (by omega) _ _⟩
theorem KV [Ol] {ao:Option Addr} {n cap:Nat} {x:Int} {w:World} (hx:Nx w false ao n cap x):
  Calls Tryz.prog 30 #[.agg #[.bool false,.slice ao n cap]] w (pX w x):=by
 obtain⟨⟨xs,hs,hz⟩,hle⟩:=hx;have HZ:=hid hz;clear hz;go_enter Tryz.func30,Tryz.ntmps30;go_upto_region 1 with(fail)
 refine au (fun W hW=>?_);have HB0:Hid (Below w.heap.size w W):=by rw[hW];exact aA (af _ _)
 have aO:bK W (w.heap.size) false ao n cap:=by rw[hW];exact(bK.new _ _ _ _ _ _ _ (by simp)).below (af _ _)
 have bf:bK W (w.heap.size+1) false none 0 0:=by rw[hW];exact bK.new _ _ _ _ _ _ _ (by simp)
 have ax:=hid (Live.dI (hs.below HB0.out) (Live.aK aO (Live.aK bf (Live.nil W))));clear hW aO bf;have aL:=ax.out.tl.box.c0;have aM:=ax.out.tl.box.c1;have aR:=ax.out.tl.box.f0;have aS:=ax.out.tl.box.f1;have aF:=ax.out.tl.tl.box.c0;have aG:=ax.out.tl.tl.box.c1;have aP:=ax.out.tl.tl.box.f0;have aQ:=ax.out.tl.tl.box.f1;go_wp2_with fail;refine(Dg.OO _ _ _ _ _ ax.out.sl (by omega)).mono ?_;rintro e w1 ⟨d0,dn,dc,rfl,hT,hB⟩;have HT:=hid hT.sl;have hdb:=hT.big;have aT:=hid (ax.out.below hB);have HB1:=hid (Below.steps HB0.out hB);clear aL aM aR aS aF aG aP aQ;clear ax HB0 hT hB;have aL:=aT.out.tl.box.c0;have aM:=aT.out.tl.box.c1;have aR:=aT.out.tl.box.f0;have aS:=aT.out.tl.box.f1;have aF:=aT.out.tl.tl.box.c0;have aG:=aT.out.tl.tl.box.c1;have aP:=aT.out.tl.tl.box.f0;have aQ:=aT.out.tl.tl.box.f1;go_wp2_with fail;have HC:Hid (Zd w1 (false) d0 dn dc (dV false (val xs))):=Zd.of HT.out (by simp);refine bodyPost_ret (v:= .agg #[.bool (false),.slice d0 dn dc]) (by simp[results,Tryz.results30,go_sem,aF,aG]) rfl ?_;exact⟨_,_,_,_,rfl,HZ.out▸HC.out.set2 aT.out.tl.tl.box _ _,bD HB1.out (by omega) _ _⟩
theorem Je [Ol] {m:Bool} {ao:Option Addr} {n cap:Nat} {x:Int} {w:World} (hx:Nx w m ao n cap x):
  Calls Tryz.prog 30 #[.agg #[.bool m,.slice ao n cap]] w (pX w x):=by
 cases m
 ·exact KV hx
 ·exact OM hx
theorem KW [Ol] {ao:Option Addr} {n cap:Nat} {x:Int} {w:World} (hx:Zx w true ao n cap x):
  Calls Tryz.prog 69 #[.agg #[.bool true,.slice ao n cap]] w (pX w (-x)):=by
 have HV:Hid (dV true x.natAbs=x):=hx.zd.val;have hdb:=hx.zd.sl.big;go_enter Tryz.func69,Tryz.ntmps69;go_upto_region 1 with(fail)
 refine au (fun W hW=>?_);have HB0:Hid (Below w.heap.size w W):=by rw[hW];exact aA (af _ _)
 have aO:bK W (w.heap.size) true ao n cap:=by rw[hW];exact(bK.new _ _ _ _ _ _ _ (by simp)).below (af _ _)
 have bf:bK W (w.heap.size+1) false none 0 0:=by rw[hW];exact bK.new _ _ _ _ _ _ _ (by simp)
 have ax:=hid (Live.bX (hx.below HB0.out) (Live.aK aO (Live.aK bf (Live.nil W))));clear hW aO bf;have aL:=ax.out.tl.box.c0;have aM:=ax.out.tl.box.c1;have aR:=ax.out.tl.box.f0;have aS:=ax.out.tl.box.f1;have aF:=ax.out.tl.tl.box.c0;have aG:=ax.out.tl.tl.box.c1;have aP:=ax.out.tl.tl.box.f0;have aQ:=ax.out.tl.tl.box.f1;go_wp2_with fail;have HC:Hid (Zd W (false) ao n cap (dV (!true) x.natAbs)):=Zd.of ax.out.pU.zd.sl (by simp);refine bodyPost_ret (v:= .agg #[.bool (false),.slice ao n cap]) (by simp[results,Tryz.results69,go_sem,aF,aG]) rfl ?_;exact⟨_,_,_,_,rfl,(show dV (!true) x.natAbs= -x from by rw[Cm,HV.out])▸HC.out.set2 ax.out.tl.tl.box _ _,bD HB0.out (by omega) _ _⟩
theorem He [Ol] {ao:Option Addr} {n cap:Nat} {x:Int} {w:World} (hx:Zx w false ao n cap x):
  Calls Tryz.prog 69 #[.agg #[.bool false,.slice ao n cap]] w (pX w (-x)):=by
 have HV:Hid (dV false x.natAbs=x):=hx.zd.val;have hdb:=hx.zd.sl.big;go_enter Tryz.func69,Tryz.ntmps69;go_upto_region 1 with(fail)
 refine au (fun W hW=>?_);have HB0:Hid (Below w.heap.size w W):=by rw[hW];exact aA (af _ _)
 have aO:bK W (w.heap.size) false ao n cap:=by rw[hW];exact(bK.new _ _ _ _ _ _ _ (by simp)).below (af _ _)
 have bf:bK W (w.heap.size+1) false none 0 0:=by rw[hW];exact bK.new _ _ _ _ _ _ _ (by simp)
 have ax:=hid (Live.bX (hx.below HB0.out) (Live.aK aO (Live.aK bf (Live.nil W))));clear hW aO bf;have aL:=ax.out.tl.box.c0;have aM:=ax.out.tl.box.c1;have aR:=ax.out.tl.box.f0;have aS:=ax.out.tl.box.f1;have aF:=ax.out.tl.tl.box.c0;have aG:=ax.out.tl.tl.box.c1;have aP:=ax.out.tl.tl.box.f0;have aQ:=ax.out.tl.tl.box.f1;go_wp2_with fail;have HC:Hid (Zd W (decide (0<n)) ao n cap (dV (!false) x.natAbs)):=Zd.of ax.out.pU.zd.sl (by simp);refine bodyPost_ret (v:= .agg #[.bool (decide (0<n)),.slice ao n cap]) (by simp[results,Tryz.results69,go_sem,aF,aG]) rfl ?_;exact⟨_,_,_,_,rfl,(show dV (!false) x.natAbs= -x from by rw[Cm,HV.out])▸HC.out.set2 ax.out.tl.tl.box _ _,bD HB0.out (by omega) _ _⟩
theorem Oe [Ol] {m:Bool} {ao:Option Addr} {n cap:Nat} {x:Int} {w:World} (hx:Zx w m ao n cap x):
  Calls Tryz.prog 69 #[.agg #[.bool m,.slice ao n cap]] w (pX w (-x)):=by
 cases m
 ·exact He hx
 ·exact KW hx
theorem RD [Ol] {m:Bool} {ao:Option Addr} {n cap:Nat} {x:Int} {w:World} (hx:Zx w m ao n cap x) (h0:x=0):
  Calls Tryz.prog 56 #[.agg #[.bool m,.slice ao n cap]] w (bN (.int .i64 0) w):=by
 have hdb:=hx.zd.sl.big;obtain rfl:n=0:=hx.zd.zero.2 h0;go_enter Tryz.func56,Tryz.ntmps56;go_upto_region 1 with(fail)
 refine au (fun W hW=>?_);have HB0:Hid (Below w.heap.size w W):=by rw[hW];exact af _ _
 have aO:bK W (w.heap.size) m ao 0 cap:=by rw[hW];exact bK.new _ _ _ _ _ _ _ (by simp)
 have ax:=hid (Live.bX (hx.below HB0.out) (Live.aK aO (Live.nil W)));clear hW aO;have aL:=ax.out.tl.box.c0;have aM:=ax.out.tl.box.c1;have aR:=ax.out.tl.box.f0;have aS:=ax.out.tl.box.f1;go_wp2_with fail;go_ret;exact⟨rfl,HB0.out⟩
theorem RF [Ol] {m:Bool} {ao:Option Addr} {n cap:Nat} {x:Int} {w:World} (hx:Zx w m ao n cap x) (h0:x<0):
  Calls Tryz.prog 56 #[.agg #[.bool m,.slice ao n cap]] w (bN (.int .i64 (-1)) w):=by
 have hdb:=hx.zd.sl.big;obtain rfl:m=true:=by rw[hx.zd.neg];simpa using h0
 have hq:(((n:Nat):Int)==0)=false:=by have:=hx.zd.pos;simp;omega
 go_enter Tryz.func56,Tryz.ntmps56;go_upto_region 1 with(fail)
 refine au (fun W hW=>?_);have HB0:Hid (Below w.heap.size w W):=by rw[hW];exact af _ _
 have aO:bK W (w.heap.size) true ao n cap:=by rw[hW];exact bK.new _ _ _ _ _ _ _ (by simp)
 have ax:=hid (Live.bX (hx.below HB0.out) (Live.aK aO (Live.nil W)));clear hW aO;have aL:=ax.out.tl.box.c0;have aM:=ax.out.tl.box.c1;have aR:=ax.out.tl.box.f0;have aS:=ax.out.tl.box.f1;go_wp2_with fail;go_ret;exact⟨rfl,HB0.out⟩
theorem RG [Ol] {m:Bool} {ao:Option Addr} {n cap:Nat} {x:Int} {w:World} (hx:Zx w m ao n cap x) (h0:0<x):
  Calls Tryz.prog 56 #[.agg #[.bool m,.slice ao n cap]] w (bN (.int .i64 1) w):=by
 have hdb:=hx.zd.sl.big;obtain rfl:m=false:=by rw[hx.zd.neg];simp;omega
 have hq:(((n:Nat):Int)==0)=false:=by have h9:n≠0:=(fun h=>by have:=hx.zd.zero.1 h;omega);simp;omega
 go_enter Tryz.func56,Tryz.ntmps56;go_upto_region 1 with(fail)
 refine au (fun W hW=>?_);have HB0:Hid (Below w.heap.size w W):=by rw[hW];exact af _ _
 have aO:bK W (w.heap.size) false ao n cap:=by rw[hW];exact bK.new _ _ _ _ _ _ _ (by simp)
 have ax:=hid (Live.bX (hx.below HB0.out) (Live.aK aO (Live.nil W)));clear hW aO;have aL:=ax.out.tl.box.c0;have aM:=ax.out.tl.box.c1;have aR:=ax.out.tl.box.f0;have aS:=ax.out.tl.box.f1;go_wp2_with fail;go_ret;exact⟨rfl,HB0.out⟩
theorem nC [Ol] (s:Int) {m:Bool} {ao:Option Addr} {n cap:Nat} {x:Int} {w:World} (hx:Zx w m ao n cap x) (h:x.sign=s):
  Calls Tryz.prog 56 #[.agg #[.bool m,.slice ao n cap]] w (bN (.int .i64 s) w):=by
 rcases Int.lt_trichotomy x 0 with h0|h0|h0
 ·rw[Int.sign_eq_neg_one_of_neg h0]at h;rw[<-h];exact RF hx h0
 ·rw[h0,Int.sign_zero]at h;rw[<-h];exact RD hx h0
 ·rw[Int.sign_eq_one_of_pos h0]at h;rw[<-h];exact RG hx h0
theorem OP [Ol] (a:Nat) (w:World) (h:a<=9223372036854775807):
  Calls Tryz.prog 42 #[.int .i64 (a:Int)] w (pX w (dV false a)):=by
 have HA:Hid (a<=18446744073709551615):=by rw[Hid];omega
 go_enter Tryz.func42,Tryz.ntmps42;go_upto_region 1 with(fail)
 refine au (fun W hW=>?_);have HB0:Hid (Below w.heap.size w W):=by rw[hW];exact af _ _
 have bf:bK W (w.heap.size) false none 0 0:=by rw[hW];exact bK.new _ _ _ _ _ _ _ (by simp)
 have ax:=hid (Live.aK bf (Live.nil W));clear hW bf;have aF:=ax.out.box.c0;have aG:=ax.out.box.c1;have aP:=ax.out.box.f0;have aQ:=ax.out.box.f1;go_wp2_with fail;refine(Dg.nS a _ HA).mono ?_;rintro e w1 ⟨d0,dn,dc,rfl,hT,hB⟩;have HT:=hid hT.sl;have aT:=hid (ax.out.below hB);have HB1:=hid (Below.steps HB0.out hB);clear aF aG aP aQ;clear ax HB0 hT hB;have aF:=aT.out.box.c0;have aG:=aT.out.box.c1;have aP:=aT.out.box.f0;have aQ:=aT.out.box.f1;go_wp2_with fail;have HC:Hid (Zd w1 false d0 dn dc (dV false a)):=Zd.of HT.out (by simp);refine bodyPost_ret (v:= .agg #[.bool false,.slice d0 dn dc]) (by simp[results,Tryz.results42,go_sem,aF,aG]) rfl ?_;exact⟨_,_,_,_,rfl,HC.out.set2 aT.out.box _ _,bD HB1.out (by omega) _ _⟩
theorem OQ [Ol] (a:Nat) (w:World) (h:a<9223372036854775808):
  Calls Tryz.prog 42 #[.int .i64 (-((a+1:Nat):Int))] w (pX w (dV true (a+1))):=by
 have HA:Hid (a<=18446744073709551615):=by rw[Hid];omega
 have d1:decide (0<= -(((a+1:Nat)):Int))=false:=by simp
 go_enter Tryz.func42,Tryz.ntmps42;go_upto_region 1 with(fail)
 refine au (fun W hW=>?_);have HB0:Hid (Below w.heap.size w W):=by rw[hW];exact af _ _
 have bf:bK W (w.heap.size) false none 0 0:=by rw[hW];exact bK.new _ _ _ _ _ _ _ (by simp)
 have ax:=hid (Live.aK bf (Live.nil W));clear hW bf;have aF:=ax.out.box.c0;have aG:=ax.out.box.c1;have aP:=ax.out.box.f0;have aQ:=ax.out.box.f1;go_wp2_with fail;simp only[show-(-(((a:Nat):Int)+1)+1)=((a:Nat):Int)from by omega];refine(Dg.nS a _ HA).mono ?_;rintro e w1 ⟨d0,dn,dc,rfl,hT,hB⟩;have HT:=hid hT.sl;have HTL:Hid (dn<=1000000):=(by rw[Hid,<-hT.len];exact Nat.le_trans (Dg.ji (k:=20) (by omega)) (by omega));have aT:=hid (ax.out.below hB);have HB1:=hid (Below.steps HB0.out hB);clear aF aG aP aQ;clear ax HB0 hT hB;have aF:=aT.out.box.c0;have aG:=aT.out.box.c1;have aP:=aT.out.box.f0;have aQ:=aT.out.box.f1;go_wp2_with fail;have hsz1:Hid (Dg.Sl (w1.alloc (.cells #[.int .i64 1] 3)) (some ⟨w1.heap.size,0,none⟩) 1 1 [1]):=(Dg.Own.lit w1 [1] (by simp) (by simp)).sl;refine(Dg.rq _ _ _ _ _ _ _ _ _ (HT.out.below (af _ _)) hsz1.out (by have:=HTL.out;omega) (by omega)).mono ?_;rintro e w2 ⟨f0,fn,fc,rfl,hU,hB⟩;rw[Dg.aC]at hU;have HU:=hid hU.sl;have hfb:=hU.len;have bI:=hid (aT.out.below (aA hB));have HB2:=hid (Below.steps HB1.out (aA hB));clear aF aG aP aQ;clear aT HB1 hU hB;have aF:=bI.out.box.c0;have aG:=bI.out.box.c1;have aP:=bI.out.box.f0;have aQ:=bI.out.box.f1;go_wp2_with fail;clear hfb
 have HC:Hid (Zd w2 true f0 fn fc (dV true (a+1))):=by
  refine⟨by rw[wY];simp,?_⟩;rw[jD];have:=HU.out;simpa[Dg.val]using this
 refine bodyPost_ret (v:= .agg #[.bool true,.slice f0 fn fc]) (by simp[results,Tryz.results42,go_sem,aF,aG]) rfl ?_;exact⟨_,_,_,_,rfl,HC.out.set2 bI.out.box _ _,bD HB2.out (by omega) _ _⟩
theorem sG [Ol] (n:Int) (w:World) (h: -9223372036854775808<=n/\ n<=9223372036854775807):
  Calls Tryz.prog 42 #[.int .i64 n] w (pX w n):=by
 by_cases h0:n<0
 ·obtain⟨a,rfl⟩:∃a:Nat,n= -((a+1:Nat):Int):=⟨n.natAbs-1,by omega⟩;exact OQ a w (by omega)
 ·obtain⟨a,rfl⟩:=Int.eq_ofNat_of_zero_le (Int.not_lt.1 h0);exact OP a w (by omega)
open Lib (hid)
theorem KX [Ol] {ao:Option Addr} {n cap:Nat} {x:Int} {w:World} (hx:Zx w true ao n cap x):
  Calls Tryz.prog 39 #[.agg #[.bool true,.slice ao n cap]] w (rR w x):=by
 have HV:Hid (dV true x.natAbs=x):=hx.zd.val;have hle:=hx.le;have hn:=hx.zd.pos;go_enter Tryz.func39,Tryz.ntmps39;go_upto_region 1 with(fail)
 refine au (fun W hW=>?_);have HB0:Hid (Below w.heap.size w W):=by rw[hW];exact aA (af _ _)
 have aO:bK W (w.heap.size) true ao n cap:=by rw[hW];exact(bK.new _ _ _ _ _ _ _ (by simp)).below (af _ _)
 have bf:bK W (w.heap.size+1) false none 0 0:=by rw[hW];exact bK.new _ _ _ _ _ _ _ (by simp)
 have ax:=hid (Live.bX (hx.below HB0.out) (Live.aK aO (Live.aK bf (Live.nil W))));clear hW aO bf;have aL:=ax.out.tl.box.c0;have aM:=ax.out.tl.box.c1;have aR:=ax.out.tl.box.f0;have aS:=ax.out.tl.box.f1;have aF:=ax.out.tl.tl.box.c0;have aG:=ax.out.tl.tl.box.c1;have aP:=ax.out.tl.tl.box.f0;have aQ:=ax.out.tl.tl.box.f1;have qz:=hid (ax.out.below ((Below.refl _ _).drew));have qA:=hid HB0.out.drew;clear aL aM aR aS aF aG aP aQ;clear ax HB0;have ax:=hid qz.out;have HB0:=hid qA.out;clear qz qA;have aL:=ax.out.tl.box.c0;have aM:=ax.out.tl.box.c1;have aR:=ax.out.tl.box.f0;have aS:=ax.out.tl.box.f1;have aF:=ax.out.tl.tl.box.c0;have aG:=ax.out.tl.tl.box.c1;have aP:=ax.out.tl.tl.box.f0;have aQ:=ax.out.tl.tl.box.f1;refine wp_region_held_drew (S:=fun w'=>w'.cell? ⟨w.heap.size,0,none⟩=some (.bool true)/\ w'.cell? ⟨w.heap.size,1,none⟩=some (.slice ao n cap)) (by kernel_rfl) (And.intro ax.out.tl.box.c0 (ax.out.tl.box.c1)) (fun hHeld=>?_);refine bS 0 rfl (by kernel_rfl) (fun _ _ _ h=>h) (by rfl) hHeld (by intro w hSw;first|(go_simp;done)|(go_simp;with_reducible rfl)) ?_
 try simp only[Act.put,List.setIfInBounds_toArray,List.set_cons_zero,List.set_cons_succ]
 refine bS 1 rfl (by kernel_rfl) (fun _ _ _ h=>h) (by rfl) hHeld (by intro w hSw;first|(go_simp;done)|(go_simp;with_reducible rfl)) ?_
 try simp only[Act.put,List.setIfInBounds_toArray,List.set_cons_zero,List.set_cons_succ]
 refine bS 2 rfl (by kernel_rfl) (fun _ _ _ h=>h) (by rfl) hHeld (by intro w hSw;first|(go_simp;done)|(go_simp;with_reducible rfl)) ?_
 try simp only[Act.put,List.setIfInBounds_toArray,List.set_cons_zero,List.set_cons_succ]
 refine bS 3 rfl (by kernel_rfl) (fun _ _ _ h=>h) (by rfl) hHeld (by intro w hSw;first|(go_simp;done)|(go_simp;with_reducible rfl)) ?_
 try simp only[Act.put,List.setIfInBounds_toArray,List.set_cons_zero,List.set_cons_succ]
 refine bS 4 rfl (by kernel_rfl) (fun _ _ _ h=>h) (by rfl) hHeld (by intro w hSw;first|(go_simp;done)|(go_simp;with_reducible rfl)) ?_
 try simp only[Act.put,List.setIfInBounds_toArray,List.set_cons_zero,List.set_cons_succ]
 refine bS 5 rfl (by kernel_rfl) (fun _ _ _ h=>h) (by rfl) hHeld (by intro w hSw;first|(go_simp;done)|(go_simp;with_reducible rfl)) ?_
 try simp only[Act.put,List.setIfInBounds_toArray,List.set_cons_zero,List.set_cons_succ]
 refine bS 6 rfl (by kernel_rfl) (fun _ _ _ h=>h) (by rfl) hHeld (by intro w hSw;first|(go_simp;done)|(go_simp;with_reducible rfl)) ?_
 try simp only[Act.put,List.setIfInBounds_toArray,List.set_cons_zero,List.set_cons_succ]
 refine bS 7 rfl (by kernel_rfl) (fun _ _ _ h=>h) (by rfl) hHeld (by intro w hSw;first|(go_simp;done)|(go_simp;with_reducible rfl)) ?_
 try simp only[Act.put,List.setIfInBounds_toArray,List.set_cons_zero,List.set_cons_succ]
 refine bS 8 rfl (by kernel_rfl) (fun _ _ _ h=>h) (by rfl) hHeld (by intro w hSw;first|(go_simp;done)|(go_simp;with_reducible rfl)) ?_
 try simp only[Act.put,List.setIfInBounds_toArray,List.set_cons_zero,List.set_cons_succ]
 refine bS 9 rfl (by kernel_rfl) (fun _ _ _ h=>h) (by rfl) hHeld (by intro w hSw;first|(go_simp;done)|(go_simp;with_reducible rfl)) ?_
 try simp only[Act.put,List.setIfInBounds_toArray,List.set_cons_zero,List.set_cons_succ]
 refine aj 10 rfl (by kernel_rfl) (fun K hK=>?_);go_simp;refine(Dg.AL _ _ _ _ _ ax.out.pU.zd.sl).mono ?_;rintro e w1 ⟨t0,tn,tc,rfl,hT,hB⟩;have aT:=hid (Live.dI hT.sl (ax.out.below hB));have HB1:=hid (Below.steps HB0.out hB);clear aL aM aR aS aF aG aP aQ;clear ax HB0 hT hB;have aL:=aT.out.tl.tl.box.c0;have aM:=aT.out.tl.tl.box.c1;have aR:=aT.out.tl.tl.box.f0;have aS:=aT.out.tl.tl.box.f1;have aF:=aT.out.tl.tl.tl.box.c0;have aG:=aT.out.tl.tl.tl.box.c1;have aP:=aT.out.tl.tl.tl.box.f0;have aQ:=aT.out.tl.tl.tl.box.f1;go_wp2_with fail;refine hK.out _ _ (And.intro aT.out.tl.tl.box.c0 (aT.out.tl.tl.box.c1)) (fun fZ=>?_);clear hK K hHeld;have hHeld:=fZ;clear fZ
 try simp only[Act.put,List.setIfInBounds_toArray,List.set_cons_zero,List.set_cons_succ]
 refine bS 11 rfl (by kernel_rfl) (fun _ _ _ h=>h) (by rfl) hHeld (by intro w hSw;first|(go_simp;done)|(go_simp;with_reducible rfl)) ?_
 try simp only[Act.put,List.setIfInBounds_toArray,List.set_cons_zero,List.set_cons_succ]
 refine aj 12 rfl (by kernel_rfl) (fun K hK=>?_);go_simp;refine hK.out _ _ ((And.intro ((bU (fun e=>by have e2:w.heap.size=w.heap.size+1:=e;omega) _ _).trans aL) ((bU (fun e=>by have e2:w.heap.size=w.heap.size+1:=e;omega) _ _).trans aM))) (fun fZ=>?_);clear hK K hHeld
 try simp only[Act.put,List.setIfInBounds_toArray,List.set_cons_zero,List.set_cons_succ]
 refine wpAnyH_done (by kernel_rfl) ?_ _
 go_wp2_with fail;have HC:Hid (Cn w1 true t0 tn tc x):=⟨aT.out.tl.pU.zd.neg,aT.out.sl⟩;refine bodyPost_ret (v:= .agg #[.bool true,.slice t0 tn tc]) (by simp[results,Tryz.results39,go_sem,aF,aG]) rfl ?_;exact⟨_,_,_,_,rfl,HC.out.set2 aT.out.tl.tl.tl.box _ _,bD HB1.out (by omega) _ _⟩
theorem Hf [Ol] {ao:Option Addr} {n cap:Nat} {x:Int} {w:World} (hx:Zx w false ao n cap x):
  Calls Tryz.prog 39 #[.agg #[.bool false,.slice ao n cap]] w (rR w x):=by
 have HV:Hid (dV false x.natAbs=x):=hx.zd.val;have hle:=hx.le;go_enter Tryz.func39,Tryz.ntmps39;go_upto_region 1 with(fail)
 refine au (fun W hW=>?_);have HB0:Hid (Below w.heap.size w W):=by rw[hW];exact aA (af _ _)
 have aO:bK W (w.heap.size) false ao n cap:=by rw[hW];exact(bK.new _ _ _ _ _ _ _ (by simp)).below (af _ _)
 have bf:bK W (w.heap.size+1) false none 0 0:=by rw[hW];exact bK.new _ _ _ _ _ _ _ (by simp)
 have ax:=hid (Live.bX (hx.below HB0.out) (Live.aK aO (Live.aK bf (Live.nil W))));clear hW aO bf;have aL:=ax.out.tl.box.c0;have aM:=ax.out.tl.box.c1;have aR:=ax.out.tl.box.f0;have aS:=ax.out.tl.box.f1;have aF:=ax.out.tl.tl.box.c0;have aG:=ax.out.tl.tl.box.c1;have aP:=ax.out.tl.tl.box.f0;have aQ:=ax.out.tl.tl.box.f1;have qz:=hid (ax.out.below ((Below.refl _ _).drew));have qA:=hid HB0.out.drew;clear aL aM aR aS aF aG aP aQ;clear ax HB0;have ax:=hid qz.out;have HB0:=hid qA.out;clear qz qA;have aL:=ax.out.tl.box.c0;have aM:=ax.out.tl.box.c1;have aR:=ax.out.tl.box.f0;have aS:=ax.out.tl.box.f1;have aF:=ax.out.tl.tl.box.c0;have aG:=ax.out.tl.tl.box.c1;have aP:=ax.out.tl.tl.box.f0;have aQ:=ax.out.tl.tl.box.f1;refine wp_region_held_drew (S:=fun w'=>w'.cell? ⟨w.heap.size,0,none⟩=some (.bool false)/\ w'.cell? ⟨w.heap.size,1,none⟩=some (.slice ao n cap)) (by kernel_rfl) (And.intro ax.out.tl.box.c0 (ax.out.tl.box.c1)) (fun hHeld=>?_);refine bS 0 rfl (by kernel_rfl) (fun _ _ _ h=>h) (by rfl) hHeld (by intro w hSw;first|(go_simp;done)|(go_simp;with_reducible rfl)) ?_
 try simp only[Act.put,List.setIfInBounds_toArray,List.set_cons_zero,List.set_cons_succ]
 refine bS 1 rfl (by kernel_rfl) (fun _ _ _ h=>h) (by rfl) hHeld (by intro w hSw;first|(go_simp;done)|(go_simp;with_reducible rfl)) ?_
 try simp only[Act.put,List.setIfInBounds_toArray,List.set_cons_zero,List.set_cons_succ]
 refine bS 2 rfl (by kernel_rfl) (fun _ _ _ h=>h) (by rfl) hHeld (by intro w hSw;first|(go_simp;done)|(go_simp;with_reducible rfl)) ?_
 try simp only[Act.put,List.setIfInBounds_toArray,List.set_cons_zero,List.set_cons_succ]
 refine qE 3 rfl (by kernel_rfl) (fun _ _ _ h=>h) (by rfl) hHeld ?_
 try simp only[Act.put,List.setIfInBounds_toArray,List.set_cons_zero,List.set_cons_succ]
 refine qE 4 rfl (by kernel_rfl) (fun _ _ _ h=>h) (by rfl) hHeld ?_
 try simp only[Act.put,List.setIfInBounds_toArray,List.set_cons_zero,List.set_cons_succ]
 refine qE 5 rfl (by kernel_rfl) (fun _ _ _ h=>h) (by rfl) hHeld ?_
 try simp only[Act.put,List.setIfInBounds_toArray,List.set_cons_zero,List.set_cons_succ]
 refine qE 6 rfl (by kernel_rfl) (fun _ _ _ h=>h) (by rfl) hHeld ?_
 try simp only[Act.put,List.setIfInBounds_toArray,List.set_cons_zero,List.set_cons_succ]
 refine bS 7 rfl (by kernel_rfl) (fun _ _ _ h=>h) (by rfl) hHeld (by intro w hSw;first|(go_simp;done)|(go_simp;with_reducible rfl)) ?_
 try simp only[Act.put,List.setIfInBounds_toArray,List.set_cons_zero,List.set_cons_succ]
 refine bS 8 rfl (by kernel_rfl) (fun _ _ _ h=>h) (by rfl) hHeld (by intro w hSw;first|(go_simp;done)|(go_simp;with_reducible rfl)) ?_
 try simp only[Act.put,List.setIfInBounds_toArray,List.set_cons_zero,List.set_cons_succ]
 refine bS 9 rfl (by kernel_rfl) (fun _ _ _ h=>h) (by rfl) hHeld (by intro w hSw;first|(go_simp;done)|(go_simp;with_reducible rfl)) ?_
 try simp only[Act.put,List.setIfInBounds_toArray,List.set_cons_zero,List.set_cons_succ]
 refine aj 10 rfl (by kernel_rfl) (fun K hK=>?_);go_simp;refine(Dg.AL _ _ _ _ _ ax.out.pU.zd.sl).mono ?_;rintro e w1 ⟨t0,tn,tc,rfl,hT,hB⟩;have aT:=hid (Live.dI hT.sl (ax.out.below hB));have HB1:=hid (Below.steps HB0.out hB);clear aL aM aR aS aF aG aP aQ;clear ax HB0 hT hB;have aL:=aT.out.tl.tl.box.c0;have aM:=aT.out.tl.tl.box.c1;have aR:=aT.out.tl.tl.box.f0;have aS:=aT.out.tl.tl.box.f1;have aF:=aT.out.tl.tl.tl.box.c0;have aG:=aT.out.tl.tl.tl.box.c1;have aP:=aT.out.tl.tl.tl.box.f0;have aQ:=aT.out.tl.tl.tl.box.f1;go_wp2_with fail;refine hK.out _ _ (And.intro aT.out.tl.tl.box.c0 (aT.out.tl.tl.box.c1)) (fun fZ=>?_);clear hK K hHeld;have hHeld:=fZ;clear fZ
 try simp only[Act.put,List.setIfInBounds_toArray,List.set_cons_zero,List.set_cons_succ]
 refine bS 11 rfl (by kernel_rfl) (fun _ _ _ h=>h) (by rfl) hHeld (by intro w hSw;first|(go_simp;done)|(go_simp;with_reducible rfl)) ?_
 try simp only[Act.put,List.setIfInBounds_toArray,List.set_cons_zero,List.set_cons_succ]
 refine aj 12 rfl (by kernel_rfl) (fun K hK=>?_);go_simp;refine hK.out _ _ ((And.intro ((bU (fun e=>by have e2:w.heap.size=w.heap.size+1:=e;omega) _ _).trans aL) ((bU (fun e=>by have e2:w.heap.size=w.heap.size+1:=e;omega) _ _).trans aM))) (fun fZ=>?_);clear hK K hHeld
 try simp only[Act.put,List.setIfInBounds_toArray,List.set_cons_zero,List.set_cons_succ]
 refine wpAnyH_done (by kernel_rfl) ?_ _
 go_wp2_with fail;have HC:Hid (Cn w1 false t0 tn tc x):=⟨aT.out.tl.pU.zd.neg,aT.out.sl⟩;refine bodyPost_ret (v:= .agg #[.bool false,.slice t0 tn tc]) (by simp[results,Tryz.results39,go_sem,aF,aG]) rfl ?_;exact⟨_,_,_,_,rfl,HC.out.set2 aT.out.tl.tl.tl.box _ _,bD HB1.out (by omega) _ _⟩
theorem xU [Ol] {m:Bool} {ao:Option Addr} {n cap:Nat} {x:Int} {w:World} (hx:Zx w m ao n cap x):
  Calls Tryz.prog 39 #[.agg #[.bool m,.slice ao n cap]] w (rR w x):=by
 cases m
 ·exact Hf hx
 ·exact KX hx
open Lib (hid)
theorem xV [Ol] {m:Bool} {ao bo:Option Addr} {n cap l cb:Nat} {xs ys:List Nat} {w:World} (r:Bool) (hs:Sl w ao n cap xs) (ht:Sl w bo l cb ys) (h:qp xs ys=r):
  Calls Tryz.prog 37 #[.agg #[.bool m,.slice ao n cap],.agg #[.bool m,.slice bo l cb]] w (bN (.bool r) w):=by
 have HS:=hid h;go_enter Tryz.func37,Tryz.ntmps37;go_upto_region 1 with(fail)
 refine au (fun W hW=>?_);have HB0:Hid (Below w.heap.size w W):=by rw[hW];exact aA (af _ _)
 have aO:bK W (w.heap.size) m ao n cap:=by rw[hW];exact(bK.new _ _ _ _ _ _ _ (by simp)).below (af _ _)
 have bL:bK W (w.heap.size+1) m bo l cb:=by rw[hW];exact bK.new _ _ _ _ _ _ _ (by simp)
 have ax:=hid (Live.dI (hs.below HB0.out) (Live.dI (ht.below HB0.out) (Live.aK aO (Live.aK bL (Live.nil W)))));clear hW aO bL;have aL:=ax.out.tl.tl.box.c0;have aM:=ax.out.tl.tl.box.c1;have aR:=ax.out.tl.tl.box.f0;have aS:=ax.out.tl.tl.box.f1;have bq:=ax.out.tl.tl.tl.box.c0;have bA:=ax.out.tl.tl.tl.box.c1;have bB:=ax.out.tl.tl.tl.box.f0;have bC:=ax.out.tl.tl.tl.box.f1;go_wp2_with fail;refine(RH r _ _ _ _ _ _ _ _ _ ax.out.sl ax.out.tl.sl HS.out).mono ?_;rintro e w1 ⟨rfl,hB⟩;have aT:=hid (ax.out.below hB);have HB1:=hid (Below.steps HB0.out hB);clear aL aM aR aS bq bA bB bC;clear ax HB0 hB;have aL:=aT.out.tl.tl.box.c0;have aM:=aT.out.tl.tl.box.c1;have aR:=aT.out.tl.tl.box.f0;have aS:=aT.out.tl.tl.box.f1;have bq:=aT.out.tl.tl.tl.box.c0;have bA:=aT.out.tl.tl.tl.box.c1;have bB:=aT.out.tl.tl.tl.box.f0;have bC:=aT.out.tl.tl.tl.box.f1;go_wp2_with fail;go_ret;exact⟨rfl,HB1.out⟩
theorem Aq [Ol] {m k:Bool} {ao bo:Option Addr} {n cap l cb:Nat} {w:World} (h:m≠k):
  Calls Tryz.prog 37 #[.agg #[.bool m,.slice ao n cap],.agg #[.bool k,.slice bo l cb]] w (bN (.bool false) w):=by
 have hmm:(m==k)=false:=by cases m<;>cases k<;>simp at h ⊢
 go_enter Tryz.func37,Tryz.ntmps37;go_upto_region 1 with(fail)
 refine au (fun W hW=>?_);have HB0:Hid (Below w.heap.size w W):=by rw[hW];exact aA (af _ _)
 have aO:bK W (w.heap.size) m ao n cap:=by rw[hW];exact(bK.new _ _ _ _ _ _ _ (by simp)).below (af _ _)
 have bL:bK W (w.heap.size+1) k bo l cb:=by rw[hW];exact bK.new _ _ _ _ _ _ _ (by simp)
 have ax:=hid (Live.aK aO (Live.aK bL (Live.nil W)));clear hW aO bL;have aL:=ax.out.box.c0;have aM:=ax.out.box.c1;have aR:=ax.out.box.f0;have aS:=ax.out.box.f1;have bq:=ax.out.tl.box.c0;have bA:=ax.out.tl.box.c1;have bB:=ax.out.tl.box.f0;have bC:=ax.out.tl.box.f1;go_wp2_with fail;go_ret;exact⟨rfl,HB0.out⟩
theorem KY (xs:List Nat) (j:Nat) (hj:xs.length=j+1) (hl:xs.getD j 0≠0):bE xs=xs:=by
 have h1:=dh xs j (by omega);rw[eX xs (j+1) hj]at h1;rw[h1];exact yB _ hl
theorem tT {m:Bool} {xs:List Nat} (hw:Wf xs):rT m xs.length xs=decide (m=decide (dV m (val xs)<0)/\ xs=limbs (dV m (val xs)).natAbs):=by
 rw[jD,wY];unfold rT;split
 ·rename_i h0;obtain rfl:xs=[]:=List.eq_nil_of_length_eq_zero h0;rw[gI];cases m<;>simp[iY]
 ·rename_i h0;obtain⟨j,hj⟩:∃j,xs.length=j+1:=⟨xs.length-1,by omega⟩;rw[hj,Nat.add_sub_cancel];have ht:=dU xs hw;by_cases hl:xs.getD j 0=0
  ·have h1:¬xs=limbs (val xs):=fun e=>last_pos xs j (by rw[ht,<-e]) hj hl
   simp only[hl,h1];simp
  ·have h1:bE xs=xs:=KY xs j hj hl;have h2:xs=limbs (val xs):=by rw[<-ht,h1]
   have h3:0<val xs:=by
    rcases Nat.eq_zero_or_pos (val xs)with h|h
    ·rw[h,iY]at h2;rw[h2]at hj;simp at hj
    ·exact h
   simp only[<-h2,h3];simp;exact hl
theorem OT [Ol] {m k:Bool} {ao bo:Option Addr} {n cap l cb:Nat} {xs:List Nat} {w:World} (r:Bool) (hs:Sl w ao n cap xs) (hv:Cx w k bo l cb (dV m (val xs))) (h:rT m n xs=r):
  Calls Tryz.prog 37 #[.agg #[.bool m,.slice ao n cap],.agg #[.bool k,.slice bo l cb]] w (bN (.bool r) w):=by
 have e:=tT (m:=m) hs.wf;rw[hs.len]at e;rw[<-h,e];clear e;have h1:=hv.cn.neg;by_cases hmk:m=k
 ·subst hmk;refine xV _ hs hv.cn.sl ?_;unfold qp;rw[decide_eq_decide];exact⟨fun e=>⟨h1,e⟩,fun e=>e.2⟩
 ·have e:decide (m=decide (dV m (val xs)<0)/\ xs=limbs (dV m (val xs)).natAbs)=false:=by
   rw[decide_eq_false_iff_not,<-h1];exact fun e=>hmk e.1
  rw[e];exact Aq hmk
theorem JC [Ol] {m:Bool} {ao:Option Addr} {n cap:Nat} {xs:List Nat} {w:World} (r:Bool) (hs:Sl w ao n cap xs) (hn:n<=1000) (h:rT m n xs=r):
  Calls Tryz.prog 25 #[.agg #[.bool m,.slice ao n cap]] w (bN (.bool r) w):=by
 have HR:=hid h;have hle:=hn;have HV:Hid (Nx w m ao n cap (dV m (val xs))):=⟨⟨xs,hs,rfl⟩,by omega⟩;have Nc:Hid (Bd (dV m (val xs)) 1000):=HV.out.inn.bd (by omega);clear h;go_enter Tryz.func25,Tryz.ntmps25;go_upto_region 1 with(fail)
 refine au (fun W hW=>?_);have HB0:Hid (Below w.heap.size w W):=by rw[hW];exact af _ _
 have aO:bK W (w.heap.size) m ao n cap:=by rw[hW];exact bK.new _ _ _ _ _ _ _ (by simp)
 have ax:=hid (Live.Cr (HV.out.below HB0.out) (Live.dI (hs.below HB0.out) (Live.aK aO (Live.nil W))));clear hW aO;have aL:=ax.out.tl.tl.box.c0;have aM:=ax.out.tl.tl.box.c1;have aR:=ax.out.tl.tl.box.f0;have aS:=ax.out.tl.tl.box.f1;have qz:=hid (ax.out.below ((Below.refl _ _).drew));have qA:=hid HB0.out.drew;clear aL aM aR aS;clear ax HB0;have ax:=hid qz.out;have HB0:=hid qA.out;clear qz qA;have aL:=ax.out.tl.tl.box.c0;have aM:=ax.out.tl.tl.box.c1;have aR:=ax.out.tl.tl.box.f0;have aS:=ax.out.tl.tl.box.f1;refine wp_region_held_drew (S:=fun w'=>w'.cell? ⟨w.heap.size,0,none⟩=some (.bool m)/\ w'.cell? ⟨w.heap.size,1,none⟩=some (.slice ao n cap)) (by kernel_rfl) (And.intro ax.out.tl.tl.box.c0 (ax.out.tl.tl.box.c1)) (fun hHeld=>?_);refine bS 0 rfl (by kernel_rfl) (fun _ _ _ h=>h) (by rfl) hHeld (by intro w hSw;first|(go_simp;done)|(go_simp;with_reducible rfl)) ?_
 try simp only[Act.put,List.setIfInBounds_toArray,List.set_cons_zero,List.set_cons_succ]
 refine bS 1 rfl (by kernel_rfl) (fun _ _ _ h=>h) (by rfl) hHeld (by intro w hSw;first|(go_simp;done)|(go_simp;with_reducible rfl)) ?_
 try simp only[Act.put,List.setIfInBounds_toArray,List.set_cons_zero,List.set_cons_succ]
 refine aj 2 rfl (by kernel_rfl) (fun K hK=>?_);go_simp;refine(Je ax.out.num).mono ?_;rintro e w1 ⟨um,u0,un,uc,rfl,hU,hB⟩;have aT:=hid (Live.bX (hU.zx Nc.out (by omega)) (ax.out.below hB));have HB1:=hid (Below.steps HB0.out hB);clear aL aM aR aS;clear ax HB0 hU hB;have aL:=aT.out.tl.tl.tl.box.c0;have aM:=aT.out.tl.tl.tl.box.c1;have aR:=aT.out.tl.tl.tl.box.f0;have aS:=aT.out.tl.tl.tl.box.f1;go_wp2_with fail;refine hK.out _ _ (And.intro aT.out.tl.tl.tl.box.c0 (aT.out.tl.tl.tl.box.c1)) (fun fZ=>?_);clear hK K hHeld;have hHeld:=fZ;clear fZ
 try simp only[Act.put,List.setIfInBounds_toArray,List.set_cons_zero,List.set_cons_succ]
 refine aj 3 rfl (by kernel_rfl) (fun K hK=>?_);go_simp;refine(xU aT.out.pU).mono ?_;rintro e w2 ⟨vm,v0,vn,vc,rfl,hV,hB⟩;have bI:=hid (Live.RA (hV.cx Nc.out (by omega)) (aT.out.below hB));have HB2:=hid (Below.steps HB1.out hB);clear aL aM aR aS;clear aT HB1 hV hB;have aL:=bI.out.tl.tl.tl.tl.box.c0;have aM:=bI.out.tl.tl.tl.tl.box.c1;have aR:=bI.out.tl.tl.tl.tl.box.f0;have aS:=bI.out.tl.tl.tl.tl.box.f1;go_wp2_with fail;refine hK.out _ _ (And.intro bI.out.tl.tl.tl.tl.box.c0 (bI.out.tl.tl.tl.tl.box.c1)) (fun fZ=>?_);clear hK K hHeld;have hHeld:=fZ;clear fZ
 try simp only[Act.put,List.setIfInBounds_toArray,List.set_cons_zero,List.set_cons_succ]
 refine aj 4 rfl (by kernel_rfl) (fun K hK=>?_);go_simp;refine(OT r bI.out.tl.tl.tl.sl bI.out.can HR.out).mono ?_;rintro e w3 ⟨rfl,hB⟩;have cO:=hid (bI.out.below hB);have HB3:=hid (Below.steps HB2.out hB);clear aL aM aR aS;clear bI HB2 hB;have aL:=cO.out.tl.tl.tl.tl.box.c0;have aM:=cO.out.tl.tl.tl.tl.box.c1;have aR:=cO.out.tl.tl.tl.tl.box.f0;have aS:=cO.out.tl.tl.tl.tl.box.f1;go_wp2_with fail;refine hK.out _ _ (And.intro cO.out.tl.tl.tl.tl.box.c0 (cO.out.tl.tl.tl.tl.box.c1)) (fun fZ=>?_);clear hK K hHeld;have hHeld:=fZ;clear fZ
 try simp only[Act.put,List.setIfInBounds_toArray,List.set_cons_zero,List.set_cons_succ]
 refine bS 5 rfl (by kernel_rfl) (fun _ _ _ h=>h) (by rfl) hHeld (by intro w hSw;first|(go_simp;done)|(go_simp;with_reducible rfl)) ?_
 try simp only[Act.put,List.setIfInBounds_toArray,List.set_cons_zero,List.set_cons_succ]
 refine wpAnyH_done (by kernel_rfl) ?_ _
 clear hHeld;go_wp2_with fail;go_ret;exact⟨rfl,HB3.out⟩
open Lib (hid)
theorem KZ [Ol] {m:Bool} {ao bo:Option Addr} {n cap l cb:Nat} {x y:Int} {w:World} (hx:Zx w m ao n cap x) (hy:Zx w m bo l cb y):
  Calls Tryz.prog 61 #[.agg #[.bool m,.slice ao n cap],.agg #[.bool m,.slice bo l cb]] w (pX w (x*y)):=by
 have hle:=hx.le;have hle2:=hy.le;have HX:Hid (dV m x.natAbs=x):=hx.zd.val;have HY:Hid (dV m y.natAbs=y):=hy.zd.val;have hmm:(m !=m)=false:=by cases m<;>rfl
 go_enter Tryz.func61,Tryz.ntmps61;go_upto_region 1 with(fail)
 refine au (fun W hW=>?_);have HB0:Hid (Below w.heap.size w W):=by rw[hW];exact aA (aA (af _ _))
 have aO:bK W (w.heap.size) m ao n cap:=by rw[hW];exact((bK.new _ _ _ _ _ _ _ (by simp)).below (af _ _)).below (af _ _)
 have bL:bK W (w.heap.size+1) m bo l cb:=by rw[hW];exact(bK.new _ _ _ _ _ _ _ (by simp)).below (af _ _)
 have bf:bK W (w.heap.size+2) false none 0 0:=by rw[hW];exact bK.new _ _ _ _ _ _ _ (by simp)
 have ax:=hid (Live.bX (hx.below HB0.out) (Live.bX (hy.below HB0.out) (Live.aK aO (Live.aK bL (Live.aK bf (Live.nil W))))));clear hW aO bL bf;have aL:=ax.out.tl.tl.box.c0;have aM:=ax.out.tl.tl.box.c1;have aR:=ax.out.tl.tl.box.f0;have aS:=ax.out.tl.tl.box.f1;have bq:=ax.out.tl.tl.tl.box.c0;have bA:=ax.out.tl.tl.tl.box.c1;have bB:=ax.out.tl.tl.tl.box.f0;have bC:=ax.out.tl.tl.tl.box.f1;have aF:=ax.out.tl.tl.tl.tl.box.c0;have aG:=ax.out.tl.tl.tl.tl.box.c1;have aP:=ax.out.tl.tl.tl.tl.box.f0;have aQ:=ax.out.tl.tl.tl.tl.box.f1;go_wp2_with fail;refine(Dg.xh _ _ _ _ _ _ _ _ _ ax.out.pU.zd.sl ax.out.tl.pU.zd.sl (by omega) (by omega)).mono ?_;rintro e w1 ⟨d0,dn,dc,rfl,hT,hB⟩;rw[Dg.aC,Dg.aC]at hT;have HT:=hid hT.sl;have hdb:=hT.big;have aT:=hid (ax.out.below hB);have HB1:=hid (Below.steps HB0.out hB);clear aL aM aR aS bq bA bB bC aF aG aP aQ;clear ax HB0 hT hB;have aL:=aT.out.tl.tl.box.c0;have aM:=aT.out.tl.tl.box.c1;have aR:=aT.out.tl.tl.box.f0;have aS:=aT.out.tl.tl.box.f1;have bq:=aT.out.tl.tl.tl.box.c0;have bA:=aT.out.tl.tl.tl.box.c1;have bB:=aT.out.tl.tl.tl.box.f0;have bC:=aT.out.tl.tl.tl.box.f1;have aF:=aT.out.tl.tl.tl.tl.box.c0;have aG:=aT.out.tl.tl.tl.tl.box.c1;have aP:=aT.out.tl.tl.tl.tl.box.f0;have aQ:=aT.out.tl.tl.tl.tl.box.f1;go_wp2_with fail;have HZ:Hid (Zd w1 (false) d0 dn dc (dV (m !=m) (x.natAbs*y.natAbs))):=Zd.of HT.out (by rw[hmm];simp);have HE:Hid (dV (m !=m) (x.natAbs*y.natAbs)=x*y):=by rw[Hid,Co,HX.out,HY.out]
 refine bodyPost_ret (v:= .agg #[.bool (false),.slice d0 dn dc]) (by simp[results,Tryz.results61,go_sem,aF,aG]) rfl ?_;exact⟨_,_,_,_,rfl,HE.out▸HZ.out.set2 aT.out.tl.tl.tl.tl.box _ _,bD HB1.out (by omega) _ _⟩
theorem K4 [Ol] {m:Bool} {ao bo:Option Addr} {n cap l cb:Nat} {x y:Int} {w:World} (hx:Zx w m ao n cap x) (hy:Zx w (!m) bo l cb y):
  Calls Tryz.prog 61 #[.agg #[.bool m,.slice ao n cap],.agg #[.bool (!m),.slice bo l cb]] w (pX w (x*y)):=by
 have hle:=hx.le;have hle2:=hy.le;have HX:Hid (dV m x.natAbs=x):=hx.zd.val;have HY:Hid (dV (!m) y.natAbs=y):=hy.zd.val;have hmm:(m !=(!m))=true:=by cases m<;>rfl
 go_enter Tryz.func61,Tryz.ntmps61;go_upto_region 1 with(fail)
 refine au (fun W hW=>?_);have HB0:Hid (Below w.heap.size w W):=by rw[hW];exact aA (aA (af _ _))
 have aO:bK W (w.heap.size) m ao n cap:=by rw[hW];exact((bK.new _ _ _ _ _ _ _ (by simp)).below (af _ _)).below (af _ _)
 have bL:bK W (w.heap.size+1) (!m) bo l cb:=by rw[hW];exact(bK.new _ _ _ _ _ _ _ (by simp)).below (af _ _)
 have bf:bK W (w.heap.size+2) false none 0 0:=by rw[hW];exact bK.new _ _ _ _ _ _ _ (by simp)
 have ax:=hid (Live.bX (hx.below HB0.out) (Live.bX (hy.below HB0.out) (Live.aK aO (Live.aK bL (Live.aK bf (Live.nil W))))));clear hW aO bL bf;have aL:=ax.out.tl.tl.box.c0;have aM:=ax.out.tl.tl.box.c1;have aR:=ax.out.tl.tl.box.f0;have aS:=ax.out.tl.tl.box.f1;have bq:=ax.out.tl.tl.tl.box.c0;have bA:=ax.out.tl.tl.tl.box.c1;have bB:=ax.out.tl.tl.tl.box.f0;have bC:=ax.out.tl.tl.tl.box.f1;have aF:=ax.out.tl.tl.tl.tl.box.c0;have aG:=ax.out.tl.tl.tl.tl.box.c1;have aP:=ax.out.tl.tl.tl.tl.box.f0;have aQ:=ax.out.tl.tl.tl.tl.box.f1;go_wp2_with fail;refine(Dg.xh _ _ _ _ _ _ _ _ _ ax.out.pU.zd.sl ax.out.tl.pU.zd.sl (by omega) (by omega)).mono ?_;rintro e w1 ⟨d0,dn,dc,rfl,hT,hB⟩;rw[Dg.aC,Dg.aC]at hT;have HT:=hid hT.sl;have hdb:=hT.big;have aT:=hid (ax.out.below hB);have HB1:=hid (Below.steps HB0.out hB);clear aL aM aR aS bq bA bB bC aF aG aP aQ;clear ax HB0 hT hB;have aL:=aT.out.tl.tl.box.c0;have aM:=aT.out.tl.tl.box.c1;have aR:=aT.out.tl.tl.box.f0;have aS:=aT.out.tl.tl.box.f1;have bq:=aT.out.tl.tl.tl.box.c0;have bA:=aT.out.tl.tl.tl.box.c1;have bB:=aT.out.tl.tl.tl.box.f0;have bC:=aT.out.tl.tl.tl.box.f1;have aF:=aT.out.tl.tl.tl.tl.box.c0;have aG:=aT.out.tl.tl.tl.tl.box.c1;have aP:=aT.out.tl.tl.tl.tl.box.f0;have aQ:=aT.out.tl.tl.tl.tl.box.f1;go_wp2_with fail;have HZ:Hid (Zd w1 (decide (0<dn)) d0 dn dc (dV (m !=(!m)) (x.natAbs*y.natAbs))):=Zd.of HT.out (by rw[hmm];simp);have HE:Hid (dV (m !=(!m)) (x.natAbs*y.natAbs)=x*y):=by rw[Hid,Co,HX.out,HY.out]
 refine bodyPost_ret (v:= .agg #[.bool (decide (0<dn)),.slice d0 dn dc]) (by simp[results,Tryz.results61,go_sem,aF,aG]) rfl ?_;exact⟨_,_,_,_,rfl,HE.out▸HZ.out.set2 aT.out.tl.tl.tl.tl.box _ _,bD HB1.out (by omega) _ _⟩
theorem Oc [Ol] {m k:Bool} {ao bo:Option Addr} {n cap l cb:Nat} {x y:Int} {w:World} (hx:Zx w m ao n cap x) (hy:Zx w k bo l cb y):
  Calls Tryz.prog 61 #[.agg #[.bool m,.slice ao n cap],.agg #[.bool k,.slice bo l cb]] w (pX w (x*y)):=by
 by_cases hmk:k=m
 ·subst hmk;exact KZ hx hy
 ·obtain rfl:k= !m:=by cases m<;>cases k<;>simp at hmk ⊢
  exact K4 hx hy
end Go.Proofs.YthdhjckangekoaaGreat
