/- WZOf, WZInt, WZSame, WZMul, WZPow -/
import Derived.Test.YtmenbpmciblnlaaGreatDoorGWInt
import Derived.Deep.Cut
set_option maxHeartbeats 0
set_option maxRecDepth 100000
open And renaming intro->a0a
open Go.Act renaming put->a0b
open Go.Value renaming slice->a0c
open List renaming setIfInBounds_toArray->a0d,set_cons_succ->a0f,set_cons_zero->a0e
namespace Go.Proofs.YtmenbpmciblnlaaGreatDoor
open Lib (hid)
open Go.RowKit
theorem RY [Ol] {ao:Option Addr} {n cap:Nat} {x:Int} {w:World} (hx:Nx w true ao n cap x):
  Calls Tryz.prog 47 #[.agg #[.bool true,a0c ao n cap]] w (qB w x):=by
 obtain⟨⟨xs,hs,hz⟩,hle⟩:=hx;have HZ:=hid hz;clear hz;go_enter Tryz.func47,Tryz.ntmps47;go_upto_region 1 with(fail)
 refine aj (λW hW=>?_);have HB0:Hid (Below w.heap.size w W):=by rw[hW];exact aN (af _ _)
 have aM:bR W (w.heap.size) true ao n cap:=by rw[hW];exact(bR.new _ _ _ _ _ _ _ (by simp)).below (af _ _)
 have aP:bR W (w.heap.size+1) false none 0 0:=by rw[hW];exact bR.new _ _ _ _ _ _ _ (by simp)
 have av:=hid (Live.dH (hs.below HB0.out) (Live.aD aM (Live.aD aP (Live.nil W))));clear hW aM aP;have aB:=av.out.tl.box.c0;have aC:=av.out.tl.box.c1;have aH:=av.out.tl.box.f0;have aI:=av.out.tl.box.f1;have ay:=av.out.tl.tl.box.c0;have aA:=av.out.tl.tl.box.c1;have aF:=av.out.tl.tl.box.f0;have aG:=av.out.tl.tl.box.f1;go_wp2_with fail;refine(Dg.RZ _ _ _ _ _ av.out.sl (by omega)).mono ?_;rintro e w1 ⟨d0,dn,dc,rfl,hT,hB⟩;have HT:=hid hT.sl;have hdb:=hT.big;have aL:=hid (av.out.below hB);have HB1:=hid (Below.steps HB0.out hB);clear aB aC aH aI ay aA aF aG;clear av HB0 hT hB;have aB:=aL.out.tl.box.c0;have aC:=aL.out.tl.box.c1;have aH:=aL.out.tl.box.f0;have aI:=aL.out.tl.box.f1;have ay:=aL.out.tl.tl.box.c0;have aA:=aL.out.tl.tl.box.c1;have aF:=aL.out.tl.tl.box.f0;have aG:=aL.out.tl.tl.box.f1;go_wp2_with fail;have HC:Hid (Zd w1 (decide (0<dn)) d0 dn dc (dK true (val xs))):=Zd.of HT.out (by simp);refine bodyPost_ret (v:= .agg #[.bool (decide (0<dn)),a0c d0 dn dc]) (by simp[results,Tryz.results47,go_sem,ay,aA]) rfl ?_;exact⟨_,_,_,_,rfl,HZ.out▸HC.out.set2 aL.out.tl.tl.box _ _,aW HB1.out (by omega) _ _⟩
theorem Od [Ol] {ao:Option Addr} {n cap:Nat} {x:Int} {w:World} (hx:Nx w false ao n cap x):
  Calls Tryz.prog 47 #[.agg #[.bool false,a0c ao n cap]] w (qB w x):=by
 obtain⟨⟨xs,hs,hz⟩,hle⟩:=hx;have HZ:=hid hz;clear hz;go_enter Tryz.func47,Tryz.ntmps47;go_upto_region 1 with(fail)
 refine aj (λW hW=>?_);have HB0:Hid (Below w.heap.size w W):=by rw[hW];exact aN (af _ _)
 have aM:bR W (w.heap.size) false ao n cap:=by rw[hW];exact(bR.new _ _ _ _ _ _ _ (by simp)).below (af _ _)
 have aP:bR W (w.heap.size+1) false none 0 0:=by rw[hW];exact bR.new _ _ _ _ _ _ _ (by simp)
 have av:=hid (Live.dH (hs.below HB0.out) (Live.aD aM (Live.aD aP (Live.nil W))));clear hW aM aP;have aB:=av.out.tl.box.c0;have aC:=av.out.tl.box.c1;have aH:=av.out.tl.box.f0;have aI:=av.out.tl.box.f1;have ay:=av.out.tl.tl.box.c0;have aA:=av.out.tl.tl.box.c1;have aF:=av.out.tl.tl.box.f0;have aG:=av.out.tl.tl.box.f1;go_wp2_with fail;refine(Dg.RZ _ _ _ _ _ av.out.sl (by omega)).mono ?_;rintro e w1 ⟨d0,dn,dc,rfl,hT,hB⟩;have HT:=hid hT.sl;have hdb:=hT.big;have aL:=hid (av.out.below hB);have HB1:=hid (Below.steps HB0.out hB);clear aB aC aH aI ay aA aF aG;clear av HB0 hT hB;have aB:=aL.out.tl.box.c0;have aC:=aL.out.tl.box.c1;have aH:=aL.out.tl.box.f0;have aI:=aL.out.tl.box.f1;have ay:=aL.out.tl.tl.box.c0;have aA:=aL.out.tl.tl.box.c1;have aF:=aL.out.tl.tl.box.f0;have aG:=aL.out.tl.tl.box.f1;go_wp2_with fail;have HC:Hid (Zd w1 (false) d0 dn dc (dK false (val xs))):=Zd.of HT.out (by simp);refine bodyPost_ret (v:= .agg #[.bool (false),a0c d0 dn dc]) (by simp[results,Tryz.results47,go_sem,ay,aA]) rfl ?_;exact⟨_,_,_,_,rfl,HZ.out▸HC.out.set2 aL.out.tl.tl.box _ _,aW HB1.out (by omega) _ _⟩
theorem sW [Ol] {m:Bool} {ao:Option Addr} {n cap:Nat} {x:Int} {w:World} (hx:Nx w m ao n cap x):
  Calls Tryz.prog 47 #[.agg #[.bool m,a0c ao n cap]] w (qB w x):=by
 cases m
 ·exact Od hx
 ·exact RY hx
theorem Oe [Ol] {ao:Option Addr} {n cap:Nat} {x:Int} {w:World} (hx:Zx w true ao n cap x):
  Calls Tryz.prog 54 #[.agg #[.bool true,a0c ao n cap]] w (qB w (-x)):=by
 have HV:Hid (dK true x.natAbs=x):=hx.zd.val;have hdb:=hx.zd.sl.big;go_enter Tryz.func54,Tryz.ntmps54;go_upto_region 1 with(fail)
 refine aj (λW hW=>?_);have HB0:Hid (Below w.heap.size w W):=by rw[hW];exact aN (af _ _)
 have aM:bR W (w.heap.size) true ao n cap:=by rw[hW];exact(bR.new _ _ _ _ _ _ _ (by simp)).below (af _ _)
 have aP:bR W (w.heap.size+1) false none 0 0:=by rw[hW];exact bR.new _ _ _ _ _ _ _ (by simp)
 have av:=hid (Live.bZ (hx.below HB0.out) (Live.aD aM (Live.aD aP (Live.nil W))));clear hW aM aP;have aB:=av.out.tl.box.c0;have aC:=av.out.tl.box.c1;have aH:=av.out.tl.box.f0;have aI:=av.out.tl.box.f1;have ay:=av.out.tl.tl.box.c0;have aA:=av.out.tl.tl.box.c1;have aF:=av.out.tl.tl.box.f0;have aG:=av.out.tl.tl.box.f1;go_wp2_with fail;have HC:Hid (Zd W (false) ao n cap (dK (!true) x.natAbs)):=Zd.of av.out.mQ.zd.sl (by simp);refine bodyPost_ret (v:= .agg #[.bool (false),a0c ao n cap]) (by simp[results,Tryz.results54,go_sem,ay,aA]) rfl ?_;exact⟨_,_,_,_,rfl,(show dK (!true) x.natAbs= -x from by rw[zK,HV.out])▸HC.out.set2 av.out.tl.tl.box _ _,aW HB0.out (by omega) _ _⟩
theorem Kz [Ol] {ao:Option Addr} {n cap:Nat} {x:Int} {w:World} (hx:Zx w false ao n cap x):
  Calls Tryz.prog 54 #[.agg #[.bool false,a0c ao n cap]] w (qB w (-x)):=by
 have HV:Hid (dK false x.natAbs=x):=hx.zd.val;have hdb:=hx.zd.sl.big;go_enter Tryz.func54,Tryz.ntmps54;go_upto_region 1 with(fail)
 refine aj (λW hW=>?_);have HB0:Hid (Below w.heap.size w W):=by rw[hW];exact aN (af _ _)
 have aM:bR W (w.heap.size) false ao n cap:=by rw[hW];exact(bR.new _ _ _ _ _ _ _ (by simp)).below (af _ _)
 have aP:bR W (w.heap.size+1) false none 0 0:=by rw[hW];exact bR.new _ _ _ _ _ _ _ (by simp)
 have av:=hid (Live.bZ (hx.below HB0.out) (Live.aD aM (Live.aD aP (Live.nil W))));clear hW aM aP;have aB:=av.out.tl.box.c0;have aC:=av.out.tl.box.c1;have aH:=av.out.tl.box.f0;have aI:=av.out.tl.box.f1;have ay:=av.out.tl.tl.box.c0;have aA:=av.out.tl.tl.box.c1;have aF:=av.out.tl.tl.box.f0;have aG:=av.out.tl.tl.box.f1;go_wp2_with fail;have HC:Hid (Zd W (decide (0<n)) ao n cap (dK (!false) x.natAbs)):=Zd.of av.out.mQ.zd.sl (by simp);refine bodyPost_ret (v:= .agg #[.bool (decide (0<n)),a0c ao n cap]) (by simp[results,Tryz.results54,go_sem,ay,aA]) rfl ?_;exact⟨_,_,_,_,rfl,(show dK (!false) x.natAbs= -x from by rw[zK,HV.out])▸HC.out.set2 av.out.tl.tl.box _ _,aW HB0.out (by omega) _ _⟩
theorem mW [Ol] {m:Bool} {ao:Option Addr} {n cap:Nat} {x:Int} {w:World} (hx:Zx w m ao n cap x):
  Calls Tryz.prog 54 #[.agg #[.bool m,a0c ao n cap]] w (qB w (-x)):=by
 cases m
 ·exact Kz hx
 ·exact Oe hx
theorem Vt [Ol] {m:Bool} {ao:Option Addr} {n cap:Nat} {x:Int} {w:World} (hx:Zx w m ao n cap x) (h0:x=0):
  Calls Tryz.prog 58 #[.agg #[.bool m,a0c ao n cap]] w (cu (.int .i64 0) w):=by
 have hdb:=hx.zd.sl.big;obtain rfl:n=0:=hx.zd.zero.2 h0;go_enter Tryz.func58,Tryz.ntmps58;go_upto_region 1 with(fail)
 refine aj (λW hW=>?_);have HB0:Hid (Below w.heap.size w W):=by rw[hW];exact af _ _
 have aM:bR W (w.heap.size) m ao 0 cap:=by rw[hW];exact bR.new _ _ _ _ _ _ _ (by simp)
 have av:=hid (Live.bZ (hx.below HB0.out) (Live.aD aM (Live.nil W)));clear hW aM;have aB:=av.out.tl.box.c0;have aC:=av.out.tl.box.c1;have aH:=av.out.tl.box.f0;have aI:=av.out.tl.box.f1;go_wp2_with fail;go_ret;exact⟨rfl,HB0.out⟩
theorem Vu [Ol] {m:Bool} {ao:Option Addr} {n cap:Nat} {x:Int} {w:World} (hx:Zx w m ao n cap x) (h0:x<0):
  Calls Tryz.prog 58 #[.agg #[.bool m,a0c ao n cap]] w (cu (.int .i64 (-1)) w):=by
 have hdb:=hx.zd.sl.big;obtain rfl:m=true:=by rw[hx.zd.neg];simpa using h0
 have hq:(((n:Nat):Int)==0)=false:=by have:=hx.zd.pos;simp;omega
 go_enter Tryz.func58,Tryz.ntmps58;go_upto_region 1 with(fail)
 refine aj (λW hW=>?_);have HB0:Hid (Below w.heap.size w W):=by rw[hW];exact af _ _
 have aM:bR W (w.heap.size) true ao n cap:=by rw[hW];exact bR.new _ _ _ _ _ _ _ (by simp)
 have av:=hid (Live.bZ (hx.below HB0.out) (Live.aD aM (Live.nil W)));clear hW aM;have aB:=av.out.tl.box.c0;have aC:=av.out.tl.box.c1;have aH:=av.out.tl.box.f0;have aI:=av.out.tl.box.f1;go_wp2_with fail;go_ret;exact⟨rfl,HB0.out⟩
theorem Vv [Ol] {m:Bool} {ao:Option Addr} {n cap:Nat} {x:Int} {w:World} (hx:Zx w m ao n cap x) (h0:0<x):
  Calls Tryz.prog 58 #[.agg #[.bool m,a0c ao n cap]] w (cu (.int .i64 1) w):=by
 have hdb:=hx.zd.sl.big;obtain rfl:m=false:=by rw[hx.zd.neg];simp;omega
 have hq:(((n:Nat):Int)==0)=false:=by have h9:n≠0:=(λh=>by have:=hx.zd.zero.1 h;omega);simp;omega
 go_enter Tryz.func58,Tryz.ntmps58;go_upto_region 1 with(fail)
 refine aj (λW hW=>?_);have HB0:Hid (Below w.heap.size w W):=by rw[hW];exact af _ _
 have aM:bR W (w.heap.size) false ao n cap:=by rw[hW];exact bR.new _ _ _ _ _ _ _ (by simp)
 have av:=hid (Live.bZ (hx.below HB0.out) (Live.aD aM (Live.nil W)));clear hW aM;have aB:=av.out.tl.box.c0;have aC:=av.out.tl.box.c1;have aH:=av.out.tl.box.f0;have aI:=av.out.tl.box.f1;go_wp2_with fail;go_ret;exact⟨rfl,HB0.out⟩
theorem jN [Ol] (s:Int) {m:Bool} {ao:Option Addr} {n cap:Nat} {x:Int} {w:World} (hx:Zx w m ao n cap x) (h:x.sign=s):
  Calls Tryz.prog 58 #[.agg #[.bool m,a0c ao n cap]] w (cu (.int .i64 s) w):=by
 rcases Int.lt_trichotomy x 0 with h0|h0|h0
 ·rw[Int.sign_eq_neg_one_of_neg h0]at h;rw[<-h];exact Vu hx h0
 ·rw[h0,Int.sign_zero]at h;rw[<-h];exact Vt hx h0
 ·rw[Int.sign_eq_one_of_pos h0]at h;rw[<-h];exact Vv hx h0
theorem R4 [Ol] (a:Nat) (w:World) (h:a<=9223372036854775807):
  Calls Tryz.prog 49 #[.int .i64 (a:Int)] w (qB w (dK false a)):=by
 have HA:Hid (a<=18446744073709551615):=by rw[Hid];omega
 go_enter Tryz.func49,Tryz.ntmps49;go_upto_region 1 with(fail)
 refine aj (λW hW=>?_);have HB0:Hid (Below w.heap.size w W):=by rw[hW];exact af _ _
 have aP:bR W (w.heap.size) false none 0 0:=by rw[hW];exact bR.new _ _ _ _ _ _ _ (by simp)
 have av:=hid (Live.aD aP (Live.nil W));clear hW aP;have ay:=av.out.box.c0;have aA:=av.out.box.c1;have aF:=av.out.box.f0;have aG:=av.out.box.f1;go_wp2_with fail;refine(Dg.ku a _ HA).mono ?_;rintro e w1 ⟨d0,dn,dc,rfl,hT,hB⟩;have HT:=hid hT.sl;have aL:=hid (av.out.below hB);have HB1:=hid (Below.steps HB0.out hB);clear ay aA aF aG;clear av HB0 hT hB;have ay:=aL.out.box.c0;have aA:=aL.out.box.c1;have aF:=aL.out.box.f0;have aG:=aL.out.box.f1;go_wp2_with fail;have HC:Hid (Zd w1 false d0 dn dc (dK false a)):=Zd.of HT.out (by simp);refine bodyPost_ret (v:= .agg #[.bool false,a0c d0 dn dc]) (by simp[results,Tryz.results49,go_sem,ay,aA]) rfl ?_;exact⟨_,_,_,_,rfl,HC.out.set2 aL.out.box _ _,aW HB1.out (by omega) _ _⟩
theorem R5 [Ol] (a:Nat) (w:World) (h:a<9223372036854775808):
  Calls Tryz.prog 49 #[.int .i64 (-((a+1:Nat):Int))] w (qB w (dK true (a+1))):=by
 have HA:Hid (a<=18446744073709551615):=by rw[Hid];omega
 have d1:decide (0<= -(((a+1:Nat)):Int))=false:=by simp
 go_enter Tryz.func49,Tryz.ntmps49;go_upto_region 1 with(fail)
 refine aj (λW hW=>?_);have HB0:Hid (Below w.heap.size w W):=by rw[hW];exact af _ _
 have aP:bR W (w.heap.size) false none 0 0:=by rw[hW];exact bR.new _ _ _ _ _ _ _ (by simp)
 have av:=hid (Live.aD aP (Live.nil W));clear hW aP;have ay:=av.out.box.c0;have aA:=av.out.box.c1;have aF:=av.out.box.f0;have aG:=av.out.box.f1;go_wp2_with fail;simp only[show-(-(((a:Nat):Int)+1)+1)=((a:Nat):Int)from by omega];refine(Dg.ku a _ HA).mono ?_;rintro e w1 ⟨d0,dn,dc,rfl,hT,hB⟩;have HT:=hid hT.sl;have HTL:Hid (dn<=1000000):=(by rw[Hid,<-hT.len];exact Nat.le_trans (Dg.gD (k:=20) (by omega)) (by omega));have aL:=hid (av.out.below hB);have HB1:=hid (Below.steps HB0.out hB);clear ay aA aF aG;clear av HB0 hT hB;have ay:=aL.out.box.c0;have aA:=aL.out.box.c1;have aF:=aL.out.box.f0;have aG:=aL.out.box.f1;go_wp2_with fail;have hsz1:Hid (Dg.Sl (w1.alloc (.cells #[.int .i64 1] 3)) (some ⟨w1.heap.size,0,none⟩) 1 1 [1]):=(Dg.Own.lit w1 [1] (by simp) (by simp)).sl;refine(Dg.tK _ _ _ _ _ _ _ _ _ (HT.out.below (af _ _)) hsz1.out (by have:=HTL.out;omega) (by omega)).mono ?_;rintro e w2 ⟨f0,fn,fc,rfl,hU,hB⟩;rw[Dg.au]at hU;have HU:=hid hU.sl;have hfb:=hU.len;have bL:=hid (aL.out.below (aN hB));have HB2:=hid (Below.steps HB1.out (aN hB));clear ay aA aF aG;clear aL HB1 hU hB;have ay:=bL.out.box.c0;have aA:=bL.out.box.c1;have aF:=bL.out.box.f0;have aG:=bL.out.box.f1;go_wp2_with fail;clear hfb
 have HC:Hid (Zd w2 true f0 fn fc (dK true (a+1))):=by
  refine⟨by rw[tX];simp,?_⟩;rw[gW];have:=HU.out;simpa[Dg.val]using this
 refine bodyPost_ret (v:= .agg #[.bool true,a0c f0 fn fc]) (by simp[results,Tryz.results49,go_sem,ay,aA]) rfl ?_;exact⟨_,_,_,_,rfl,HC.out.set2 bL.out.box _ _,aW HB2.out (by omega) _ _⟩
theorem jX [Ol] (n:Int) (w:World) (h: -9223372036854775808<=n/\ n<=9223372036854775807):
  Calls Tryz.prog 49 #[.int .i64 n] w (qB w n):=by
 by_cases h0:n<0
 ·obtain⟨a,rfl⟩:∃a:Nat,n= -((a+1:Nat):Int):=⟨n.natAbs-1,by omega⟩;exact R5 a w (by omega)
 ·obtain⟨a,rfl⟩:=Int.eq_ofNat_of_zero_le (Int.not_lt.1 h0);exact R4 a w (by omega)
open Lib (hid)
theorem Og [Ol] {ao:Option Addr} {n cap:Nat} {x:Int} {w:World} (hx:Zx w true ao n cap x):
  Calls Tryz.prog 57 #[.agg #[.bool true,a0c ao n cap]] w (rC w x):=by
 have HV:Hid (dK true x.natAbs=x):=hx.zd.val;have hle:=hx.le;have hn:=hx.zd.pos;go_enter Tryz.func57,Tryz.ntmps57;go_upto_region 1 with(fail)
 refine aj (λW hW=>?_);have HB0:Hid (Below w.heap.size w W):=by rw[hW];exact aN (af _ _)
 have aM:bR W (w.heap.size) true ao n cap:=by rw[hW];exact(bR.new _ _ _ _ _ _ _ (by simp)).below (af _ _)
 have aP:bR W (w.heap.size+1) false none 0 0:=by rw[hW];exact bR.new _ _ _ _ _ _ _ (by simp)
 have av:=hid (Live.bZ (hx.below HB0.out) (Live.aD aM (Live.aD aP (Live.nil W))));clear hW aM aP;have aB:=av.out.tl.box.c0;have aC:=av.out.tl.box.c1;have aH:=av.out.tl.box.f0;have aI:=av.out.tl.box.f1;have ay:=av.out.tl.tl.box.c0;have aA:=av.out.tl.tl.box.c1;have aF:=av.out.tl.tl.box.f0;have aG:=av.out.tl.tl.box.f1;have jR:=hid (av.out.below ((Below.refl _ _).drew));have jS:=hid HB0.out.drew;clear aB aC aH aI ay aA aF aG;clear av HB0;have av:=hid jR.out;have HB0:=hid jS.out;clear jR jS;have aB:=av.out.tl.box.c0;have aC:=av.out.tl.box.c1;have aH:=av.out.tl.box.f0;have aI:=av.out.tl.box.f1;have ay:=av.out.tl.tl.box.c0;have aA:=av.out.tl.tl.box.c1;have aF:=av.out.tl.tl.box.f0;have aG:=av.out.tl.tl.box.f1;refine wp_region_held_drew (S:=λw'=>w'.cell? ⟨w.heap.size,0,none⟩=some (.bool true)/\ w'.cell? ⟨w.heap.size,1,none⟩=some (a0c ao n cap)) (by kernel_rfl) (a0a av.out.tl.box.c0 (av.out.tl.box.c1)) (λhHeld=>?_);refine cO 0 rfl (by kernel_rfl) (λ_ _ _ h=>h) (by rfl) hHeld (by intro w hSw;first|(go_simp;done)|(go_simp;with_reducible rfl)) ?_
 try simp only[a0b,a0d,a0e,a0f]
 refine cO 1 rfl (by kernel_rfl) (λ_ _ _ h=>h) (by rfl) hHeld (by intro w hSw;first|(go_simp;done)|(go_simp;with_reducible rfl)) ?_
 try simp only[a0b,a0d,a0e,a0f]
 refine cO 2 rfl (by kernel_rfl) (λ_ _ _ h=>h) (by rfl) hHeld (by intro w hSw;first|(go_simp;done)|(go_simp;with_reducible rfl)) ?_
 try simp only[a0b,a0d,a0e,a0f]
 refine cO 3 rfl (by kernel_rfl) (λ_ _ _ h=>h) (by rfl) hHeld (by intro w hSw;first|(go_simp;done)|(go_simp;with_reducible rfl)) ?_
 try simp only[a0b,a0d,a0e,a0f]
 refine cO 4 rfl (by kernel_rfl) (λ_ _ _ h=>h) (by rfl) hHeld (by intro w hSw;first|(go_simp;done)|(go_simp;with_reducible rfl)) ?_
 try simp only[a0b,a0d,a0e,a0f]
 refine cO 5 rfl (by kernel_rfl) (λ_ _ _ h=>h) (by rfl) hHeld (by intro w hSw;first|(go_simp;done)|(go_simp;with_reducible rfl)) ?_
 try simp only[a0b,a0d,a0e,a0f]
 refine cO 6 rfl (by kernel_rfl) (λ_ _ _ h=>h) (by rfl) hHeld (by intro w hSw;first|(go_simp;done)|(go_simp;with_reducible rfl)) ?_
 try simp only[a0b,a0d,a0e,a0f]
 refine cO 7 rfl (by kernel_rfl) (λ_ _ _ h=>h) (by rfl) hHeld (by intro w hSw;first|(go_simp;done)|(go_simp;with_reducible rfl)) ?_
 try simp only[a0b,a0d,a0e,a0f]
 refine cO 8 rfl (by kernel_rfl) (λ_ _ _ h=>h) (by rfl) hHeld (by intro w hSw;first|(go_simp;done)|(go_simp;with_reducible rfl)) ?_
 try simp only[a0b,a0d,a0e,a0f]
 refine cO 9 rfl (by kernel_rfl) (λ_ _ _ h=>h) (by rfl) hHeld (by intro w hSw;first|(go_simp;done)|(go_simp;with_reducible rfl)) ?_
 try simp only[a0b,a0d,a0e,a0f]
 refine ah 10 rfl (by kernel_rfl) (λK hK=>?_);go_simp;refine(Dg.DV _ _ _ _ _ av.out.mQ.zd.sl).mono ?_;rintro e w1 ⟨t0,tn,tc,rfl,hT,hB⟩;have aL:=hid (Live.dH hT.sl (av.out.below hB));have HB1:=hid (Below.steps HB0.out hB);clear aB aC aH aI ay aA aF aG;clear av HB0 hT hB;have aB:=aL.out.tl.tl.box.c0;have aC:=aL.out.tl.tl.box.c1;have aH:=aL.out.tl.tl.box.f0;have aI:=aL.out.tl.tl.box.f1;have ay:=aL.out.tl.tl.tl.box.c0;have aA:=aL.out.tl.tl.tl.box.c1;have aF:=aL.out.tl.tl.tl.box.f0;have aG:=aL.out.tl.tl.tl.box.f1;go_wp2_with fail;refine hK.out _ _ (a0a aL.out.tl.tl.box.c0 (aL.out.tl.tl.box.c1)) (λiK=>?_);clear hK K hHeld;have hHeld:=iK;clear iK
 try simp only[a0b,a0d,a0e,a0f]
 refine cO 11 rfl (by kernel_rfl) (λ_ _ _ h=>h) (by rfl) hHeld (by intro w hSw;first|(go_simp;done)|(go_simp;with_reducible rfl)) ?_
 try simp only[a0b,a0d,a0e,a0f]
 refine ah 12 rfl (by kernel_rfl) (λK hK=>?_);go_simp;refine hK.out _ _ ((a0a ((bT (λe=>by have e2:w.heap.size=w.heap.size+1:=e;omega) _ _).trans aB) ((bT (λe=>by have e2:w.heap.size=w.heap.size+1:=e;omega) _ _).trans aC))) (λiK=>?_);clear hK K hHeld
 try simp only[a0b,a0d,a0e,a0f]
 refine wpAnyH_done (by kernel_rfl) ?_ _
 go_wp2_with fail;have HC:Hid (Cn w1 true t0 tn tc x):=⟨aL.out.tl.mQ.zd.neg,aL.out.sl⟩;refine bodyPost_ret (v:= .agg #[.bool true,a0c t0 tn tc]) (by simp[results,Tryz.results57,go_sem,ay,aA]) rfl ?_;exact⟨_,_,_,_,rfl,HC.out.set2 aL.out.tl.tl.tl.box _ _,aW HB1.out (by omega) _ _⟩
theorem KA [Ol] {ao:Option Addr} {n cap:Nat} {x:Int} {w:World} (hx:Zx w false ao n cap x):
  Calls Tryz.prog 57 #[.agg #[.bool false,a0c ao n cap]] w (rC w x):=by
 have HV:Hid (dK false x.natAbs=x):=hx.zd.val;have hle:=hx.le;go_enter Tryz.func57,Tryz.ntmps57;go_upto_region 1 with(fail)
 refine aj (λW hW=>?_);have HB0:Hid (Below w.heap.size w W):=by rw[hW];exact aN (af _ _)
 have aM:bR W (w.heap.size) false ao n cap:=by rw[hW];exact(bR.new _ _ _ _ _ _ _ (by simp)).below (af _ _)
 have aP:bR W (w.heap.size+1) false none 0 0:=by rw[hW];exact bR.new _ _ _ _ _ _ _ (by simp)
 have av:=hid (Live.bZ (hx.below HB0.out) (Live.aD aM (Live.aD aP (Live.nil W))));clear hW aM aP;have aB:=av.out.tl.box.c0;have aC:=av.out.tl.box.c1;have aH:=av.out.tl.box.f0;have aI:=av.out.tl.box.f1;have ay:=av.out.tl.tl.box.c0;have aA:=av.out.tl.tl.box.c1;have aF:=av.out.tl.tl.box.f0;have aG:=av.out.tl.tl.box.f1;have jR:=hid (av.out.below ((Below.refl _ _).drew));have jS:=hid HB0.out.drew;clear aB aC aH aI ay aA aF aG;clear av HB0;have av:=hid jR.out;have HB0:=hid jS.out;clear jR jS;have aB:=av.out.tl.box.c0;have aC:=av.out.tl.box.c1;have aH:=av.out.tl.box.f0;have aI:=av.out.tl.box.f1;have ay:=av.out.tl.tl.box.c0;have aA:=av.out.tl.tl.box.c1;have aF:=av.out.tl.tl.box.f0;have aG:=av.out.tl.tl.box.f1;refine wp_region_held_drew (S:=λw'=>w'.cell? ⟨w.heap.size,0,none⟩=some (.bool false)/\ w'.cell? ⟨w.heap.size,1,none⟩=some (a0c ao n cap)) (by kernel_rfl) (a0a av.out.tl.box.c0 (av.out.tl.box.c1)) (λhHeld=>?_);refine cO 0 rfl (by kernel_rfl) (λ_ _ _ h=>h) (by rfl) hHeld (by intro w hSw;first|(go_simp;done)|(go_simp;with_reducible rfl)) ?_
 try simp only[a0b,a0d,a0e,a0f]
 refine cO 1 rfl (by kernel_rfl) (λ_ _ _ h=>h) (by rfl) hHeld (by intro w hSw;first|(go_simp;done)|(go_simp;with_reducible rfl)) ?_
 try simp only[a0b,a0d,a0e,a0f]
 refine cO 2 rfl (by kernel_rfl) (λ_ _ _ h=>h) (by rfl) hHeld (by intro w hSw;first|(go_simp;done)|(go_simp;with_reducible rfl)) ?_
 try simp only[a0b,a0d,a0e,a0f]
 refine rZ 3 rfl (by kernel_rfl) (λ_ _ _ h=>h) (by rfl) hHeld ?_
 try simp only[a0b,a0d,a0e,a0f]
 refine rZ 4 rfl (by kernel_rfl) (λ_ _ _ h=>h) (by rfl) hHeld ?_
 try simp only[a0b,a0d,a0e,a0f]
 refine rZ 5 rfl (by kernel_rfl) (λ_ _ _ h=>h) (by rfl) hHeld ?_
 try simp only[a0b,a0d,a0e,a0f]
 refine rZ 6 rfl (by kernel_rfl) (λ_ _ _ h=>h) (by rfl) hHeld ?_
 try simp only[a0b,a0d,a0e,a0f]
 refine cO 7 rfl (by kernel_rfl) (λ_ _ _ h=>h) (by rfl) hHeld (by intro w hSw;first|(go_simp;done)|(go_simp;with_reducible rfl)) ?_
 try simp only[a0b,a0d,a0e,a0f]
 refine cO 8 rfl (by kernel_rfl) (λ_ _ _ h=>h) (by rfl) hHeld (by intro w hSw;first|(go_simp;done)|(go_simp;with_reducible rfl)) ?_
 try simp only[a0b,a0d,a0e,a0f]
 refine cO 9 rfl (by kernel_rfl) (λ_ _ _ h=>h) (by rfl) hHeld (by intro w hSw;first|(go_simp;done)|(go_simp;with_reducible rfl)) ?_
 try simp only[a0b,a0d,a0e,a0f]
 refine ah 10 rfl (by kernel_rfl) (λK hK=>?_);go_simp;refine(Dg.DV _ _ _ _ _ av.out.mQ.zd.sl).mono ?_;rintro e w1 ⟨t0,tn,tc,rfl,hT,hB⟩;have aL:=hid (Live.dH hT.sl (av.out.below hB));have HB1:=hid (Below.steps HB0.out hB);clear aB aC aH aI ay aA aF aG;clear av HB0 hT hB;have aB:=aL.out.tl.tl.box.c0;have aC:=aL.out.tl.tl.box.c1;have aH:=aL.out.tl.tl.box.f0;have aI:=aL.out.tl.tl.box.f1;have ay:=aL.out.tl.tl.tl.box.c0;have aA:=aL.out.tl.tl.tl.box.c1;have aF:=aL.out.tl.tl.tl.box.f0;have aG:=aL.out.tl.tl.tl.box.f1;go_wp2_with fail;refine hK.out _ _ (a0a aL.out.tl.tl.box.c0 (aL.out.tl.tl.box.c1)) (λiK=>?_);clear hK K hHeld;have hHeld:=iK;clear iK
 try simp only[a0b,a0d,a0e,a0f]
 refine cO 11 rfl (by kernel_rfl) (λ_ _ _ h=>h) (by rfl) hHeld (by intro w hSw;first|(go_simp;done)|(go_simp;with_reducible rfl)) ?_
 try simp only[a0b,a0d,a0e,a0f]
 refine ah 12 rfl (by kernel_rfl) (λK hK=>?_);go_simp;refine hK.out _ _ ((a0a ((bT (λe=>by have e2:w.heap.size=w.heap.size+1:=e;omega) _ _).trans aB) ((bT (λe=>by have e2:w.heap.size=w.heap.size+1:=e;omega) _ _).trans aC))) (λiK=>?_);clear hK K hHeld
 try simp only[a0b,a0d,a0e,a0f]
 refine wpAnyH_done (by kernel_rfl) ?_ _
 go_wp2_with fail;have HC:Hid (Cn w1 false t0 tn tc x):=⟨aL.out.tl.mQ.zd.neg,aL.out.sl⟩;refine bodyPost_ret (v:= .agg #[.bool false,a0c t0 tn tc]) (by simp[results,Tryz.results57,go_sem,ay,aA]) rfl ?_;exact⟨_,_,_,_,rfl,HC.out.set2 aL.out.tl.tl.tl.box _ _,aW HB1.out (by omega) _ _⟩
theorem mX [Ol] {m:Bool} {ao:Option Addr} {n cap:Nat} {x:Int} {w:World} (hx:Zx w m ao n cap x):
  Calls Tryz.prog 57 #[.agg #[.bool m,a0c ao n cap]] w (rC w x):=by
 cases m
 ·exact KA hx
 ·exact Og hx
open Lib (hid)
theorem uO [Ol] {m:Bool} {ao bo:Option Addr} {n cap l cb:Nat} {xs ys:List Nat} {w:World} (r:Bool) (hs:Sl w ao n cap xs) (ht:Sl w bo l cb ys) (h:qO xs ys=r):
  Calls Tryz.prog 53 #[.agg #[.bool m,a0c ao n cap],.agg #[.bool m,a0c bo l cb]] w (cu (.bool r) w):=by
 have HS:=hid h;go_enter Tryz.func53,Tryz.ntmps53;go_upto_region 1 with(fail)
 refine aj (λW hW=>?_);have HB0:Hid (Below w.heap.size w W):=by rw[hW];exact aN (af _ _)
 have aM:bR W (w.heap.size) m ao n cap:=by rw[hW];exact(bR.new _ _ _ _ _ _ _ (by simp)).below (af _ _)
 have bO:bR W (w.heap.size+1) m bo l cb:=by rw[hW];exact bR.new _ _ _ _ _ _ _ (by simp)
 have av:=hid (Live.dH (hs.below HB0.out) (Live.dH (ht.below HB0.out) (Live.aD aM (Live.aD bO (Live.nil W)))));clear hW aM bO;have aB:=av.out.tl.tl.box.c0;have aC:=av.out.tl.tl.box.c1;have aH:=av.out.tl.tl.box.f0;have aI:=av.out.tl.tl.box.f1;have aX:=av.out.tl.tl.tl.box.c0;have aY:=av.out.tl.tl.tl.box.c1;have bf:=av.out.tl.tl.tl.box.f0;have bg:=av.out.tl.tl.tl.box.f1;go_wp2_with fail;refine(Vw r _ _ _ _ _ _ _ _ _ av.out.sl av.out.tl.sl HS.out).mono ?_;rintro e w1 ⟨rfl,hB⟩;have aL:=hid (av.out.below hB);have HB1:=hid (Below.steps HB0.out hB);clear aB aC aH aI aX aY bf bg;clear av HB0 hB;have aB:=aL.out.tl.tl.box.c0;have aC:=aL.out.tl.tl.box.c1;have aH:=aL.out.tl.tl.box.f0;have aI:=aL.out.tl.tl.box.f1;have aX:=aL.out.tl.tl.tl.box.c0;have aY:=aL.out.tl.tl.tl.box.c1;have bf:=aL.out.tl.tl.tl.box.f0;have bg:=aL.out.tl.tl.tl.box.f1;go_wp2_with fail;go_ret;exact⟨rfl,HB1.out⟩
theorem xC [Ol] {m k:Bool} {ao bo:Option Addr} {n cap l cb:Nat} {w:World} (h:m≠k):
  Calls Tryz.prog 53 #[.agg #[.bool m,a0c ao n cap],.agg #[.bool k,a0c bo l cb]] w (cu (.bool false) w):=by
 have hmm:(m==k)=false:=by cases m<;>cases k<;>simp at h ⊢
 go_enter Tryz.func53,Tryz.ntmps53;go_upto_region 1 with(fail)
 refine aj (λW hW=>?_);have HB0:Hid (Below w.heap.size w W):=by rw[hW];exact aN (af _ _)
 have aM:bR W (w.heap.size) m ao n cap:=by rw[hW];exact(bR.new _ _ _ _ _ _ _ (by simp)).below (af _ _)
 have bO:bR W (w.heap.size+1) k bo l cb:=by rw[hW];exact bR.new _ _ _ _ _ _ _ (by simp)
 have av:=hid (Live.aD aM (Live.aD bO (Live.nil W)));clear hW aM bO;have aB:=av.out.box.c0;have aC:=av.out.box.c1;have aH:=av.out.box.f0;have aI:=av.out.box.f1;have aX:=av.out.tl.box.c0;have aY:=av.out.tl.box.c1;have bf:=av.out.tl.box.f0;have bg:=av.out.tl.box.f1;go_wp2_with fail;go_ret;exact⟨rfl,HB0.out⟩
theorem Oh (xs:List Nat) (j:Nat) (hj:xs.length=j+1) (hl:xs.getD j 0≠0):bG xs=xs:=by
 have h1:=dw xs j (by omega);rw[dz xs (j+1) hj]at h1;rw[h1];exact u6 _ hl
theorem wu {m:Bool} {xs:List Nat} (hw:Wf xs):uw m xs.length xs=decide (m=decide (dK m (val xs)<0)/\ xs=limbs (dK m (val xs)).natAbs):=by
 rw[gW,tX];unfold uw;split
 ·rename_i h0;obtain rfl:xs=[]:=List.eq_nil_of_length_eq_zero h0;rw[dY];cases m<;>simp[iy]
 ·rename_i h0;obtain⟨j,hj⟩:∃j,xs.length=j+1:=⟨xs.length-1,by omega⟩;rw[hj,Nat.add_sub_cancel];have ht:=di xs hw;by_cases hl:xs.getD j 0=0
  ·have h1:¬xs=limbs (val xs):=λe=>last_pos xs j (by rw[ht,<-e]) hj hl
   simp only[hl,h1];simp
  ·have h1:bG xs=xs:=Oh xs j hj hl;have h2:xs=limbs (val xs):=by rw[<-ht,h1]
   have h3:0<val xs:=by
    rcases Nat.eq_zero_or_pos (val xs)with h|h
    ·rw[h,iy]at h2;rw[h2]at hj;simp at hj
    ·exact h
   simp only[<-h2,h3];simp;exact hl
theorem R6 [Ol] {m k:Bool} {ao bo:Option Addr} {n cap l cb:Nat} {xs:List Nat} {w:World} (r:Bool) (hs:Sl w ao n cap xs) (hv:Cx w k bo l cb (dK m (val xs))) (h:uw m n xs=r):
  Calls Tryz.prog 53 #[.agg #[.bool m,a0c ao n cap],.agg #[.bool k,a0c bo l cb]] w (cu (.bool r) w):=by
 have e:=wu (m:=m) hs.wf;rw[hs.len]at e;rw[<-h,e];clear e;have h1:=hv.cn.neg;by_cases hmk:m=k
 ·subst hmk;refine uO _ hs hv.cn.sl ?_;unfold qO;rw[decide_eq_decide];exact⟨λe=>⟨h1,e⟩,λe=>e.2⟩
 ·have e:decide (m=decide (dK m (val xs)<0)/\ xs=limbs (dK m (val xs)).natAbs)=false:=by
   rw[decide_eq_false_iff_not,<-h1];exact λe=>hmk e.1
  rw[e];exact xC hmk
theorem LD [Ol] {m:Bool} {ao:Option Addr} {n cap:Nat} {xs:List Nat} {w:World} (r:Bool) (hs:Sl w ao n cap xs) (hn:n<=1000) (h:uw m n xs=r):
  Calls Tryz.prog 43 #[.agg #[.bool m,a0c ao n cap]] w (cu (.bool r) w):=by
 have HR:=hid h;have hle:=hn;have HV:Hid (Nx w m ao n cap (dK m (val xs))):=⟨⟨xs,hs,rfl⟩,by omega⟩;have BZ:Hid (Bd (dK m (val xs)) 1000):=HV.out.inn.bd (by omega);clear h;go_enter Tryz.func43,Tryz.ntmps43;go_upto_region 1 with(fail)
 refine aj (λW hW=>?_);have HB0:Hid (Below w.heap.size w W):=by rw[hW];exact af _ _
 have aM:bR W (w.heap.size) m ao n cap:=by rw[hW];exact bR.new _ _ _ _ _ _ _ (by simp)
 have av:=hid (Live.Fh (HV.out.below HB0.out) (Live.dH (hs.below HB0.out) (Live.aD aM (Live.nil W))));clear hW aM;have aB:=av.out.tl.tl.box.c0;have aC:=av.out.tl.tl.box.c1;have aH:=av.out.tl.tl.box.f0;have aI:=av.out.tl.tl.box.f1;have jR:=hid (av.out.below ((Below.refl _ _).drew));have jS:=hid HB0.out.drew;clear aB aC aH aI;clear av HB0;have av:=hid jR.out;have HB0:=hid jS.out;clear jR jS;have aB:=av.out.tl.tl.box.c0;have aC:=av.out.tl.tl.box.c1;have aH:=av.out.tl.tl.box.f0;have aI:=av.out.tl.tl.box.f1;refine wp_region_held_drew (S:=λw'=>w'.cell? ⟨w.heap.size,0,none⟩=some (.bool m)/\ w'.cell? ⟨w.heap.size,1,none⟩=some (a0c ao n cap)) (by kernel_rfl) (a0a av.out.tl.tl.box.c0 (av.out.tl.tl.box.c1)) (λhHeld=>?_);refine cO 0 rfl (by kernel_rfl) (λ_ _ _ h=>h) (by rfl) hHeld (by intro w hSw;first|(go_simp;done)|(go_simp;with_reducible rfl)) ?_
 try simp only[a0b,a0d,a0e,a0f]
 refine cO 1 rfl (by kernel_rfl) (λ_ _ _ h=>h) (by rfl) hHeld (by intro w hSw;first|(go_simp;done)|(go_simp;with_reducible rfl)) ?_
 try simp only[a0b,a0d,a0e,a0f]
 refine ah 2 rfl (by kernel_rfl) (λK hK=>?_);go_simp;refine(sW av.out.num).mono ?_;rintro e w1 ⟨um,u0,un,uc,rfl,hU,hB⟩;have aL:=hid (Live.bZ (hU.zx BZ.out (by omega)) (av.out.below hB));have HB1:=hid (Below.steps HB0.out hB);clear aB aC aH aI;clear av HB0 hU hB;have aB:=aL.out.tl.tl.tl.box.c0;have aC:=aL.out.tl.tl.tl.box.c1;have aH:=aL.out.tl.tl.tl.box.f0;have aI:=aL.out.tl.tl.tl.box.f1;go_wp2_with fail;refine hK.out _ _ (a0a aL.out.tl.tl.tl.box.c0 (aL.out.tl.tl.tl.box.c1)) (λiK=>?_);clear hK K hHeld;have hHeld:=iK;clear iK
 try simp only[a0b,a0d,a0e,a0f]
 refine ah 3 rfl (by kernel_rfl) (λK hK=>?_);go_simp;refine(mX aL.out.mQ).mono ?_;rintro e w2 ⟨vm,v0,vn,vc,rfl,hV,hB⟩;have bL:=hid (Live.Vr (hV.cx BZ.out (by omega)) (aL.out.below hB));have HB2:=hid (Below.steps HB1.out hB);clear aB aC aH aI;clear aL HB1 hV hB;have aB:=bL.out.tl.tl.tl.tl.box.c0;have aC:=bL.out.tl.tl.tl.tl.box.c1;have aH:=bL.out.tl.tl.tl.tl.box.f0;have aI:=bL.out.tl.tl.tl.tl.box.f1;go_wp2_with fail;refine hK.out _ _ (a0a bL.out.tl.tl.tl.tl.box.c0 (bL.out.tl.tl.tl.tl.box.c1)) (λiK=>?_);clear hK K hHeld;have hHeld:=iK;clear iK
 try simp only[a0b,a0d,a0e,a0f]
 refine ah 4 rfl (by kernel_rfl) (λK hK=>?_);go_simp;refine(R6 r bL.out.tl.tl.tl.sl bL.out.can HR.out).mono ?_;rintro e w3 ⟨rfl,hB⟩;have bY:=hid (bL.out.below hB);have HB3:=hid (Below.steps HB2.out hB);clear aB aC aH aI;clear bL HB2 hB;have aB:=bY.out.tl.tl.tl.tl.box.c0;have aC:=bY.out.tl.tl.tl.tl.box.c1;have aH:=bY.out.tl.tl.tl.tl.box.f0;have aI:=bY.out.tl.tl.tl.tl.box.f1;go_wp2_with fail;refine hK.out _ _ (a0a bY.out.tl.tl.tl.tl.box.c0 (bY.out.tl.tl.tl.tl.box.c1)) (λiK=>?_);clear hK K hHeld;have hHeld:=iK;clear iK
 try simp only[a0b,a0d,a0e,a0f]
 refine cO 5 rfl (by kernel_rfl) (λ_ _ _ h=>h) (by rfl) hHeld (by intro w hSw;first|(go_simp;done)|(go_simp;with_reducible rfl)) ?_
 try simp only[a0b,a0d,a0e,a0f]
 refine wpAnyH_done (by kernel_rfl) ?_ _
 clear hHeld;go_wp2_with fail;go_ret;exact⟨rfl,HB3.out⟩
open Lib (hid)
theorem Oi [Ol] {m:Bool} {ao bo:Option Addr} {n cap l cb:Nat} {x y:Int} {w:World} (hx:Zx w m ao n cap x) (hy:Zx w m bo l cb y):
  Calls Tryz.prog 101 #[.agg #[.bool m,a0c ao n cap],.agg #[.bool m,a0c bo l cb]] w (qB w (x*y)):=by
 have hle:=hx.le;have hle2:=hy.le;have HX:Hid (dK m x.natAbs=x):=hx.zd.val;have HY:Hid (dK m y.natAbs=y):=hy.zd.val;have hmm:(m !=m)=false:=by cases m<;>rfl
 go_enter Tryz.func101,Tryz.ntmps101;go_upto_region 1 with(fail)
 refine aj (λW hW=>?_);have HB0:Hid (Below w.heap.size w W):=by rw[hW];exact aN (aN (af _ _))
 have aM:bR W (w.heap.size) m ao n cap:=by rw[hW];exact((bR.new _ _ _ _ _ _ _ (by simp)).below (af _ _)).below (af _ _)
 have bO:bR W (w.heap.size+1) m bo l cb:=by rw[hW];exact(bR.new _ _ _ _ _ _ _ (by simp)).below (af _ _)
 have aP:bR W (w.heap.size+2) false none 0 0:=by rw[hW];exact bR.new _ _ _ _ _ _ _ (by simp)
 have av:=hid (Live.bZ (hx.below HB0.out) (Live.bZ (hy.below HB0.out) (Live.aD aM (Live.aD bO (Live.aD aP (Live.nil W))))));clear hW aM bO aP;have aB:=av.out.tl.tl.box.c0;have aC:=av.out.tl.tl.box.c1;have aH:=av.out.tl.tl.box.f0;have aI:=av.out.tl.tl.box.f1;have aX:=av.out.tl.tl.tl.box.c0;have aY:=av.out.tl.tl.tl.box.c1;have bf:=av.out.tl.tl.tl.box.f0;have bg:=av.out.tl.tl.tl.box.f1;have ay:=av.out.tl.tl.tl.tl.box.c0;have aA:=av.out.tl.tl.tl.tl.box.c1;have aF:=av.out.tl.tl.tl.tl.box.f0;have aG:=av.out.tl.tl.tl.tl.box.f1;go_wp2_with fail;refine(Dg.tY _ _ _ _ _ _ _ _ _ av.out.mQ.zd.sl av.out.tl.mQ.zd.sl (by omega) (by omega)).mono ?_;rintro e w1 ⟨d0,dn,dc,rfl,hT,hB⟩;rw[Dg.au,Dg.au]at hT;have HT:=hid hT.sl;have hdb:=hT.big;have aL:=hid (av.out.below hB);have HB1:=hid (Below.steps HB0.out hB);clear aB aC aH aI aX aY bf bg ay aA aF aG;clear av HB0 hT hB;have aB:=aL.out.tl.tl.box.c0;have aC:=aL.out.tl.tl.box.c1;have aH:=aL.out.tl.tl.box.f0;have aI:=aL.out.tl.tl.box.f1;have aX:=aL.out.tl.tl.tl.box.c0;have aY:=aL.out.tl.tl.tl.box.c1;have bf:=aL.out.tl.tl.tl.box.f0;have bg:=aL.out.tl.tl.tl.box.f1;have ay:=aL.out.tl.tl.tl.tl.box.c0;have aA:=aL.out.tl.tl.tl.tl.box.c1;have aF:=aL.out.tl.tl.tl.tl.box.f0;have aG:=aL.out.tl.tl.tl.tl.box.f1;go_wp2_with fail;have HZ:Hid (Zd w1 (false) d0 dn dc (dK (m !=m) (x.natAbs*y.natAbs))):=Zd.of HT.out (by rw[hmm];simp);have HE:Hid (dK (m !=m) (x.natAbs*y.natAbs)=x*y):=by rw[Hid,Fg,HX.out,HY.out]
 refine bodyPost_ret (v:= .agg #[.bool (false),a0c d0 dn dc]) (by simp[results,Tryz.results101,go_sem,ay,aA]) rfl ?_;exact⟨_,_,_,_,rfl,HE.out▸HZ.out.set2 aL.out.tl.tl.tl.tl.box _ _,aW HB1.out (by omega) _ _⟩
theorem Oj [Ol] {m:Bool} {ao bo:Option Addr} {n cap l cb:Nat} {x y:Int} {w:World} (hx:Zx w m ao n cap x) (hy:Zx w (!m) bo l cb y):
  Calls Tryz.prog 101 #[.agg #[.bool m,a0c ao n cap],.agg #[.bool (!m),a0c bo l cb]] w (qB w (x*y)):=by
 have hle:=hx.le;have hle2:=hy.le;have HX:Hid (dK m x.natAbs=x):=hx.zd.val;have HY:Hid (dK (!m) y.natAbs=y):=hy.zd.val;have hmm:(m !=(!m))=true:=by cases m<;>rfl
 go_enter Tryz.func101,Tryz.ntmps101;go_upto_region 1 with(fail)
 refine aj (λW hW=>?_);have HB0:Hid (Below w.heap.size w W):=by rw[hW];exact aN (aN (af _ _))
 have aM:bR W (w.heap.size) m ao n cap:=by rw[hW];exact((bR.new _ _ _ _ _ _ _ (by simp)).below (af _ _)).below (af _ _)
 have bO:bR W (w.heap.size+1) (!m) bo l cb:=by rw[hW];exact(bR.new _ _ _ _ _ _ _ (by simp)).below (af _ _)
 have aP:bR W (w.heap.size+2) false none 0 0:=by rw[hW];exact bR.new _ _ _ _ _ _ _ (by simp)
 have av:=hid (Live.bZ (hx.below HB0.out) (Live.bZ (hy.below HB0.out) (Live.aD aM (Live.aD bO (Live.aD aP (Live.nil W))))));clear hW aM bO aP;have aB:=av.out.tl.tl.box.c0;have aC:=av.out.tl.tl.box.c1;have aH:=av.out.tl.tl.box.f0;have aI:=av.out.tl.tl.box.f1;have aX:=av.out.tl.tl.tl.box.c0;have aY:=av.out.tl.tl.tl.box.c1;have bf:=av.out.tl.tl.tl.box.f0;have bg:=av.out.tl.tl.tl.box.f1;have ay:=av.out.tl.tl.tl.tl.box.c0;have aA:=av.out.tl.tl.tl.tl.box.c1;have aF:=av.out.tl.tl.tl.tl.box.f0;have aG:=av.out.tl.tl.tl.tl.box.f1;go_wp2_with fail;refine(Dg.tY _ _ _ _ _ _ _ _ _ av.out.mQ.zd.sl av.out.tl.mQ.zd.sl (by omega) (by omega)).mono ?_;rintro e w1 ⟨d0,dn,dc,rfl,hT,hB⟩;rw[Dg.au,Dg.au]at hT;have HT:=hid hT.sl;have hdb:=hT.big;have aL:=hid (av.out.below hB);have HB1:=hid (Below.steps HB0.out hB);clear aB aC aH aI aX aY bf bg ay aA aF aG;clear av HB0 hT hB;have aB:=aL.out.tl.tl.box.c0;have aC:=aL.out.tl.tl.box.c1;have aH:=aL.out.tl.tl.box.f0;have aI:=aL.out.tl.tl.box.f1;have aX:=aL.out.tl.tl.tl.box.c0;have aY:=aL.out.tl.tl.tl.box.c1;have bf:=aL.out.tl.tl.tl.box.f0;have bg:=aL.out.tl.tl.tl.box.f1;have ay:=aL.out.tl.tl.tl.tl.box.c0;have aA:=aL.out.tl.tl.tl.tl.box.c1;have aF:=aL.out.tl.tl.tl.tl.box.f0;have aG:=aL.out.tl.tl.tl.tl.box.f1;go_wp2_with fail;have HZ:Hid (Zd w1 (decide (0<dn)) d0 dn dc (dK (m !=(!m)) (x.natAbs*y.natAbs))):=Zd.of HT.out (by rw[hmm];simp);have HE:Hid (dK (m !=(!m)) (x.natAbs*y.natAbs)=x*y):=by rw[Hid,Fg,HX.out,HY.out]
 refine bodyPost_ret (v:= .agg #[.bool (decide (0<dn)),a0c d0 dn dc]) (by simp[results,Tryz.results101,go_sem,ay,aA]) rfl ?_;exact⟨_,_,_,_,rfl,HE.out▸HZ.out.set2 aL.out.tl.tl.tl.tl.box _ _,aW HB1.out (by omega) _ _⟩
theorem o7 [Ol] {m k:Bool} {ao bo:Option Addr} {n cap l cb:Nat} {x y:Int} {w:World} (hx:Zx w m ao n cap x) (hy:Zx w k bo l cb y):
  Calls Tryz.prog 101 #[.agg #[.bool m,a0c ao n cap],.agg #[.bool k,a0c bo l cb]] w (qB w (x*y)):=by
 by_cases hmk:k=m
 ·subst hmk;exact Oi hx hy
 ·obtain rfl:k= !m:=by cases m<;>cases k<;>simp at hmk ⊢
  exact Oj hx hy
theorem Bd.pow {x:Int} {k:Nat} (h:Bd x k) (j:Nat):Bd (x^j) (k*j+1):=by
 unfold Bd at*
 rw[Int.natAbs_pow];rcases Nat.eq_zero_or_pos j with h0|h0
 ·subst h0;rw[Nat.pow_zero];exact Nat.one_lt_pow (by omega) (by omega)
 ·refine Nat.lt_of_lt_of_le (Nat.pow_lt_pow_left h (by omega)) ?_;rw[<-Nat.pow_mul];exact Nat.pow_le_pow_right (by omega) (by omega)
end Go.Proofs.YtmenbpmciblnlaaGreatDoor
