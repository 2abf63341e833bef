/- WZOf, WZInt, WZSame, WZMul, WZPow -/
import Derived.Test.YtmenbpmciblnlaaGreatDoorGWInt
import Derived.Deep.Cut
import Derived.Deep.LoopGhost
set_option maxHeartbeats 40000000
set_option maxRecDepth 100000
namespace Go.Proofs.YtmenbpmciblnlaaGreatDoor
open Lib (hid)
open Go.RowKit
theorem Lr [Ol] {ao:Option Addr} {n cap:Nat} {x:Int} {w:World} (hx:Zx w true ao n cap x):
  Calls Tryz.prog 54 #[.agg #[.bool true,.slice ao n cap]] w (rV w (-x)):=by
 have HV:Hid (dM true x.natAbs=x):=hx.zd.val;have hdb:=hx.zd.sl.big;go_enter Tryz.func54,Tryz.ntmps54;go_upto_region 1 with(fail)
 refine aj (fun W hW=>?_);have HB0:Hid (Below w.heap.size w W):=by rw[hW];exact aM (af _ _)
 have aN:bJ W (w.heap.size) true ao n cap:=by rw[hW];exact(bJ.new _ _ _ _ _ _ _ (by simp)).below (af _ _)
 have aQ:bJ W (w.heap.size+1) false none 0 0:=by rw[hW];exact bJ.new _ _ _ _ _ _ _ (by simp)
 have av:=hid (Live.bW (hx.below HB0.out) (Live.aC aN (Live.aC aQ (Live.nil W))));clear hW aN aQ;have aD:=av.out.tl.box.c0;have aF:=av.out.tl.box.c1;have aJ:=av.out.tl.box.f0;have aK:=av.out.tl.box.f1;have ax:=av.out.tl.tl.box.c0;have ay:=av.out.tl.tl.box.c1;have aA:=av.out.tl.tl.box.f0;have aB:=av.out.tl.tl.box.f1;go_wp2_with fail;have HC:Hid (Zd W (false) ao n cap (dM (!true) x.natAbs)):=Zd.of av.out.l6.zd.sl (by simp);refine bodyPost_ret (v:= .agg #[.bool (false),.slice ao n cap]) (by simp[results,Tryz.results54,go_sem,ax,ay]) rfl ?_;exact⟨_,_,_,_,rfl,(show dM (!true) x.natAbs= -x from by rw[xQ,HV.out])▸HC.out.set2 av.out.tl.tl.box _ _,aT HB0.out (by omega) _ _⟩
theorem Ii [Ol] {ao:Option Addr} {n cap:Nat} {x:Int} {w:World} (hx:Zx w false ao n cap x):
  Calls Tryz.prog 54 #[.agg #[.bool false,.slice ao n cap]] w (rV w (-x)):=by
 have HV:Hid (dM false x.natAbs=x):=hx.zd.val;have hdb:=hx.zd.sl.big;go_enter Tryz.func54,Tryz.ntmps54;go_upto_region 1 with(fail)
 refine aj (fun W hW=>?_);have HB0:Hid (Below w.heap.size w W):=by rw[hW];exact aM (af _ _)
 have aN:bJ W (w.heap.size) false ao n cap:=by rw[hW];exact(bJ.new _ _ _ _ _ _ _ (by simp)).below (af _ _)
 have aQ:bJ W (w.heap.size+1) false none 0 0:=by rw[hW];exact bJ.new _ _ _ _ _ _ _ (by simp)
 have av:=hid (Live.bW (hx.below HB0.out) (Live.aC aN (Live.aC aQ (Live.nil W))));clear hW aN aQ;have aD:=av.out.tl.box.c0;have aF:=av.out.tl.box.c1;have aJ:=av.out.tl.box.f0;have aK:=av.out.tl.box.f1;have ax:=av.out.tl.tl.box.c0;have ay:=av.out.tl.tl.box.c1;have aA:=av.out.tl.tl.box.f0;have aB:=av.out.tl.tl.box.f1;go_wp2_with fail;have HC:Hid (Zd W (decide (0<n)) ao n cap (dM (!false) x.natAbs)):=Zd.of av.out.l6.zd.sl (by simp);refine bodyPost_ret (v:= .agg #[.bool (decide (0<n)),.slice ao n cap]) (by simp[results,Tryz.results54,go_sem,ax,ay]) rfl ?_;exact⟨_,_,_,_,rfl,(show dM (!false) x.natAbs= -x from by rw[xQ,HV.out])▸HC.out.set2 av.out.tl.tl.box _ _,aT HB0.out (by omega) _ _⟩
theorem lQ [Ol] {m:Bool} {ao:Option Addr} {n cap:Nat} {x:Int} {w:World} (hx:Zx w m ao n cap x):
  Calls Tryz.prog 54 #[.agg #[.bool m,.slice ao n cap]] w (rV w (-x)):=by
 cases m
 ·exact Ii hx
 ·exact Lr hx
theorem RY [Ol] {m:Bool} {ao:Option Addr} {n cap:Nat} {x:Int} {w:World} (hx:Zx w m ao n cap x) (h0:x=0):
  Calls Tryz.prog 58 #[.agg #[.bool m,.slice ao n cap]] w (dI (.int .i64 0) w):=by
 have hdb:=hx.zd.sl.big;obtain rfl:n=0:=hx.zd.zero.2 h0;go_enter Tryz.func58,Tryz.ntmps58;go_upto_region 1 with(fail)
 refine aj (fun W hW=>?_);have HB0:Hid (Below w.heap.size w W):=by rw[hW];exact af _ _
 have aN:bJ W (w.heap.size) m ao 0 cap:=by rw[hW];exact bJ.new _ _ _ _ _ _ _ (by simp)
 have av:=hid (Live.bW (hx.below HB0.out) (Live.aC aN (Live.nil W)));clear hW aN;have aD:=av.out.tl.box.c0;have aF:=av.out.tl.box.c1;have aJ:=av.out.tl.box.f0;have aK:=av.out.tl.box.f1;go_wp2_with fail;go_ret;exact⟨rfl,HB0.out⟩
theorem RZ [Ol] {m:Bool} {ao:Option Addr} {n cap:Nat} {x:Int} {w:World} (hx:Zx w m ao n cap x) (h0:x<0):
  Calls Tryz.prog 58 #[.agg #[.bool m,.slice ao n cap]] w (dI (.int .i64 (-1)) w):=by
 have hdb:=hx.zd.sl.big;obtain rfl:m=true:=by rw[hx.zd.neg];simpa using h0
 have hq:(((n:Nat):Int)==0)=false:=by have:=hx.zd.pos;simp;omega
 go_enter Tryz.func58,Tryz.ntmps58;go_upto_region 1 with(fail)
 refine aj (fun W hW=>?_);have HB0:Hid (Below w.heap.size w W):=by rw[hW];exact af _ _
 have aN:bJ W (w.heap.size) true ao n cap:=by rw[hW];exact bJ.new _ _ _ _ _ _ _ (by simp)
 have av:=hid (Live.bW (hx.below HB0.out) (Live.aC aN (Live.nil W)));clear hW aN;have aD:=av.out.tl.box.c0;have aF:=av.out.tl.box.c1;have aJ:=av.out.tl.box.f0;have aK:=av.out.tl.box.f1;go_wp2_with fail;go_ret;exact⟨rfl,HB0.out⟩
theorem R4 [Ol] {m:Bool} {ao:Option Addr} {n cap:Nat} {x:Int} {w:World} (hx:Zx w m ao n cap x) (h0:0<x):
  Calls Tryz.prog 58 #[.agg #[.bool m,.slice ao n cap]] w (dI (.int .i64 1) w):=by
 have hdb:=hx.zd.sl.big;obtain rfl:m=false:=by rw[hx.zd.neg];simp;omega
 have hq:(((n:Nat):Int)==0)=false:=by have h9:n≠0:=(fun h=>by have:=hx.zd.zero.1 h;omega);simp;omega
 go_enter Tryz.func58,Tryz.ntmps58;go_upto_region 1 with(fail)
 refine aj (fun W hW=>?_);have HB0:Hid (Below w.heap.size w W):=by rw[hW];exact af _ _
 have aN:bJ W (w.heap.size) false ao n cap:=by rw[hW];exact bJ.new _ _ _ _ _ _ _ (by simp)
 have av:=hid (Live.bW (hx.below HB0.out) (Live.aC aN (Live.nil W)));clear hW aN;have aD:=av.out.tl.box.c0;have aF:=av.out.tl.box.c1;have aJ:=av.out.tl.box.f0;have aK:=av.out.tl.box.f1;go_wp2_with fail;go_ret;exact⟨rfl,HB0.out⟩
theorem ol [Ol] (s:Int) {m:Bool} {ao:Option Addr} {n cap:Nat} {x:Int} {w:World} (hx:Zx w m ao n cap x) (h:x.sign=s):
  Calls Tryz.prog 58 #[.agg #[.bool m,.slice ao n cap]] w (dI (.int .i64 s) w):=by
 rcases Int.lt_trichotomy x 0 with h0|h0|h0
 ·rw[Int.sign_eq_neg_one_of_neg h0]at h;rw[<-h];exact RZ hx h0
 ·rw[h0,Int.sign_zero]at h;rw[<-h];exact RY hx h0
 ·rw[Int.sign_eq_one_of_pos h0]at h;rw[<-h];exact R4 hx h0
theorem OW [Ol] (a:Nat) (w:World) (h:a<=9223372036854775807):
  Calls Tryz.prog 49 #[.int .i64 (a:Int)] w (rV w (dM false a)):=by
 have HA:Hid (a<=18446744073709551615):=by rw[Hid];omega
 go_enter Tryz.func49,Tryz.ntmps49;go_upto_region 1 with(fail)
 refine aj (fun W hW=>?_);have HB0:Hid (Below w.heap.size w W):=by rw[hW];exact af _ _
 have aQ:bJ W (w.heap.size) false none 0 0:=by rw[hW];exact bJ.new _ _ _ _ _ _ _ (by simp)
 have av:=hid (Live.aC aQ (Live.nil W));clear hW aQ;have ax:=av.out.box.c0;have ay:=av.out.box.c1;have aA:=av.out.box.f0;have aB:=av.out.box.f1;go_wp2_with fail;refine(Dg.jG a _ HA).mono ?_;rintro e w1 ⟨d0,dn,dc,rfl,hT,hB⟩;have HT:=hid hT.sl;have aL:=hid (av.out.below hB);have HB1:=hid (Below.steps HB0.out hB);clear ax ay aA aB;clear av HB0 hT hB;have ax:=aL.out.box.c0;have ay:=aL.out.box.c1;have aA:=aL.out.box.f0;have aB:=aL.out.box.f1;go_wp2_with fail;have HC:Hid (Zd w1 false d0 dn dc (dM false a)):=Zd.of HT.out (by simp);refine bodyPost_ret (v:= .agg #[.bool false,.slice d0 dn dc]) (by simp[results,Tryz.results49,go_sem,ax,ay]) rfl ?_;exact⟨_,_,_,_,rfl,HC.out.set2 aL.out.box _ _,aT HB1.out (by omega) _ _⟩
theorem OX [Ol] (a:Nat) (w:World) (h:a<9223372036854775808):
  Calls Tryz.prog 49 #[.int .i64 (-((a+1:Nat):Int))] w (rV w (dM true (a+1))):=by
 have HA:Hid (a<=18446744073709551615):=by rw[Hid];omega
 have d1:decide (0<= -(((a+1:Nat)):Int))=false:=by simp
 go_enter Tryz.func49,Tryz.ntmps49;go_upto_region 1 with(fail)
 refine aj (fun W hW=>?_);have HB0:Hid (Below w.heap.size w W):=by rw[hW];exact af _ _
 have aQ:bJ W (w.heap.size) false none 0 0:=by rw[hW];exact bJ.new _ _ _ _ _ _ _ (by simp)
 have av:=hid (Live.aC aQ (Live.nil W));clear hW aQ;have ax:=av.out.box.c0;have ay:=av.out.box.c1;have aA:=av.out.box.f0;have aB:=av.out.box.f1;go_wp2_with fail;simp only[show-(-(((a:Nat):Int)+1)+1)=((a:Nat):Int)from by omega];refine(Dg.jG a _ HA).mono ?_;rintro e w1 ⟨d0,dn,dc,rfl,hT,hB⟩;have HT:=hid hT.sl;have ZV:Hid (dn<=1000000):=(by rw[Hid,<-hT.len];exact Nat.le_trans (Dg.gZ (k:=20) (by omega)) (by omega));have aL:=hid (av.out.below hB);have HB1:=hid (Below.steps HB0.out hB);clear ax ay aA aB;clear av HB0 hT hB;have ax:=aL.out.box.c0;have ay:=aL.out.box.c1;have aA:=aL.out.box.f0;have aB:=aL.out.box.f1;go_wp2_with fail;have hsz1:Hid (Dg.Sl (w1.alloc (.cells #[.int .i64 1] 3)) (some ⟨w1.heap.size,0,none⟩) 1 1 [1]):=(Dg.Own.lit w1 [1] (by simp) (by simp)).sl;refine(Dg.qY _ _ _ _ _ _ _ _ _ (HT.out.below (af _ _)) hsz1.out (by have:=ZV.out;omega) (by omega)).mono ?_;rintro e w2 ⟨f0,fn,fc,rfl,hU,hB⟩;rw[Dg.au]at hU;have HU:=hid hU.sl;have hfb:=hU.len;have bI:=hid (aL.out.below (aM hB));have HB2:=hid (Below.steps HB1.out (aM hB));clear ax ay aA aB;clear aL HB1 hU hB;have ax:=bI.out.box.c0;have ay:=bI.out.box.c1;have aA:=bI.out.box.f0;have aB:=bI.out.box.f1;go_wp2_with fail;clear hfb
 have HC:Hid (Zd w2 true f0 fn fc (dM true (a+1))):=by
  refine⟨by rw[rO];simp,?_⟩;rw[gM];have:=HU.out;simpa[Dg.val]using this
 refine bodyPost_ret (v:= .agg #[.bool true,.slice f0 fn fc]) (by simp[results,Tryz.results49,go_sem,ax,ay]) rfl ?_;exact⟨_,_,_,_,rfl,HC.out.set2 bI.out.box _ _,aT HB2.out (by omega) _ _⟩
theorem oQ [Ol] (n:Int) (w:World) (h: -9223372036854775808<=n/\ n<=9223372036854775807):
  Calls Tryz.prog 49 #[.int .i64 n] w (rV w n):=by
 by_cases h0:n<0
 ·obtain⟨a,rfl⟩:∃a:Nat,n= -((a+1:Nat):Int):=⟨n.natAbs-1,by omega⟩;exact OX a w (by omega)
 ·obtain⟨a,rfl⟩:=Int.eq_ofNat_of_zero_le (Int.not_lt.1 h0);exact OW a w (by omega)
open Lib (hid)
theorem Ls [Ol] {ao:Option Addr} {n cap:Nat} {x:Int} {w:World} (hx:Zx w true ao n cap x):
  Calls Tryz.prog 57 #[.agg #[.bool true,.slice ao n cap]] w (pW w x):=by
 have HV:Hid (dM true x.natAbs=x):=hx.zd.val;have hle:=hx.le;have hn:=hx.zd.pos;go_enter Tryz.func57,Tryz.ntmps57;go_upto_region 1 with(fail)
 refine aj (fun W hW=>?_);have HB0:Hid (Below w.heap.size w W):=by rw[hW];exact aM (af _ _)
 have aN:bJ W (w.heap.size) true ao n cap:=by rw[hW];exact(bJ.new _ _ _ _ _ _ _ (by simp)).below (af _ _)
 have aQ:bJ W (w.heap.size+1) false none 0 0:=by rw[hW];exact bJ.new _ _ _ _ _ _ _ (by simp)
 have av:=hid (Live.bW (hx.below HB0.out) (Live.aC aN (Live.aC aQ (Live.nil W))));clear hW aN aQ;have aD:=av.out.tl.box.c0;have aF:=av.out.tl.box.c1;have aJ:=av.out.tl.box.f0;have aK:=av.out.tl.box.f1;have ax:=av.out.tl.tl.box.c0;have ay:=av.out.tl.tl.box.c1;have aA:=av.out.tl.tl.box.f0;have aB:=av.out.tl.tl.box.f1;have jO:=hid (av.out.below ((Below.refl _ _).drew));have jP:=hid HB0.out.drew;clear aD aF aJ aK ax ay aA aB;clear av HB0;have av:=hid jO.out;have HB0:=hid jP.out;clear jO jP;have aD:=av.out.tl.box.c0;have aF:=av.out.tl.box.c1;have aJ:=av.out.tl.box.f0;have aK:=av.out.tl.box.f1;have ax:=av.out.tl.tl.box.c0;have ay:=av.out.tl.tl.box.c1;have aA:=av.out.tl.tl.box.f0;have aB:=av.out.tl.tl.box.f1;refine wp_region_held_drew (S:=fun w'=>w'.cell? ⟨w.heap.size,0,none⟩=some (.bool true)/\ w'.cell? ⟨w.heap.size,1,none⟩=some (.slice ao n cap)) (by kernel_rfl) (And.intro av.out.tl.box.c0 (av.out.tl.box.c1)) (fun hHeld=>?_);refine cu 0 rfl (by kernel_rfl) (fun _ _ _ h=>h) (by rfl) hHeld (by intro w hSw;first|(go_simp;done)|(go_simp;with_reducible rfl)) ?_
 try simp only[Act.put,List.setIfInBounds_toArray,List.set_cons_zero,List.set_cons_succ]
 refine cu 1 rfl (by kernel_rfl) (fun _ _ _ h=>h) (by rfl) hHeld (by intro w hSw;first|(go_simp;done)|(go_simp;with_reducible rfl)) ?_
 try simp only[Act.put,List.setIfInBounds_toArray,List.set_cons_zero,List.set_cons_succ]
 refine cu 2 rfl (by kernel_rfl) (fun _ _ _ h=>h) (by rfl) hHeld (by intro w hSw;first|(go_simp;done)|(go_simp;with_reducible rfl)) ?_
 try simp only[Act.put,List.setIfInBounds_toArray,List.set_cons_zero,List.set_cons_succ]
 refine cu 3 rfl (by kernel_rfl) (fun _ _ _ h=>h) (by rfl) hHeld (by intro w hSw;first|(go_simp;done)|(go_simp;with_reducible rfl)) ?_
 try simp only[Act.put,List.setIfInBounds_toArray,List.set_cons_zero,List.set_cons_succ]
 refine cu 4 rfl (by kernel_rfl) (fun _ _ _ h=>h) (by rfl) hHeld (by intro w hSw;first|(go_simp;done)|(go_simp;with_reducible rfl)) ?_
 try simp only[Act.put,List.setIfInBounds_toArray,List.set_cons_zero,List.set_cons_succ]
 refine cu 5 rfl (by kernel_rfl) (fun _ _ _ h=>h) (by rfl) hHeld (by intro w hSw;first|(go_simp;done)|(go_simp;with_reducible rfl)) ?_
 try simp only[Act.put,List.setIfInBounds_toArray,List.set_cons_zero,List.set_cons_succ]
 refine cu 6 rfl (by kernel_rfl) (fun _ _ _ h=>h) (by rfl) hHeld (by intro w hSw;first|(go_simp;done)|(go_simp;with_reducible rfl)) ?_
 try simp only[Act.put,List.setIfInBounds_toArray,List.set_cons_zero,List.set_cons_succ]
 refine cu 7 rfl (by kernel_rfl) (fun _ _ _ h=>h) (by rfl) hHeld (by intro w hSw;first|(go_simp;done)|(go_simp;with_reducible rfl)) ?_
 try simp only[Act.put,List.setIfInBounds_toArray,List.set_cons_zero,List.set_cons_succ]
 refine cu 8 rfl (by kernel_rfl) (fun _ _ _ h=>h) (by rfl) hHeld (by intro w hSw;first|(go_simp;done)|(go_simp;with_reducible rfl)) ?_
 try simp only[Act.put,List.setIfInBounds_toArray,List.set_cons_zero,List.set_cons_succ]
 refine cu 9 rfl (by kernel_rfl) (fun _ _ _ h=>h) (by rfl) hHeld (by intro w hSw;first|(go_simp;done)|(go_simp;with_reducible rfl)) ?_
 try simp only[Act.put,List.setIfInBounds_toArray,List.set_cons_zero,List.set_cons_succ]
 refine ah 10 rfl (by kernel_rfl) (fun K hK=>?_);go_simp;refine(Dg.AY _ _ _ _ _ av.out.l6.zd.sl).mono ?_;rintro e w1 ⟨t0,tn,tc,rfl,hT,hB⟩;have aL:=hid (Live.dK hT.sl (av.out.below hB));have HB1:=hid (Below.steps HB0.out hB);clear aD aF aJ aK ax ay aA aB;clear av HB0 hT hB;have aD:=aL.out.tl.tl.box.c0;have aF:=aL.out.tl.tl.box.c1;have aJ:=aL.out.tl.tl.box.f0;have aK:=aL.out.tl.tl.box.f1;have ax:=aL.out.tl.tl.tl.box.c0;have ay:=aL.out.tl.tl.tl.box.c1;have aA:=aL.out.tl.tl.tl.box.f0;have aB:=aL.out.tl.tl.tl.box.f1;go_wp2_with fail;refine hK.out _ _ (And.intro aL.out.tl.tl.box.c0 (aL.out.tl.tl.box.c1)) (fun l7=>?_);clear hK K hHeld;have hHeld:=l7;clear l7
 try simp only[Act.put,List.setIfInBounds_toArray,List.set_cons_zero,List.set_cons_succ]
 refine cu 11 rfl (by kernel_rfl) (fun _ _ _ h=>h) (by rfl) hHeld (by intro w hSw;first|(go_simp;done)|(go_simp;with_reducible rfl)) ?_
 try simp only[Act.put,List.setIfInBounds_toArray,List.set_cons_zero,List.set_cons_succ]
 refine ah 12 rfl (by kernel_rfl) (fun K hK=>?_);go_simp;refine hK.out _ _ ((And.intro ((bT (fun e=>by have e2:w.heap.size=w.heap.size+1:=e;omega) _ _).trans aD) ((bT (fun e=>by have e2:w.heap.size=w.heap.size+1:=e;omega) _ _).trans aF))) (fun l7=>?_);clear hK K hHeld
 try simp only[Act.put,List.setIfInBounds_toArray,List.set_cons_zero,List.set_cons_succ]
 refine wpAnyH_done (by kernel_rfl) ?_ _
 go_wp2_with fail;have HC:Hid (Cn w1 true t0 tn tc x):=⟨aL.out.tl.l6.zd.neg,aL.out.sl⟩;refine bodyPost_ret (v:= .agg #[.bool true,.slice t0 tn tc]) (by simp[results,Tryz.results57,go_sem,ax,ay]) rfl ?_;exact⟨_,_,_,_,rfl,HC.out.set2 aL.out.tl.tl.tl.box _ _,aT HB1.out (by omega) _ _⟩
theorem Ij [Ol] {ao:Option Addr} {n cap:Nat} {x:Int} {w:World} (hx:Zx w false ao n cap x):
  Calls Tryz.prog 57 #[.agg #[.bool false,.slice ao n cap]] w (pW w x):=by
 have HV:Hid (dM false x.natAbs=x):=hx.zd.val;have hle:=hx.le;go_enter Tryz.func57,Tryz.ntmps57;go_upto_region 1 with(fail)
 refine aj (fun W hW=>?_);have HB0:Hid (Below w.heap.size w W):=by rw[hW];exact aM (af _ _)
 have aN:bJ W (w.heap.size) false ao n cap:=by rw[hW];exact(bJ.new _ _ _ _ _ _ _ (by simp)).below (af _ _)
 have aQ:bJ W (w.heap.size+1) false none 0 0:=by rw[hW];exact bJ.new _ _ _ _ _ _ _ (by simp)
 have av:=hid (Live.bW (hx.below HB0.out) (Live.aC aN (Live.aC aQ (Live.nil W))));clear hW aN aQ;have aD:=av.out.tl.box.c0;have aF:=av.out.tl.box.c1;have aJ:=av.out.tl.box.f0;have aK:=av.out.tl.box.f1;have ax:=av.out.tl.tl.box.c0;have ay:=av.out.tl.tl.box.c1;have aA:=av.out.tl.tl.box.f0;have aB:=av.out.tl.tl.box.f1;have jO:=hid (av.out.below ((Below.refl _ _).drew));have jP:=hid HB0.out.drew;clear aD aF aJ aK ax ay aA aB;clear av HB0;have av:=hid jO.out;have HB0:=hid jP.out;clear jO jP;have aD:=av.out.tl.box.c0;have aF:=av.out.tl.box.c1;have aJ:=av.out.tl.box.f0;have aK:=av.out.tl.box.f1;have ax:=av.out.tl.tl.box.c0;have ay:=av.out.tl.tl.box.c1;have aA:=av.out.tl.tl.box.f0;have aB:=av.out.tl.tl.box.f1;refine wp_region_held_drew (S:=fun w'=>w'.cell? ⟨w.heap.size,0,none⟩=some (.bool false)/\ w'.cell? ⟨w.heap.size,1,none⟩=some (.slice ao n cap)) (by kernel_rfl) (And.intro av.out.tl.box.c0 (av.out.tl.box.c1)) (fun hHeld=>?_);refine cu 0 rfl (by kernel_rfl) (fun _ _ _ h=>h) (by rfl) hHeld (by intro w hSw;first|(go_simp;done)|(go_simp;with_reducible rfl)) ?_
 try simp only[Act.put,List.setIfInBounds_toArray,List.set_cons_zero,List.set_cons_succ]
 refine cu 1 rfl (by kernel_rfl) (fun _ _ _ h=>h) (by rfl) hHeld (by intro w hSw;first|(go_simp;done)|(go_simp;with_reducible rfl)) ?_
 try simp only[Act.put,List.setIfInBounds_toArray,List.set_cons_zero,List.set_cons_succ]
 refine cu 2 rfl (by kernel_rfl) (fun _ _ _ h=>h) (by rfl) hHeld (by intro w hSw;first|(go_simp;done)|(go_simp;with_reducible rfl)) ?_
 try simp only[Act.put,List.setIfInBounds_toArray,List.set_cons_zero,List.set_cons_succ]
 refine qJ 3 rfl (by kernel_rfl) (fun _ _ _ h=>h) (by rfl) hHeld ?_
 try simp only[Act.put,List.setIfInBounds_toArray,List.set_cons_zero,List.set_cons_succ]
 refine qJ 4 rfl (by kernel_rfl) (fun _ _ _ h=>h) (by rfl) hHeld ?_
 try simp only[Act.put,List.setIfInBounds_toArray,List.set_cons_zero,List.set_cons_succ]
 refine qJ 5 rfl (by kernel_rfl) (fun _ _ _ h=>h) (by rfl) hHeld ?_
 try simp only[Act.put,List.setIfInBounds_toArray,List.set_cons_zero,List.set_cons_succ]
 refine qJ 6 rfl (by kernel_rfl) (fun _ _ _ h=>h) (by rfl) hHeld ?_
 try simp only[Act.put,List.setIfInBounds_toArray,List.set_cons_zero,List.set_cons_succ]
 refine cu 7 rfl (by kernel_rfl) (fun _ _ _ h=>h) (by rfl) hHeld (by intro w hSw;first|(go_simp;done)|(go_simp;with_reducible rfl)) ?_
 try simp only[Act.put,List.setIfInBounds_toArray,List.set_cons_zero,List.set_cons_succ]
 refine cu 8 rfl (by kernel_rfl) (fun _ _ _ h=>h) (by rfl) hHeld (by intro w hSw;first|(go_simp;done)|(go_simp;with_reducible rfl)) ?_
 try simp only[Act.put,List.setIfInBounds_toArray,List.set_cons_zero,List.set_cons_succ]
 refine cu 9 rfl (by kernel_rfl) (fun _ _ _ h=>h) (by rfl) hHeld (by intro w hSw;first|(go_simp;done)|(go_simp;with_reducible rfl)) ?_
 try simp only[Act.put,List.setIfInBounds_toArray,List.set_cons_zero,List.set_cons_succ]
 refine ah 10 rfl (by kernel_rfl) (fun K hK=>?_);go_simp;refine(Dg.AY _ _ _ _ _ av.out.l6.zd.sl).mono ?_;rintro e w1 ⟨t0,tn,tc,rfl,hT,hB⟩;have aL:=hid (Live.dK hT.sl (av.out.below hB));have HB1:=hid (Below.steps HB0.out hB);clear aD aF aJ aK ax ay aA aB;clear av HB0 hT hB;have aD:=aL.out.tl.tl.box.c0;have aF:=aL.out.tl.tl.box.c1;have aJ:=aL.out.tl.tl.box.f0;have aK:=aL.out.tl.tl.box.f1;have ax:=aL.out.tl.tl.tl.box.c0;have ay:=aL.out.tl.tl.tl.box.c1;have aA:=aL.out.tl.tl.tl.box.f0;have aB:=aL.out.tl.tl.tl.box.f1;go_wp2_with fail;refine hK.out _ _ (And.intro aL.out.tl.tl.box.c0 (aL.out.tl.tl.box.c1)) (fun l7=>?_);clear hK K hHeld;have hHeld:=l7;clear l7
 try simp only[Act.put,List.setIfInBounds_toArray,List.set_cons_zero,List.set_cons_succ]
 refine cu 11 rfl (by kernel_rfl) (fun _ _ _ h=>h) (by rfl) hHeld (by intro w hSw;first|(go_simp;done)|(go_simp;with_reducible rfl)) ?_
 try simp only[Act.put,List.setIfInBounds_toArray,List.set_cons_zero,List.set_cons_succ]
 refine ah 12 rfl (by kernel_rfl) (fun K hK=>?_);go_simp;refine hK.out _ _ ((And.intro ((bT (fun e=>by have e2:w.heap.size=w.heap.size+1:=e;omega) _ _).trans aD) ((bT (fun e=>by have e2:w.heap.size=w.heap.size+1:=e;omega) _ _).trans aF))) (fun l7=>?_);clear hK K hHeld
 try simp only[Act.put,List.setIfInBounds_toArray,List.set_cons_zero,List.set_cons_succ]
 refine wpAnyH_done (by kernel_rfl) ?_ _
 go_wp2_with fail;have HC:Hid (Cn w1 false t0 tn tc x):=⟨aL.out.tl.l6.zd.neg,aL.out.sl⟩;refine bodyPost_ret (v:= .agg #[.bool false,.slice t0 tn tc]) (by simp[results,Tryz.results57,go_sem,ax,ay]) rfl ?_;exact⟨_,_,_,_,rfl,HC.out.set2 aL.out.tl.tl.tl.box _ _,aT HB1.out (by omega) _ _⟩
theorem nQ [Ol] {m:Bool} {ao:Option Addr} {n cap:Nat} {x:Int} {w:World} (hx:Zx w m ao n cap x):
  Calls Tryz.prog 57 #[.agg #[.bool m,.slice ao n cap]] w (pW w x):=by
 cases m
 ·exact Ij hx
 ·exact Ls hx
open Lib (hid)
theorem yH [Ol] {m:Bool} {ao bo:Option Addr} {n cap l cb:Nat} {xs ys:List Nat} {w:World} (r:Bool) (hs:Sl w ao n cap xs) (ht:Sl w bo l cb ys) (h:pV xs ys=r):
  Calls Tryz.prog 53 #[.agg #[.bool m,.slice ao n cap],.agg #[.bool m,.slice bo l cb]] w (dI (.bool r) w):=by
 have HS:=hid h;go_enter Tryz.func53,Tryz.ntmps53;go_upto_region 1 with(fail)
 refine aj (fun W hW=>?_);have HB0:Hid (Below w.heap.size w W):=by rw[hW];exact aM (af _ _)
 have aN:bJ W (w.heap.size) m ao n cap:=by rw[hW];exact(bJ.new _ _ _ _ _ _ _ (by simp)).below (af _ _)
 have bH:bJ W (w.heap.size+1) m bo l cb:=by rw[hW];exact bJ.new _ _ _ _ _ _ _ (by simp)
 have av:=hid (Live.dK (hs.below HB0.out) (Live.dK (ht.below HB0.out) (Live.aC aN (Live.aC bH (Live.nil W)))));clear hW aN bH;have aD:=av.out.tl.tl.box.c0;have aF:=av.out.tl.tl.box.c1;have aJ:=av.out.tl.tl.box.f0;have aK:=av.out.tl.tl.box.f1;have aR:=av.out.tl.tl.tl.box.c0;have aS:=av.out.tl.tl.tl.box.c1;have aV:=av.out.tl.tl.tl.box.f0;have aW:=av.out.tl.tl.tl.box.f1;go_wp2_with fail;refine(Qr r _ _ _ _ _ _ _ _ _ av.out.sl av.out.tl.sl HS.out).mono ?_;rintro e w1 ⟨rfl,hB⟩;have aL:=hid (av.out.below hB);have HB1:=hid (Below.steps HB0.out hB);clear aD aF aJ aK aR aS aV aW;clear av HB0 hB;have aD:=aL.out.tl.tl.box.c0;have aF:=aL.out.tl.tl.box.c1;have aJ:=aL.out.tl.tl.box.f0;have aK:=aL.out.tl.tl.box.f1;have aR:=aL.out.tl.tl.tl.box.c0;have aS:=aL.out.tl.tl.tl.box.c1;have aV:=aL.out.tl.tl.tl.box.f0;have aW:=aL.out.tl.tl.tl.box.f1;go_wp2_with fail;go_ret;exact⟨rfl,HB1.out⟩
theorem AX [Ol] {m k:Bool} {ao bo:Option Addr} {n cap l cb:Nat} {w:World} (h:m≠k):
  Calls Tryz.prog 53 #[.agg #[.bool m,.slice ao n cap],.agg #[.bool k,.slice bo l cb]] w (dI (.bool false) w):=by
 have hmm:(m==k)=false:=by cases m<;>cases k<;>simp at h ⊢
 go_enter Tryz.func53,Tryz.ntmps53;go_upto_region 1 with(fail)
 refine aj (fun W hW=>?_);have HB0:Hid (Below w.heap.size w W):=by rw[hW];exact aM (af _ _)
 have aN:bJ W (w.heap.size) m ao n cap:=by rw[hW];exact(bJ.new _ _ _ _ _ _ _ (by simp)).below (af _ _)
 have bH:bJ W (w.heap.size+1) k bo l cb:=by rw[hW];exact bJ.new _ _ _ _ _ _ _ (by simp)
 have av:=hid (Live.aC aN (Live.aC bH (Live.nil W)));clear hW aN bH;have aD:=av.out.box.c0;have aF:=av.out.box.c1;have aJ:=av.out.box.f0;have aK:=av.out.box.f1;have aR:=av.out.tl.box.c0;have aS:=av.out.tl.box.c1;have aV:=av.out.tl.box.f0;have aW:=av.out.tl.box.f1;go_wp2_with fail;go_ret;exact⟨rfl,HB0.out⟩
theorem Lu (xs:List Nat) (j:Nat) (hj:xs.length=j+1) (hl:xs.getD j 0≠0):bG xs=xs:=by
 have h1:=bZ xs j (by omega);rw[dh xs (j+1) hj]at h1;rw[h1];exact sO _ hl
theorem zR {m:Bool} {xs:List Nat} (hw:Wf xs):vS m xs.length xs=decide (m=decide (dM m (val xs)<0)/\ xs=limbs (dM m (val xs)).natAbs):=by
 rw[gM,rO];unfold vS;split
 ·rename_i h0;obtain rfl:xs=[]:=List.eq_nil_of_length_eq_zero h0;rw[dQ];cases m<;>simp[gT]
 ·rename_i h0;obtain⟨j,hj⟩:∃j,xs.length=j+1:=⟨xs.length-1,by omega⟩;rw[hj,Nat.add_sub_cancel];have ht:=bX xs hw;by_cases hl:xs.getD j 0=0
  ·have h1:¬xs=limbs (val xs):=fun e=>last_pos xs j (by rw[ht,<-e]) hj hl
   simp only[hl,h1];simp
  ·have h1:bG xs=xs:=Lu xs j hj hl;have h2:xs=limbs (val xs):=by rw[<-ht,h1]
   have h3:0<val xs:=by
    rcases Nat.eq_zero_or_pos (val xs)with h|h
    ·rw[h,gT]at h2;rw[h2]at hj;simp at hj
    ·exact h
   simp only[<-h2,h3];simp;exact hl
open Lib (hid)
theorem Lv [Ol] {m:Bool} {ao bo:Option Addr} {n cap l cb:Nat} {x y:Int} {w:World} (hx:Zx w m ao n cap x) (hy:Zx w m bo l cb y):
  Calls Tryz.prog 101 #[.agg #[.bool m,.slice ao n cap],.agg #[.bool m,.slice bo l cb]] w (rV w (x*y)):=by
 have hle:=hx.le;have hle2:=hy.le;have HX:Hid (dM m x.natAbs=x):=hx.zd.val;have HY:Hid (dM m y.natAbs=y):=hy.zd.val;have hmm:(m !=m)=false:=by cases m<;>rfl
 go_enter Tryz.func101,Tryz.ntmps101;go_upto_region 1 with(fail)
 refine aj (fun W hW=>?_);have HB0:Hid (Below w.heap.size w W):=by rw[hW];exact aM (aM (af _ _))
 have aN:bJ W (w.heap.size) m ao n cap:=by rw[hW];exact((bJ.new _ _ _ _ _ _ _ (by simp)).below (af _ _)).below (af _ _)
 have bH:bJ W (w.heap.size+1) m bo l cb:=by rw[hW];exact(bJ.new _ _ _ _ _ _ _ (by simp)).below (af _ _)
 have aQ:bJ W (w.heap.size+2) false none 0 0:=by rw[hW];exact bJ.new _ _ _ _ _ _ _ (by simp)
 have av:=hid (Live.bW (hx.below HB0.out) (Live.bW (hy.below HB0.out) (Live.aC aN (Live.aC bH (Live.aC aQ (Live.nil W))))));clear hW aN bH aQ;have aD:=av.out.tl.tl.box.c0;have aF:=av.out.tl.tl.box.c1;have aJ:=av.out.tl.tl.box.f0;have aK:=av.out.tl.tl.box.f1;have aR:=av.out.tl.tl.tl.box.c0;have aS:=av.out.tl.tl.tl.box.c1;have aV:=av.out.tl.tl.tl.box.f0;have aW:=av.out.tl.tl.tl.box.f1;have ax:=av.out.tl.tl.tl.tl.box.c0;have ay:=av.out.tl.tl.tl.tl.box.c1;have aA:=av.out.tl.tl.tl.tl.box.f0;have aB:=av.out.tl.tl.tl.tl.box.f1;go_wp2_with fail;refine(Dg.qZ _ _ _ _ _ _ _ _ _ av.out.l6.zd.sl av.out.tl.l6.zd.sl (by omega) (by omega)).mono ?_;rintro e w1 ⟨d0,dn,dc,rfl,hT,hB⟩;rw[Dg.au,Dg.au]at hT;have HT:=hid hT.sl;have hdb:=hT.big;have aL:=hid (av.out.below hB);have HB1:=hid (Below.steps HB0.out hB);clear aD aF aJ aK aR aS aV aW ax ay aA aB;clear av HB0 hT hB;have aD:=aL.out.tl.tl.box.c0;have aF:=aL.out.tl.tl.box.c1;have aJ:=aL.out.tl.tl.box.f0;have aK:=aL.out.tl.tl.box.f1;have aR:=aL.out.tl.tl.tl.box.c0;have aS:=aL.out.tl.tl.tl.box.c1;have aV:=aL.out.tl.tl.tl.box.f0;have aW:=aL.out.tl.tl.tl.box.f1;have ax:=aL.out.tl.tl.tl.tl.box.c0;have ay:=aL.out.tl.tl.tl.tl.box.c1;have aA:=aL.out.tl.tl.tl.tl.box.f0;have aB:=aL.out.tl.tl.tl.tl.box.f1;go_wp2_with fail;have HZ:Hid (Zd w1 (false) d0 dn dc (dM (m !=m) (x.natAbs*y.natAbs))):=Zd.of HT.out (by rw[hmm];simp);have HE:Hid (dM (m !=m) (x.natAbs*y.natAbs)=x*y):=by rw[Hid,Da,HX.out,HY.out]
 refine bodyPost_ret (v:= .agg #[.bool (false),.slice d0 dn dc]) (by simp[results,Tryz.results101,go_sem,ax,ay]) rfl ?_;exact⟨_,_,_,_,rfl,HE.out▸HZ.out.set2 aL.out.tl.tl.tl.tl.box _ _,aT HB1.out (by omega) _ _⟩
theorem Lx [Ol] {m:Bool} {ao bo:Option Addr} {n cap l cb:Nat} {x y:Int} {w:World} (hx:Zx w m ao n cap x) (hy:Zx w (!m) bo l cb y):
  Calls Tryz.prog 101 #[.agg #[.bool m,.slice ao n cap],.agg #[.bool (!m),.slice bo l cb]] w (rV w (x*y)):=by
 have hle:=hx.le;have hle2:=hy.le;have HX:Hid (dM m x.natAbs=x):=hx.zd.val;have HY:Hid (dM (!m) y.natAbs=y):=hy.zd.val;have hmm:(m !=(!m))=true:=by cases m<;>rfl
 go_enter Tryz.func101,Tryz.ntmps101;go_upto_region 1 with(fail)
 refine aj (fun W hW=>?_);have HB0:Hid (Below w.heap.size w W):=by rw[hW];exact aM (aM (af _ _))
 have aN:bJ W (w.heap.size) m ao n cap:=by rw[hW];exact((bJ.new _ _ _ _ _ _ _ (by simp)).below (af _ _)).below (af _ _)
 have bH:bJ W (w.heap.size+1) (!m) bo l cb:=by rw[hW];exact(bJ.new _ _ _ _ _ _ _ (by simp)).below (af _ _)
 have aQ:bJ W (w.heap.size+2) false none 0 0:=by rw[hW];exact bJ.new _ _ _ _ _ _ _ (by simp)
 have av:=hid (Live.bW (hx.below HB0.out) (Live.bW (hy.below HB0.out) (Live.aC aN (Live.aC bH (Live.aC aQ (Live.nil W))))));clear hW aN bH aQ;have aD:=av.out.tl.tl.box.c0;have aF:=av.out.tl.tl.box.c1;have aJ:=av.out.tl.tl.box.f0;have aK:=av.out.tl.tl.box.f1;have aR:=av.out.tl.tl.tl.box.c0;have aS:=av.out.tl.tl.tl.box.c1;have aV:=av.out.tl.tl.tl.box.f0;have aW:=av.out.tl.tl.tl.box.f1;have ax:=av.out.tl.tl.tl.tl.box.c0;have ay:=av.out.tl.tl.tl.tl.box.c1;have aA:=av.out.tl.tl.tl.tl.box.f0;have aB:=av.out.tl.tl.tl.tl.box.f1;go_wp2_with fail;refine(Dg.qZ _ _ _ _ _ _ _ _ _ av.out.l6.zd.sl av.out.tl.l6.zd.sl (by omega) (by omega)).mono ?_;rintro e w1 ⟨d0,dn,dc,rfl,hT,hB⟩;rw[Dg.au,Dg.au]at hT;have HT:=hid hT.sl;have hdb:=hT.big;have aL:=hid (av.out.below hB);have HB1:=hid (Below.steps HB0.out hB);clear aD aF aJ aK aR aS aV aW ax ay aA aB;clear av HB0 hT hB;have aD:=aL.out.tl.tl.box.c0;have aF:=aL.out.tl.tl.box.c1;have aJ:=aL.out.tl.tl.box.f0;have aK:=aL.out.tl.tl.box.f1;have aR:=aL.out.tl.tl.tl.box.c0;have aS:=aL.out.tl.tl.tl.box.c1;have aV:=aL.out.tl.tl.tl.box.f0;have aW:=aL.out.tl.tl.tl.box.f1;have ax:=aL.out.tl.tl.tl.tl.box.c0;have ay:=aL.out.tl.tl.tl.tl.box.c1;have aA:=aL.out.tl.tl.tl.tl.box.f0;have aB:=aL.out.tl.tl.tl.tl.box.f1;go_wp2_with fail;have HZ:Hid (Zd w1 (decide (0<dn)) d0 dn dc (dM (m !=(!m)) (x.natAbs*y.natAbs))):=Zd.of HT.out (by rw[hmm];simp);have HE:Hid (dM (m !=(!m)) (x.natAbs*y.natAbs)=x*y):=by rw[Hid,Da,HX.out,HY.out]
 refine bodyPost_ret (v:= .agg #[.bool (decide (0<dn)),.slice d0 dn dc]) (by simp[results,Tryz.results101,go_sem,ax,ay]) rfl ?_;exact⟨_,_,_,_,rfl,HE.out▸HZ.out.set2 aL.out.tl.tl.tl.tl.box _ _,aT HB1.out (by omega) _ _⟩
theorem N7 [Ol] {m k:Bool} {ao bo:Option Addr} {n cap l cb:Nat} {x y:Int} {w:World} (hx:Zx w m ao n cap x) (hy:Zx w k bo l cb y):
  Calls Tryz.prog 101 #[.agg #[.bool m,.slice ao n cap],.agg #[.bool k,.slice bo l cb]] w (rV w (x*y)):=by
 by_cases hmk:k=m
 ·subst hmk;exact Lv hx hy
 ·obtain rfl:k= !m:=by cases m<;>cases k<;>simp at hmk ⊢
  exact Lx hx hy
theorem Bd.pow {x:Int} {k:Nat} (h:Bd x k) (j:Nat):Bd (x^j) (k*j+1):=by
 unfold Bd at*
 rw[Int.natAbs_pow];rcases Nat.eq_zero_or_pos j with h0|h0
 ·subst h0;rw[Nat.pow_zero];exact Nat.one_lt_pow (by omega) (by omega)
 ·refine Nat.lt_of_lt_of_le (Nat.pow_lt_pow_left h (by omega)) ?_;rw[<-Nat.pow_mul];exact Nat.pow_le_pow_right (by omega) (by omega)
end Go.Proofs.YtmenbpmciblnlaaGreatDoor
