import Derived.Test.YtmenbpmciblnlaaGreatDoorGWInt
import Derived.Deep.Cut
set_option maxHeartbeats 0
set_option maxRecDepth 100000
open And renaming intro->ah5
open Go renaming World->ah6
open Go.Act renaming put->ah7
open Go.RowKit renaming Below->ah8
open Go.Value renaming bool->ai0,slice->ah9
open List renaming setIfInBounds_toArray->ai1,set_cons_succ->ai3,set_cons_zero->ai2
namespace Go.Proofs.YtmenbpmciblnlaaGreatDoor
open Lib (hid)
open Go.RowKit
theorem Kr [Ol] {ao:Z'} {n ae:Nat} {x:Int} {w:ah6} (hx:Zx w true ao n ae x):
  Calls Tryz.prog 54 #[.agg #[ai0 true,ah9 ao n ae]] w (qz w (-x)):=by
 have HV:Hid (cV true x.natAbs=x):=hx.zd.au;have hdb:=hx.zd.sl.big;go_enter Tryz.func54,Tryz.ntmps54;go_upto_region 1 with(fail)
 refine aj (λW hW=>?_);have HB0:Hid (ah8 w.heap.size w W):=by rw[hW];exact aN (af _ _)
 have aO:bS W w.heap.size true ao n ae:=by rw[hW];exact(bS.cS _ _ _ _ _ _ _ (by simp)).below (af _ _)
 have aR:bS W (w.heap.size+1) false none 0 0:=by rw[hW];exact bS.cS _ _ _ _ _ _ _ (by simp)
 have aw:=hid (aA.cg (hx.below HB0.o) (aA.aD aO (aA.aD aR (aA.nil W))));clear hW aO aR;have aF:=aw.o.tl.box.c0;have aG:=aw.o.tl.box.c1;have aJ:=aw.o.tl.box.f0;have aK:=aw.o.tl.box.f1;have ay:=aw.o.tl.tl.box.c0;have az:=aw.o.tl.tl.box.c1;have aB:=aw.o.tl.tl.box.f0;have aC:=aw.o.tl.tl.box.f1;go_wp2_with fail;have HC:Hid (Zd W (false) ao n ae (cV (!true) x.natAbs)):=Zd.of aw.o.lz.zd.sl (by simp);refine bodyPost_ret (v:= .agg #[ai0 (false),ah9 ao n ae]) (by simp[results,Tryz.results54,go_sem,ay,az]) rfl ?_;exact⟨_,_,_,_,rfl,(show cV (!true) x.natAbs= -x from by rw[vC,HV.o])▸HC.o.ew aw.o.tl.tl.box _ _,bj HB0.o (by omega) _ _⟩
theorem Gm [Ol] {ao:Z'} {n ae:Nat} {x:Int} {w:ah6} (hx:Zx w false ao n ae x):
  Calls Tryz.prog 54 #[.agg #[ai0 false,ah9 ao n ae]] w (qz w (-x)):=by
 have HV:Hid (cV false x.natAbs=x):=hx.zd.au;have hdb:=hx.zd.sl.big;go_enter Tryz.func54,Tryz.ntmps54;go_upto_region 1 with(fail)
 refine aj (λW hW=>?_);have HB0:Hid (ah8 w.heap.size w W):=by rw[hW];exact aN (af _ _)
 have aO:bS W w.heap.size false ao n ae:=by rw[hW];exact(bS.cS _ _ _ _ _ _ _ (by simp)).below (af _ _)
 have aR:bS W (w.heap.size+1) false none 0 0:=by rw[hW];exact bS.cS _ _ _ _ _ _ _ (by simp)
 have aw:=hid (aA.cg (hx.below HB0.o) (aA.aD aO (aA.aD aR (aA.nil W))));clear hW aO aR;have aF:=aw.o.tl.box.c0;have aG:=aw.o.tl.box.c1;have aJ:=aw.o.tl.box.f0;have aK:=aw.o.tl.box.f1;have ay:=aw.o.tl.tl.box.c0;have az:=aw.o.tl.tl.box.c1;have aB:=aw.o.tl.tl.box.f0;have aC:=aw.o.tl.tl.box.f1;go_wp2_with fail;have HC:Hid (Zd W (decide (0<n)) ao n ae (cV (!false) x.natAbs)):=Zd.of aw.o.lz.zd.sl (by simp);refine bodyPost_ret (v:= .agg #[ai0 (decide (0<n)),ah9 ao n ae]) (by simp[results,Tryz.results54,go_sem,ay,az]) rfl ?_;exact⟨_,_,_,_,rfl,(show cV (!false) x.natAbs= -x from by rw[vC,HV.o])▸HC.o.ew aw.o.tl.tl.box _ _,bj HB0.o (by omega) _ _⟩
theorem kD [Ol] {m:Bool} {ao:Z'} {n ae:Nat} {x:Int} {w:ah6} (hx:Zx w m ao n ae x):
  Calls Tryz.prog 54 #[.agg #[ai0 m,ah9 ao n ae]] w (qz w (-x)):=by
 cases m
 ·exact Gm hx
 ·exact Kr hx
theorem Rs [Ol] {m:Bool} {ao:Z'} {n ae:Nat} {x:Int} {w:ah6} (hx:Zx w m ao n ae x) (h0:x=0):
  Calls Tryz.prog 58 #[.agg #[ai0 m,ah9 ao n ae]] w (cr (.int .i64 0) w):=by
 have hdb:=hx.zd.sl.big;obtain rfl:n=0:=hx.zd.zero.2 h0;go_enter Tryz.func58,Tryz.ntmps58;go_upto_region 1 with(fail)
 refine aj (λW hW=>?_);have HB0:Hid (ah8 w.heap.size w W):=by rw[hW];exact af _ _
 have aO:bS W w.heap.size m ao 0 ae:=by rw[hW];exact bS.cS _ _ _ _ _ _ _ (by simp)
 have aw:=hid (aA.cg (hx.below HB0.o) (aA.aD aO (aA.nil W)));clear hW aO;have aF:=aw.o.tl.box.c0;have aG:=aw.o.tl.box.c1;have aJ:=aw.o.tl.box.f0;have aK:=aw.o.tl.box.f1;go_wp2_with fail;go_ret;exact⟨rfl,HB0.o⟩
theorem Rt [Ol] {m:Bool} {ao:Z'} {n ae:Nat} {x:Int} {w:ah6} (hx:Zx w m ao n ae x) (h0:x<0):
  Calls Tryz.prog 58 #[.agg #[ai0 m,ah9 ao n ae]] w (cr (.int .i64 (-1)) w):=by
 have hdb:=hx.zd.sl.big;obtain rfl:m=true:=by rw[hx.zd.neg];simpa using h0
 have hq:(((n:Nat):Int)==0)=false:=by have:=hx.zd.TK;simp;omega
 go_enter Tryz.func58,Tryz.ntmps58;go_upto_region 1 with(fail)
 refine aj (λW hW=>?_);have HB0:Hid (ah8 w.heap.size w W):=by rw[hW];exact af _ _
 have aO:bS W w.heap.size true ao n ae:=by rw[hW];exact bS.cS _ _ _ _ _ _ _ (by simp)
 have aw:=hid (aA.cg (hx.below HB0.o) (aA.aD aO (aA.nil W)));clear hW aO;have aF:=aw.o.tl.box.c0;have aG:=aw.o.tl.box.c1;have aJ:=aw.o.tl.box.f0;have aK:=aw.o.tl.box.f1;go_wp2_with fail;go_ret;exact⟨rfl,HB0.o⟩
theorem Ru [Ol] {m:Bool} {ao:Z'} {n ae:Nat} {x:Int} {w:ah6} (hx:Zx w m ao n ae x) (h0:0<x):
  Calls Tryz.prog 58 #[.agg #[ai0 m,ah9 ao n ae]] w (cr (.int .i64 1) w):=by
 have hdb:=hx.zd.sl.big;obtain rfl:m=false:=by rw[hx.zd.neg];simp;omega
 have hq:(((n:Nat):Int)==0)=false:=by have h9:n≠0:=(λh=>by have:=hx.zd.zero.1 h;omega);simp;omega
 go_enter Tryz.func58,Tryz.ntmps58;go_upto_region 1 with(fail)
 refine aj (λW hW=>?_);have HB0:Hid (ah8 w.heap.size w W):=by rw[hW];exact af _ _
 have aO:bS W w.heap.size false ao n ae:=by rw[hW];exact bS.cS _ _ _ _ _ _ _ (by simp)
 have aw:=hid (aA.cg (hx.below HB0.o) (aA.aD aO (aA.nil W)));clear hW aO;have aF:=aw.o.tl.box.c0;have aG:=aw.o.tl.box.c1;have aJ:=aw.o.tl.box.f0;have aK:=aw.o.tl.box.f1;go_wp2_with fail;go_ret;exact⟨rfl,HB0.o⟩
theorem mh [Ol] (s:Int) {m:Bool} {ao:Z'} {n ae:Nat} {x:Int} {w:ah6} (hx:Zx w m ao n ae x) (h:x.sign=s):
  Calls Tryz.prog 58 #[.agg #[ai0 m,ah9 ao n ae]] w (cr (.int .i64 s) w):=by
 rcases Int.lt_trichotomy x 0 with h0|h0|h0
 ·rw[Int.sign_eq_neg_one_of_neg h0]at h;rw[<-h];exact Rt hx h0
 ·rw[h0,Int.sign_zero]at h;rw[<-h];exact Rs hx h0
 ·rw[Int.sign_eq_one_of_pos h0]at h;rw[<-h];exact Ru hx h0
theorem NT [Ol] (a:Nat) (w:ah6) (h:a<=9223372036854775807):
  Calls Tryz.prog 49 #[.int .i64 (a:Int)] w (qz w (cV false a)):=by
 have HA:Hid (a<=18446744073709551615):=by rw[Hid];omega
 go_enter Tryz.func49,Tryz.ntmps49;go_upto_region 1 with(fail)
 refine aj (λW hW=>?_);have HB0:Hid (ah8 w.heap.size w W):=by rw[hW];exact af _ _
 have aR:bS W w.heap.size false none 0 0:=by rw[hW];exact bS.cS _ _ _ _ _ _ _ (by simp)
 have aw:=hid (aA.aD aR (aA.nil W));clear hW aR;have ay:=aw.o.box.c0;have az:=aw.o.box.c1;have aB:=aw.o.box.f0;have aC:=aw.o.box.f1;go_wp2_with fail;refine(Dg.iK a _ HA).mono ?_;rintro e w1 ⟨d0,dn,dc,rfl,hT,hB⟩;have HT:=hid hT.sl;have aL:=hid (aw.o.below hB);have HB1:=hid (Below.ar HB0.o hB);clear ay az aB aC aw HB0 hT hB;have ay:=aL.o.box.c0;have az:=aL.o.box.c1;have aB:=aL.o.box.f0;have aC:=aL.o.box.f1;go_wp2_with fail;have HC:Hid (Zd w1 false d0 dn dc (cV false a)):=Zd.of HT.o (by simp);refine bodyPost_ret (v:= .agg #[ai0 false,ah9 d0 dn dc]) (by simp[results,Tryz.results49,go_sem,ay,az]) rfl ?_;exact⟨_,_,_,_,rfl,HC.o.ew aL.o.box _ _,bj HB1.o (by omega) _ _⟩
theorem NU [Ol] (a:Nat) (w:ah6) (h:a<9223372036854775808):
  Calls Tryz.prog 49 #[.int .i64 (-((a+1:Nat):Int))] w (qz w (cV true (a+1))):=by
 have HA:Hid (a<=18446744073709551615):=by rw[Hid];omega
 have d1:decide (0<= -(((a+1:Nat)):Int))=false:=by simp
 go_enter Tryz.func49,Tryz.ntmps49;go_upto_region 1 with(fail)
 refine aj (λW hW=>?_);have HB0:Hid (ah8 w.heap.size w W):=by rw[hW];exact af _ _
 have aR:bS W w.heap.size false none 0 0:=by rw[hW];exact bS.cS _ _ _ _ _ _ _ (by simp)
 have aw:=hid (aA.aD aR (aA.nil W));clear hW aR;have ay:=aw.o.box.c0;have az:=aw.o.box.c1;have aB:=aw.o.box.f0;have aC:=aw.o.box.f1;go_wp2_with fail;simp only[show-(-(((a:Nat):Int)+1)+1)=((a:Nat):Int)from by omega];refine(Dg.iK a _ HA).mono ?_;rintro e w1 ⟨d0,dn,dc,rfl,hT,hB⟩;have HT:=hid hT.sl;have HTL:Hid (dn<=1000000):=(by rw[Hid,<-hT.len];exact Nat.le_trans (Dg.fR (k:=20) (by omega)) (by omega));have aL:=hid (aw.o.below hB);have HB1:=hid (Below.ar HB0.o hB);clear ay az aB aC aw HB0 hT hB;have ay:=aL.o.box.c0;have az:=aL.o.box.c1;have aB:=aL.o.box.f0;have aC:=aL.o.box.f1;go_wp2_with fail;have hsz1:Hid (Dg.Sl (w1.alloc (.cells #[.int .i64 1] 3)) (some ⟨w1.heap.size,0,none⟩) 1 1 [1]):=(Dg.bX.lit w1 [1] (by simp) (by simp)).sl;refine(Dg.pX _ _ _ _ _ _ _ _ _ (HT.o.below (af _ _)) hsz1.o (by have:=HTL.o;omega) (by omega)).mono ?_;rintro e w2 ⟨f0,fn,fc,rfl,hU,hB⟩;rw[Dg.av]at hU;have HU:=hid hU.sl;have hfb:=hU.len;have bH:=hid (aL.o.below (aN hB));have HB2:=hid (Below.ar HB1.o (aN hB));clear ay az aB aC aL HB1 hU hB;have ay:=bH.o.box.c0;have az:=bH.o.box.c1;have aB:=bH.o.box.f0;have aC:=bH.o.box.f1;go_wp2_with fail;clear hfb
 have HC:Hid (Zd w2 true f0 fn fc (cV true (a+1))):=by
  refine⟨by rw[qj];simp,?_⟩;rw[fK];have:=HU.o;simpa[Dg.au]using this
 refine bodyPost_ret (v:= .agg #[ai0 true,ah9 f0 fn fc]) (by simp[results,Tryz.results49,go_sem,ay,az]) rfl ?_;exact⟨_,_,_,_,rfl,HC.o.ew bH.o.box _ _,bj HB2.o (by omega) _ _⟩
theorem nv [Ol] (n:Int) (w:ah6) (h: -9223372036854775808<=n/\ n<=9223372036854775807):
  Calls Tryz.prog 49 #[.int .i64 n] w (qz w n):=by
 by_cases h0:n<0
 ·obtain⟨a,rfl⟩:∃a:Nat,n= -((a+1:Nat):Int):=⟨n.natAbs-1,by omega⟩;exact NU a w (by omega)
 ·obtain⟨a,rfl⟩:=Int.eq_ofNat_of_zero_le (Int.not_lt.1 h0);exact NT a w (by omega)
open Lib (hid)
theorem Ks [Ol] {ao:Z'} {n ae:Nat} {x:Int} {w:ah6} (hx:Zx w true ao n ae x):
  Calls Tryz.prog 57 #[.agg #[ai0 true,ah9 ao n ae]] w (mA w x):=by
 have HV:Hid (cV true x.natAbs=x):=hx.zd.au;have hle:=hx.le;have hn:=hx.zd.TK;go_enter Tryz.func57,Tryz.ntmps57;go_upto_region 1 with(fail)
 refine aj (λW hW=>?_);have HB0:Hid (ah8 w.heap.size w W):=by rw[hW];exact aN (af _ _)
 have aO:bS W w.heap.size true ao n ae:=by rw[hW];exact(bS.cS _ _ _ _ _ _ _ (by simp)).below (af _ _)
 have aR:bS W (w.heap.size+1) false none 0 0:=by rw[hW];exact bS.cS _ _ _ _ _ _ _ (by simp)
 have aw:=hid (aA.cg (hx.below HB0.o) (aA.aD aO (aA.aD aR (aA.nil W))));clear hW aO aR;have aF:=aw.o.tl.box.c0;have aG:=aw.o.tl.box.c1;have aJ:=aw.o.tl.box.f0;have aK:=aw.o.tl.box.f1;have ay:=aw.o.tl.tl.box.c0;have az:=aw.o.tl.tl.box.c1;have aB:=aw.o.tl.tl.box.f0;have aC:=aw.o.tl.tl.box.f1;have iW:=hid (aw.o.below ((Below.refl _ _).drew));have iX:=hid HB0.o.drew;clear aF aG aJ aK ay az aB aC;clear aw HB0;have aw:=hid iW.o;have HB0:=hid iX.o;clear iW iX;have aF:=aw.o.tl.box.c0;have aG:=aw.o.tl.box.c1;have aJ:=aw.o.tl.box.f0;have aK:=aw.o.tl.box.f1;have ay:=aw.o.tl.tl.box.c0;have az:=aw.o.tl.tl.box.c1;have aB:=aw.o.tl.tl.box.f0;have aC:=aw.o.tl.tl.box.f1;refine wp_region_held_drew (S:=λw'=>w'.cell? ⟨w.heap.size,0,none⟩=some (ai0 true)/\ w'.cell? ⟨w.heap.size,1,none⟩=some (ah9 ao n ae)) (by kernel_rfl) (ah5 aw.o.tl.box.c0 aw.o.tl.box.c1) (λhHeld=>?_);refine cw 0 rfl (by kernel_rfl) (λ_ _ _ h=>h) (by rfl) hHeld (by intro w hSw;first|(go_simp;done)|(go_simp;with_reducible rfl)) ?_
 try simp only[ah7,ai1,ai2,ai3]
 refine cw 1 rfl (by kernel_rfl) (λ_ _ _ h=>h) (by rfl) hHeld (by intro w hSw;first|(go_simp;done)|(go_simp;with_reducible rfl)) ?_
 try simp only[ah7,ai1,ai2,ai3]
 refine cw 2 rfl (by kernel_rfl) (λ_ _ _ h=>h) (by rfl) hHeld (by intro w hSw;first|(go_simp;done)|(go_simp;with_reducible rfl)) ?_
 try simp only[ah7,ai1,ai2,ai3]
 refine cw 3 rfl (by kernel_rfl) (λ_ _ _ h=>h) (by rfl) hHeld (by intro w hSw;first|(go_simp;done)|(go_simp;with_reducible rfl)) ?_
 try simp only[ah7,ai1,ai2,ai3]
 refine cw 4 rfl (by kernel_rfl) (λ_ _ _ h=>h) (by rfl) hHeld (by intro w hSw;first|(go_simp;done)|(go_simp;with_reducible rfl)) ?_
 try simp only[ah7,ai1,ai2,ai3]
 refine cw 5 rfl (by kernel_rfl) (λ_ _ _ h=>h) (by rfl) hHeld (by intro w hSw;first|(go_simp;done)|(go_simp;with_reducible rfl)) ?_
 try simp only[ah7,ai1,ai2,ai3]
 refine cw 6 rfl (by kernel_rfl) (λ_ _ _ h=>h) (by rfl) hHeld (by intro w hSw;first|(go_simp;done)|(go_simp;with_reducible rfl)) ?_
 try simp only[ah7,ai1,ai2,ai3]
 refine cw 7 rfl (by kernel_rfl) (λ_ _ _ h=>h) (by rfl) hHeld (by intro w hSw;first|(go_simp;done)|(go_simp;with_reducible rfl)) ?_
 try simp only[ah7,ai1,ai2,ai3]
 refine cw 8 rfl (by kernel_rfl) (λ_ _ _ h=>h) (by rfl) hHeld (by intro w hSw;first|(go_simp;done)|(go_simp;with_reducible rfl)) ?_
 try simp only[ah7,ai1,ai2,ai3]
 refine cw 9 rfl (by kernel_rfl) (λ_ _ _ h=>h) (by rfl) hHeld (by intro w hSw;first|(go_simp;done)|(go_simp;with_reducible rfl)) ?_
 try simp only[ah7,ai1,ai2,ai3]
 refine ag 10 rfl (by kernel_rfl) (λK hK=>?_);go_simp;refine(Dg.zM _ _ _ _ _ aw.o.lz.zd.sl).mono ?_;rintro e w1 ⟨t0,tn,tc,rfl,hT,hB⟩;have aL:=hid (aA.cT hT.sl (aw.o.below hB));have HB1:=hid (Below.ar HB0.o hB);clear aF aG aJ aK ay az aB aC aw HB0 hT hB;have aF:=aL.o.tl.tl.box.c0;have aG:=aL.o.tl.tl.box.c1;have aJ:=aL.o.tl.tl.box.f0;have aK:=aL.o.tl.tl.box.f1;have ay:=aL.o.tl.tl.tl.box.c0;have az:=aL.o.tl.tl.tl.box.c1;have aB:=aL.o.tl.tl.tl.box.f0;have aC:=aL.o.tl.tl.tl.box.f1;go_wp2_with fail;refine hK.o _ _ (ah5 aL.o.tl.tl.box.c0 aL.o.tl.tl.box.c1) (λkP=>?_);clear hK K hHeld;have hHeld:=kP;clear kP
 try simp only[ah7,ai1,ai2,ai3]
 refine cw 11 rfl (by kernel_rfl) (λ_ _ _ h=>h) (by rfl) hHeld (by intro w hSw;first|(go_simp;done)|(go_simp;with_reducible rfl)) ?_
 try simp only[ah7,ai1,ai2,ai3]
 refine ag 12 rfl (by kernel_rfl) (λK hK=>?_);go_simp;refine hK.o _ _ ((ah5 ((bT (λe=>by have e2:w.heap.size=w.heap.size+1:=e;omega) _ _).trans aF) ((bT (λe=>by have e2:w.heap.size=w.heap.size+1:=e;omega) _ _).trans aG))) (λkP=>?_);clear hK K hHeld
 try simp only[ah7,ai1,ai2,ai3]
 refine wpAnyH_done (by kernel_rfl) ?_ _
 go_wp2_with fail;have HC:Hid (Cn w1 true t0 tn tc x):=⟨aL.o.tl.lz.zd.neg,aL.o.sl⟩;refine bodyPost_ret (v:= .agg #[ai0 true,ah9 t0 tn tc]) (by simp[results,Tryz.results57,go_sem,ay,az]) rfl ?_;exact⟨_,_,_,_,rfl,HC.o.ew aL.o.tl.tl.tl.box _ _,bj HB1.o (by omega) _ _⟩
theorem Gn [Ol] {ao:Z'} {n ae:Nat} {x:Int} {w:ah6} (hx:Zx w false ao n ae x):
  Calls Tryz.prog 57 #[.agg #[ai0 false,ah9 ao n ae]] w (mA w x):=by
 have HV:Hid (cV false x.natAbs=x):=hx.zd.au;have hle:=hx.le;go_enter Tryz.func57,Tryz.ntmps57;go_upto_region 1 with(fail)
 refine aj (λW hW=>?_);have HB0:Hid (ah8 w.heap.size w W):=by rw[hW];exact aN (af _ _)
 have aO:bS W w.heap.size false ao n ae:=by rw[hW];exact(bS.cS _ _ _ _ _ _ _ (by simp)).below (af _ _)
 have aR:bS W (w.heap.size+1) false none 0 0:=by rw[hW];exact bS.cS _ _ _ _ _ _ _ (by simp)
 have aw:=hid (aA.cg (hx.below HB0.o) (aA.aD aO (aA.aD aR (aA.nil W))));clear hW aO aR;have aF:=aw.o.tl.box.c0;have aG:=aw.o.tl.box.c1;have aJ:=aw.o.tl.box.f0;have aK:=aw.o.tl.box.f1;have ay:=aw.o.tl.tl.box.c0;have az:=aw.o.tl.tl.box.c1;have aB:=aw.o.tl.tl.box.f0;have aC:=aw.o.tl.tl.box.f1;have iW:=hid (aw.o.below ((Below.refl _ _).drew));have iX:=hid HB0.o.drew;clear aF aG aJ aK ay az aB aC;clear aw HB0;have aw:=hid iW.o;have HB0:=hid iX.o;clear iW iX;have aF:=aw.o.tl.box.c0;have aG:=aw.o.tl.box.c1;have aJ:=aw.o.tl.box.f0;have aK:=aw.o.tl.box.f1;have ay:=aw.o.tl.tl.box.c0;have az:=aw.o.tl.tl.box.c1;have aB:=aw.o.tl.tl.box.f0;have aC:=aw.o.tl.tl.box.f1;refine wp_region_held_drew (S:=λw'=>w'.cell? ⟨w.heap.size,0,none⟩=some (ai0 false)/\ w'.cell? ⟨w.heap.size,1,none⟩=some (ah9 ao n ae)) (by kernel_rfl) (ah5 aw.o.tl.box.c0 aw.o.tl.box.c1) (λhHeld=>?_);refine cw 0 rfl (by kernel_rfl) (λ_ _ _ h=>h) (by rfl) hHeld (by intro w hSw;first|(go_simp;done)|(go_simp;with_reducible rfl)) ?_
 try simp only[ah7,ai1,ai2,ai3]
 refine cw 1 rfl (by kernel_rfl) (λ_ _ _ h=>h) (by rfl) hHeld (by intro w hSw;first|(go_simp;done)|(go_simp;with_reducible rfl)) ?_
 try simp only[ah7,ai1,ai2,ai3]
 refine cw 2 rfl (by kernel_rfl) (λ_ _ _ h=>h) (by rfl) hHeld (by intro w hSw;first|(go_simp;done)|(go_simp;with_reducible rfl)) ?_
 try simp only[ah7,ai1,ai2,ai3]
 refine py 3 rfl (by kernel_rfl) (λ_ _ _ h=>h) (by rfl) hHeld ?_
 try simp only[ah7,ai1,ai2,ai3]
 refine py 4 rfl (by kernel_rfl) (λ_ _ _ h=>h) (by rfl) hHeld ?_
 try simp only[ah7,ai1,ai2,ai3]
 refine py 5 rfl (by kernel_rfl) (λ_ _ _ h=>h) (by rfl) hHeld ?_
 try simp only[ah7,ai1,ai2,ai3]
 refine py 6 rfl (by kernel_rfl) (λ_ _ _ h=>h) (by rfl) hHeld ?_
 try simp only[ah7,ai1,ai2,ai3]
 refine cw 7 rfl (by kernel_rfl) (λ_ _ _ h=>h) (by rfl) hHeld (by intro w hSw;first|(go_simp;done)|(go_simp;with_reducible rfl)) ?_
 try simp only[ah7,ai1,ai2,ai3]
 refine cw 8 rfl (by kernel_rfl) (λ_ _ _ h=>h) (by rfl) hHeld (by intro w hSw;first|(go_simp;done)|(go_simp;with_reducible rfl)) ?_
 try simp only[ah7,ai1,ai2,ai3]
 refine cw 9 rfl (by kernel_rfl) (λ_ _ _ h=>h) (by rfl) hHeld (by intro w hSw;first|(go_simp;done)|(go_simp;with_reducible rfl)) ?_
 try simp only[ah7,ai1,ai2,ai3]
 refine ag 10 rfl (by kernel_rfl) (λK hK=>?_);go_simp;refine(Dg.zM _ _ _ _ _ aw.o.lz.zd.sl).mono ?_;rintro e w1 ⟨t0,tn,tc,rfl,hT,hB⟩;have aL:=hid (aA.cT hT.sl (aw.o.below hB));have HB1:=hid (Below.ar HB0.o hB);clear aF aG aJ aK ay az aB aC aw HB0 hT hB;have aF:=aL.o.tl.tl.box.c0;have aG:=aL.o.tl.tl.box.c1;have aJ:=aL.o.tl.tl.box.f0;have aK:=aL.o.tl.tl.box.f1;have ay:=aL.o.tl.tl.tl.box.c0;have az:=aL.o.tl.tl.tl.box.c1;have aB:=aL.o.tl.tl.tl.box.f0;have aC:=aL.o.tl.tl.tl.box.f1;go_wp2_with fail;refine hK.o _ _ (ah5 aL.o.tl.tl.box.c0 aL.o.tl.tl.box.c1) (λkP=>?_);clear hK K hHeld;have hHeld:=kP;clear kP
 try simp only[ah7,ai1,ai2,ai3]
 refine cw 11 rfl (by kernel_rfl) (λ_ _ _ h=>h) (by rfl) hHeld (by intro w hSw;first|(go_simp;done)|(go_simp;with_reducible rfl)) ?_
 try simp only[ah7,ai1,ai2,ai3]
 refine ag 12 rfl (by kernel_rfl) (λK hK=>?_);go_simp;refine hK.o _ _ ((ah5 ((bT (λe=>by have e2:w.heap.size=w.heap.size+1:=e;omega) _ _).trans aF) ((bT (λe=>by have e2:w.heap.size=w.heap.size+1:=e;omega) _ _).trans aG))) (λkP=>?_);clear hK K hHeld
 try simp only[ah7,ai1,ai2,ai3]
 refine wpAnyH_done (by kernel_rfl) ?_ _
 go_wp2_with fail;have HC:Hid (Cn w1 false t0 tn tc x):=⟨aL.o.tl.lz.zd.neg,aL.o.sl⟩;refine bodyPost_ret (v:= .agg #[ai0 false,ah9 t0 tn tc]) (by simp[results,Tryz.results57,go_sem,ay,az]) rfl ?_;exact⟨_,_,_,_,rfl,HC.o.ew aL.o.tl.tl.tl.box _ _,bj HB1.o (by omega) _ _⟩
theorem my [Ol] {m:Bool} {ao:Z'} {n ae:Nat} {x:Int} {w:ah6} (hx:Zx w m ao n ae x):
  Calls Tryz.prog 57 #[.agg #[ai0 m,ah9 ao n ae]] w (mA w x):=by
 cases m
 ·exact Gn hx
 ·exact Ks hx
open Lib (hid)
theorem wh [Ol] {m:Bool} {ao bo:Z'} {n ae l cb:Nat} {xs ys:List Nat} {w:ah6} (r:Bool) (hs:Sl w ao n ae xs) (ht:Sl w bo l cb ys) (h:oH xs ys=r):
  Calls Tryz.prog 53 #[.agg #[ai0 m,ah9 ao n ae],.agg #[ai0 m,ah9 bo l cb]] w (cr (ai0 r) w):=by
 have HS:=hid h;go_enter Tryz.func53,Tryz.ntmps53;go_upto_region 1 with(fail)
 refine aj (λW hW=>?_);have HB0:Hid (ah8 w.heap.size w W):=by rw[hW];exact aN (af _ _)
 have aO:bS W w.heap.size m ao n ae:=by rw[hW];exact(bS.cS _ _ _ _ _ _ _ (by simp)).below (af _ _)
 have bI:bS W (w.heap.size+1) m bo l cb:=by rw[hW];exact bS.cS _ _ _ _ _ _ _ (by simp)
 have aw:=hid (aA.cT (hs.below HB0.o) (aA.cT (ht.below HB0.o) (aA.aD aO (aA.aD bI (aA.nil W)))));clear hW aO bI;have aF:=aw.o.tl.tl.box.c0;have aG:=aw.o.tl.tl.box.c1;have aJ:=aw.o.tl.tl.box.f0;have aK:=aw.o.tl.tl.box.f1;have aU:=aw.o.tl.tl.tl.box.c0;have aV:=aw.o.tl.tl.tl.box.c1;have bg:=aw.o.tl.tl.tl.box.f0;have bh:=aw.o.tl.tl.tl.box.f1;go_wp2_with fail;refine(Rv r _ _ _ _ _ _ _ _ _ aw.o.sl aw.o.tl.sl HS.o).mono ?_;rintro e w1 ⟨rfl,hB⟩;have aL:=hid (aw.o.below hB);have HB1:=hid (Below.ar HB0.o hB);clear aF aG aJ aK aU aV bg bh aw HB0 hB;have aF:=aL.o.tl.tl.box.c0;have aG:=aL.o.tl.tl.box.c1;have aJ:=aL.o.tl.tl.box.f0;have aK:=aL.o.tl.tl.box.f1;have aU:=aL.o.tl.tl.tl.box.c0;have aV:=aL.o.tl.tl.tl.box.c1;have bg:=aL.o.tl.tl.tl.box.f0;have bh:=aL.o.tl.tl.tl.box.f1;go_wp2_with fail;go_ret;exact⟨rfl,HB1.o⟩
theorem yX [Ol] {m k:Bool} {ao bo:Z'} {n ae l cb:Nat} {w:ah6} (h:m≠k):
  Calls Tryz.prog 53 #[.agg #[ai0 m,ah9 ao n ae],.agg #[ai0 k,ah9 bo l cb]] w (cr (ai0 false) w):=by
 have hmm:(m==k)=false:=by cases m<;>cases k<;>simp at h ⊢
 go_enter Tryz.func53,Tryz.ntmps53;go_upto_region 1 with(fail)
 refine aj (λW hW=>?_);have HB0:Hid (ah8 w.heap.size w W):=by rw[hW];exact aN (af _ _)
 have aO:bS W w.heap.size m ao n ae:=by rw[hW];exact(bS.cS _ _ _ _ _ _ _ (by simp)).below (af _ _)
 have bI:bS W (w.heap.size+1) k bo l cb:=by rw[hW];exact bS.cS _ _ _ _ _ _ _ (by simp)
 have aw:=hid (aA.aD aO (aA.aD bI (aA.nil W)));clear hW aO bI;have aF:=aw.o.box.c0;have aG:=aw.o.box.c1;have aJ:=aw.o.box.f0;have aK:=aw.o.box.f1;have aU:=aw.o.tl.box.c0;have aV:=aw.o.tl.box.c1;have bg:=aw.o.tl.box.f0;have bh:=aw.o.tl.box.f1;go_wp2_with fail;go_ret;exact⟨rfl,HB0.o⟩
theorem Kt (xs:List Nat) (j:Nat) (hj:xs.length=j+1) (hl:xs.getD j 0≠0):bE xs=xs:=by
 have h1:=cv xs j (by omega);rw[cE xs (j+1) hj]at h1;rw[h1];exact qZ _ hl
theorem xe {m:Bool} {xs:List Nat} (hw:Wf xs):tO m xs.length xs=decide (m=decide (cV m (au xs)<0)/\ xs=aq (cV m (au xs)).natAbs):=by
 rw[fK,qj];unfold tO;split
 ·rename_i h0;obtain rfl:xs=[]:=List.eq_nil_of_length_eq_zero h0;rw[di];cases m<;>simp[fE]
 ·rename_i h0;obtain⟨j,hj⟩:∃j,xs.length=j+1:=⟨xs.length-1,by omega⟩;rw[hj,Nat.add_sub_cancel];have ht:=cq xs hw;by_cases hl:xs.getD j 0=0
  ·have h1:¬xs=aq (au xs):=λe=>PH xs j (by rw[ht,<-e]) hj hl
   simp only[hl,h1];simp
  ·have h1:bE xs=xs:=Kt xs j hj hl;have h2:xs=aq (au xs):=by rw[<-ht,h1]
   have h3:0<au xs:=by
    rcases Nat.eq_zero_or_pos (au xs)with h|h
    ·rw[h,fE]at h2;rw[h2]at hj;simp at hj
    ·exact h
   simp only[<-h2,h3];simp;exact hl
open Lib (hid)
theorem Ku [Ol] {m:Bool} {ao bo:Z'} {n ae l cb:Nat} {x y:Int} {w:ah6} (hx:Zx w m ao n ae x) (hy:Zx w m bo l cb y):
  Calls Tryz.prog 101 #[.agg #[ai0 m,ah9 ao n ae],.agg #[ai0 m,ah9 bo l cb]] w (qz w (x*y)):=by
 have hle:=hx.le;have hle2:=hy.le;have HX:Hid (cV m x.natAbs=x):=hx.zd.au;have HY:Hid (cV m y.natAbs=y):=hy.zd.au;have hmm:(m !=m)=false:=by cases m<;>rfl
 go_enter Tryz.func101,Tryz.ntmps101;go_upto_region 1 with(fail)
 refine aj (λW hW=>?_);have HB0:Hid (ah8 w.heap.size w W):=by rw[hW];exact aN (aN (af _ _))
 have aO:bS W w.heap.size m ao n ae:=by rw[hW];exact((bS.cS _ _ _ _ _ _ _ (by simp)).below (af _ _)).below (af _ _)
 have bI:bS W (w.heap.size+1) m bo l cb:=by rw[hW];exact(bS.cS _ _ _ _ _ _ _ (by simp)).below (af _ _)
 have aR:bS W (w.heap.size+2) false none 0 0:=by rw[hW];exact bS.cS _ _ _ _ _ _ _ (by simp)
 have aw:=hid (aA.cg (hx.below HB0.o) (aA.cg (hy.below HB0.o) (aA.aD aO (aA.aD bI (aA.aD aR (aA.nil W))))));clear hW aO bI aR;have aF:=aw.o.tl.tl.box.c0;have aG:=aw.o.tl.tl.box.c1;have aJ:=aw.o.tl.tl.box.f0;have aK:=aw.o.tl.tl.box.f1;have aU:=aw.o.tl.tl.tl.box.c0;have aV:=aw.o.tl.tl.tl.box.c1;have bg:=aw.o.tl.tl.tl.box.f0;have bh:=aw.o.tl.tl.tl.box.f1;have ay:=aw.o.tl.tl.tl.tl.box.c0;have az:=aw.o.tl.tl.tl.tl.box.c1;have aB:=aw.o.tl.tl.tl.tl.box.f0;have aC:=aw.o.tl.tl.tl.tl.box.f1;go_wp2_with fail;refine(Dg.ql _ _ _ _ _ _ _ _ _ aw.o.lz.zd.sl aw.o.tl.lz.zd.sl (by omega) (by omega)).mono ?_;rintro e w1 ⟨d0,dn,dc,rfl,hT,hB⟩;rw[Dg.av,Dg.av]at hT;have HT:=hid hT.sl;have hdb:=hT.big;have aL:=hid (aw.o.below hB);have HB1:=hid (Below.ar HB0.o hB);clear aF aG aJ aK aU aV bg bh ay az aB aC aw HB0 hT hB;have aF:=aL.o.tl.tl.box.c0;have aG:=aL.o.tl.tl.box.c1;have aJ:=aL.o.tl.tl.box.f0;have aK:=aL.o.tl.tl.box.f1;have aU:=aL.o.tl.tl.tl.box.c0;have aV:=aL.o.tl.tl.tl.box.c1;have bg:=aL.o.tl.tl.tl.box.f0;have bh:=aL.o.tl.tl.tl.box.f1;have ay:=aL.o.tl.tl.tl.tl.box.c0;have az:=aL.o.tl.tl.tl.tl.box.c1;have aB:=aL.o.tl.tl.tl.tl.box.f0;have aC:=aL.o.tl.tl.tl.tl.box.f1;go_wp2_with fail;have HZ:Hid (Zd w1 (false) d0 dn dc (cV (m !=m) (x.natAbs*y.natAbs))):=Zd.of HT.o (by rw[hmm];simp);have HE:Hid (cV (m !=m) (x.natAbs*y.natAbs)=x*y):=by rw[Hid,Bn,HX.o,HY.o]
 refine bodyPost_ret (v:= .agg #[ai0 (false),ah9 d0 dn dc]) (by simp[results,Tryz.results101,go_sem,ay,az]) rfl ?_;exact⟨_,_,_,_,rfl,HE.o▸HZ.o.ew aL.o.tl.tl.tl.tl.box _ _,bj HB1.o (by omega) _ _⟩
theorem Kv [Ol] {m:Bool} {ao bo:Z'} {n ae l cb:Nat} {x y:Int} {w:ah6} (hx:Zx w m ao n ae x) (hy:Zx w (!m) bo l cb y):
  Calls Tryz.prog 101 #[.agg #[ai0 m,ah9 ao n ae],.agg #[ai0 (!m),ah9 bo l cb]] w (qz w (x*y)):=by
 have hle:=hx.le;have hle2:=hy.le;have HX:Hid (cV m x.natAbs=x):=hx.zd.au;have HY:Hid (cV (!m) y.natAbs=y):=hy.zd.au;have hmm:(m !=(!m))=true:=by cases m<;>rfl
 go_enter Tryz.func101,Tryz.ntmps101;go_upto_region 1 with(fail)
 refine aj (λW hW=>?_);have HB0:Hid (ah8 w.heap.size w W):=by rw[hW];exact aN (aN (af _ _))
 have aO:bS W w.heap.size m ao n ae:=by rw[hW];exact((bS.cS _ _ _ _ _ _ _ (by simp)).below (af _ _)).below (af _ _)
 have bI:bS W (w.heap.size+1) (!m) bo l cb:=by rw[hW];exact(bS.cS _ _ _ _ _ _ _ (by simp)).below (af _ _)
 have aR:bS W (w.heap.size+2) false none 0 0:=by rw[hW];exact bS.cS _ _ _ _ _ _ _ (by simp)
 have aw:=hid (aA.cg (hx.below HB0.o) (aA.cg (hy.below HB0.o) (aA.aD aO (aA.aD bI (aA.aD aR (aA.nil W))))));clear hW aO bI aR;have aF:=aw.o.tl.tl.box.c0;have aG:=aw.o.tl.tl.box.c1;have aJ:=aw.o.tl.tl.box.f0;have aK:=aw.o.tl.tl.box.f1;have aU:=aw.o.tl.tl.tl.box.c0;have aV:=aw.o.tl.tl.tl.box.c1;have bg:=aw.o.tl.tl.tl.box.f0;have bh:=aw.o.tl.tl.tl.box.f1;have ay:=aw.o.tl.tl.tl.tl.box.c0;have az:=aw.o.tl.tl.tl.tl.box.c1;have aB:=aw.o.tl.tl.tl.tl.box.f0;have aC:=aw.o.tl.tl.tl.tl.box.f1;go_wp2_with fail;refine(Dg.ql _ _ _ _ _ _ _ _ _ aw.o.lz.zd.sl aw.o.tl.lz.zd.sl (by omega) (by omega)).mono ?_;rintro e w1 ⟨d0,dn,dc,rfl,hT,hB⟩;rw[Dg.av,Dg.av]at hT;have HT:=hid hT.sl;have hdb:=hT.big;have aL:=hid (aw.o.below hB);have HB1:=hid (Below.ar HB0.o hB);clear aF aG aJ aK aU aV bg bh ay az aB aC aw HB0 hT hB;have aF:=aL.o.tl.tl.box.c0;have aG:=aL.o.tl.tl.box.c1;have aJ:=aL.o.tl.tl.box.f0;have aK:=aL.o.tl.tl.box.f1;have aU:=aL.o.tl.tl.tl.box.c0;have aV:=aL.o.tl.tl.tl.box.c1;have bg:=aL.o.tl.tl.tl.box.f0;have bh:=aL.o.tl.tl.tl.box.f1;have ay:=aL.o.tl.tl.tl.tl.box.c0;have az:=aL.o.tl.tl.tl.tl.box.c1;have aB:=aL.o.tl.tl.tl.tl.box.f0;have aC:=aL.o.tl.tl.tl.tl.box.f1;go_wp2_with fail;have HZ:Hid (Zd w1 (decide (0<dn)) d0 dn dc (cV (m !=(!m)) (x.natAbs*y.natAbs))):=Zd.of HT.o (by rw[hmm];simp);have HE:Hid (cV (m !=(!m)) (x.natAbs*y.natAbs)=x*y):=by rw[Hid,Bn,HX.o,HY.o]
 refine bodyPost_ret (v:= .agg #[ai0 (decide (0<dn)),ah9 d0 dn dc]) (by simp[results,Tryz.results101,go_sem,ay,az]) rfl ?_;exact⟨_,_,_,_,rfl,HE.o▸HZ.o.ew aL.o.tl.tl.tl.tl.box _ _,bj HB1.o (by omega) _ _⟩
theorem Mw [Ol] {m k:Bool} {ao bo:Z'} {n ae l cb:Nat} {x y:Int} {w:ah6} (hx:Zx w m ao n ae x) (hy:Zx w k bo l cb y):
  Calls Tryz.prog 101 #[.agg #[ai0 m,ah9 ao n ae],.agg #[ai0 k,ah9 bo l cb]] w (qz w (x*y)):=by
 by_cases hmk:k=m
 ·subst hmk;exact Ku hx hy
 ·obtain rfl:k= !m:=by cases m<;>cases k<;>simp at hmk ⊢
  exact Kv hx hy
theorem Bd.TN {x:Int} {k:Nat} (h:Bd x k) (j:Nat):Bd (x^j) (k*j+1):=by
 unfold Bd at*
 rw[Int.natAbs_pow];rcases Nat.eq_zero_or_pos j with h0|h0
 ·subst h0;rw[Nat.pow_zero];exact Nat.one_lt_pow (by omega) (by omega)
 ·refine Nat.lt_of_lt_of_le (Nat.pow_lt_pow_left h (by omega)) ?_;rw[<-Nat.pow_mul];exact Nat.pow_le_pow_right (by omega) (by omega)
end Go.Proofs.YtmenbpmciblnlaaGreatDoor
