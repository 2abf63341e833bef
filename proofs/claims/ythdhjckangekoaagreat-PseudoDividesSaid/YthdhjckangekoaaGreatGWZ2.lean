/- WZAdd, WZDiv -/
import Derived.Test.YthdhjckangekoaaGreatGWZ
import Derived.Test.YthdhjckangekoaaGreatGWD
set_option maxHeartbeats 40000000
set_option maxRecDepth 100000
namespace Go.Proofs.YthdhjckangekoaaGreat
open Lib (hid)
open Go.RowKit
theorem KM [Ol] {m:Bool} {ao bo:Option Addr} {n cap l cb:Nat} {x y:Int} {w:World} (hx:Zx w m ao n cap x) (hy:Zx w m bo l cb y):
  Calls Tryz.prog 55 #[.agg #[.bool m,.slice ao n cap],.agg #[.bool m,.slice bo l cb]] w (pX w (x+y)):=by
 have hle:=hx.le;have hle2:=hy.le;have HX:Hid (dV m x.natAbs=x):=hx.zd.val;have HY:Hid (dV m y.natAbs=y):=hy.zd.val;have Yg:=hid hx.zd.neg;have HNY:=hid hy.zd.neg;go_enter Tryz.func55,Tryz.ntmps55;go_upto_region 1 with(fail)
 refine au (fun W hW=>?_);have HB0:Hid (Below w.heap.size w W):=by rw[hW];exact aA (aA (af _ _))
 have aO:bK W (w.heap.size) m ao n cap:=by rw[hW];exact((bK.new _ _ _ _ _ _ _ (by simp)).below (af _ _)).below (af _ _)
 have bL:bK W (w.heap.size+1) m bo l cb:=by rw[hW];exact(bK.new _ _ _ _ _ _ _ (by simp)).below (af _ _)
 have bf:bK W (w.heap.size+2) false none 0 0:=by rw[hW];exact bK.new _ _ _ _ _ _ _ (by simp)
 have ax:=hid (Live.bX (hx.below HB0.out) (Live.bX (hy.below HB0.out) (Live.aK aO (Live.aK bL (Live.aK bf (Live.nil W))))));clear hW aO bL bf;have aL:=ax.out.tl.tl.box.c0;have aM:=ax.out.tl.tl.box.c1;have aR:=ax.out.tl.tl.box.f0;have aS:=ax.out.tl.tl.box.f1;have bq:=ax.out.tl.tl.tl.box.c0;have bA:=ax.out.tl.tl.tl.box.c1;have bB:=ax.out.tl.tl.tl.box.f0;have bC:=ax.out.tl.tl.tl.box.f1;have aF:=ax.out.tl.tl.tl.tl.box.c0;have aG:=ax.out.tl.tl.tl.tl.box.c1;have aP:=ax.out.tl.tl.tl.tl.box.f0;have aQ:=ax.out.tl.tl.tl.tl.box.f1;go_wp2_with fail;have qz:=hid (ax.out.below ((Below.refl _ _).drew));have qA:=hid HB0.out.drew;clear aL aM aR aS bq bA bB bC aF aG aP aQ;clear ax HB0;have ax:=hid qz.out;have HB0:=hid qA.out;clear qz qA;have aL:=ax.out.tl.tl.box.c0;have aM:=ax.out.tl.tl.box.c1;have aR:=ax.out.tl.tl.box.f0;have aS:=ax.out.tl.tl.box.f1;have bq:=ax.out.tl.tl.tl.box.c0;have bA:=ax.out.tl.tl.tl.box.c1;have bB:=ax.out.tl.tl.tl.box.f0;have bC:=ax.out.tl.tl.tl.box.f1;have aF:=ax.out.tl.tl.tl.tl.box.c0;have aG:=ax.out.tl.tl.tl.tl.box.c1;have aP:=ax.out.tl.tl.tl.tl.box.f0;have aQ:=ax.out.tl.tl.tl.tl.box.f1;refine wp_region_held_drew (S:=fun w'=>w'.cell? ⟨w.heap.size,0,none⟩=some (.bool m)/\ w'.cell? ⟨w.heap.size,1,none⟩=some (.slice ao n cap)/\ w'.cell? ⟨w.heap.size+1,0,none⟩=some (.bool m)/\ w'.cell? ⟨w.heap.size+1,1,none⟩=some (.slice bo l cb)) (by kernel_rfl) (And.intro ax.out.tl.tl.box.c0 (And.intro ax.out.tl.tl.box.c1 (And.intro ax.out.tl.tl.tl.box.c0 (ax.out.tl.tl.tl.box.c1)))) (fun hHeld=>?_);refine bS 0 rfl (by kernel_rfl) (fun _ _ _ h=>h) (by rfl) hHeld (by intro w hSw;first|(go_simp;done)|(go_simp;with_reducible rfl)) ?_
 try simp only[Act.put,List.setIfInBounds_toArray,List.set_cons_zero,List.set_cons_succ]
 refine bS 1 rfl (by kernel_rfl) (fun _ _ _ h=>h) (by rfl) hHeld (by intro w hSw;first|(go_simp;done)|(go_simp;with_reducible rfl)) ?_
 try simp only[Act.put,List.setIfInBounds_toArray,List.set_cons_zero,List.set_cons_succ]
 refine bS 2 rfl (by kernel_rfl) (fun _ _ _ h=>h) (by rfl) hHeld (by intro w hSw;first|(go_simp;done)|(go_simp;with_reducible rfl)) ?_
 try simp only[Act.put,List.setIfInBounds_toArray,List.set_cons_zero,List.set_cons_succ]
 refine bS 3 rfl (by kernel_rfl) (fun _ _ _ h=>h) (by rfl) hHeld (by intro w hSw;first|(go_simp;done)|(go_simp;with_reducible rfl)) ?_
 try simp only[Act.put,List.setIfInBounds_toArray,List.set_cons_zero,List.set_cons_succ]
 refine bS 4 rfl (by kernel_rfl) (fun _ _ _ h=>h) (by rfl) hHeld (by intro w hSw;first|(go_simp;done)|(go_simp;with_reducible rfl)) ?_
 try simp only[Act.put,List.setIfInBounds_toArray,List.set_cons_zero,List.set_cons_succ]
 refine bS 5 rfl (by kernel_rfl) (fun _ _ _ h=>h) (by rfl) hHeld (by intro w hSw;first|(go_simp;done)|(go_simp;with_reducible rfl)) ?_
 try simp only[Act.put,List.setIfInBounds_toArray,List.set_cons_zero,List.set_cons_succ]
 refine aj 6 rfl (by kernel_rfl) (fun K hK=>?_);go_simp;refine(Dg.rq _ _ _ _ _ _ _ _ _ ax.out.pU.zd.sl ax.out.tl.pU.zd.sl (by omega) (by omega)).mono ?_;rintro e w1 ⟨d0,dn,dc,rfl,hT,hB⟩;rw[Dg.aC,Dg.aC]at hT;have HT:=hid hT.sl;have aT:=hid (ax.out.below hB);have HB1:=hid (Below.steps HB0.out hB);clear aL aM aR aS bq bA bB bC aF aG aP aQ;clear ax HB0 hT hB;have aL:=aT.out.tl.tl.box.c0;have aM:=aT.out.tl.tl.box.c1;have aR:=aT.out.tl.tl.box.f0;have aS:=aT.out.tl.tl.box.f1;have bq:=aT.out.tl.tl.tl.box.c0;have bA:=aT.out.tl.tl.tl.box.c1;have bB:=aT.out.tl.tl.tl.box.f0;have bC:=aT.out.tl.tl.tl.box.f1;have aF:=aT.out.tl.tl.tl.tl.box.c0;have aG:=aT.out.tl.tl.tl.tl.box.c1;have aP:=aT.out.tl.tl.tl.tl.box.f0;have aQ:=aT.out.tl.tl.tl.tl.box.f1;go_wp2_with fail;refine hK.out _ _ (And.intro aT.out.tl.tl.box.c0 (And.intro aT.out.tl.tl.box.c1 (And.intro aT.out.tl.tl.tl.box.c0 (aT.out.tl.tl.tl.box.c1)))) (fun fZ=>?_);clear hK K hHeld;have hHeld:=fZ;clear fZ
 try simp only[Act.put,List.setIfInBounds_toArray,List.set_cons_zero,List.set_cons_succ]
 refine bS 7 rfl (by kernel_rfl) (fun _ _ _ h=>h) (by rfl) hHeld (by intro w hSw;first|(go_simp;done)|(go_simp;with_reducible rfl)) ?_
 try simp only[Act.put,List.setIfInBounds_toArray,List.set_cons_zero,List.set_cons_succ]
 refine aj 8 rfl (by kernel_rfl) (fun K hK=>?_);go_simp;refine hK.out _ _ ((And.intro ((bU (fun e=>by have e2:w.heap.size=w.heap.size+2:=e;omega) _ _).trans aL) (And.intro ((bU (fun e=>by have e2:w.heap.size=w.heap.size+2:=e;omega) _ _).trans aM) (And.intro ((bU (fun e=>by have e2:w.heap.size+1=w.heap.size+2:=e;omega) _ _).trans bq) ((bU (fun e=>by have e2:w.heap.size+1=w.heap.size+2:=e;omega) _ _).trans bA))))) (fun fZ=>?_);clear hK K hHeld
 try simp only[Act.put,List.setIfInBounds_toArray,List.set_cons_zero,List.set_cons_succ]
 refine wpAnyH_done (by kernel_rfl) ?_ _
 go_wp2_with fail
 have HC:Hid (Zd w1 m d0 dn dc (x+y)):=by
  have h1:=HX.out;have h2:=HY.out;have h3:=Yg.out;have h4:=HNY.out;have e:(x+y).natAbs=x.natAbs+y.natAbs:=by cases m<;>simp at h3 h4<;>omega
  exact⟨by cases m<;>simp at h3 h4 ⊢<;>omega,by rw[e];exact HT.out⟩
 refine bodyPost_ret (v:= .agg #[.bool m,.slice d0 dn dc]) (by simp[results,Tryz.results55,go_sem,aF,aG]) rfl ?_;exact⟨_,_,_,_,rfl,HC.out.set2 aT.out.tl.tl.tl.tl.box _ _,bD HB1.out (by omega) _ _⟩
theorem Cc [Ol] {ao bo:Option Addr} {n cap l cb:Nat} {x y:Int} {w:World} (hx:Zx w true ao n cap x) (hy:Zx w false bo l cb y) (hge:y.natAbs<=x.natAbs):
  Calls Tryz.prog 55 #[.agg #[.bool true,.slice ao n cap],.agg #[.bool false,.slice bo l cb]] w (pX w (x+y)):=by
 have hle:=hx.le;have hle2:=hy.le;have HX:Hid (dV true x.natAbs=x):=hx.zd.val;have HY:Hid (dV false y.natAbs=y):=hy.zd.val;obtain⟨c,hc⟩:∃c,c=fO x.natAbs y.natAbs:=⟨_,rfl⟩
 have hc0:decide (c<0)=false:=by
  rw[hc];unfold fO;rw[if_neg (by omega)];split<;>simp
 have HC:=hid hc.symm;have sQ:=hid hge;clear hc hge;go_enter Tryz.func55,Tryz.ntmps55;go_upto_region 1 with(fail)
 refine au (fun W hW=>?_);have HB0:Hid (Below w.heap.size w W):=by rw[hW];exact aA (aA (af _ _))
 have aO:bK W (w.heap.size) true ao n cap:=by rw[hW];exact((bK.new _ _ _ _ _ _ _ (by simp)).below (af _ _)).below (af _ _)
 have bL:bK W (w.heap.size+1) false bo l cb:=by rw[hW];exact(bK.new _ _ _ _ _ _ _ (by simp)).below (af _ _)
 have bf:bK W (w.heap.size+2) false none 0 0:=by rw[hW];exact bK.new _ _ _ _ _ _ _ (by simp)
 have ax:=hid (Live.bX (hx.below HB0.out) (Live.bX (hy.below HB0.out) (Live.aK aO (Live.aK bL (Live.aK bf (Live.nil W))))));clear hW aO bL bf;have aL:=ax.out.tl.tl.box.c0;have aM:=ax.out.tl.tl.box.c1;have aR:=ax.out.tl.tl.box.f0;have aS:=ax.out.tl.tl.box.f1;have bq:=ax.out.tl.tl.tl.box.c0;have bA:=ax.out.tl.tl.tl.box.c1;have bB:=ax.out.tl.tl.tl.box.f0;have bC:=ax.out.tl.tl.tl.box.f1;have aF:=ax.out.tl.tl.tl.tl.box.c0;have aG:=ax.out.tl.tl.tl.tl.box.c1;have aP:=ax.out.tl.tl.tl.tl.box.f0;have aQ:=ax.out.tl.tl.tl.tl.box.f1;go_wp2_with fail;refine(Dg.sH c _ _ _ _ _ _ _ _ _ ax.out.pU.zd.sl ax.out.tl.pU.zd.sl HC).mono ?_;rintro e w1 ⟨rfl,hB⟩;have aT:=hid (ax.out.below hB);have HB1:=hid (Below.steps HB0.out hB);clear aL aM aR aS bq bA bB bC aF aG aP aQ;clear ax HB0 hB;have aL:=aT.out.tl.tl.box.c0;have aM:=aT.out.tl.tl.box.c1;have aR:=aT.out.tl.tl.box.f0;have aS:=aT.out.tl.tl.box.f1;have bq:=aT.out.tl.tl.tl.box.c0;have bA:=aT.out.tl.tl.tl.box.c1;have bB:=aT.out.tl.tl.tl.box.f0;have bC:=aT.out.tl.tl.tl.box.f1;have aF:=aT.out.tl.tl.tl.tl.box.c0;have aG:=aT.out.tl.tl.tl.tl.box.c1;have aP:=aT.out.tl.tl.tl.tl.box.f0;have aQ:=aT.out.tl.tl.tl.tl.box.f1;go_wp2_with fail;refine(Dg.mH _ _ _ _ _ _ _ _ _ aT.out.pU.zd.sl aT.out.tl.pU.zd.sl sQ.out (by omega)).mono ?_;rintro e w2 ⟨d0,dn,dc,rfl,hT,hB⟩;have HT:=hid hT.sl;have hdb:=hT.big;have bI:=hid (aT.out.below hB);have HB2:=hid (Below.steps HB1.out hB);clear aL aM aR aS bq bA bB bC aF aG aP aQ;clear aT HB1 hT hB;have aL:=bI.out.tl.tl.box.c0;have aM:=bI.out.tl.tl.box.c1;have aR:=bI.out.tl.tl.box.f0;have aS:=bI.out.tl.tl.box.f1;have bq:=bI.out.tl.tl.tl.box.c0;have bA:=bI.out.tl.tl.tl.box.c1;have bB:=bI.out.tl.tl.tl.box.f0;have bC:=bI.out.tl.tl.tl.box.f1;have aF:=bI.out.tl.tl.tl.tl.box.c0;have aG:=bI.out.tl.tl.tl.tl.box.c1;have aP:=bI.out.tl.tl.tl.tl.box.f0;have aQ:=bI.out.tl.tl.tl.tl.box.f1;go_wp2_with fail;have HZ:Hid (Zd w2 (decide (0<dn)) d0 dn dc (dV true (x.natAbs-y.natAbs))):=Zd.of HT.out (by simp)
 have HE:Hid (dV true (x.natAbs-y.natAbs)=x+y):=by
  have h1:=HX.out;have h2:=HY.out;have h3:=sQ.out;unfold dV at h1 h2;rw[Hid];unfold dV;simp at h1 h2 ⊢;omega
 refine bodyPost_ret (v:= .agg #[.bool (decide (0<dn)),.slice d0 dn dc]) (by simp[results,Tryz.results55,go_sem,aF,aG]) rfl ?_;exact⟨_,_,_,_,rfl,HE.out▸HZ.out.set2 bI.out.tl.tl.tl.tl.box _ _,bD HB2.out (by omega) _ _⟩
theorem zL [Ol] {ao bo:Option Addr} {n cap l cb:Nat} {x y:Int} {w:World} (hx:Zx w false ao n cap x) (hy:Zx w true bo l cb y) (hge:y.natAbs<=x.natAbs):
  Calls Tryz.prog 55 #[.agg #[.bool false,.slice ao n cap],.agg #[.bool true,.slice bo l cb]] w (pX w (x+y)):=by
 have hle:=hx.le;have hle2:=hy.le;have HX:Hid (dV false x.natAbs=x):=hx.zd.val;have HY:Hid (dV true y.natAbs=y):=hy.zd.val;obtain⟨c,hc⟩:∃c,c=fO x.natAbs y.natAbs:=⟨_,rfl⟩
 have hc0:decide (c<0)=false:=by
  rw[hc];unfold fO;rw[if_neg (by omega)];split<;>simp
 have HC:=hid hc.symm;have sQ:=hid hge;clear hc hge;go_enter Tryz.func55,Tryz.ntmps55;go_upto_region 1 with(fail)
 refine au (fun W hW=>?_);have HB0:Hid (Below w.heap.size w W):=by rw[hW];exact aA (aA (af _ _))
 have aO:bK W (w.heap.size) false ao n cap:=by rw[hW];exact((bK.new _ _ _ _ _ _ _ (by simp)).below (af _ _)).below (af _ _)
 have bL:bK W (w.heap.size+1) true bo l cb:=by rw[hW];exact(bK.new _ _ _ _ _ _ _ (by simp)).below (af _ _)
 have bf:bK W (w.heap.size+2) false none 0 0:=by rw[hW];exact bK.new _ _ _ _ _ _ _ (by simp)
 have ax:=hid (Live.bX (hx.below HB0.out) (Live.bX (hy.below HB0.out) (Live.aK aO (Live.aK bL (Live.aK bf (Live.nil W))))));clear hW aO bL bf;have aL:=ax.out.tl.tl.box.c0;have aM:=ax.out.tl.tl.box.c1;have aR:=ax.out.tl.tl.box.f0;have aS:=ax.out.tl.tl.box.f1;have bq:=ax.out.tl.tl.tl.box.c0;have bA:=ax.out.tl.tl.tl.box.c1;have bB:=ax.out.tl.tl.tl.box.f0;have bC:=ax.out.tl.tl.tl.box.f1;have aF:=ax.out.tl.tl.tl.tl.box.c0;have aG:=ax.out.tl.tl.tl.tl.box.c1;have aP:=ax.out.tl.tl.tl.tl.box.f0;have aQ:=ax.out.tl.tl.tl.tl.box.f1;go_wp2_with fail;refine(Dg.sH c _ _ _ _ _ _ _ _ _ ax.out.pU.zd.sl ax.out.tl.pU.zd.sl HC).mono ?_;rintro e w1 ⟨rfl,hB⟩;have aT:=hid (ax.out.below hB);have HB1:=hid (Below.steps HB0.out hB);clear aL aM aR aS bq bA bB bC aF aG aP aQ;clear ax HB0 hB;have aL:=aT.out.tl.tl.box.c0;have aM:=aT.out.tl.tl.box.c1;have aR:=aT.out.tl.tl.box.f0;have aS:=aT.out.tl.tl.box.f1;have bq:=aT.out.tl.tl.tl.box.c0;have bA:=aT.out.tl.tl.tl.box.c1;have bB:=aT.out.tl.tl.tl.box.f0;have bC:=aT.out.tl.tl.tl.box.f1;have aF:=aT.out.tl.tl.tl.tl.box.c0;have aG:=aT.out.tl.tl.tl.tl.box.c1;have aP:=aT.out.tl.tl.tl.tl.box.f0;have aQ:=aT.out.tl.tl.tl.tl.box.f1;go_wp2_with fail;refine(Dg.mH _ _ _ _ _ _ _ _ _ aT.out.pU.zd.sl aT.out.tl.pU.zd.sl sQ.out (by omega)).mono ?_;rintro e w2 ⟨d0,dn,dc,rfl,hT,hB⟩;have HT:=hid hT.sl;have hdb:=hT.big;have bI:=hid (aT.out.below hB);have HB2:=hid (Below.steps HB1.out hB);clear aL aM aR aS bq bA bB bC aF aG aP aQ;clear aT HB1 hT hB;have aL:=bI.out.tl.tl.box.c0;have aM:=bI.out.tl.tl.box.c1;have aR:=bI.out.tl.tl.box.f0;have aS:=bI.out.tl.tl.box.f1;have bq:=bI.out.tl.tl.tl.box.c0;have bA:=bI.out.tl.tl.tl.box.c1;have bB:=bI.out.tl.tl.tl.box.f0;have bC:=bI.out.tl.tl.tl.box.f1;have aF:=bI.out.tl.tl.tl.tl.box.c0;have aG:=bI.out.tl.tl.tl.tl.box.c1;have aP:=bI.out.tl.tl.tl.tl.box.f0;have aQ:=bI.out.tl.tl.tl.tl.box.f1;go_wp2_with fail;have HZ:Hid (Zd w2 (false) d0 dn dc (dV false (x.natAbs-y.natAbs))):=Zd.of HT.out (by simp)
 have HE:Hid (dV false (x.natAbs-y.natAbs)=x+y):=by
  have h1:=HX.out;have h2:=HY.out;have h3:=sQ.out;unfold dV at h1 h2;rw[Hid];unfold dV;simp at h1 h2 ⊢;omega
 refine bodyPost_ret (v:= .agg #[.bool (false),.slice d0 dn dc]) (by simp[results,Tryz.results55,go_sem,aF,aG]) rfl ?_;exact⟨_,_,_,_,rfl,HE.out▸HZ.out.set2 bI.out.tl.tl.tl.tl.box _ _,bD HB2.out (by omega) _ _⟩
theorem Ce [Ol] {ao bo:Option Addr} {n cap l cb:Nat} {x y:Int} {w:World} (hx:Zx w true ao n cap x) (hy:Zx w false bo l cb y) (hlt:x.natAbs<y.natAbs):
  Calls Tryz.prog 55 #[.agg #[.bool true,.slice ao n cap],.agg #[.bool false,.slice bo l cb]] w (pX w (x+y)):=by
 have hle:=hx.le;have hle2:=hy.le;have HX:Hid (dV true x.natAbs=x):=hx.zd.val;have HY:Hid (dV false y.natAbs=y):=hy.zd.val;have HC:Hid (fO x.natAbs y.natAbs= -1):=by rw[Hid];unfold fO;rw[if_pos (by omega)]
 have sQ:Hid (x.natAbs<=y.natAbs):=by rw[Hid];omega
 clear hlt;go_enter Tryz.func55,Tryz.ntmps55;go_upto_region 1 with(fail)
 refine au (fun W hW=>?_);have HB0:Hid (Below w.heap.size w W):=by rw[hW];exact aA (aA (af _ _))
 have aO:bK W (w.heap.size) true ao n cap:=by rw[hW];exact((bK.new _ _ _ _ _ _ _ (by simp)).below (af _ _)).below (af _ _)
 have bL:bK W (w.heap.size+1) false bo l cb:=by rw[hW];exact(bK.new _ _ _ _ _ _ _ (by simp)).below (af _ _)
 have bf:bK W (w.heap.size+2) false none 0 0:=by rw[hW];exact bK.new _ _ _ _ _ _ _ (by simp)
 have ax:=hid (Live.bX (hx.below HB0.out) (Live.bX (hy.below HB0.out) (Live.aK aO (Live.aK bL (Live.aK bf (Live.nil W))))));clear hW aO bL bf;have aL:=ax.out.tl.tl.box.c0;have aM:=ax.out.tl.tl.box.c1;have aR:=ax.out.tl.tl.box.f0;have aS:=ax.out.tl.tl.box.f1;have bq:=ax.out.tl.tl.tl.box.c0;have bA:=ax.out.tl.tl.tl.box.c1;have bB:=ax.out.tl.tl.tl.box.f0;have bC:=ax.out.tl.tl.tl.box.f1;have aF:=ax.out.tl.tl.tl.tl.box.c0;have aG:=ax.out.tl.tl.tl.tl.box.c1;have aP:=ax.out.tl.tl.tl.tl.box.f0;have aQ:=ax.out.tl.tl.tl.tl.box.f1;go_wp2_with fail;refine(Dg.sH (-1) _ _ _ _ _ _ _ _ _ ax.out.pU.zd.sl ax.out.tl.pU.zd.sl HC).mono ?_;rintro e w1 ⟨rfl,hB⟩;have aT:=hid (ax.out.below hB);have HB1:=hid (Below.steps HB0.out hB);clear aL aM aR aS bq bA bB bC aF aG aP aQ;clear ax HB0 hB;have aL:=aT.out.tl.tl.box.c0;have aM:=aT.out.tl.tl.box.c1;have aR:=aT.out.tl.tl.box.f0;have aS:=aT.out.tl.tl.box.f1;have bq:=aT.out.tl.tl.tl.box.c0;have bA:=aT.out.tl.tl.tl.box.c1;have bB:=aT.out.tl.tl.tl.box.f0;have bC:=aT.out.tl.tl.tl.box.f1;have aF:=aT.out.tl.tl.tl.tl.box.c0;have aG:=aT.out.tl.tl.tl.tl.box.c1;have aP:=aT.out.tl.tl.tl.tl.box.f0;have aQ:=aT.out.tl.tl.tl.tl.box.f1;go_upto_region 5 with(fail)
 refine au (fun W2 hW2=>?_);have hX2:bK W2 (w.heap.size) false bo l cb:=by rw[hW2];exact(aT.out.tl.tl.box.set _ _ _ _).far (by omega) _ _
 have hY2:bK W2 (w.heap.size+1) true ao n cap:=by rw[hW2];exact(aT.out.tl.tl.tl.box.far (by omega) _ _).set _ _ _ _
 have hR2:bK W2 (w.heap.size+2) false none 0 0:=by rw[hW2];exact(aT.out.tl.tl.tl.tl.box.far (by omega) _ _).far (by omega) _ _
 have D9:Zx W2 true ao n cap x:=by rw[hW2];exact⟨(aT.out.pU.zd.set2 aT.out.tl.tl.box _ _).set2 (aT.out.tl.tl.tl.box.far (by omega) _ _) _ _,hle⟩
 have Ea:Zx W2 false bo l cb y:=by rw[hW2];exact⟨(aT.out.tl.pU.zd.set2 aT.out.tl.tl.box _ _).set2 (aT.out.tl.tl.tl.box.far (by omega) _ _) _ _,hle2⟩
 have HB2:Hid (Below w.heap.size w W2):=by rw[hW2];exact bD (bD HB1.out (by omega) _ _) (by omega) _ _
 have bI:=hid (Live.bX D9 (Live.bX Ea (Live.aK hX2 (Live.aK hY2 (Live.aK hR2 (Live.nil W2))))));clear aL aM aR aS bq bA bB bC aF aG aP aQ;clear hW2 hX2 hY2 hR2 D9 Ea aT HB1;have aL:=bI.out.tl.tl.box.c0;have aM:=bI.out.tl.tl.box.c1;have aR:=bI.out.tl.tl.box.f0;have aS:=bI.out.tl.tl.box.f1;have bq:=bI.out.tl.tl.tl.box.c0;have bA:=bI.out.tl.tl.tl.box.c1;have bB:=bI.out.tl.tl.tl.box.f0;have bC:=bI.out.tl.tl.tl.box.f1;have aF:=bI.out.tl.tl.tl.tl.box.c0;have aG:=bI.out.tl.tl.tl.tl.box.c1;have aP:=bI.out.tl.tl.tl.tl.box.f0;have aQ:=bI.out.tl.tl.tl.tl.box.f1;go_wp2_with fail;refine(Dg.mH _ _ _ _ _ _ _ _ _ bI.out.tl.pU.zd.sl bI.out.pU.zd.sl sQ.out (by omega)).mono ?_;rintro e w3 ⟨d0,dn,dc,rfl,hT,hB⟩;have HT:=hid hT.sl;have hdb:=hT.big;have cO:=hid (bI.out.below hB);have HB3:=hid (Below.steps HB2.out hB);clear aL aM aR aS bq bA bB bC aF aG aP aQ;clear bI HB2 hT hB;have aL:=cO.out.tl.tl.box.c0;have aM:=cO.out.tl.tl.box.c1;have aR:=cO.out.tl.tl.box.f0;have aS:=cO.out.tl.tl.box.f1;have bq:=cO.out.tl.tl.tl.box.c0;have bA:=cO.out.tl.tl.tl.box.c1;have bB:=cO.out.tl.tl.tl.box.f0;have bC:=cO.out.tl.tl.tl.box.f1;have aF:=cO.out.tl.tl.tl.tl.box.c0;have aG:=cO.out.tl.tl.tl.tl.box.c1;have aP:=cO.out.tl.tl.tl.tl.box.f0;have aQ:=cO.out.tl.tl.tl.tl.box.f1;go_wp2_with fail;have HZ:Hid (Zd w3 (false) d0 dn dc (dV false (y.natAbs-x.natAbs))):=Zd.of HT.out (by simp)
 have HE:Hid (dV false (y.natAbs-x.natAbs)=x+y):=by
  have h1:=HX.out;have h2:=HY.out;have h3:=sQ.out;unfold dV at h1 h2;rw[Hid];unfold dV;simp at h1 h2 ⊢;omega
 refine bodyPost_ret (v:= .agg #[.bool (false),.slice d0 dn dc]) (by simp[results,Tryz.results55,go_sem,aF,aG]) rfl ?_;exact⟨_,_,_,_,rfl,HE.out▸HZ.out.set2 cO.out.tl.tl.tl.tl.box _ _,bD HB3.out (by omega) _ _⟩
theorem zM [Ol] {ao bo:Option Addr} {n cap l cb:Nat} {x y:Int} {w:World} (hx:Zx w false ao n cap x) (hy:Zx w true bo l cb y) (hlt:x.natAbs<y.natAbs):
  Calls Tryz.prog 55 #[.agg #[.bool false,.slice ao n cap],.agg #[.bool true,.slice bo l cb]] w (pX w (x+y)):=by
 have hle:=hx.le;have hle2:=hy.le;have HX:Hid (dV false x.natAbs=x):=hx.zd.val;have HY:Hid (dV true y.natAbs=y):=hy.zd.val;have HC:Hid (fO x.natAbs y.natAbs= -1):=by rw[Hid];unfold fO;rw[if_pos (by omega)]
 have sQ:Hid (x.natAbs<=y.natAbs):=by rw[Hid];omega
 clear hlt;go_enter Tryz.func55,Tryz.ntmps55;go_upto_region 1 with(fail)
 refine au (fun W hW=>?_);have HB0:Hid (Below w.heap.size w W):=by rw[hW];exact aA (aA (af _ _))
 have aO:bK W (w.heap.size) false ao n cap:=by rw[hW];exact((bK.new _ _ _ _ _ _ _ (by simp)).below (af _ _)).below (af _ _)
 have bL:bK W (w.heap.size+1) true bo l cb:=by rw[hW];exact(bK.new _ _ _ _ _ _ _ (by simp)).below (af _ _)
 have bf:bK W (w.heap.size+2) false none 0 0:=by rw[hW];exact bK.new _ _ _ _ _ _ _ (by simp)
 have ax:=hid (Live.bX (hx.below HB0.out) (Live.bX (hy.below HB0.out) (Live.aK aO (Live.aK bL (Live.aK bf (Live.nil W))))));clear hW aO bL bf;have aL:=ax.out.tl.tl.box.c0;have aM:=ax.out.tl.tl.box.c1;have aR:=ax.out.tl.tl.box.f0;have aS:=ax.out.tl.tl.box.f1;have bq:=ax.out.tl.tl.tl.box.c0;have bA:=ax.out.tl.tl.tl.box.c1;have bB:=ax.out.tl.tl.tl.box.f0;have bC:=ax.out.tl.tl.tl.box.f1;have aF:=ax.out.tl.tl.tl.tl.box.c0;have aG:=ax.out.tl.tl.tl.tl.box.c1;have aP:=ax.out.tl.tl.tl.tl.box.f0;have aQ:=ax.out.tl.tl.tl.tl.box.f1;go_wp2_with fail;refine(Dg.sH (-1) _ _ _ _ _ _ _ _ _ ax.out.pU.zd.sl ax.out.tl.pU.zd.sl HC).mono ?_;rintro e w1 ⟨rfl,hB⟩;have aT:=hid (ax.out.below hB);have HB1:=hid (Below.steps HB0.out hB);clear aL aM aR aS bq bA bB bC aF aG aP aQ;clear ax HB0 hB;have aL:=aT.out.tl.tl.box.c0;have aM:=aT.out.tl.tl.box.c1;have aR:=aT.out.tl.tl.box.f0;have aS:=aT.out.tl.tl.box.f1;have bq:=aT.out.tl.tl.tl.box.c0;have bA:=aT.out.tl.tl.tl.box.c1;have bB:=aT.out.tl.tl.tl.box.f0;have bC:=aT.out.tl.tl.tl.box.f1;have aF:=aT.out.tl.tl.tl.tl.box.c0;have aG:=aT.out.tl.tl.tl.tl.box.c1;have aP:=aT.out.tl.tl.tl.tl.box.f0;have aQ:=aT.out.tl.tl.tl.tl.box.f1;go_upto_region 5 with(fail)
 refine au (fun W2 hW2=>?_);have hX2:bK W2 (w.heap.size) true bo l cb:=by rw[hW2];exact(aT.out.tl.tl.box.set _ _ _ _).far (by omega) _ _
 have hY2:bK W2 (w.heap.size+1) false ao n cap:=by rw[hW2];exact(aT.out.tl.tl.tl.box.far (by omega) _ _).set _ _ _ _
 have hR2:bK W2 (w.heap.size+2) false none 0 0:=by rw[hW2];exact(aT.out.tl.tl.tl.tl.box.far (by omega) _ _).far (by omega) _ _
 have D9:Zx W2 false ao n cap x:=by rw[hW2];exact⟨(aT.out.pU.zd.set2 aT.out.tl.tl.box _ _).set2 (aT.out.tl.tl.tl.box.far (by omega) _ _) _ _,hle⟩
 have Ea:Zx W2 true bo l cb y:=by rw[hW2];exact⟨(aT.out.tl.pU.zd.set2 aT.out.tl.tl.box _ _).set2 (aT.out.tl.tl.tl.box.far (by omega) _ _) _ _,hle2⟩
 have HB2:Hid (Below w.heap.size w W2):=by rw[hW2];exact bD (bD HB1.out (by omega) _ _) (by omega) _ _
 have bI:=hid (Live.bX D9 (Live.bX Ea (Live.aK hX2 (Live.aK hY2 (Live.aK hR2 (Live.nil W2))))));clear aL aM aR aS bq bA bB bC aF aG aP aQ;clear hW2 hX2 hY2 hR2 D9 Ea aT HB1;have aL:=bI.out.tl.tl.box.c0;have aM:=bI.out.tl.tl.box.c1;have aR:=bI.out.tl.tl.box.f0;have aS:=bI.out.tl.tl.box.f1;have bq:=bI.out.tl.tl.tl.box.c0;have bA:=bI.out.tl.tl.tl.box.c1;have bB:=bI.out.tl.tl.tl.box.f0;have bC:=bI.out.tl.tl.tl.box.f1;have aF:=bI.out.tl.tl.tl.tl.box.c0;have aG:=bI.out.tl.tl.tl.tl.box.c1;have aP:=bI.out.tl.tl.tl.tl.box.f0;have aQ:=bI.out.tl.tl.tl.tl.box.f1;go_wp2_with fail;refine(Dg.mH _ _ _ _ _ _ _ _ _ bI.out.tl.pU.zd.sl bI.out.pU.zd.sl sQ.out (by omega)).mono ?_;rintro e w3 ⟨d0,dn,dc,rfl,hT,hB⟩;have HT:=hid hT.sl;have hdb:=hT.big;have cO:=hid (bI.out.below hB);have HB3:=hid (Below.steps HB2.out hB);clear aL aM aR aS bq bA bB bC aF aG aP aQ;clear bI HB2 hT hB;have aL:=cO.out.tl.tl.box.c0;have aM:=cO.out.tl.tl.box.c1;have aR:=cO.out.tl.tl.box.f0;have aS:=cO.out.tl.tl.box.f1;have bq:=cO.out.tl.tl.tl.box.c0;have bA:=cO.out.tl.tl.tl.box.c1;have bB:=cO.out.tl.tl.tl.box.f0;have bC:=cO.out.tl.tl.tl.box.f1;have aF:=cO.out.tl.tl.tl.tl.box.c0;have aG:=cO.out.tl.tl.tl.tl.box.c1;have aP:=cO.out.tl.tl.tl.tl.box.f0;have aQ:=cO.out.tl.tl.tl.tl.box.f1;go_wp2_with fail;have HZ:Hid (Zd w3 (decide (0<dn)) d0 dn dc (dV true (y.natAbs-x.natAbs))):=Zd.of HT.out (by simp)
 have HE:Hid (dV true (y.natAbs-x.natAbs)=x+y):=by
  have h1:=HX.out;have h2:=HY.out;have h3:=sQ.out;unfold dV at h1 h2;rw[Hid];unfold dV;simp at h1 h2 ⊢;omega
 refine bodyPost_ret (v:= .agg #[.bool (decide (0<dn)),.slice d0 dn dc]) (by simp[results,Tryz.results55,go_sem,aF,aG]) rfl ?_;exact⟨_,_,_,_,rfl,HE.out▸HZ.out.set2 cO.out.tl.tl.tl.tl.box _ _,bD HB3.out (by omega) _ _⟩
theorem NS [Ol] {m k:Bool} {ao bo:Option Addr} {n cap l cb:Nat} {x y:Int} {w:World} (hx:Zx w m ao n cap x) (hy:Zx w k bo l cb y):
  Calls Tryz.prog 55 #[.agg #[.bool m,.slice ao n cap],.agg #[.bool k,.slice bo l cb]] w (pX w (x+y)):=by
 by_cases hmk:k=m
 ·subst hmk;exact KM hx hy
 ·by_cases h:y.natAbs<=x.natAbs
  ·cases m<;>cases k
   ·exact absurd rfl hmk
   ·exact zL hx hy h
   ·exact Cc hx hy h
   ·exact absurd rfl hmk
  ·cases m<;>cases k
   ·exact absurd rfl hmk
   ·exact zM hx hy (by omega)
   ·exact Ce hx hy (by omega)
   ·exact absurd rfl hmk
end Go.Proofs.YthdhjckangekoaaGreat
