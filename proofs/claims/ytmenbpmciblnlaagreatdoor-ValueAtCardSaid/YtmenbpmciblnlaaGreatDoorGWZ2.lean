/- WZAdd, WZDiv -/
import Derived.Test.YtmenbpmciblnlaaGreatDoorGWZ
import Derived.Test.YtmenbpmciblnlaaGreatDoorGWD
set_option maxHeartbeats 0
set_option maxRecDepth 100000
open And renaming intro->a0a
open Go.Act renaming put->a0b
open Go.Value renaming slice->a0c
open List renaming setIfInBounds_toArray->a0d,set_cons_succ->a0f,set_cons_zero->a0e
namespace Go.Proofs.YtmenbpmciblnlaaGreatDoor
open Lib (hid)
open Go.RowKit
theorem Nw [Ol] {m:Bool} {ao bo:Option Addr} {n cap l cb:Nat} {x y:Int} {w:World} (hx:Zx w m ao n cap x) (hy:Zx w m bo l cb y):
  Calls Tryz.prog 97 #[.agg #[.bool m,a0c ao n cap],.agg #[.bool m,a0c bo l cb]] w (qB w (x+y)):=by
 have hle:=hx.le;have hle2:=hy.le;have HX:Hid (dK m x.natAbs=x):=hx.zd.val;have HY:Hid (dK m y.natAbs=y):=hy.zd.val;have WW:=hid hx.zd.neg;have HNY:=hid hy.zd.neg;go_enter Tryz.func97,Tryz.ntmps97;go_upto_region 1 with(fail)
 refine aj (λW hW=>?_);have HB0:Hid (Below w.heap.size w W):=by rw[hW];exact aN (aN (af _ _))
 have aM:bR W (w.heap.size) m ao n cap:=by rw[hW];exact((bR.new _ _ _ _ _ _ _ (by simp)).below (af _ _)).below (af _ _)
 have bO:bR W (w.heap.size+1) m bo l cb:=by rw[hW];exact(bR.new _ _ _ _ _ _ _ (by simp)).below (af _ _)
 have aP:bR W (w.heap.size+2) false none 0 0:=by rw[hW];exact bR.new _ _ _ _ _ _ _ (by simp)
 have av:=hid (Live.bZ (hx.below HB0.out) (Live.bZ (hy.below HB0.out) (Live.aD aM (Live.aD bO (Live.aD aP (Live.nil W))))));clear hW aM bO aP;have aB:=av.out.tl.tl.box.c0;have aC:=av.out.tl.tl.box.c1;have aH:=av.out.tl.tl.box.f0;have aI:=av.out.tl.tl.box.f1;have aX:=av.out.tl.tl.tl.box.c0;have aY:=av.out.tl.tl.tl.box.c1;have bf:=av.out.tl.tl.tl.box.f0;have bg:=av.out.tl.tl.tl.box.f1;have ay:=av.out.tl.tl.tl.tl.box.c0;have aA:=av.out.tl.tl.tl.tl.box.c1;have aF:=av.out.tl.tl.tl.tl.box.f0;have aG:=av.out.tl.tl.tl.tl.box.f1;go_wp2_with fail;have jR:=hid (av.out.below ((Below.refl _ _).drew));have jS:=hid HB0.out.drew;clear aB aC aH aI aX aY bf bg ay aA aF aG;clear av HB0;have av:=hid jR.out;have HB0:=hid jS.out;clear jR jS;have aB:=av.out.tl.tl.box.c0;have aC:=av.out.tl.tl.box.c1;have aH:=av.out.tl.tl.box.f0;have aI:=av.out.tl.tl.box.f1;have aX:=av.out.tl.tl.tl.box.c0;have aY:=av.out.tl.tl.tl.box.c1;have bf:=av.out.tl.tl.tl.box.f0;have bg:=av.out.tl.tl.tl.box.f1;have ay:=av.out.tl.tl.tl.tl.box.c0;have aA:=av.out.tl.tl.tl.tl.box.c1;have aF:=av.out.tl.tl.tl.tl.box.f0;have aG:=av.out.tl.tl.tl.tl.box.f1;refine wp_region_held_drew (S:=λw'=>w'.cell? ⟨w.heap.size,0,none⟩=some (.bool m)/\ w'.cell? ⟨w.heap.size,1,none⟩=some (a0c ao n cap)/\ w'.cell? ⟨w.heap.size+1,0,none⟩=some (.bool m)/\ w'.cell? ⟨w.heap.size+1,1,none⟩=some (a0c bo l cb)) (by kernel_rfl) (a0a av.out.tl.tl.box.c0 (a0a av.out.tl.tl.box.c1 (a0a av.out.tl.tl.tl.box.c0 (av.out.tl.tl.tl.box.c1)))) (λhHeld=>?_);refine cO 0 rfl (by kernel_rfl) (λ_ _ _ h=>h) (by rfl) hHeld (by intro w hSw;first|(go_simp;done)|(go_simp;with_reducible rfl)) ?_
 try simp only[a0b,a0d,a0e,a0f]
 refine cO 1 rfl (by kernel_rfl) (λ_ _ _ h=>h) (by rfl) hHeld (by intro w hSw;first|(go_simp;done)|(go_simp;with_reducible rfl)) ?_
 try simp only[a0b,a0d,a0e,a0f]
 refine cO 2 rfl (by kernel_rfl) (λ_ _ _ h=>h) (by rfl) hHeld (by intro w hSw;first|(go_simp;done)|(go_simp;with_reducible rfl)) ?_
 try simp only[a0b,a0d,a0e,a0f]
 refine cO 3 rfl (by kernel_rfl) (λ_ _ _ h=>h) (by rfl) hHeld (by intro w hSw;first|(go_simp;done)|(go_simp;with_reducible rfl)) ?_
 try simp only[a0b,a0d,a0e,a0f]
 refine cO 4 rfl (by kernel_rfl) (λ_ _ _ h=>h) (by rfl) hHeld (by intro w hSw;first|(go_simp;done)|(go_simp;with_reducible rfl)) ?_
 try simp only[a0b,a0d,a0e,a0f]
 refine cO 5 rfl (by kernel_rfl) (λ_ _ _ h=>h) (by rfl) hHeld (by intro w hSw;first|(go_simp;done)|(go_simp;with_reducible rfl)) ?_
 try simp only[a0b,a0d,a0e,a0f]
 refine ah 6 rfl (by kernel_rfl) (λK hK=>?_);go_simp;refine(Dg.tK _ _ _ _ _ _ _ _ _ av.out.mQ.zd.sl av.out.tl.mQ.zd.sl (by omega) (by omega)).mono ?_;rintro e w1 ⟨d0,dn,dc,rfl,hT,hB⟩;rw[Dg.au,Dg.au]at hT;have HT:=hid hT.sl;have aL:=hid (av.out.below hB);have HB1:=hid (Below.steps HB0.out hB);clear aB aC aH aI aX aY bf bg ay aA aF aG;clear av HB0 hT hB;have aB:=aL.out.tl.tl.box.c0;have aC:=aL.out.tl.tl.box.c1;have aH:=aL.out.tl.tl.box.f0;have aI:=aL.out.tl.tl.box.f1;have aX:=aL.out.tl.tl.tl.box.c0;have aY:=aL.out.tl.tl.tl.box.c1;have bf:=aL.out.tl.tl.tl.box.f0;have bg:=aL.out.tl.tl.tl.box.f1;have ay:=aL.out.tl.tl.tl.tl.box.c0;have aA:=aL.out.tl.tl.tl.tl.box.c1;have aF:=aL.out.tl.tl.tl.tl.box.f0;have aG:=aL.out.tl.tl.tl.tl.box.f1;go_wp2_with fail;refine hK.out _ _ (a0a aL.out.tl.tl.box.c0 (a0a aL.out.tl.tl.box.c1 (a0a aL.out.tl.tl.tl.box.c0 (aL.out.tl.tl.tl.box.c1)))) (λiK=>?_);clear hK K hHeld;have hHeld:=iK;clear iK
 try simp only[a0b,a0d,a0e,a0f]
 refine cO 7 rfl (by kernel_rfl) (λ_ _ _ h=>h) (by rfl) hHeld (by intro w hSw;first|(go_simp;done)|(go_simp;with_reducible rfl)) ?_
 try simp only[a0b,a0d,a0e,a0f]
 refine ah 8 rfl (by kernel_rfl) (λK hK=>?_);go_simp;refine hK.out _ _ ((a0a ((bT (λe=>by have e2:w.heap.size=w.heap.size+2:=e;omega) _ _).trans aB) (a0a ((bT (λe=>by have e2:w.heap.size=w.heap.size+2:=e;omega) _ _).trans aC) (a0a ((bT (λe=>by have e2:w.heap.size+1=w.heap.size+2:=e;omega) _ _).trans aX) ((bT (λe=>by have e2:w.heap.size+1=w.heap.size+2:=e;omega) _ _).trans aY))))) (λiK=>?_);clear hK K hHeld
 try simp only[a0b,a0d,a0e,a0f]
 refine wpAnyH_done (by kernel_rfl) ?_ _
 go_wp2_with fail
 have HC:Hid (Zd w1 m d0 dn dc (x+y)):=by
  have h1:=HX.out;have h2:=HY.out;have h3:=WW.out;have h4:=HNY.out;have e:(x+y).natAbs=x.natAbs+y.natAbs:=by cases m<;>simp at h3 h4<;>omega
  exact⟨by cases m<;>simp at h3 h4 ⊢<;>omega,by rw[e];exact HT.out⟩
 refine bodyPost_ret (v:= .agg #[.bool m,a0c d0 dn dc]) (by simp[results,Tryz.results97,go_sem,ay,aA]) rfl ?_;exact⟨_,_,_,_,rfl,HC.out.set2 aL.out.tl.tl.tl.tl.box _ _,aW HB1.out (by omega) _ _⟩
theorem EX [Ol] {ao bo:Option Addr} {n cap l cb:Nat} {x y:Int} {w:World} (hx:Zx w true ao n cap x) (hy:Zx w false bo l cb y) (hge:y.natAbs<=x.natAbs):
  Calls Tryz.prog 97 #[.agg #[.bool true,a0c ao n cap],.agg #[.bool false,a0c bo l cb]] w (qB w (x+y)):=by
 have hle:=hx.le;have hle2:=hy.le;have HX:Hid (dK true x.natAbs=x):=hx.zd.val;have HY:Hid (dK false y.natAbs=y):=hy.zd.val;obtain⟨c,hc⟩:∃c,c=gG x.natAbs y.natAbs:=⟨_,rfl⟩
 have hc0:decide (c<0)=false:=by
  rw[hc];unfold gG;rw[if_neg (by omega)];split<;>simp
 have HC:=hid hc.symm;have ze:=hid hge;clear hc hge;go_enter Tryz.func97,Tryz.ntmps97;go_upto_region 1 with(fail)
 refine aj (λW hW=>?_);have HB0:Hid (Below w.heap.size w W):=by rw[hW];exact aN (aN (af _ _))
 have aM:bR W (w.heap.size) true ao n cap:=by rw[hW];exact((bR.new _ _ _ _ _ _ _ (by simp)).below (af _ _)).below (af _ _)
 have bO:bR W (w.heap.size+1) false bo l cb:=by rw[hW];exact(bR.new _ _ _ _ _ _ _ (by simp)).below (af _ _)
 have aP:bR W (w.heap.size+2) false none 0 0:=by rw[hW];exact bR.new _ _ _ _ _ _ _ (by simp)
 have av:=hid (Live.bZ (hx.below HB0.out) (Live.bZ (hy.below HB0.out) (Live.aD aM (Live.aD bO (Live.aD aP (Live.nil W))))));clear hW aM bO aP;have aB:=av.out.tl.tl.box.c0;have aC:=av.out.tl.tl.box.c1;have aH:=av.out.tl.tl.box.f0;have aI:=av.out.tl.tl.box.f1;have aX:=av.out.tl.tl.tl.box.c0;have aY:=av.out.tl.tl.tl.box.c1;have bf:=av.out.tl.tl.tl.box.f0;have bg:=av.out.tl.tl.tl.box.f1;have ay:=av.out.tl.tl.tl.tl.box.c0;have aA:=av.out.tl.tl.tl.tl.box.c1;have aF:=av.out.tl.tl.tl.tl.box.f0;have aG:=av.out.tl.tl.tl.tl.box.f1;go_wp2_with fail;refine(Dg.qC c _ _ _ _ _ _ _ _ _ av.out.mQ.zd.sl av.out.tl.mQ.zd.sl HC).mono ?_;rintro e w1 ⟨rfl,hB⟩;have aL:=hid (av.out.below hB);have HB1:=hid (Below.steps HB0.out hB);clear aB aC aH aI aX aY bf bg ay aA aF aG;clear av HB0 hB;have aB:=aL.out.tl.tl.box.c0;have aC:=aL.out.tl.tl.box.c1;have aH:=aL.out.tl.tl.box.f0;have aI:=aL.out.tl.tl.box.f1;have aX:=aL.out.tl.tl.tl.box.c0;have aY:=aL.out.tl.tl.tl.box.c1;have bf:=aL.out.tl.tl.tl.box.f0;have bg:=aL.out.tl.tl.tl.box.f1;have ay:=aL.out.tl.tl.tl.tl.box.c0;have aA:=aL.out.tl.tl.tl.tl.box.c1;have aF:=aL.out.tl.tl.tl.tl.box.f0;have aG:=aL.out.tl.tl.tl.tl.box.f1;go_wp2_with fail;refine(Dg.mD _ _ _ _ _ _ _ _ _ aL.out.mQ.zd.sl aL.out.tl.mQ.zd.sl ze.out (by omega)).mono ?_;rintro e w2 ⟨d0,dn,dc,rfl,hT,hB⟩;have HT:=hid hT.sl;have hdb:=hT.big;have bL:=hid (aL.out.below hB);have HB2:=hid (Below.steps HB1.out hB);clear aB aC aH aI aX aY bf bg ay aA aF aG;clear aL HB1 hT hB;have aB:=bL.out.tl.tl.box.c0;have aC:=bL.out.tl.tl.box.c1;have aH:=bL.out.tl.tl.box.f0;have aI:=bL.out.tl.tl.box.f1;have aX:=bL.out.tl.tl.tl.box.c0;have aY:=bL.out.tl.tl.tl.box.c1;have bf:=bL.out.tl.tl.tl.box.f0;have bg:=bL.out.tl.tl.tl.box.f1;have ay:=bL.out.tl.tl.tl.tl.box.c0;have aA:=bL.out.tl.tl.tl.tl.box.c1;have aF:=bL.out.tl.tl.tl.tl.box.f0;have aG:=bL.out.tl.tl.tl.tl.box.f1;go_wp2_with fail;have HZ:Hid (Zd w2 (decide (0<dn)) d0 dn dc (dK true (x.natAbs-y.natAbs))):=Zd.of HT.out (by simp)
 have HE:Hid (dK true (x.natAbs-y.natAbs)=x+y):=by
  have h1:=HX.out;have h2:=HY.out;have h3:=ze.out;unfold dK at h1 h2;rw[Hid];unfold dK;simp at h1 h2 ⊢;omega
 refine bodyPost_ret (v:= .agg #[.bool (decide (0<dn)),a0c d0 dn dc]) (by simp[results,Tryz.results97,go_sem,ay,aA]) rfl ?_;exact⟨_,_,_,_,rfl,HE.out▸HZ.out.set2 bL.out.tl.tl.tl.tl.box _ _,aW HB2.out (by omega) _ _⟩
theorem Cu [Ol] {ao bo:Option Addr} {n cap l cb:Nat} {x y:Int} {w:World} (hx:Zx w false ao n cap x) (hy:Zx w true bo l cb y) (hge:y.natAbs<=x.natAbs):
  Calls Tryz.prog 97 #[.agg #[.bool false,a0c ao n cap],.agg #[.bool true,a0c bo l cb]] w (qB w (x+y)):=by
 have hle:=hx.le;have hle2:=hy.le;have HX:Hid (dK false x.natAbs=x):=hx.zd.val;have HY:Hid (dK true y.natAbs=y):=hy.zd.val;obtain⟨c,hc⟩:∃c,c=gG x.natAbs y.natAbs:=⟨_,rfl⟩
 have hc0:decide (c<0)=false:=by
  rw[hc];unfold gG;rw[if_neg (by omega)];split<;>simp
 have HC:=hid hc.symm;have ze:=hid hge;clear hc hge;go_enter Tryz.func97,Tryz.ntmps97;go_upto_region 1 with(fail)
 refine aj (λW hW=>?_);have HB0:Hid (Below w.heap.size w W):=by rw[hW];exact aN (aN (af _ _))
 have aM:bR W (w.heap.size) false ao n cap:=by rw[hW];exact((bR.new _ _ _ _ _ _ _ (by simp)).below (af _ _)).below (af _ _)
 have bO:bR W (w.heap.size+1) true bo l cb:=by rw[hW];exact(bR.new _ _ _ _ _ _ _ (by simp)).below (af _ _)
 have aP:bR W (w.heap.size+2) false none 0 0:=by rw[hW];exact bR.new _ _ _ _ _ _ _ (by simp)
 have av:=hid (Live.bZ (hx.below HB0.out) (Live.bZ (hy.below HB0.out) (Live.aD aM (Live.aD bO (Live.aD aP (Live.nil W))))));clear hW aM bO aP;have aB:=av.out.tl.tl.box.c0;have aC:=av.out.tl.tl.box.c1;have aH:=av.out.tl.tl.box.f0;have aI:=av.out.tl.tl.box.f1;have aX:=av.out.tl.tl.tl.box.c0;have aY:=av.out.tl.tl.tl.box.c1;have bf:=av.out.tl.tl.tl.box.f0;have bg:=av.out.tl.tl.tl.box.f1;have ay:=av.out.tl.tl.tl.tl.box.c0;have aA:=av.out.tl.tl.tl.tl.box.c1;have aF:=av.out.tl.tl.tl.tl.box.f0;have aG:=av.out.tl.tl.tl.tl.box.f1;go_wp2_with fail;refine(Dg.qC c _ _ _ _ _ _ _ _ _ av.out.mQ.zd.sl av.out.tl.mQ.zd.sl HC).mono ?_;rintro e w1 ⟨rfl,hB⟩;have aL:=hid (av.out.below hB);have HB1:=hid (Below.steps HB0.out hB);clear aB aC aH aI aX aY bf bg ay aA aF aG;clear av HB0 hB;have aB:=aL.out.tl.tl.box.c0;have aC:=aL.out.tl.tl.box.c1;have aH:=aL.out.tl.tl.box.f0;have aI:=aL.out.tl.tl.box.f1;have aX:=aL.out.tl.tl.tl.box.c0;have aY:=aL.out.tl.tl.tl.box.c1;have bf:=aL.out.tl.tl.tl.box.f0;have bg:=aL.out.tl.tl.tl.box.f1;have ay:=aL.out.tl.tl.tl.tl.box.c0;have aA:=aL.out.tl.tl.tl.tl.box.c1;have aF:=aL.out.tl.tl.tl.tl.box.f0;have aG:=aL.out.tl.tl.tl.tl.box.f1;go_wp2_with fail;refine(Dg.mD _ _ _ _ _ _ _ _ _ aL.out.mQ.zd.sl aL.out.tl.mQ.zd.sl ze.out (by omega)).mono ?_;rintro e w2 ⟨d0,dn,dc,rfl,hT,hB⟩;have HT:=hid hT.sl;have hdb:=hT.big;have bL:=hid (aL.out.below hB);have HB2:=hid (Below.steps HB1.out hB);clear aB aC aH aI aX aY bf bg ay aA aF aG;clear aL HB1 hT hB;have aB:=bL.out.tl.tl.box.c0;have aC:=bL.out.tl.tl.box.c1;have aH:=bL.out.tl.tl.box.f0;have aI:=bL.out.tl.tl.box.f1;have aX:=bL.out.tl.tl.tl.box.c0;have aY:=bL.out.tl.tl.tl.box.c1;have bf:=bL.out.tl.tl.tl.box.f0;have bg:=bL.out.tl.tl.tl.box.f1;have ay:=bL.out.tl.tl.tl.tl.box.c0;have aA:=bL.out.tl.tl.tl.tl.box.c1;have aF:=bL.out.tl.tl.tl.tl.box.f0;have aG:=bL.out.tl.tl.tl.tl.box.f1;go_wp2_with fail;have HZ:Hid (Zd w2 (false) d0 dn dc (dK false (x.natAbs-y.natAbs))):=Zd.of HT.out (by simp)
 have HE:Hid (dK false (x.natAbs-y.natAbs)=x+y):=by
  have h1:=HX.out;have h2:=HY.out;have h3:=ze.out;unfold dK at h1 h2;rw[Hid];unfold dK;simp at h1 h2 ⊢;omega
 refine bodyPost_ret (v:= .agg #[.bool (false),a0c d0 dn dc]) (by simp[results,Tryz.results97,go_sem,ay,aA]) rfl ?_;exact⟨_,_,_,_,rfl,HE.out▸HZ.out.set2 bL.out.tl.tl.tl.tl.box _ _,aW HB2.out (by omega) _ _⟩
theorem EY [Ol] {ao bo:Option Addr} {n cap l cb:Nat} {x y:Int} {w:World} (hx:Zx w true ao n cap x) (hy:Zx w false bo l cb y) (hlt:x.natAbs<y.natAbs):
  Calls Tryz.prog 97 #[.agg #[.bool true,a0c ao n cap],.agg #[.bool false,a0c bo l cb]] w (qB w (x+y)):=by
 have hle:=hx.le;have hle2:=hy.le;have HX:Hid (dK true x.natAbs=x):=hx.zd.val;have HY:Hid (dK false y.natAbs=y):=hy.zd.val;have HC:Hid (gG x.natAbs y.natAbs= -1):=by rw[Hid];unfold gG;rw[if_pos (by omega)]
 have ze:Hid (x.natAbs<=y.natAbs):=by rw[Hid];omega
 clear hlt;go_enter Tryz.func97,Tryz.ntmps97;go_upto_region 1 with(fail)
 refine aj (λW hW=>?_);have HB0:Hid (Below w.heap.size w W):=by rw[hW];exact aN (aN (af _ _))
 have aM:bR W (w.heap.size) true ao n cap:=by rw[hW];exact((bR.new _ _ _ _ _ _ _ (by simp)).below (af _ _)).below (af _ _)
 have bO:bR W (w.heap.size+1) false bo l cb:=by rw[hW];exact(bR.new _ _ _ _ _ _ _ (by simp)).below (af _ _)
 have aP:bR W (w.heap.size+2) false none 0 0:=by rw[hW];exact bR.new _ _ _ _ _ _ _ (by simp)
 have av:=hid (Live.bZ (hx.below HB0.out) (Live.bZ (hy.below HB0.out) (Live.aD aM (Live.aD bO (Live.aD aP (Live.nil W))))));clear hW aM bO aP;have aB:=av.out.tl.tl.box.c0;have aC:=av.out.tl.tl.box.c1;have aH:=av.out.tl.tl.box.f0;have aI:=av.out.tl.tl.box.f1;have aX:=av.out.tl.tl.tl.box.c0;have aY:=av.out.tl.tl.tl.box.c1;have bf:=av.out.tl.tl.tl.box.f0;have bg:=av.out.tl.tl.tl.box.f1;have ay:=av.out.tl.tl.tl.tl.box.c0;have aA:=av.out.tl.tl.tl.tl.box.c1;have aF:=av.out.tl.tl.tl.tl.box.f0;have aG:=av.out.tl.tl.tl.tl.box.f1;go_wp2_with fail;refine(Dg.qC (-1) _ _ _ _ _ _ _ _ _ av.out.mQ.zd.sl av.out.tl.mQ.zd.sl HC).mono ?_;rintro e w1 ⟨rfl,hB⟩;have aL:=hid (av.out.below hB);have HB1:=hid (Below.steps HB0.out hB);clear aB aC aH aI aX aY bf bg ay aA aF aG;clear av HB0 hB;have aB:=aL.out.tl.tl.box.c0;have aC:=aL.out.tl.tl.box.c1;have aH:=aL.out.tl.tl.box.f0;have aI:=aL.out.tl.tl.box.f1;have aX:=aL.out.tl.tl.tl.box.c0;have aY:=aL.out.tl.tl.tl.box.c1;have bf:=aL.out.tl.tl.tl.box.f0;have bg:=aL.out.tl.tl.tl.box.f1;have ay:=aL.out.tl.tl.tl.tl.box.c0;have aA:=aL.out.tl.tl.tl.tl.box.c1;have aF:=aL.out.tl.tl.tl.tl.box.f0;have aG:=aL.out.tl.tl.tl.tl.box.f1;go_upto_region 5 with(fail)
 refine aj (λW2 hW2=>?_);have hX2:bR W2 (w.heap.size) false bo l cb:=by rw[hW2];exact(aL.out.tl.tl.box.set _ _ _ _).far (by omega) _ _
 have hY2:bR W2 (w.heap.size+1) true ao n cap:=by rw[hW2];exact(aL.out.tl.tl.tl.box.far (by omega) _ _).set _ _ _ _
 have hR2:bR W2 (w.heap.size+2) false none 0 0:=by rw[hW2];exact(aL.out.tl.tl.tl.tl.box.far (by omega) _ _).far (by omega) _ _
 have G9:Zx W2 true ao n cap x:=by rw[hW2];exact⟨(aL.out.mQ.zd.set2 aL.out.tl.tl.box _ _).set2 (aL.out.tl.tl.tl.box.far (by omega) _ _) _ _,hle⟩
 have He:Zx W2 false bo l cb y:=by rw[hW2];exact⟨(aL.out.tl.mQ.zd.set2 aL.out.tl.tl.box _ _).set2 (aL.out.tl.tl.tl.box.far (by omega) _ _) _ _,hle2⟩
 have HB2:Hid (Below w.heap.size w W2):=by rw[hW2];exact aW (aW HB1.out (by omega) _ _) (by omega) _ _
 have bL:=hid (Live.bZ G9 (Live.bZ He (Live.aD hX2 (Live.aD hY2 (Live.aD hR2 (Live.nil W2))))));clear aB aC aH aI aX aY bf bg ay aA aF aG;clear hW2 hX2 hY2 hR2 G9 He aL HB1;have aB:=bL.out.tl.tl.box.c0;have aC:=bL.out.tl.tl.box.c1;have aH:=bL.out.tl.tl.box.f0;have aI:=bL.out.tl.tl.box.f1;have aX:=bL.out.tl.tl.tl.box.c0;have aY:=bL.out.tl.tl.tl.box.c1;have bf:=bL.out.tl.tl.tl.box.f0;have bg:=bL.out.tl.tl.tl.box.f1;have ay:=bL.out.tl.tl.tl.tl.box.c0;have aA:=bL.out.tl.tl.tl.tl.box.c1;have aF:=bL.out.tl.tl.tl.tl.box.f0;have aG:=bL.out.tl.tl.tl.tl.box.f1;go_wp2_with fail;refine(Dg.mD _ _ _ _ _ _ _ _ _ bL.out.tl.mQ.zd.sl bL.out.mQ.zd.sl ze.out (by omega)).mono ?_;rintro e w3 ⟨d0,dn,dc,rfl,hT,hB⟩;have HT:=hid hT.sl;have hdb:=hT.big;have bY:=hid (bL.out.below hB);have HB3:=hid (Below.steps HB2.out hB);clear aB aC aH aI aX aY bf bg ay aA aF aG;clear bL HB2 hT hB;have aB:=bY.out.tl.tl.box.c0;have aC:=bY.out.tl.tl.box.c1;have aH:=bY.out.tl.tl.box.f0;have aI:=bY.out.tl.tl.box.f1;have aX:=bY.out.tl.tl.tl.box.c0;have aY:=bY.out.tl.tl.tl.box.c1;have bf:=bY.out.tl.tl.tl.box.f0;have bg:=bY.out.tl.tl.tl.box.f1;have ay:=bY.out.tl.tl.tl.tl.box.c0;have aA:=bY.out.tl.tl.tl.tl.box.c1;have aF:=bY.out.tl.tl.tl.tl.box.f0;have aG:=bY.out.tl.tl.tl.tl.box.f1;go_wp2_with fail;have HZ:Hid (Zd w3 (false) d0 dn dc (dK false (y.natAbs-x.natAbs))):=Zd.of HT.out (by simp)
 have HE:Hid (dK false (y.natAbs-x.natAbs)=x+y):=by
  have h1:=HX.out;have h2:=HY.out;have h3:=ze.out;unfold dK at h1 h2;rw[Hid];unfold dK;simp at h1 h2 ⊢;omega
 refine bodyPost_ret (v:= .agg #[.bool (false),a0c d0 dn dc]) (by simp[results,Tryz.results97,go_sem,ay,aA]) rfl ?_;exact⟨_,_,_,_,rfl,HE.out▸HZ.out.set2 bY.out.tl.tl.tl.tl.box _ _,aW HB3.out (by omega) _ _⟩
theorem Cv [Ol] {ao bo:Option Addr} {n cap l cb:Nat} {x y:Int} {w:World} (hx:Zx w false ao n cap x) (hy:Zx w true bo l cb y) (hlt:x.natAbs<y.natAbs):
  Calls Tryz.prog 97 #[.agg #[.bool false,a0c ao n cap],.agg #[.bool true,a0c bo l cb]] w (qB w (x+y)):=by
 have hle:=hx.le;have hle2:=hy.le;have HX:Hid (dK false x.natAbs=x):=hx.zd.val;have HY:Hid (dK true y.natAbs=y):=hy.zd.val;have HC:Hid (gG x.natAbs y.natAbs= -1):=by rw[Hid];unfold gG;rw[if_pos (by omega)]
 have ze:Hid (x.natAbs<=y.natAbs):=by rw[Hid];omega
 clear hlt;go_enter Tryz.func97,Tryz.ntmps97;go_upto_region 1 with(fail)
 refine aj (λW hW=>?_);have HB0:Hid (Below w.heap.size w W):=by rw[hW];exact aN (aN (af _ _))
 have aM:bR W (w.heap.size) false ao n cap:=by rw[hW];exact((bR.new _ _ _ _ _ _ _ (by simp)).below (af _ _)).below (af _ _)
 have bO:bR W (w.heap.size+1) true bo l cb:=by rw[hW];exact(bR.new _ _ _ _ _ _ _ (by simp)).below (af _ _)
 have aP:bR W (w.heap.size+2) false none 0 0:=by rw[hW];exact bR.new _ _ _ _ _ _ _ (by simp)
 have av:=hid (Live.bZ (hx.below HB0.out) (Live.bZ (hy.below HB0.out) (Live.aD aM (Live.aD bO (Live.aD aP (Live.nil W))))));clear hW aM bO aP;have aB:=av.out.tl.tl.box.c0;have aC:=av.out.tl.tl.box.c1;have aH:=av.out.tl.tl.box.f0;have aI:=av.out.tl.tl.box.f1;have aX:=av.out.tl.tl.tl.box.c0;have aY:=av.out.tl.tl.tl.box.c1;have bf:=av.out.tl.tl.tl.box.f0;have bg:=av.out.tl.tl.tl.box.f1;have ay:=av.out.tl.tl.tl.tl.box.c0;have aA:=av.out.tl.tl.tl.tl.box.c1;have aF:=av.out.tl.tl.tl.tl.box.f0;have aG:=av.out.tl.tl.tl.tl.box.f1;go_wp2_with fail;refine(Dg.qC (-1) _ _ _ _ _ _ _ _ _ av.out.mQ.zd.sl av.out.tl.mQ.zd.sl HC).mono ?_;rintro e w1 ⟨rfl,hB⟩;have aL:=hid (av.out.below hB);have HB1:=hid (Below.steps HB0.out hB);clear aB aC aH aI aX aY bf bg ay aA aF aG;clear av HB0 hB;have aB:=aL.out.tl.tl.box.c0;have aC:=aL.out.tl.tl.box.c1;have aH:=aL.out.tl.tl.box.f0;have aI:=aL.out.tl.tl.box.f1;have aX:=aL.out.tl.tl.tl.box.c0;have aY:=aL.out.tl.tl.tl.box.c1;have bf:=aL.out.tl.tl.tl.box.f0;have bg:=aL.out.tl.tl.tl.box.f1;have ay:=aL.out.tl.tl.tl.tl.box.c0;have aA:=aL.out.tl.tl.tl.tl.box.c1;have aF:=aL.out.tl.tl.tl.tl.box.f0;have aG:=aL.out.tl.tl.tl.tl.box.f1;go_upto_region 5 with(fail)
 refine aj (λW2 hW2=>?_);have hX2:bR W2 (w.heap.size) true bo l cb:=by rw[hW2];exact(aL.out.tl.tl.box.set _ _ _ _).far (by omega) _ _
 have hY2:bR W2 (w.heap.size+1) false ao n cap:=by rw[hW2];exact(aL.out.tl.tl.tl.box.far (by omega) _ _).set _ _ _ _
 have hR2:bR W2 (w.heap.size+2) false none 0 0:=by rw[hW2];exact(aL.out.tl.tl.tl.tl.box.far (by omega) _ _).far (by omega) _ _
 have G9:Zx W2 false ao n cap x:=by rw[hW2];exact⟨(aL.out.mQ.zd.set2 aL.out.tl.tl.box _ _).set2 (aL.out.tl.tl.tl.box.far (by omega) _ _) _ _,hle⟩
 have He:Zx W2 true bo l cb y:=by rw[hW2];exact⟨(aL.out.tl.mQ.zd.set2 aL.out.tl.tl.box _ _).set2 (aL.out.tl.tl.tl.box.far (by omega) _ _) _ _,hle2⟩
 have HB2:Hid (Below w.heap.size w W2):=by rw[hW2];exact aW (aW HB1.out (by omega) _ _) (by omega) _ _
 have bL:=hid (Live.bZ G9 (Live.bZ He (Live.aD hX2 (Live.aD hY2 (Live.aD hR2 (Live.nil W2))))));clear aB aC aH aI aX aY bf bg ay aA aF aG;clear hW2 hX2 hY2 hR2 G9 He aL HB1;have aB:=bL.out.tl.tl.box.c0;have aC:=bL.out.tl.tl.box.c1;have aH:=bL.out.tl.tl.box.f0;have aI:=bL.out.tl.tl.box.f1;have aX:=bL.out.tl.tl.tl.box.c0;have aY:=bL.out.tl.tl.tl.box.c1;have bf:=bL.out.tl.tl.tl.box.f0;have bg:=bL.out.tl.tl.tl.box.f1;have ay:=bL.out.tl.tl.tl.tl.box.c0;have aA:=bL.out.tl.tl.tl.tl.box.c1;have aF:=bL.out.tl.tl.tl.tl.box.f0;have aG:=bL.out.tl.tl.tl.tl.box.f1;go_wp2_with fail;refine(Dg.mD _ _ _ _ _ _ _ _ _ bL.out.tl.mQ.zd.sl bL.out.mQ.zd.sl ze.out (by omega)).mono ?_;rintro e w3 ⟨d0,dn,dc,rfl,hT,hB⟩;have HT:=hid hT.sl;have hdb:=hT.big;have bY:=hid (bL.out.below hB);have HB3:=hid (Below.steps HB2.out hB);clear aB aC aH aI aX aY bf bg ay aA aF aG;clear bL HB2 hT hB;have aB:=bY.out.tl.tl.box.c0;have aC:=bY.out.tl.tl.box.c1;have aH:=bY.out.tl.tl.box.f0;have aI:=bY.out.tl.tl.box.f1;have aX:=bY.out.tl.tl.tl.box.c0;have aY:=bY.out.tl.tl.tl.box.c1;have bf:=bY.out.tl.tl.tl.box.f0;have bg:=bY.out.tl.tl.tl.box.f1;have ay:=bY.out.tl.tl.tl.tl.box.c0;have aA:=bY.out.tl.tl.tl.tl.box.c1;have aF:=bY.out.tl.tl.tl.tl.box.f0;have aG:=bY.out.tl.tl.tl.tl.box.f1;go_wp2_with fail;have HZ:Hid (Zd w3 (decide (0<dn)) d0 dn dc (dK true (y.natAbs-x.natAbs))):=Zd.of HT.out (by simp)
 have HE:Hid (dK true (y.natAbs-x.natAbs)=x+y):=by
  have h1:=HX.out;have h2:=HY.out;have h3:=ze.out;unfold dK at h1 h2;rw[Hid];unfold dK;simp at h1 h2 ⊢;omega
 refine bodyPost_ret (v:= .agg #[.bool (decide (0<dn)),a0c d0 dn dc]) (by simp[results,Tryz.results97,go_sem,ay,aA]) rfl ?_;exact⟨_,_,_,_,rfl,HE.out▸HZ.out.set2 bY.out.tl.tl.tl.tl.box _ _,aW HB3.out (by omega) _ _⟩
theorem Gp [Ol] {m k:Bool} {ao bo:Option Addr} {n cap l cb:Nat} {x y:Int} {w:World} (hx:Zx w m ao n cap x) (hy:Zx w k bo l cb y):
  Calls Tryz.prog 97 #[.agg #[.bool m,a0c ao n cap],.agg #[.bool k,a0c bo l cb]] w (qB w (x+y)):=by
 by_cases hmk:k=m
 ·subst hmk;exact Nw hx hy
 ·by_cases h:y.natAbs<=x.natAbs
  ·cases m<;>cases k
   ·exact absurd rfl hmk
   ·exact Cu hx hy h
   ·exact EX hx hy h
   ·exact absurd rfl hmk
  ·cases m<;>cases k
   ·exact absurd rfl hmk
   ·exact Cv hx hy (by omega)
   ·exact EY hx hy (by omega)
   ·exact absurd rfl hmk
open Lib (hid)
def Hf [Ol] (w:World) (q r:Int) (e:Ending) (w':World):Prop:=
 ∃m ao n cap k bo l cb,e= .returned (.tuple #[.agg #[.bool m,a0c ao n cap],.agg #[.bool k,a0c bo l cb]])/\ Zd w' m ao n cap q/\ Zd w' k bo l cb r/\ Below w.heap.size w w'
theorem wC [Ol] {ao bo:Option Addr} {n cap l cb:Nat} {x y:Int} {w:World} (hx:Zx w true ao n cap x) (hy:Zx w true bo l cb y) (h0:y≠0):
  Calls Tryz.prog 56 #[.agg #[.bool true,a0c ao n cap],.agg #[.bool true,a0c bo l cb]] w (Hf w (x.tdiv y) (x.tmod y)):=by
 have hle:=hx.le;have hle2:=hy.le;have HX:Hid (dK true x.natAbs=x):=hx.zd.val;have HY:Hid (dK true y.natAbs=y):=hy.zd.val;have H0:Hid (0<y.natAbs):=by rw[Hid];omega
 clear h0;go_enter Tryz.func56,Tryz.ntmps56;go_upto_region 1 with(fail)
 refine aj (λW hW=>?_);have HB0:Hid (Below w.heap.size w W):=by rw[hW];exact aN (aN (aN (af _ _)))
 have aM:bR W (w.heap.size) true ao n cap:=by rw[hW];exact(((bR.new _ _ _ _ _ _ _ (by simp)).below (af _ _)).below (af _ _)).below (af _ _)
 have bO:bR W (w.heap.size+1) true bo l cb:=by rw[hW];exact((bR.new _ _ _ _ _ _ _ (by simp)).below (af _ _)).below (af _ _)
 have nC:bR W (w.heap.size+2) false none 0 0:=by rw[hW];exact(bR.new _ _ _ _ _ _ _ (by simp)).below (af _ _)
 have aP:bR W (w.heap.size+3) false none 0 0:=by rw[hW];exact bR.new _ _ _ _ _ _ _ (by simp)
 have av:=hid (Live.bZ (hx.below HB0.out) (Live.bZ (hy.below HB0.out) (Live.aD aM (Live.aD bO (Live.aD nC (Live.aD aP (Live.nil W)))))));clear hW aM bO nC aP;have aB:=av.out.tl.tl.box.c0;have aC:=av.out.tl.tl.box.c1;have aH:=av.out.tl.tl.box.f0;have aI:=av.out.tl.tl.box.f1;have aX:=av.out.tl.tl.tl.box.c0;have aY:=av.out.tl.tl.tl.box.c1;have bf:=av.out.tl.tl.tl.box.f0;have bg:=av.out.tl.tl.tl.box.f1;have nD:=av.out.tl.tl.tl.tl.box.c0;have nE:=av.out.tl.tl.tl.tl.box.c1;have rO:=av.out.tl.tl.tl.tl.box.f0;have rP:=av.out.tl.tl.tl.tl.box.f1;have ay:=av.out.tl.tl.tl.tl.tl.box.c0;have aA:=av.out.tl.tl.tl.tl.tl.box.c1;have aF:=av.out.tl.tl.tl.tl.tl.box.f0;have aG:=av.out.tl.tl.tl.tl.tl.box.f1;go_wp2_with fail;refine(Dg.nG _ _ _ _ _ _ _ _ _ av.out.mQ.zd.sl av.out.tl.mQ.zd.sl H0.out (by omega) (by omega)).mono ?_;rintro e w1 ⟨q0,qn,qc,s0,sn,sc,rfl,hQ,hS,hB⟩;rw[Dg.au]at hQ hS;have HQ:=hid hQ;have HS:=hid hS;have hqb:=hQ.big;have hsb:=hS.big;have aL:=hid (av.out.below hB);have HB1:=hid (Below.steps HB0.out hB);clear aB aC aH aI aX aY bf bg nD nE rO rP ay aA aF aG;clear av HB0 hQ hS hB;have aB:=aL.out.tl.tl.box.c0;have aC:=aL.out.tl.tl.box.c1;have aH:=aL.out.tl.tl.box.f0;have aI:=aL.out.tl.tl.box.f1;have aX:=aL.out.tl.tl.tl.box.c0;have aY:=aL.out.tl.tl.tl.box.c1;have bf:=aL.out.tl.tl.tl.box.f0;have bg:=aL.out.tl.tl.tl.box.f1;have nD:=aL.out.tl.tl.tl.tl.box.c0;have nE:=aL.out.tl.tl.tl.tl.box.c1;have rO:=aL.out.tl.tl.tl.tl.box.f0;have rP:=aL.out.tl.tl.tl.tl.box.f1;have ay:=aL.out.tl.tl.tl.tl.tl.box.c0;have aA:=aL.out.tl.tl.tl.tl.tl.box.c1;have aF:=aL.out.tl.tl.tl.tl.tl.box.f0;have aG:=aL.out.tl.tl.tl.tl.tl.box.f1;go_wp2_with fail;have HU:Hid (Zd w1 (false) q0 qn qc (dK (true !=true) (x.natAbs/y.natAbs))):=Zd.of HQ.out (by simp);have HV:Hid (Zd w1 (decide (0<sn)) s0 sn sc (dK true (x.natAbs%y.natAbs))):=Zd.of HS.out (by simp);have Dl:Hid (dK (true !=true) (x.natAbs/y.natAbs)=x.tdiv y):=by rw[Hid,wD,HX.out,HY.out]
 have HE2:Hid (dK true (x.natAbs%y.natAbs)=x.tmod y):=by rw[Hid,tL true true,HX.out,HY.out]
 have oP:=hid (aW (aW HB1.out (b:=w.heap.size+2) (by omega) (.bool (false)) (a0c q0 qn qc)) (b:=w.heap.size+3) (by omega) (.bool (decide (0<sn))) (a0c s0 sn sc));have Yn:Hid (Zd _ (false) q0 qn qc (x.tdiv y)):=hid (Dl.out▸(HU.out.set2 aL.out.tl.tl.tl.tl.box (.bool (false)) (a0c q0 qn qc)).set2 (aL.out.tl.tl.tl.tl.tl.box.far (by omega) _ _) (.bool (decide (0<sn))) (a0c s0 sn sc));have Yo:Hid (Zd _ (decide (0<sn)) s0 sn sc (x.tmod y)):=hid (HE2.out▸(HV.out.set2 aL.out.tl.tl.tl.tl.box (.bool (false)) (a0c q0 qn qc)).set2 (aL.out.tl.tl.tl.tl.tl.box.far (by omega) _ _) (.bool (decide (0<sn))) (a0c s0 sn sc));refine bodyPost_ret (v:= .tuple #[.agg #[.bool (false),a0c q0 qn qc],.agg #[.bool (decide (0<sn)),a0c s0 sn sc]]) (by simp[results,Tryz.results56,go_sem,nD,nE,ay,aA]) rfl ?_;exact⟨_,_,_,_,_,_,_,_,rfl,Yn.out,Yo.out,oP.out⟩
theorem uV [Ol] {ao bo:Option Addr} {n cap l cb:Nat} {x y:Int} {w:World} (hx:Zx w true ao n cap x) (hy:Zx w false bo l cb y) (h0:y≠0):
  Calls Tryz.prog 56 #[.agg #[.bool true,a0c ao n cap],.agg #[.bool false,a0c bo l cb]] w (Hf w (x.tdiv y) (x.tmod y)):=by
 have hle:=hx.le;have hle2:=hy.le;have HX:Hid (dK true x.natAbs=x):=hx.zd.val;have HY:Hid (dK false y.natAbs=y):=hy.zd.val;have H0:Hid (0<y.natAbs):=by rw[Hid];omega
 clear h0;go_enter Tryz.func56,Tryz.ntmps56;go_upto_region 1 with(fail)
 refine aj (λW hW=>?_);have HB0:Hid (Below w.heap.size w W):=by rw[hW];exact aN (aN (aN (af _ _)))
 have aM:bR W (w.heap.size) true ao n cap:=by rw[hW];exact(((bR.new _ _ _ _ _ _ _ (by simp)).below (af _ _)).below (af _ _)).below (af _ _)
 have bO:bR W (w.heap.size+1) false bo l cb:=by rw[hW];exact((bR.new _ _ _ _ _ _ _ (by simp)).below (af _ _)).below (af _ _)
 have nC:bR W (w.heap.size+2) false none 0 0:=by rw[hW];exact(bR.new _ _ _ _ _ _ _ (by simp)).below (af _ _)
 have aP:bR W (w.heap.size+3) false none 0 0:=by rw[hW];exact bR.new _ _ _ _ _ _ _ (by simp)
 have av:=hid (Live.bZ (hx.below HB0.out) (Live.bZ (hy.below HB0.out) (Live.aD aM (Live.aD bO (Live.aD nC (Live.aD aP (Live.nil W)))))));clear hW aM bO nC aP;have aB:=av.out.tl.tl.box.c0;have aC:=av.out.tl.tl.box.c1;have aH:=av.out.tl.tl.box.f0;have aI:=av.out.tl.tl.box.f1;have aX:=av.out.tl.tl.tl.box.c0;have aY:=av.out.tl.tl.tl.box.c1;have bf:=av.out.tl.tl.tl.box.f0;have bg:=av.out.tl.tl.tl.box.f1;have nD:=av.out.tl.tl.tl.tl.box.c0;have nE:=av.out.tl.tl.tl.tl.box.c1;have rO:=av.out.tl.tl.tl.tl.box.f0;have rP:=av.out.tl.tl.tl.tl.box.f1;have ay:=av.out.tl.tl.tl.tl.tl.box.c0;have aA:=av.out.tl.tl.tl.tl.tl.box.c1;have aF:=av.out.tl.tl.tl.tl.tl.box.f0;have aG:=av.out.tl.tl.tl.tl.tl.box.f1;go_wp2_with fail;refine(Dg.nG _ _ _ _ _ _ _ _ _ av.out.mQ.zd.sl av.out.tl.mQ.zd.sl H0.out (by omega) (by omega)).mono ?_;rintro e w1 ⟨q0,qn,qc,s0,sn,sc,rfl,hQ,hS,hB⟩;rw[Dg.au]at hQ hS;have HQ:=hid hQ;have HS:=hid hS;have hqb:=hQ.big;have hsb:=hS.big;have aL:=hid (av.out.below hB);have HB1:=hid (Below.steps HB0.out hB);clear aB aC aH aI aX aY bf bg nD nE rO rP ay aA aF aG;clear av HB0 hQ hS hB;have aB:=aL.out.tl.tl.box.c0;have aC:=aL.out.tl.tl.box.c1;have aH:=aL.out.tl.tl.box.f0;have aI:=aL.out.tl.tl.box.f1;have aX:=aL.out.tl.tl.tl.box.c0;have aY:=aL.out.tl.tl.tl.box.c1;have bf:=aL.out.tl.tl.tl.box.f0;have bg:=aL.out.tl.tl.tl.box.f1;have nD:=aL.out.tl.tl.tl.tl.box.c0;have nE:=aL.out.tl.tl.tl.tl.box.c1;have rO:=aL.out.tl.tl.tl.tl.box.f0;have rP:=aL.out.tl.tl.tl.tl.box.f1;have ay:=aL.out.tl.tl.tl.tl.tl.box.c0;have aA:=aL.out.tl.tl.tl.tl.tl.box.c1;have aF:=aL.out.tl.tl.tl.tl.tl.box.f0;have aG:=aL.out.tl.tl.tl.tl.tl.box.f1;go_wp2_with fail;have HU:Hid (Zd w1 (decide (0<qn)) q0 qn qc (dK (true !=false) (x.natAbs/y.natAbs))):=Zd.of HQ.out (by simp);have HV:Hid (Zd w1 (decide (0<sn)) s0 sn sc (dK true (x.natAbs%y.natAbs))):=Zd.of HS.out (by simp);have Dl:Hid (dK (true !=false) (x.natAbs/y.natAbs)=x.tdiv y):=by rw[Hid,wD,HX.out,HY.out]
 have HE2:Hid (dK true (x.natAbs%y.natAbs)=x.tmod y):=by rw[Hid,tL true false,HX.out,HY.out]
 have oP:=hid (aW (aW HB1.out (b:=w.heap.size+2) (by omega) (.bool (decide (0<qn))) (a0c q0 qn qc)) (b:=w.heap.size+3) (by omega) (.bool (decide (0<sn))) (a0c s0 sn sc));have Yn:Hid (Zd _ (decide (0<qn)) q0 qn qc (x.tdiv y)):=hid (Dl.out▸(HU.out.set2 aL.out.tl.tl.tl.tl.box (.bool (decide (0<qn))) (a0c q0 qn qc)).set2 (aL.out.tl.tl.tl.tl.tl.box.far (by omega) _ _) (.bool (decide (0<sn))) (a0c s0 sn sc));have Yo:Hid (Zd _ (decide (0<sn)) s0 sn sc (x.tmod y)):=hid (HE2.out▸(HV.out.set2 aL.out.tl.tl.tl.tl.box (.bool (decide (0<qn))) (a0c q0 qn qc)).set2 (aL.out.tl.tl.tl.tl.tl.box.far (by omega) _ _) (.bool (decide (0<sn))) (a0c s0 sn sc));refine bodyPost_ret (v:= .tuple #[.agg #[.bool (decide (0<qn)),a0c q0 qn qc],.agg #[.bool (decide (0<sn)),a0c s0 sn sc]]) (by simp[results,Tryz.results56,go_sem,nD,nE,ay,aA]) rfl ?_;exact⟨_,_,_,_,_,_,_,_,rfl,Yn.out,Yo.out,oP.out⟩
theorem uW [Ol] {ao bo:Option Addr} {n cap l cb:Nat} {x y:Int} {w:World} (hx:Zx w false ao n cap x) (hy:Zx w true bo l cb y) (h0:y≠0):
  Calls Tryz.prog 56 #[.agg #[.bool false,a0c ao n cap],.agg #[.bool true,a0c bo l cb]] w (Hf w (x.tdiv y) (x.tmod y)):=by
 have hle:=hx.le;have hle2:=hy.le;have HX:Hid (dK false x.natAbs=x):=hx.zd.val;have HY:Hid (dK true y.natAbs=y):=hy.zd.val;have H0:Hid (0<y.natAbs):=by rw[Hid];omega
 clear h0;go_enter Tryz.func56,Tryz.ntmps56;go_upto_region 1 with(fail)
 refine aj (λW hW=>?_);have HB0:Hid (Below w.heap.size w W):=by rw[hW];exact aN (aN (aN (af _ _)))
 have aM:bR W (w.heap.size) false ao n cap:=by rw[hW];exact(((bR.new _ _ _ _ _ _ _ (by simp)).below (af _ _)).below (af _ _)).below (af _ _)
 have bO:bR W (w.heap.size+1) true bo l cb:=by rw[hW];exact((bR.new _ _ _ _ _ _ _ (by simp)).below (af _ _)).below (af _ _)
 have nC:bR W (w.heap.size+2) false none 0 0:=by rw[hW];exact(bR.new _ _ _ _ _ _ _ (by simp)).below (af _ _)
 have aP:bR W (w.heap.size+3) false none 0 0:=by rw[hW];exact bR.new _ _ _ _ _ _ _ (by simp)
 have av:=hid (Live.bZ (hx.below HB0.out) (Live.bZ (hy.below HB0.out) (Live.aD aM (Live.aD bO (Live.aD nC (Live.aD aP (Live.nil W)))))));clear hW aM bO nC aP;have aB:=av.out.tl.tl.box.c0;have aC:=av.out.tl.tl.box.c1;have aH:=av.out.tl.tl.box.f0;have aI:=av.out.tl.tl.box.f1;have aX:=av.out.tl.tl.tl.box.c0;have aY:=av.out.tl.tl.tl.box.c1;have bf:=av.out.tl.tl.tl.box.f0;have bg:=av.out.tl.tl.tl.box.f1;have nD:=av.out.tl.tl.tl.tl.box.c0;have nE:=av.out.tl.tl.tl.tl.box.c1;have rO:=av.out.tl.tl.tl.tl.box.f0;have rP:=av.out.tl.tl.tl.tl.box.f1;have ay:=av.out.tl.tl.tl.tl.tl.box.c0;have aA:=av.out.tl.tl.tl.tl.tl.box.c1;have aF:=av.out.tl.tl.tl.tl.tl.box.f0;have aG:=av.out.tl.tl.tl.tl.tl.box.f1;go_wp2_with fail;refine(Dg.nG _ _ _ _ _ _ _ _ _ av.out.mQ.zd.sl av.out.tl.mQ.zd.sl H0.out (by omega) (by omega)).mono ?_;rintro e w1 ⟨q0,qn,qc,s0,sn,sc,rfl,hQ,hS,hB⟩;rw[Dg.au]at hQ hS;have HQ:=hid hQ;have HS:=hid hS;have hqb:=hQ.big;have hsb:=hS.big;have aL:=hid (av.out.below hB);have HB1:=hid (Below.steps HB0.out hB);clear aB aC aH aI aX aY bf bg nD nE rO rP ay aA aF aG;clear av HB0 hQ hS hB;have aB:=aL.out.tl.tl.box.c0;have aC:=aL.out.tl.tl.box.c1;have aH:=aL.out.tl.tl.box.f0;have aI:=aL.out.tl.tl.box.f1;have aX:=aL.out.tl.tl.tl.box.c0;have aY:=aL.out.tl.tl.tl.box.c1;have bf:=aL.out.tl.tl.tl.box.f0;have bg:=aL.out.tl.tl.tl.box.f1;have nD:=aL.out.tl.tl.tl.tl.box.c0;have nE:=aL.out.tl.tl.tl.tl.box.c1;have rO:=aL.out.tl.tl.tl.tl.box.f0;have rP:=aL.out.tl.tl.tl.tl.box.f1;have ay:=aL.out.tl.tl.tl.tl.tl.box.c0;have aA:=aL.out.tl.tl.tl.tl.tl.box.c1;have aF:=aL.out.tl.tl.tl.tl.tl.box.f0;have aG:=aL.out.tl.tl.tl.tl.tl.box.f1;go_wp2_with fail;have HU:Hid (Zd w1 (decide (0<qn)) q0 qn qc (dK (false !=true) (x.natAbs/y.natAbs))):=Zd.of HQ.out (by simp);have HV:Hid (Zd w1 (false) s0 sn sc (dK false (x.natAbs%y.natAbs))):=Zd.of HS.out (by simp);have Dl:Hid (dK (false !=true) (x.natAbs/y.natAbs)=x.tdiv y):=by rw[Hid,wD,HX.out,HY.out]
 have HE2:Hid (dK false (x.natAbs%y.natAbs)=x.tmod y):=by rw[Hid,tL false true,HX.out,HY.out]
 have oP:=hid (aW (aW HB1.out (b:=w.heap.size+2) (by omega) (.bool (decide (0<qn))) (a0c q0 qn qc)) (b:=w.heap.size+3) (by omega) (.bool (false)) (a0c s0 sn sc));have Yn:Hid (Zd _ (decide (0<qn)) q0 qn qc (x.tdiv y)):=hid (Dl.out▸(HU.out.set2 aL.out.tl.tl.tl.tl.box (.bool (decide (0<qn))) (a0c q0 qn qc)).set2 (aL.out.tl.tl.tl.tl.tl.box.far (by omega) _ _) (.bool (false)) (a0c s0 sn sc));have Yo:Hid (Zd _ (false) s0 sn sc (x.tmod y)):=hid (HE2.out▸(HV.out.set2 aL.out.tl.tl.tl.tl.box (.bool (decide (0<qn))) (a0c q0 qn qc)).set2 (aL.out.tl.tl.tl.tl.tl.box.far (by omega) _ _) (.bool (false)) (a0c s0 sn sc));refine bodyPost_ret (v:= .tuple #[.agg #[.bool (decide (0<qn)),a0c q0 qn qc],.agg #[.bool (false),a0c s0 sn sc]]) (by simp[results,Tryz.results56,go_sem,nD,nE,ay,aA]) rfl ?_;exact⟨_,_,_,_,_,_,_,_,rfl,Yn.out,Yo.out,oP.out⟩
theorem uy [Ol] {ao bo:Option Addr} {n cap l cb:Nat} {x y:Int} {w:World} (hx:Zx w false ao n cap x) (hy:Zx w false bo l cb y) (h0:y≠0):
  Calls Tryz.prog 56 #[.agg #[.bool false,a0c ao n cap],.agg #[.bool false,a0c bo l cb]] w (Hf w (x.tdiv y) (x.tmod y)):=by
 have hle:=hx.le;have hle2:=hy.le;have HX:Hid (dK false x.natAbs=x):=hx.zd.val;have HY:Hid (dK false y.natAbs=y):=hy.zd.val;have H0:Hid (0<y.natAbs):=by rw[Hid];omega
 clear h0;go_enter Tryz.func56,Tryz.ntmps56;go_upto_region 1 with(fail)
 refine aj (λW hW=>?_);have HB0:Hid (Below w.heap.size w W):=by rw[hW];exact aN (aN (aN (af _ _)))
 have aM:bR W (w.heap.size) false ao n cap:=by rw[hW];exact(((bR.new _ _ _ _ _ _ _ (by simp)).below (af _ _)).below (af _ _)).below (af _ _)
 have bO:bR W (w.heap.size+1) false bo l cb:=by rw[hW];exact((bR.new _ _ _ _ _ _ _ (by simp)).below (af _ _)).below (af _ _)
 have nC:bR W (w.heap.size+2) false none 0 0:=by rw[hW];exact(bR.new _ _ _ _ _ _ _ (by simp)).below (af _ _)
 have aP:bR W (w.heap.size+3) false none 0 0:=by rw[hW];exact bR.new _ _ _ _ _ _ _ (by simp)
 have av:=hid (Live.bZ (hx.below HB0.out) (Live.bZ (hy.below HB0.out) (Live.aD aM (Live.aD bO (Live.aD nC (Live.aD aP (Live.nil W)))))));clear hW aM bO nC aP;have aB:=av.out.tl.tl.box.c0;have aC:=av.out.tl.tl.box.c1;have aH:=av.out.tl.tl.box.f0;have aI:=av.out.tl.tl.box.f1;have aX:=av.out.tl.tl.tl.box.c0;have aY:=av.out.tl.tl.tl.box.c1;have bf:=av.out.tl.tl.tl.box.f0;have bg:=av.out.tl.tl.tl.box.f1;have nD:=av.out.tl.tl.tl.tl.box.c0;have nE:=av.out.tl.tl.tl.tl.box.c1;have rO:=av.out.tl.tl.tl.tl.box.f0;have rP:=av.out.tl.tl.tl.tl.box.f1;have ay:=av.out.tl.tl.tl.tl.tl.box.c0;have aA:=av.out.tl.tl.tl.tl.tl.box.c1;have aF:=av.out.tl.tl.tl.tl.tl.box.f0;have aG:=av.out.tl.tl.tl.tl.tl.box.f1;go_wp2_with fail;refine(Dg.nG _ _ _ _ _ _ _ _ _ av.out.mQ.zd.sl av.out.tl.mQ.zd.sl H0.out (by omega) (by omega)).mono ?_;rintro e w1 ⟨q0,qn,qc,s0,sn,sc,rfl,hQ,hS,hB⟩;rw[Dg.au]at hQ hS;have HQ:=hid hQ;have HS:=hid hS;have hqb:=hQ.big;have hsb:=hS.big;have aL:=hid (av.out.below hB);have HB1:=hid (Below.steps HB0.out hB);clear aB aC aH aI aX aY bf bg nD nE rO rP ay aA aF aG;clear av HB0 hQ hS hB;have aB:=aL.out.tl.tl.box.c0;have aC:=aL.out.tl.tl.box.c1;have aH:=aL.out.tl.tl.box.f0;have aI:=aL.out.tl.tl.box.f1;have aX:=aL.out.tl.tl.tl.box.c0;have aY:=aL.out.tl.tl.tl.box.c1;have bf:=aL.out.tl.tl.tl.box.f0;have bg:=aL.out.tl.tl.tl.box.f1;have nD:=aL.out.tl.tl.tl.tl.box.c0;have nE:=aL.out.tl.tl.tl.tl.box.c1;have rO:=aL.out.tl.tl.tl.tl.box.f0;have rP:=aL.out.tl.tl.tl.tl.box.f1;have ay:=aL.out.tl.tl.tl.tl.tl.box.c0;have aA:=aL.out.tl.tl.tl.tl.tl.box.c1;have aF:=aL.out.tl.tl.tl.tl.tl.box.f0;have aG:=aL.out.tl.tl.tl.tl.tl.box.f1;go_wp2_with fail;have HU:Hid (Zd w1 (false) q0 qn qc (dK (false !=false) (x.natAbs/y.natAbs))):=Zd.of HQ.out (by simp);have HV:Hid (Zd w1 (false) s0 sn sc (dK false (x.natAbs%y.natAbs))):=Zd.of HS.out (by simp);have Dl:Hid (dK (false !=false) (x.natAbs/y.natAbs)=x.tdiv y):=by rw[Hid,wD,HX.out,HY.out]
 have HE2:Hid (dK false (x.natAbs%y.natAbs)=x.tmod y):=by rw[Hid,tL false false,HX.out,HY.out]
 have oP:=hid (aW (aW HB1.out (b:=w.heap.size+2) (by omega) (.bool (false)) (a0c q0 qn qc)) (b:=w.heap.size+3) (by omega) (.bool (false)) (a0c s0 sn sc));have Yn:Hid (Zd _ (false) q0 qn qc (x.tdiv y)):=hid (Dl.out▸(HU.out.set2 aL.out.tl.tl.tl.tl.box (.bool (false)) (a0c q0 qn qc)).set2 (aL.out.tl.tl.tl.tl.tl.box.far (by omega) _ _) (.bool (false)) (a0c s0 sn sc));have Yo:Hid (Zd _ (false) s0 sn sc (x.tmod y)):=hid (HE2.out▸(HV.out.set2 aL.out.tl.tl.tl.tl.box (.bool (false)) (a0c q0 qn qc)).set2 (aL.out.tl.tl.tl.tl.tl.box.far (by omega) _ _) (.bool (false)) (a0c s0 sn sc));refine bodyPost_ret (v:= .tuple #[.agg #[.bool (false),a0c q0 qn qc],.agg #[.bool (false),a0c s0 sn sc]]) (by simp[results,Tryz.results56,go_sem,nD,nE,ay,aA]) rfl ?_;exact⟨_,_,_,_,_,_,_,_,rfl,Yn.out,Yo.out,oP.out⟩
theorem ol [Ol] {m k:Bool} {ao bo:Option Addr} {n cap l cb:Nat} {x y:Int} {w:World} (hx:Zx w m ao n cap x) (hy:Zx w k bo l cb y) (h0:y≠0):
  Calls Tryz.prog 56 #[.agg #[.bool m,a0c ao n cap],.agg #[.bool k,a0c bo l cb]] w (Hf w (x.tdiv y) (x.tmod y)):=by
 cases m<;>cases k
 ·exact uy hx hy h0
 ·exact uW hx hy h0
 ·exact uV hx hy h0
 ·exact wC hx hy h0
theorem GI [Ol] {m k:Bool} {ao bo:Option Addr} {n cap l cb:Nat} {x y:Int} {w:World} (hx:Zx w m ao n cap x) (hy:Zx w k bo l cb y):
  Calls Tryz.prog 55 #[.agg #[.bool m,a0c ao n cap],.agg #[.bool k,a0c bo l cb]] w (qB w ((x.gcd y:Nat):Int)):=by
 have hle:=hx.le;have hle2:=hy.le;obtain⟨G,hG⟩:∃G,G=x.gcd y:=⟨_,rfl⟩;rw[<-hG];have Ub:=hid hG;clear hG;go_enter Tryz.func55,Tryz.ntmps55;go_upto_region 1 with(fail)
 refine aj (λW hW=>?_);have HB0:Hid (Below w.heap.size w W):=by rw[hW];exact aN (aN (af _ _))
 have aM:bR W (w.heap.size) m ao n cap:=by rw[hW];exact((bR.new _ _ _ _ _ _ _ (by simp)).below (af _ _)).below (af _ _)
 have bO:bR W (w.heap.size+1) k bo l cb:=by rw[hW];exact(bR.new _ _ _ _ _ _ _ (by simp)).below (af _ _)
 have aP:bR W (w.heap.size+2) false none 0 0:=by rw[hW];exact bR.new _ _ _ _ _ _ _ (by simp)
 have av:=hid (Live.bZ (hx.below HB0.out) (Live.bZ (hy.below HB0.out) (Live.aD aM (Live.aD bO (Live.aD aP (Live.nil W))))));clear hW aM bO aP;have aB:=av.out.tl.tl.box.c0;have aC:=av.out.tl.tl.box.c1;have aH:=av.out.tl.tl.box.f0;have aI:=av.out.tl.tl.box.f1;have aX:=av.out.tl.tl.tl.box.c0;have aY:=av.out.tl.tl.tl.box.c1;have bf:=av.out.tl.tl.tl.box.f0;have bg:=av.out.tl.tl.tl.box.f1;have ay:=av.out.tl.tl.tl.tl.box.c0;have aA:=av.out.tl.tl.tl.tl.box.c1;have aF:=av.out.tl.tl.tl.tl.box.f0;have aG:=av.out.tl.tl.tl.tl.box.f1;have jR:=hid (av.out.below ((Below.refl _ _).drew));have jS:=hid HB0.out.drew;clear aB aC aH aI aX aY bf bg ay aA aF aG;clear av HB0;have av:=hid jR.out;have HB0:=hid jS.out;clear jR jS;have aB:=av.out.tl.tl.box.c0;have aC:=av.out.tl.tl.box.c1;have aH:=av.out.tl.tl.box.f0;have aI:=av.out.tl.tl.box.f1;have aX:=av.out.tl.tl.tl.box.c0;have aY:=av.out.tl.tl.tl.box.c1;have bf:=av.out.tl.tl.tl.box.f0;have bg:=av.out.tl.tl.tl.box.f1;have ay:=av.out.tl.tl.tl.tl.box.c0;have aA:=av.out.tl.tl.tl.tl.box.c1;have aF:=av.out.tl.tl.tl.tl.box.f0;have aG:=av.out.tl.tl.tl.tl.box.f1;refine wp_region_held_drew (S:=λw'=>w'.cell? ⟨w.heap.size,0,none⟩=some (.bool m)/\ w'.cell? ⟨w.heap.size,1,none⟩=some (a0c ao n cap)/\ w'.cell? ⟨w.heap.size+1,0,none⟩=some (.bool k)/\ w'.cell? ⟨w.heap.size+1,1,none⟩=some (a0c bo l cb)) (by kernel_rfl) (a0a av.out.tl.tl.box.c0 (a0a av.out.tl.tl.box.c1 (a0a av.out.tl.tl.tl.box.c0 (av.out.tl.tl.tl.box.c1)))) (λhHeld=>?_);refine cO 0 rfl (by kernel_rfl) (λ_ _ _ h=>h) (by rfl) hHeld (by intro w hSw;first|(go_simp;done)|(go_simp;with_reducible rfl)) ?_
 try simp only[a0b,a0d,a0e,a0f]
 refine cO 1 rfl (by kernel_rfl) (λ_ _ _ h=>h) (by rfl) hHeld (by intro w hSw;first|(go_simp;done)|(go_simp;with_reducible rfl)) ?_
 try simp only[a0b,a0d,a0e,a0f]
 refine cO 2 rfl (by kernel_rfl) (λ_ _ _ h=>h) (by rfl) hHeld (by intro w hSw;first|(go_simp;done)|(go_simp;with_reducible rfl)) ?_
 try simp only[a0b,a0d,a0e,a0f]
 refine cO 3 rfl (by kernel_rfl) (λ_ _ _ h=>h) (by rfl) hHeld (by intro w hSw;first|(go_simp;done)|(go_simp;with_reducible rfl)) ?_
 try simp only[a0b,a0d,a0e,a0f]
 refine cO 4 rfl (by kernel_rfl) (λ_ _ _ h=>h) (by rfl) hHeld (by intro w hSw;first|(go_simp;done)|(go_simp;with_reducible rfl)) ?_
 try simp only[a0b,a0d,a0e,a0f]
 refine cO 5 rfl (by kernel_rfl) (λ_ _ _ h=>h) (by rfl) hHeld (by intro w hSw;first|(go_simp;done)|(go_simp;with_reducible rfl)) ?_
 try simp only[a0b,a0d,a0e,a0f]
 refine wpAnyH_done (by kernel_rfl) ?_ _
 clear hHeld;go_wp2_with fail;have HI0:Hid (Dg.Sl W.drew ao n cap (Dg.limbs x.natAbs)/\ Dg.Sl W.drew bo l cb (Dg.limbs y.natAbs)/\ Nat.gcd x.natAbs y.natAbs=G/\ y.natAbs=y.natAbs/\ Below w.heap.size w W.drew/\ bR W.drew (w.heap.size+2) false none 0 0):=⟨av.out.mQ.zd.sl,av.out.tl.mQ.zd.sl,Ub.out.symm,rfl,HB0.out,av.out.tl.tl.tl.tl.box⟩;clear aB aC aH aI aX aY bf bg ay aA aF aG;clear av HB0;go_loopg [5,6] y.natAbs (λg u v wr=>∃(co:Option Addr) (cn cc:Nat) (fo:Option Addr) (fn fc:Nat) (a b:Nat),u=a0c co cn cc/\ v=a0c fo fn fc/\ cn<=1000000/\ fn<=1000000/\ Hid (Dg.Sl wr co cn cc (Dg.limbs a)/\ Dg.Sl wr fo fn fc (Dg.limbs b)/\ Nat.gcd a b=G/\ b=g/\ Below w.heap.size w wr/\ bR wr (w.heap.size+2) false none 0 0))
 case atStart=>exact⟨_,_,_,_,_,_,_,_,rfl,rfl,hle,hle2,HI0.out⟩
 case round=>
  clear HI0;obtain⟨co,cn,cc,fo,fn,fc,a,b,rfl,rfl,hcn,hfn,HI⟩:=hrel;obtain⟨wo,rfl⟩:∃wo:World,wo=wr:=⟨_,rfl⟩;have hfl:=HI.out.2.1.len;by_cases h0:b=0
  ·obtain rfl:fn=0:=by rw[<-hfl,h0];rfl
   have HE:Hid (a=G):=by rw[Hid,<-HI.out.2.2.1,h0,Nat.gcd_zero_right]
   have ay:=HI.out.2.2.2.2.2.c0;have aA:=HI.out.2.2.2.2.2.c1;have aF:=HI.out.2.2.2.2.2.f0;have aG:=HI.out.2.2.2.2.2.f1;clear h0 hfl;go_wp2_with fail;refine bodyPost_ret (v:= .agg #[.bool false,a0c co cn cc]) (by simp[results,Tryz.results55,go_sem,ay,aA]) rfl ?_;have HC:Hid (Zd wo false co cn cc ((G:Nat):Int)):=⟨by simp,by rw[Int.natAbs_natCast,<-HE.out];exact HI.out.1⟩;exact⟨_,_,_,_,rfl,HC.out.set2 HI.out.2.2.2.2.2 _ _,aW HI.out.2.2.2.2.1 (by omega) _ _⟩
  ·have hfp:0<fn:=by
    rcases Nat.eq_zero_or_pos fn with h1|h1
    ·rw[h1]at hfl;have h2:Dg.limbs b=[]:=List.eq_nil_of_length_eq_zero hfl;have h3:=Dg.au b;rw[h2,Dg.dY]at h3;omega
    ·exact h1
   have hfi:(0:Int)<((fn:Nat):Int):=by omega
   have T9:Hid (0<b):=by rw[Hid];omega
   clear h0 hfl;go_wp2_with fail;refine(Dg.nG _ _ _ _ _ _ _ _ _ HI.out.1 HI.out.2.1 T9.out hcn hfn).mono ?_;rintro e w1 ⟨q0,qn,qc,s0,sn,sc,rfl,hQ,hS,hB⟩;rw[Dg.au]at hS;have hM:a%b<b:=Nat.mod_lt _ T9.out
   have hsn:sn<=1000000:=by
    have h1:=HI.out.2.1.len;have h2:=hS.len;have h3:=Dg.qD (Nat.le_of_lt hM);omega
   have HJ:Hid (Dg.Sl w1 fo fn fc (Dg.limbs b)/\ Dg.Sl w1 s0 sn sc (Dg.limbs (a%b))/\ Nat.gcd b (a%b)=G/\ a%b=a%b/\ Below w.heap.size w w1/\ bR w1 (w.heap.size+2) false none 0 0):=
    ⟨HI.out.2.1.below hB,hS,by rw[Nat.gcd_comm b,<-Nat.gcd_rec,Nat.gcd_comm];exact HI.out.2.2.1,rfl,Below.steps HI.out.2.2.2.2.1 hB,HI.out.2.2.2.2.2.below hB⟩
   have HM:Hid (a%b<gk):=by rw[Hid,<-HI.out.2.2.2.1];exact hM
   clear hQ hS hB hM;go_wp2_with fail;go_roundg (a%b)
   case measure=>exact HM.out
   case rel=>exact⟨_,_,_,_,_,_,b,a%b,rfl,rfl,hfn,hsn,HJ.out.1,HJ.out.2.1,HJ.out.2.2.1,rfl,HJ.out.2.2.2.2.1,HJ.out.2.2.2.2.2⟩
end Go.Proofs.YtmenbpmciblnlaaGreatDoor
