import Derived.Test.YtmenbpmciblnlaaGreatDoorGWZ
import Derived.Test.YtmenbpmciblnlaaGreatDoorGWD
set_option maxHeartbeats 0
set_option maxRecDepth 100000
open And renaming intro->ah5
open Go renaming World->ah6
open Go.Act renaming put->ah7
open Go.RowKit renaming Below->ah8
open Go.Value renaming bool->ai0,slice->ah9
open List renaming setIfInBounds_toArray->ai1,set_cons_succ->ai3,set_cons_zero->ai2
namespace Go.Proofs.YtmenbpmciblnlaaGreatDoor
open Lib (hid)
open Go.RowKit
theorem JL [Ol] {m:Bool} {ao bo:Z'} {n ae l cb:Nat} {x y:Int} {w:ah6} (hx:Zx w m ao n ae x) (hy:Zx w m bo l cb y):
  Calls Tryz.prog 97 #[.agg #[ai0 m,ah9 ao n ae],.agg #[ai0 m,ah9 bo l cb]] w (qz w (x+y)):=by
 have hle:=hx.le;have hle2:=hy.le;have HX:Hid (cV m x.natAbs=x):=hx.zd.au;have HY:Hid (cV m y.natAbs=y):=hy.zd.au;have WB:=hid hx.zd.neg;have HNY:=hid hy.zd.neg;go_enter Tryz.func97,Tryz.ntmps97;go_upto_region 1 with(fail)
 refine aj (λW hW=>?_);have HB0:Hid (ah8 w.heap.size w W):=by rw[hW];exact aN (aN (af _ _))
 have aO:bS W w.heap.size m ao n ae:=by rw[hW];exact((bS.cS _ _ _ _ _ _ _ (by simp)).below (af _ _)).below (af _ _)
 have bI:bS W (w.heap.size+1) m bo l cb:=by rw[hW];exact(bS.cS _ _ _ _ _ _ _ (by simp)).below (af _ _)
 have aR:bS W (w.heap.size+2) false none 0 0:=by rw[hW];exact bS.cS _ _ _ _ _ _ _ (by simp)
 have aw:=hid (aA.cg (hx.below HB0.o) (aA.cg (hy.below HB0.o) (aA.aD aO (aA.aD bI (aA.aD aR (aA.nil W))))));clear hW aO bI aR;have aF:=aw.o.tl.tl.box.c0;have aG:=aw.o.tl.tl.box.c1;have aJ:=aw.o.tl.tl.box.f0;have aK:=aw.o.tl.tl.box.f1;have aU:=aw.o.tl.tl.tl.box.c0;have aV:=aw.o.tl.tl.tl.box.c1;have bg:=aw.o.tl.tl.tl.box.f0;have bh:=aw.o.tl.tl.tl.box.f1;have ay:=aw.o.tl.tl.tl.tl.box.c0;have az:=aw.o.tl.tl.tl.tl.box.c1;have aB:=aw.o.tl.tl.tl.tl.box.f0;have aC:=aw.o.tl.tl.tl.tl.box.f1;go_wp2_with fail;have iW:=hid (aw.o.below ((Below.refl _ _).drew));have iX:=hid HB0.o.drew;clear aF aG aJ aK aU aV bg bh ay az aB aC aw HB0;have aw:=hid iW.o;have HB0:=hid iX.o;clear iW iX;have aF:=aw.o.tl.tl.box.c0;have aG:=aw.o.tl.tl.box.c1;have aJ:=aw.o.tl.tl.box.f0;have aK:=aw.o.tl.tl.box.f1;have aU:=aw.o.tl.tl.tl.box.c0;have aV:=aw.o.tl.tl.tl.box.c1;have bg:=aw.o.tl.tl.tl.box.f0;have bh:=aw.o.tl.tl.tl.box.f1;have ay:=aw.o.tl.tl.tl.tl.box.c0;have az:=aw.o.tl.tl.tl.tl.box.c1;have aB:=aw.o.tl.tl.tl.tl.box.f0;have aC:=aw.o.tl.tl.tl.tl.box.f1;refine wp_region_held_drew (S:=λw'=>w'.cell? ⟨w.heap.size,0,none⟩=some (ai0 m)/\ w'.cell? ⟨w.heap.size,1,none⟩=some (ah9 ao n ae)/\ w'.cell? ⟨w.heap.size+1,0,none⟩=some (ai0 m)/\ w'.cell? ⟨w.heap.size+1,1,none⟩=some (ah9 bo l cb)) (by kernel_rfl) (ah5 aw.o.tl.tl.box.c0 (ah5 aw.o.tl.tl.box.c1 (ah5 aw.o.tl.tl.tl.box.c0 aw.o.tl.tl.tl.box.c1))) (λhHeld=>?_);refine cw 0 rfl (by kernel_rfl) (λ_ _ _ h=>h) (by rfl) hHeld (by intro w hSw;first|(go_simp;done)|(go_simp;with_reducible rfl)) ?_
 try simp only[ah7,ai1,ai2,ai3]
 refine cw 1 rfl (by kernel_rfl) (λ_ _ _ h=>h) (by rfl) hHeld (by intro w hSw;first|(go_simp;done)|(go_simp;with_reducible rfl)) ?_
 try simp only[ah7,ai1,ai2,ai3]
 refine cw 2 rfl (by kernel_rfl) (λ_ _ _ h=>h) (by rfl) hHeld (by intro w hSw;first|(go_simp;done)|(go_simp;with_reducible rfl)) ?_
 try simp only[ah7,ai1,ai2,ai3]
 refine cw 3 rfl (by kernel_rfl) (λ_ _ _ h=>h) (by rfl) hHeld (by intro w hSw;first|(go_simp;done)|(go_simp;with_reducible rfl)) ?_
 try simp only[ah7,ai1,ai2,ai3]
 refine cw 4 rfl (by kernel_rfl) (λ_ _ _ h=>h) (by rfl) hHeld (by intro w hSw;first|(go_simp;done)|(go_simp;with_reducible rfl)) ?_
 try simp only[ah7,ai1,ai2,ai3]
 refine cw 5 rfl (by kernel_rfl) (λ_ _ _ h=>h) (by rfl) hHeld (by intro w hSw;first|(go_simp;done)|(go_simp;with_reducible rfl)) ?_
 try simp only[ah7,ai1,ai2,ai3]
 refine ag 6 rfl (by kernel_rfl) (λK hK=>?_);go_simp;refine(Dg.pX _ _ _ _ _ _ _ _ _ aw.o.lz.zd.sl aw.o.tl.lz.zd.sl (by omega) (by omega)).mono ?_;rintro e w1 ⟨d0,dn,dc,rfl,hT,hB⟩;rw[Dg.av,Dg.av]at hT;have HT:=hid hT.sl;have aL:=hid (aw.o.below hB);have HB1:=hid (Below.ar HB0.o hB);clear aF aG aJ aK aU aV bg bh ay az aB aC aw HB0 hT hB;have aF:=aL.o.tl.tl.box.c0;have aG:=aL.o.tl.tl.box.c1;have aJ:=aL.o.tl.tl.box.f0;have aK:=aL.o.tl.tl.box.f1;have aU:=aL.o.tl.tl.tl.box.c0;have aV:=aL.o.tl.tl.tl.box.c1;have bg:=aL.o.tl.tl.tl.box.f0;have bh:=aL.o.tl.tl.tl.box.f1;have ay:=aL.o.tl.tl.tl.tl.box.c0;have az:=aL.o.tl.tl.tl.tl.box.c1;have aB:=aL.o.tl.tl.tl.tl.box.f0;have aC:=aL.o.tl.tl.tl.tl.box.f1;go_wp2_with fail;refine hK.o _ _ (ah5 aL.o.tl.tl.box.c0 (ah5 aL.o.tl.tl.box.c1 (ah5 aL.o.tl.tl.tl.box.c0 aL.o.tl.tl.tl.box.c1))) (λkP=>?_);clear hK K hHeld;have hHeld:=kP;clear kP
 try simp only[ah7,ai1,ai2,ai3]
 refine cw 7 rfl (by kernel_rfl) (λ_ _ _ h=>h) (by rfl) hHeld (by intro w hSw;first|(go_simp;done)|(go_simp;with_reducible rfl)) ?_
 try simp only[ah7,ai1,ai2,ai3]
 refine ag 8 rfl (by kernel_rfl) (λK hK=>?_);go_simp;refine hK.o _ _ ((ah5 ((bT (λe=>by have e2:w.heap.size=w.heap.size+2:=e;omega) _ _).trans aF) (ah5 ((bT (λe=>by have e2:w.heap.size=w.heap.size+2:=e;omega) _ _).trans aG) (ah5 ((bT (λe=>by have e2:w.heap.size+1=w.heap.size+2:=e;omega) _ _).trans aU) ((bT (λe=>by have e2:w.heap.size+1=w.heap.size+2:=e;omega) _ _).trans aV))))) (λkP=>?_);clear hK K hHeld
 try simp only[ah7,ai1,ai2,ai3]
 refine wpAnyH_done (by kernel_rfl) ?_ _
 go_wp2_with fail
 have HC:Hid (Zd w1 m d0 dn dc (x+y)):=by
  have h1:=HX.o;have h2:=HY.o;have h3:=WB.o;have h4:=HNY.o;have e:(x+y).natAbs=x.natAbs+y.natAbs:=by cases m<;>simp at h3 h4<;>omega
  exact⟨by cases m<;>simp at h3 h4 ⊢<;>omega,by rw[e];exact HT.o⟩
 refine bodyPost_ret (v:= .agg #[ai0 m,ah9 d0 dn dc]) (by simp[results,Tryz.results97,go_sem,ay,az]) rfl ?_;exact⟨_,_,_,_,rfl,HC.o.ew aL.o.tl.tl.tl.tl.box _ _,bj HB1.o (by omega) _ _⟩
theorem AY [Ol] {ao bo:Z'} {n ae l cb:Nat} {x y:Int} {w:ah6} (hx:Zx w true ao n ae x) (hy:Zx w false bo l cb y) (hge:y.natAbs<=x.natAbs):
  Calls Tryz.prog 97 #[.agg #[ai0 true,ah9 ao n ae],.agg #[ai0 false,ah9 bo l cb]] w (qz w (x+y)):=by
 have hle:=hx.le;have hle2:=hy.le;have HX:Hid (cV true x.natAbs=x):=hx.zd.au;have HY:Hid (cV false y.natAbs=y):=hy.zd.au;obtain⟨c,hc⟩:∃c,c=eT x.natAbs y.natAbs:=⟨_,rfl⟩
 have hc0:decide (c<0)=false:=by
  rw[hc];unfold eT;rw[if_neg (by omega)];split<;>simp
 have HC:=hid hc.symm;have uX:=hid hge;clear hc hge;go_enter Tryz.func97,Tryz.ntmps97;go_upto_region 1 with(fail)
 refine aj (λW hW=>?_);have HB0:Hid (ah8 w.heap.size w W):=by rw[hW];exact aN (aN (af _ _))
 have aO:bS W w.heap.size true ao n ae:=by rw[hW];exact((bS.cS _ _ _ _ _ _ _ (by simp)).below (af _ _)).below (af _ _)
 have bI:bS W (w.heap.size+1) false bo l cb:=by rw[hW];exact(bS.cS _ _ _ _ _ _ _ (by simp)).below (af _ _)
 have aR:bS W (w.heap.size+2) false none 0 0:=by rw[hW];exact bS.cS _ _ _ _ _ _ _ (by simp)
 have aw:=hid (aA.cg (hx.below HB0.o) (aA.cg (hy.below HB0.o) (aA.aD aO (aA.aD bI (aA.aD aR (aA.nil W))))));clear hW aO bI aR;have aF:=aw.o.tl.tl.box.c0;have aG:=aw.o.tl.tl.box.c1;have aJ:=aw.o.tl.tl.box.f0;have aK:=aw.o.tl.tl.box.f1;have aU:=aw.o.tl.tl.tl.box.c0;have aV:=aw.o.tl.tl.tl.box.c1;have bg:=aw.o.tl.tl.tl.box.f0;have bh:=aw.o.tl.tl.tl.box.f1;have ay:=aw.o.tl.tl.tl.tl.box.c0;have az:=aw.o.tl.tl.tl.tl.box.c1;have aB:=aw.o.tl.tl.tl.tl.box.f0;have aC:=aw.o.tl.tl.tl.tl.box.f1;go_wp2_with fail;refine(Dg.nH c _ _ _ _ _ _ _ _ _ aw.o.lz.zd.sl aw.o.tl.lz.zd.sl HC).mono ?_;rintro e w1 ⟨rfl,hB⟩;have aL:=hid (aw.o.below hB);have HB1:=hid (Below.ar HB0.o hB);clear aF aG aJ aK aU aV bg bh ay az aB aC aw HB0 hB;have aF:=aL.o.tl.tl.box.c0;have aG:=aL.o.tl.tl.box.c1;have aJ:=aL.o.tl.tl.box.f0;have aK:=aL.o.tl.tl.box.f1;have aU:=aL.o.tl.tl.tl.box.c0;have aV:=aL.o.tl.tl.tl.box.c1;have bg:=aL.o.tl.tl.tl.box.f0;have bh:=aL.o.tl.tl.tl.box.f1;have ay:=aL.o.tl.tl.tl.tl.box.c0;have az:=aL.o.tl.tl.tl.tl.box.c1;have aB:=aL.o.tl.tl.tl.tl.box.f0;have aC:=aL.o.tl.tl.tl.tl.box.f1;go_wp2_with fail;refine(Dg.kg _ _ _ _ _ _ _ _ _ aL.o.lz.zd.sl aL.o.tl.lz.zd.sl uX.o (by omega)).mono ?_;rintro e w2 ⟨d0,dn,dc,rfl,hT,hB⟩;have HT:=hid hT.sl;have hdb:=hT.big;have bH:=hid (aL.o.below hB);have HB2:=hid (Below.ar HB1.o hB);clear aF aG aJ aK aU aV bg bh ay az aB aC aL HB1 hT hB;have aF:=bH.o.tl.tl.box.c0;have aG:=bH.o.tl.tl.box.c1;have aJ:=bH.o.tl.tl.box.f0;have aK:=bH.o.tl.tl.box.f1;have aU:=bH.o.tl.tl.tl.box.c0;have aV:=bH.o.tl.tl.tl.box.c1;have bg:=bH.o.tl.tl.tl.box.f0;have bh:=bH.o.tl.tl.tl.box.f1;have ay:=bH.o.tl.tl.tl.tl.box.c0;have az:=bH.o.tl.tl.tl.tl.box.c1;have aB:=bH.o.tl.tl.tl.tl.box.f0;have aC:=bH.o.tl.tl.tl.tl.box.f1;go_wp2_with fail;have HZ:Hid (Zd w2 (decide (0<dn)) d0 dn dc (cV true (x.natAbs-y.natAbs))):=Zd.of HT.o (by simp)
 have HE:Hid (cV true (x.natAbs-y.natAbs)=x+y):=by
  have h1:=HX.o;have h2:=HY.o;have h3:=uX.o;unfold cV at h1 h2;rw[Hid];unfold cV;simp at h1 h2 ⊢;omega
 refine bodyPost_ret (v:= .agg #[ai0 (decide (0<dn)),ah9 d0 dn dc]) (by simp[results,Tryz.results97,go_sem,ay,az]) rfl ?_;exact⟨_,_,_,_,rfl,HE.o▸HZ.o.ew bH.o.tl.tl.tl.tl.box _ _,bj HB2.o (by omega) _ _⟩
theorem yz [Ol] {ao bo:Z'} {n ae l cb:Nat} {x y:Int} {w:ah6} (hx:Zx w false ao n ae x) (hy:Zx w true bo l cb y) (hge:y.natAbs<=x.natAbs):
  Calls Tryz.prog 97 #[.agg #[ai0 false,ah9 ao n ae],.agg #[ai0 true,ah9 bo l cb]] w (qz w (x+y)):=by
 have hle:=hx.le;have hle2:=hy.le;have HX:Hid (cV false x.natAbs=x):=hx.zd.au;have HY:Hid (cV true y.natAbs=y):=hy.zd.au;obtain⟨c,hc⟩:∃c,c=eT x.natAbs y.natAbs:=⟨_,rfl⟩
 have hc0:decide (c<0)=false:=by
  rw[hc];unfold eT;rw[if_neg (by omega)];split<;>simp
 have HC:=hid hc.symm;have uX:=hid hge;clear hc hge;go_enter Tryz.func97,Tryz.ntmps97;go_upto_region 1 with(fail)
 refine aj (λW hW=>?_);have HB0:Hid (ah8 w.heap.size w W):=by rw[hW];exact aN (aN (af _ _))
 have aO:bS W w.heap.size false ao n ae:=by rw[hW];exact((bS.cS _ _ _ _ _ _ _ (by simp)).below (af _ _)).below (af _ _)
 have bI:bS W (w.heap.size+1) true bo l cb:=by rw[hW];exact(bS.cS _ _ _ _ _ _ _ (by simp)).below (af _ _)
 have aR:bS W (w.heap.size+2) false none 0 0:=by rw[hW];exact bS.cS _ _ _ _ _ _ _ (by simp)
 have aw:=hid (aA.cg (hx.below HB0.o) (aA.cg (hy.below HB0.o) (aA.aD aO (aA.aD bI (aA.aD aR (aA.nil W))))));clear hW aO bI aR;have aF:=aw.o.tl.tl.box.c0;have aG:=aw.o.tl.tl.box.c1;have aJ:=aw.o.tl.tl.box.f0;have aK:=aw.o.tl.tl.box.f1;have aU:=aw.o.tl.tl.tl.box.c0;have aV:=aw.o.tl.tl.tl.box.c1;have bg:=aw.o.tl.tl.tl.box.f0;have bh:=aw.o.tl.tl.tl.box.f1;have ay:=aw.o.tl.tl.tl.tl.box.c0;have az:=aw.o.tl.tl.tl.tl.box.c1;have aB:=aw.o.tl.tl.tl.tl.box.f0;have aC:=aw.o.tl.tl.tl.tl.box.f1;go_wp2_with fail;refine(Dg.nH c _ _ _ _ _ _ _ _ _ aw.o.lz.zd.sl aw.o.tl.lz.zd.sl HC).mono ?_;rintro e w1 ⟨rfl,hB⟩;have aL:=hid (aw.o.below hB);have HB1:=hid (Below.ar HB0.o hB);clear aF aG aJ aK aU aV bg bh ay az aB aC aw HB0 hB;have aF:=aL.o.tl.tl.box.c0;have aG:=aL.o.tl.tl.box.c1;have aJ:=aL.o.tl.tl.box.f0;have aK:=aL.o.tl.tl.box.f1;have aU:=aL.o.tl.tl.tl.box.c0;have aV:=aL.o.tl.tl.tl.box.c1;have bg:=aL.o.tl.tl.tl.box.f0;have bh:=aL.o.tl.tl.tl.box.f1;have ay:=aL.o.tl.tl.tl.tl.box.c0;have az:=aL.o.tl.tl.tl.tl.box.c1;have aB:=aL.o.tl.tl.tl.tl.box.f0;have aC:=aL.o.tl.tl.tl.tl.box.f1;go_wp2_with fail;refine(Dg.kg _ _ _ _ _ _ _ _ _ aL.o.lz.zd.sl aL.o.tl.lz.zd.sl uX.o (by omega)).mono ?_;rintro e w2 ⟨d0,dn,dc,rfl,hT,hB⟩;have HT:=hid hT.sl;have hdb:=hT.big;have bH:=hid (aL.o.below hB);have HB2:=hid (Below.ar HB1.o hB);clear aF aG aJ aK aU aV bg bh ay az aB aC aL HB1 hT hB;have aF:=bH.o.tl.tl.box.c0;have aG:=bH.o.tl.tl.box.c1;have aJ:=bH.o.tl.tl.box.f0;have aK:=bH.o.tl.tl.box.f1;have aU:=bH.o.tl.tl.tl.box.c0;have aV:=bH.o.tl.tl.tl.box.c1;have bg:=bH.o.tl.tl.tl.box.f0;have bh:=bH.o.tl.tl.tl.box.f1;have ay:=bH.o.tl.tl.tl.tl.box.c0;have az:=bH.o.tl.tl.tl.tl.box.c1;have aB:=bH.o.tl.tl.tl.tl.box.f0;have aC:=bH.o.tl.tl.tl.tl.box.f1;go_wp2_with fail;have HZ:Hid (Zd w2 (false) d0 dn dc (cV false (x.natAbs-y.natAbs))):=Zd.of HT.o (by simp)
 have HE:Hid (cV false (x.natAbs-y.natAbs)=x+y):=by
  have h1:=HX.o;have h2:=HY.o;have h3:=uX.o;unfold cV at h1 h2;rw[Hid];unfold cV;simp at h1 h2 ⊢;omega
 refine bodyPost_ret (v:= .agg #[ai0 (false),ah9 d0 dn dc]) (by simp[results,Tryz.results97,go_sem,ay,az]) rfl ?_;exact⟨_,_,_,_,rfl,HE.o▸HZ.o.ew bH.o.tl.tl.tl.tl.box _ _,bj HB2.o (by omega) _ _⟩
theorem AZ [Ol] {ao bo:Z'} {n ae l cb:Nat} {x y:Int} {w:ah6} (hx:Zx w true ao n ae x) (hy:Zx w false bo l cb y) (hlt:x.natAbs<y.natAbs):
  Calls Tryz.prog 97 #[.agg #[ai0 true,ah9 ao n ae],.agg #[ai0 false,ah9 bo l cb]] w (qz w (x+y)):=by
 have hle:=hx.le;have hle2:=hy.le;have HX:Hid (cV true x.natAbs=x):=hx.zd.au;have HY:Hid (cV false y.natAbs=y):=hy.zd.au;have HC:Hid (eT x.natAbs y.natAbs= -1):=by rw[Hid];unfold eT;rw[if_pos (by omega)]
 have uX:Hid (x.natAbs<=y.natAbs):=by rw[Hid];omega
 clear hlt;go_enter Tryz.func97,Tryz.ntmps97;go_upto_region 1 with(fail)
 refine aj (λW hW=>?_);have HB0:Hid (ah8 w.heap.size w W):=by rw[hW];exact aN (aN (af _ _))
 have aO:bS W w.heap.size true ao n ae:=by rw[hW];exact((bS.cS _ _ _ _ _ _ _ (by simp)).below (af _ _)).below (af _ _)
 have bI:bS W (w.heap.size+1) false bo l cb:=by rw[hW];exact(bS.cS _ _ _ _ _ _ _ (by simp)).below (af _ _)
 have aR:bS W (w.heap.size+2) false none 0 0:=by rw[hW];exact bS.cS _ _ _ _ _ _ _ (by simp)
 have aw:=hid (aA.cg (hx.below HB0.o) (aA.cg (hy.below HB0.o) (aA.aD aO (aA.aD bI (aA.aD aR (aA.nil W))))));clear hW aO bI aR;have aF:=aw.o.tl.tl.box.c0;have aG:=aw.o.tl.tl.box.c1;have aJ:=aw.o.tl.tl.box.f0;have aK:=aw.o.tl.tl.box.f1;have aU:=aw.o.tl.tl.tl.box.c0;have aV:=aw.o.tl.tl.tl.box.c1;have bg:=aw.o.tl.tl.tl.box.f0;have bh:=aw.o.tl.tl.tl.box.f1;have ay:=aw.o.tl.tl.tl.tl.box.c0;have az:=aw.o.tl.tl.tl.tl.box.c1;have aB:=aw.o.tl.tl.tl.tl.box.f0;have aC:=aw.o.tl.tl.tl.tl.box.f1;go_wp2_with fail;refine(Dg.nH (-1) _ _ _ _ _ _ _ _ _ aw.o.lz.zd.sl aw.o.tl.lz.zd.sl HC).mono ?_;rintro e w1 ⟨rfl,hB⟩;have aL:=hid (aw.o.below hB);have HB1:=hid (Below.ar HB0.o hB);clear aF aG aJ aK aU aV bg bh ay az aB aC aw HB0 hB;have aF:=aL.o.tl.tl.box.c0;have aG:=aL.o.tl.tl.box.c1;have aJ:=aL.o.tl.tl.box.f0;have aK:=aL.o.tl.tl.box.f1;have aU:=aL.o.tl.tl.tl.box.c0;have aV:=aL.o.tl.tl.tl.box.c1;have bg:=aL.o.tl.tl.tl.box.f0;have bh:=aL.o.tl.tl.tl.box.f1;have ay:=aL.o.tl.tl.tl.tl.box.c0;have az:=aL.o.tl.tl.tl.tl.box.c1;have aB:=aL.o.tl.tl.tl.tl.box.f0;have aC:=aL.o.tl.tl.tl.tl.box.f1;go_upto_region 5 with(fail)
 refine aj (λW2 hW2=>?_);have hX2:bS W2 w.heap.size false bo l cb:=by rw[hW2];exact(aL.o.tl.tl.box.set _ _ _ _).dy (by omega) _ _
 have hY2:bS W2 (w.heap.size+1) true ao n ae:=by rw[hW2];exact(aL.o.tl.tl.tl.box.dy (by omega) _ _).set _ _ _ _
 have hR2:bS W2 (w.heap.size+2) false none 0 0:=by rw[hW2];exact(aL.o.tl.tl.tl.tl.box.dy (by omega) _ _).dy (by omega) _ _
 have CZ:Zx W2 true ao n ae x:=by rw[hW2];exact⟨(aL.o.lz.zd.ew aL.o.tl.tl.box _ _).ew (aL.o.tl.tl.tl.box.dy (by omega) _ _) _ _,hle⟩
 have C4:Zx W2 false bo l cb y:=by rw[hW2];exact⟨(aL.o.tl.lz.zd.ew aL.o.tl.tl.box _ _).ew (aL.o.tl.tl.tl.box.dy (by omega) _ _) _ _,hle2⟩
 have HB2:Hid (ah8 w.heap.size w W2):=by rw[hW2];exact bj (bj HB1.o (by omega) _ _) (by omega) _ _
 have bH:=hid (aA.cg CZ (aA.cg C4 (aA.aD hX2 (aA.aD hY2 (aA.aD hR2 (aA.nil W2))))));clear aF aG aJ aK aU aV bg bh ay az aB aC hW2 hX2 hY2 hR2 CZ C4 aL HB1;have aF:=bH.o.tl.tl.box.c0;have aG:=bH.o.tl.tl.box.c1;have aJ:=bH.o.tl.tl.box.f0;have aK:=bH.o.tl.tl.box.f1;have aU:=bH.o.tl.tl.tl.box.c0;have aV:=bH.o.tl.tl.tl.box.c1;have bg:=bH.o.tl.tl.tl.box.f0;have bh:=bH.o.tl.tl.tl.box.f1;have ay:=bH.o.tl.tl.tl.tl.box.c0;have az:=bH.o.tl.tl.tl.tl.box.c1;have aB:=bH.o.tl.tl.tl.tl.box.f0;have aC:=bH.o.tl.tl.tl.tl.box.f1;go_wp2_with fail;refine(Dg.kg _ _ _ _ _ _ _ _ _ bH.o.tl.lz.zd.sl bH.o.lz.zd.sl uX.o (by omega)).mono ?_;rintro e w3 ⟨d0,dn,dc,rfl,hT,hB⟩;have HT:=hid hT.sl;have hdb:=hT.big;have bU:=hid (bH.o.below hB);have HB3:=hid (Below.ar HB2.o hB);clear aF aG aJ aK aU aV bg bh ay az aB aC bH HB2 hT hB;have aF:=bU.o.tl.tl.box.c0;have aG:=bU.o.tl.tl.box.c1;have aJ:=bU.o.tl.tl.box.f0;have aK:=bU.o.tl.tl.box.f1;have aU:=bU.o.tl.tl.tl.box.c0;have aV:=bU.o.tl.tl.tl.box.c1;have bg:=bU.o.tl.tl.tl.box.f0;have bh:=bU.o.tl.tl.tl.box.f1;have ay:=bU.o.tl.tl.tl.tl.box.c0;have az:=bU.o.tl.tl.tl.tl.box.c1;have aB:=bU.o.tl.tl.tl.tl.box.f0;have aC:=bU.o.tl.tl.tl.tl.box.f1;go_wp2_with fail;have HZ:Hid (Zd w3 (false) d0 dn dc (cV false (y.natAbs-x.natAbs))):=Zd.of HT.o (by simp)
 have HE:Hid (cV false (y.natAbs-x.natAbs)=x+y):=by
  have h1:=HX.o;have h2:=HY.o;have h3:=uX.o;unfold cV at h1 h2;rw[Hid];unfold cV;simp at h1 h2 ⊢;omega
 refine bodyPost_ret (v:= .agg #[ai0 (false),ah9 d0 dn dc]) (by simp[results,Tryz.results97,go_sem,ay,az]) rfl ?_;exact⟨_,_,_,_,rfl,HE.o▸HZ.o.ew bU.o.tl.tl.tl.tl.box _ _,bj HB3.o (by omega) _ _⟩
theorem yA [Ol] {ao bo:Z'} {n ae l cb:Nat} {x y:Int} {w:ah6} (hx:Zx w false ao n ae x) (hy:Zx w true bo l cb y) (hlt:x.natAbs<y.natAbs):
  Calls Tryz.prog 97 #[.agg #[ai0 false,ah9 ao n ae],.agg #[ai0 true,ah9 bo l cb]] w (qz w (x+y)):=by
 have hle:=hx.le;have hle2:=hy.le;have HX:Hid (cV false x.natAbs=x):=hx.zd.au;have HY:Hid (cV true y.natAbs=y):=hy.zd.au;have HC:Hid (eT x.natAbs y.natAbs= -1):=by rw[Hid];unfold eT;rw[if_pos (by omega)]
 have uX:Hid (x.natAbs<=y.natAbs):=by rw[Hid];omega
 clear hlt;go_enter Tryz.func97,Tryz.ntmps97;go_upto_region 1 with(fail)
 refine aj (λW hW=>?_);have HB0:Hid (ah8 w.heap.size w W):=by rw[hW];exact aN (aN (af _ _))
 have aO:bS W w.heap.size false ao n ae:=by rw[hW];exact((bS.cS _ _ _ _ _ _ _ (by simp)).below (af _ _)).below (af _ _)
 have bI:bS W (w.heap.size+1) true bo l cb:=by rw[hW];exact(bS.cS _ _ _ _ _ _ _ (by simp)).below (af _ _)
 have aR:bS W (w.heap.size+2) false none 0 0:=by rw[hW];exact bS.cS _ _ _ _ _ _ _ (by simp)
 have aw:=hid (aA.cg (hx.below HB0.o) (aA.cg (hy.below HB0.o) (aA.aD aO (aA.aD bI (aA.aD aR (aA.nil W))))));clear hW aO bI aR;have aF:=aw.o.tl.tl.box.c0;have aG:=aw.o.tl.tl.box.c1;have aJ:=aw.o.tl.tl.box.f0;have aK:=aw.o.tl.tl.box.f1;have aU:=aw.o.tl.tl.tl.box.c0;have aV:=aw.o.tl.tl.tl.box.c1;have bg:=aw.o.tl.tl.tl.box.f0;have bh:=aw.o.tl.tl.tl.box.f1;have ay:=aw.o.tl.tl.tl.tl.box.c0;have az:=aw.o.tl.tl.tl.tl.box.c1;have aB:=aw.o.tl.tl.tl.tl.box.f0;have aC:=aw.o.tl.tl.tl.tl.box.f1;go_wp2_with fail;refine(Dg.nH (-1) _ _ _ _ _ _ _ _ _ aw.o.lz.zd.sl aw.o.tl.lz.zd.sl HC).mono ?_;rintro e w1 ⟨rfl,hB⟩;have aL:=hid (aw.o.below hB);have HB1:=hid (Below.ar HB0.o hB);clear aF aG aJ aK aU aV bg bh ay az aB aC aw HB0 hB;have aF:=aL.o.tl.tl.box.c0;have aG:=aL.o.tl.tl.box.c1;have aJ:=aL.o.tl.tl.box.f0;have aK:=aL.o.tl.tl.box.f1;have aU:=aL.o.tl.tl.tl.box.c0;have aV:=aL.o.tl.tl.tl.box.c1;have bg:=aL.o.tl.tl.tl.box.f0;have bh:=aL.o.tl.tl.tl.box.f1;have ay:=aL.o.tl.tl.tl.tl.box.c0;have az:=aL.o.tl.tl.tl.tl.box.c1;have aB:=aL.o.tl.tl.tl.tl.box.f0;have aC:=aL.o.tl.tl.tl.tl.box.f1;go_upto_region 5 with(fail)
 refine aj (λW2 hW2=>?_);have hX2:bS W2 w.heap.size true bo l cb:=by rw[hW2];exact(aL.o.tl.tl.box.set _ _ _ _).dy (by omega) _ _
 have hY2:bS W2 (w.heap.size+1) false ao n ae:=by rw[hW2];exact(aL.o.tl.tl.tl.box.dy (by omega) _ _).set _ _ _ _
 have hR2:bS W2 (w.heap.size+2) false none 0 0:=by rw[hW2];exact(aL.o.tl.tl.tl.tl.box.dy (by omega) _ _).dy (by omega) _ _
 have CZ:Zx W2 false ao n ae x:=by rw[hW2];exact⟨(aL.o.lz.zd.ew aL.o.tl.tl.box _ _).ew (aL.o.tl.tl.tl.box.dy (by omega) _ _) _ _,hle⟩
 have C4:Zx W2 true bo l cb y:=by rw[hW2];exact⟨(aL.o.tl.lz.zd.ew aL.o.tl.tl.box _ _).ew (aL.o.tl.tl.tl.box.dy (by omega) _ _) _ _,hle2⟩
 have HB2:Hid (ah8 w.heap.size w W2):=by rw[hW2];exact bj (bj HB1.o (by omega) _ _) (by omega) _ _
 have bH:=hid (aA.cg CZ (aA.cg C4 (aA.aD hX2 (aA.aD hY2 (aA.aD hR2 (aA.nil W2))))));clear aF aG aJ aK aU aV bg bh ay az aB aC hW2 hX2 hY2 hR2 CZ C4 aL HB1;have aF:=bH.o.tl.tl.box.c0;have aG:=bH.o.tl.tl.box.c1;have aJ:=bH.o.tl.tl.box.f0;have aK:=bH.o.tl.tl.box.f1;have aU:=bH.o.tl.tl.tl.box.c0;have aV:=bH.o.tl.tl.tl.box.c1;have bg:=bH.o.tl.tl.tl.box.f0;have bh:=bH.o.tl.tl.tl.box.f1;have ay:=bH.o.tl.tl.tl.tl.box.c0;have az:=bH.o.tl.tl.tl.tl.box.c1;have aB:=bH.o.tl.tl.tl.tl.box.f0;have aC:=bH.o.tl.tl.tl.tl.box.f1;go_wp2_with fail;refine(Dg.kg _ _ _ _ _ _ _ _ _ bH.o.tl.lz.zd.sl bH.o.lz.zd.sl uX.o (by omega)).mono ?_;rintro e w3 ⟨d0,dn,dc,rfl,hT,hB⟩;have HT:=hid hT.sl;have hdb:=hT.big;have bU:=hid (bH.o.below hB);have HB3:=hid (Below.ar HB2.o hB);clear aF aG aJ aK aU aV bg bh ay az aB aC bH HB2 hT hB;have aF:=bU.o.tl.tl.box.c0;have aG:=bU.o.tl.tl.box.c1;have aJ:=bU.o.tl.tl.box.f0;have aK:=bU.o.tl.tl.box.f1;have aU:=bU.o.tl.tl.tl.box.c0;have aV:=bU.o.tl.tl.tl.box.c1;have bg:=bU.o.tl.tl.tl.box.f0;have bh:=bU.o.tl.tl.tl.box.f1;have ay:=bU.o.tl.tl.tl.tl.box.c0;have az:=bU.o.tl.tl.tl.tl.box.c1;have aB:=bU.o.tl.tl.tl.tl.box.f0;have aC:=bU.o.tl.tl.tl.tl.box.f1;go_wp2_with fail;have HZ:Hid (Zd w3 (decide (0<dn)) d0 dn dc (cV true (y.natAbs-x.natAbs))):=Zd.of HT.o (by simp)
 have HE:Hid (cV true (y.natAbs-x.natAbs)=x+y):=by
  have h1:=HX.o;have h2:=HY.o;have h3:=uX.o;unfold cV at h1 h2;rw[Hid];unfold cV;simp at h1 h2 ⊢;omega
 refine bodyPost_ret (v:= .agg #[ai0 (decide (0<dn)),ah9 d0 dn dc]) (by simp[results,Tryz.results97,go_sem,ay,az]) rfl ?_;exact⟨_,_,_,_,rfl,HE.o▸HZ.o.ew bU.o.tl.tl.tl.tl.box _ _,bj HB3.o (by omega) _ _⟩
theorem Mk [Ol] {m k:Bool} {ao bo:Z'} {n ae l cb:Nat} {x y:Int} {w:ah6} (hx:Zx w m ao n ae x) (hy:Zx w k bo l cb y):
  Calls Tryz.prog 97 #[.agg #[ai0 m,ah9 ao n ae],.agg #[ai0 k,ah9 bo l cb]] w (qz w (x+y)):=by
 by_cases hmk:k=m
 ·subst hmk;exact JL hx hy
 ·by_cases h:y.natAbs<=x.natAbs
  ·cases m<;>cases k
   ·exact absurd rfl hmk
   ·exact yz hx hy h
   ·exact AY hx hy h
   ·exact absurd rfl hmk
  ·cases m<;>cases k
   ·exact absurd rfl hmk
   ·exact yA hx hy (by omega)
   ·exact AZ hx hy (by omega)
   ·exact absurd rfl hmk
open Lib (hid)
def C5 [Ol] (w:ah6) (q r:Int) (e:Ending) (w':ah6):Prop:=
 ∃m ao n ae k bo l cb,e= .returned (.tuple #[.agg #[ai0 m,ah9 ao n ae],.agg #[ai0 k,ah9 bo l cb]])/\ Zd w' m ao n ae q/\ Zd w' k bo l cb r/\ ah8 w.heap.size w w'
theorem sg [Ol] {ao bo:Z'} {n ae l cb:Nat} {x y:Int} {w:ah6} (hx:Zx w true ao n ae x) (hy:Zx w true bo l cb y) (h0:y≠0):
  Calls Tryz.prog 56 #[.agg #[ai0 true,ah9 ao n ae],.agg #[ai0 true,ah9 bo l cb]] w (C5 w (x.tdiv y) (x.tmod y)):=by
 have hle:=hx.le;have hle2:=hy.le;have HX:Hid (cV true x.natAbs=x):=hx.zd.au;have HY:Hid (cV true y.natAbs=y):=hy.zd.au;have H0:Hid (0<y.natAbs):=by rw[Hid];omega
 clear h0;go_enter Tryz.func56,Tryz.ntmps56;go_upto_region 1 with(fail)
 refine aj (λW hW=>?_);have HB0:Hid (ah8 w.heap.size w W):=by rw[hW];exact aN (aN (aN (af _ _)))
 have aO:bS W w.heap.size true ao n ae:=by rw[hW];exact(((bS.cS _ _ _ _ _ _ _ (by simp)).below (af _ _)).below (af _ _)).below (af _ _)
 have bI:bS W (w.heap.size+1) true bo l cb:=by rw[hW];exact((bS.cS _ _ _ _ _ _ _ (by simp)).below (af _ _)).below (af _ _)
 have kQ:bS W (w.heap.size+2) false none 0 0:=by rw[hW];exact(bS.cS _ _ _ _ _ _ _ (by simp)).below (af _ _)
 have aR:bS W (w.heap.size+3) false none 0 0:=by rw[hW];exact bS.cS _ _ _ _ _ _ _ (by simp)
 have aw:=hid (aA.cg (hx.below HB0.o) (aA.cg (hy.below HB0.o) (aA.aD aO (aA.aD bI (aA.aD kQ (aA.aD aR (aA.nil W)))))));clear hW aO bI kQ aR;have aF:=aw.o.tl.tl.box.c0;have aG:=aw.o.tl.tl.box.c1;have aJ:=aw.o.tl.tl.box.f0;have aK:=aw.o.tl.tl.box.f1;have aU:=aw.o.tl.tl.tl.box.c0;have aV:=aw.o.tl.tl.tl.box.c1;have bg:=aw.o.tl.tl.tl.box.f0;have bh:=aw.o.tl.tl.tl.box.f1;have kR:=aw.o.tl.tl.tl.tl.box.c0;have kS:=aw.o.tl.tl.tl.tl.box.c1;have oP:=aw.o.tl.tl.tl.tl.box.f0;have oQ:=aw.o.tl.tl.tl.tl.box.f1;have ay:=aw.o.tl.tl.tl.tl.tl.box.c0;have az:=aw.o.tl.tl.tl.tl.tl.box.c1;have aB:=aw.o.tl.tl.tl.tl.tl.box.f0;have aC:=aw.o.tl.tl.tl.tl.tl.box.f1;go_wp2_with fail;refine(Dg.kT _ _ _ _ _ _ _ _ _ aw.o.lz.zd.sl aw.o.tl.lz.zd.sl H0.o (by omega) (by omega)).mono ?_;rintro e w1 ⟨q0,qn,qc,s0,sn,sc,rfl,hQ,hS,hB⟩;rw[Dg.av]at hQ hS;have HQ:=hid hQ;have HS:=hid hS;have QR:=hQ.big;have hsb:=hS.big;have aL:=hid (aw.o.below hB);have HB1:=hid (Below.ar HB0.o hB);clear aF aG aJ aK aU aV bg bh kR kS oP oQ ay az aB aC aw HB0 hQ hS hB;have aF:=aL.o.tl.tl.box.c0;have aG:=aL.o.tl.tl.box.c1;have aJ:=aL.o.tl.tl.box.f0;have aK:=aL.o.tl.tl.box.f1;have aU:=aL.o.tl.tl.tl.box.c0;have aV:=aL.o.tl.tl.tl.box.c1;have bg:=aL.o.tl.tl.tl.box.f0;have bh:=aL.o.tl.tl.tl.box.f1;have kR:=aL.o.tl.tl.tl.tl.box.c0;have kS:=aL.o.tl.tl.tl.tl.box.c1;have oP:=aL.o.tl.tl.tl.tl.box.f0;have oQ:=aL.o.tl.tl.tl.tl.box.f1;have ay:=aL.o.tl.tl.tl.tl.tl.box.c0;have az:=aL.o.tl.tl.tl.tl.tl.box.c1;have aB:=aL.o.tl.tl.tl.tl.tl.box.f0;have aC:=aL.o.tl.tl.tl.tl.tl.box.f1;go_wp2_with fail;have HU:Hid (Zd w1 (false) q0 qn qc (cV (true !=true) (x.natAbs/y.natAbs))):=Zd.of HQ.o (by simp);have HV:Hid (Zd w1 (decide (0<sn)) s0 sn sc (cV true (x.natAbs%y.natAbs))):=Zd.of HS.o (by simp);have vv:Hid (cV (true !=true) (x.natAbs/y.natAbs)=x.tdiv y):=by rw[Hid,si,HX.o,HY.o]
 have HE2:Hid (cV true (x.natAbs%y.natAbs)=x.tmod y):=by rw[Hid,sj true true,HX.o,HY.o]
 have lY:=hid (bj (bj HB1.o (b:=w.heap.size+2) (by omega) (ai0 (false)) (ah9 q0 qn qc)) (b:=w.heap.size+3) (by omega) (ai0 (decide (0<sn))) (ah9 s0 sn sc));have Uy:Hid (Zd _ (false) q0 qn qc (x.tdiv y)):=hid (vv.o▸(HU.o.ew aL.o.tl.tl.tl.tl.box (ai0 (false)) (ah9 q0 qn qc)).ew (aL.o.tl.tl.tl.tl.tl.box.dy (by omega) _ _) (ai0 (decide (0<sn))) (ah9 s0 sn sc));have Uz:Hid (Zd _ (decide (0<sn)) s0 sn sc (x.tmod y)):=hid (HE2.o▸(HV.o.ew aL.o.tl.tl.tl.tl.box (ai0 (false)) (ah9 q0 qn qc)).ew (aL.o.tl.tl.tl.tl.tl.box.dy (by omega) _ _) (ai0 (decide (0<sn))) (ah9 s0 sn sc));refine bodyPost_ret (v:= .tuple #[.agg #[ai0 (false),ah9 q0 qn qc],.agg #[ai0 (decide (0<sn)),ah9 s0 sn sc]]) (by simp[results,Tryz.results56,go_sem,kR,kS,ay,az]) rfl ?_;exact⟨_,_,_,_,_,_,_,_,rfl,Uy.o,Uz.o,lY.o⟩
theorem qU [Ol] {ao bo:Z'} {n ae l cb:Nat} {x y:Int} {w:ah6} (hx:Zx w true ao n ae x) (hy:Zx w false bo l cb y) (h0:y≠0):
  Calls Tryz.prog 56 #[.agg #[ai0 true,ah9 ao n ae],.agg #[ai0 false,ah9 bo l cb]] w (C5 w (x.tdiv y) (x.tmod y)):=by
 have hle:=hx.le;have hle2:=hy.le;have HX:Hid (cV true x.natAbs=x):=hx.zd.au;have HY:Hid (cV false y.natAbs=y):=hy.zd.au;have H0:Hid (0<y.natAbs):=by rw[Hid];omega
 clear h0;go_enter Tryz.func56,Tryz.ntmps56;go_upto_region 1 with(fail)
 refine aj (λW hW=>?_);have HB0:Hid (ah8 w.heap.size w W):=by rw[hW];exact aN (aN (aN (af _ _)))
 have aO:bS W w.heap.size true ao n ae:=by rw[hW];exact(((bS.cS _ _ _ _ _ _ _ (by simp)).below (af _ _)).below (af _ _)).below (af _ _)
 have bI:bS W (w.heap.size+1) false bo l cb:=by rw[hW];exact((bS.cS _ _ _ _ _ _ _ (by simp)).below (af _ _)).below (af _ _)
 have kQ:bS W (w.heap.size+2) false none 0 0:=by rw[hW];exact(bS.cS _ _ _ _ _ _ _ (by simp)).below (af _ _)
 have aR:bS W (w.heap.size+3) false none 0 0:=by rw[hW];exact bS.cS _ _ _ _ _ _ _ (by simp)
 have aw:=hid (aA.cg (hx.below HB0.o) (aA.cg (hy.below HB0.o) (aA.aD aO (aA.aD bI (aA.aD kQ (aA.aD aR (aA.nil W)))))));clear hW aO bI kQ aR;have aF:=aw.o.tl.tl.box.c0;have aG:=aw.o.tl.tl.box.c1;have aJ:=aw.o.tl.tl.box.f0;have aK:=aw.o.tl.tl.box.f1;have aU:=aw.o.tl.tl.tl.box.c0;have aV:=aw.o.tl.tl.tl.box.c1;have bg:=aw.o.tl.tl.tl.box.f0;have bh:=aw.o.tl.tl.tl.box.f1;have kR:=aw.o.tl.tl.tl.tl.box.c0;have kS:=aw.o.tl.tl.tl.tl.box.c1;have oP:=aw.o.tl.tl.tl.tl.box.f0;have oQ:=aw.o.tl.tl.tl.tl.box.f1;have ay:=aw.o.tl.tl.tl.tl.tl.box.c0;have az:=aw.o.tl.tl.tl.tl.tl.box.c1;have aB:=aw.o.tl.tl.tl.tl.tl.box.f0;have aC:=aw.o.tl.tl.tl.tl.tl.box.f1;go_wp2_with fail;refine(Dg.kT _ _ _ _ _ _ _ _ _ aw.o.lz.zd.sl aw.o.tl.lz.zd.sl H0.o (by omega) (by omega)).mono ?_;rintro e w1 ⟨q0,qn,qc,s0,sn,sc,rfl,hQ,hS,hB⟩;rw[Dg.av]at hQ hS;have HQ:=hid hQ;have HS:=hid hS;have QR:=hQ.big;have hsb:=hS.big;have aL:=hid (aw.o.below hB);have HB1:=hid (Below.ar HB0.o hB);clear aF aG aJ aK aU aV bg bh kR kS oP oQ ay az aB aC aw HB0 hQ hS hB;have aF:=aL.o.tl.tl.box.c0;have aG:=aL.o.tl.tl.box.c1;have aJ:=aL.o.tl.tl.box.f0;have aK:=aL.o.tl.tl.box.f1;have aU:=aL.o.tl.tl.tl.box.c0;have aV:=aL.o.tl.tl.tl.box.c1;have bg:=aL.o.tl.tl.tl.box.f0;have bh:=aL.o.tl.tl.tl.box.f1;have kR:=aL.o.tl.tl.tl.tl.box.c0;have kS:=aL.o.tl.tl.tl.tl.box.c1;have oP:=aL.o.tl.tl.tl.tl.box.f0;have oQ:=aL.o.tl.tl.tl.tl.box.f1;have ay:=aL.o.tl.tl.tl.tl.tl.box.c0;have az:=aL.o.tl.tl.tl.tl.tl.box.c1;have aB:=aL.o.tl.tl.tl.tl.tl.box.f0;have aC:=aL.o.tl.tl.tl.tl.tl.box.f1;go_wp2_with fail;have HU:Hid (Zd w1 (decide (0<qn)) q0 qn qc (cV (true !=false) (x.natAbs/y.natAbs))):=Zd.of HQ.o (by simp);have HV:Hid (Zd w1 (decide (0<sn)) s0 sn sc (cV true (x.natAbs%y.natAbs))):=Zd.of HS.o (by simp);have vv:Hid (cV (true !=false) (x.natAbs/y.natAbs)=x.tdiv y):=by rw[Hid,si,HX.o,HY.o]
 have HE2:Hid (cV true (x.natAbs%y.natAbs)=x.tmod y):=by rw[Hid,sj true false,HX.o,HY.o]
 have lY:=hid (bj (bj HB1.o (b:=w.heap.size+2) (by omega) (ai0 (decide (0<qn))) (ah9 q0 qn qc)) (b:=w.heap.size+3) (by omega) (ai0 (decide (0<sn))) (ah9 s0 sn sc));have Uy:Hid (Zd _ (decide (0<qn)) q0 qn qc (x.tdiv y)):=hid (vv.o▸(HU.o.ew aL.o.tl.tl.tl.tl.box (ai0 (decide (0<qn))) (ah9 q0 qn qc)).ew (aL.o.tl.tl.tl.tl.tl.box.dy (by omega) _ _) (ai0 (decide (0<sn))) (ah9 s0 sn sc));have Uz:Hid (Zd _ (decide (0<sn)) s0 sn sc (x.tmod y)):=hid (HE2.o▸(HV.o.ew aL.o.tl.tl.tl.tl.box (ai0 (decide (0<qn))) (ah9 q0 qn qc)).ew (aL.o.tl.tl.tl.tl.tl.box.dy (by omega) _ _) (ai0 (decide (0<sn))) (ah9 s0 sn sc));refine bodyPost_ret (v:= .tuple #[.agg #[ai0 (decide (0<qn)),ah9 q0 qn qc],.agg #[ai0 (decide (0<sn)),ah9 s0 sn sc]]) (by simp[results,Tryz.results56,go_sem,kR,kS,ay,az]) rfl ?_;exact⟨_,_,_,_,_,_,_,_,rfl,Uy.o,Uz.o,lY.o⟩
theorem qV [Ol] {ao bo:Z'} {n ae l cb:Nat} {x y:Int} {w:ah6} (hx:Zx w false ao n ae x) (hy:Zx w true bo l cb y) (h0:y≠0):
  Calls Tryz.prog 56 #[.agg #[ai0 false,ah9 ao n ae],.agg #[ai0 true,ah9 bo l cb]] w (C5 w (x.tdiv y) (x.tmod y)):=by
 have hle:=hx.le;have hle2:=hy.le;have HX:Hid (cV false x.natAbs=x):=hx.zd.au;have HY:Hid (cV true y.natAbs=y):=hy.zd.au;have H0:Hid (0<y.natAbs):=by rw[Hid];omega
 clear h0;go_enter Tryz.func56,Tryz.ntmps56;go_upto_region 1 with(fail)
 refine aj (λW hW=>?_);have HB0:Hid (ah8 w.heap.size w W):=by rw[hW];exact aN (aN (aN (af _ _)))
 have aO:bS W w.heap.size false ao n ae:=by rw[hW];exact(((bS.cS _ _ _ _ _ _ _ (by simp)).below (af _ _)).below (af _ _)).below (af _ _)
 have bI:bS W (w.heap.size+1) true bo l cb:=by rw[hW];exact((bS.cS _ _ _ _ _ _ _ (by simp)).below (af _ _)).below (af _ _)
 have kQ:bS W (w.heap.size+2) false none 0 0:=by rw[hW];exact(bS.cS _ _ _ _ _ _ _ (by simp)).below (af _ _)
 have aR:bS W (w.heap.size+3) false none 0 0:=by rw[hW];exact bS.cS _ _ _ _ _ _ _ (by simp)
 have aw:=hid (aA.cg (hx.below HB0.o) (aA.cg (hy.below HB0.o) (aA.aD aO (aA.aD bI (aA.aD kQ (aA.aD aR (aA.nil W)))))));clear hW aO bI kQ aR;have aF:=aw.o.tl.tl.box.c0;have aG:=aw.o.tl.tl.box.c1;have aJ:=aw.o.tl.tl.box.f0;have aK:=aw.o.tl.tl.box.f1;have aU:=aw.o.tl.tl.tl.box.c0;have aV:=aw.o.tl.tl.tl.box.c1;have bg:=aw.o.tl.tl.tl.box.f0;have bh:=aw.o.tl.tl.tl.box.f1;have kR:=aw.o.tl.tl.tl.tl.box.c0;have kS:=aw.o.tl.tl.tl.tl.box.c1;have oP:=aw.o.tl.tl.tl.tl.box.f0;have oQ:=aw.o.tl.tl.tl.tl.box.f1;have ay:=aw.o.tl.tl.tl.tl.tl.box.c0;have az:=aw.o.tl.tl.tl.tl.tl.box.c1;have aB:=aw.o.tl.tl.tl.tl.tl.box.f0;have aC:=aw.o.tl.tl.tl.tl.tl.box.f1;go_wp2_with fail;refine(Dg.kT _ _ _ _ _ _ _ _ _ aw.o.lz.zd.sl aw.o.tl.lz.zd.sl H0.o (by omega) (by omega)).mono ?_;rintro e w1 ⟨q0,qn,qc,s0,sn,sc,rfl,hQ,hS,hB⟩;rw[Dg.av]at hQ hS;have HQ:=hid hQ;have HS:=hid hS;have QR:=hQ.big;have hsb:=hS.big;have aL:=hid (aw.o.below hB);have HB1:=hid (Below.ar HB0.o hB);clear aF aG aJ aK aU aV bg bh kR kS oP oQ ay az aB aC aw HB0 hQ hS hB;have aF:=aL.o.tl.tl.box.c0;have aG:=aL.o.tl.tl.box.c1;have aJ:=aL.o.tl.tl.box.f0;have aK:=aL.o.tl.tl.box.f1;have aU:=aL.o.tl.tl.tl.box.c0;have aV:=aL.o.tl.tl.tl.box.c1;have bg:=aL.o.tl.tl.tl.box.f0;have bh:=aL.o.tl.tl.tl.box.f1;have kR:=aL.o.tl.tl.tl.tl.box.c0;have kS:=aL.o.tl.tl.tl.tl.box.c1;have oP:=aL.o.tl.tl.tl.tl.box.f0;have oQ:=aL.o.tl.tl.tl.tl.box.f1;have ay:=aL.o.tl.tl.tl.tl.tl.box.c0;have az:=aL.o.tl.tl.tl.tl.tl.box.c1;have aB:=aL.o.tl.tl.tl.tl.tl.box.f0;have aC:=aL.o.tl.tl.tl.tl.tl.box.f1;go_wp2_with fail;have HU:Hid (Zd w1 (decide (0<qn)) q0 qn qc (cV (false !=true) (x.natAbs/y.natAbs))):=Zd.of HQ.o (by simp);have HV:Hid (Zd w1 (false) s0 sn sc (cV false (x.natAbs%y.natAbs))):=Zd.of HS.o (by simp);have vv:Hid (cV (false !=true) (x.natAbs/y.natAbs)=x.tdiv y):=by rw[Hid,si,HX.o,HY.o]
 have HE2:Hid (cV false (x.natAbs%y.natAbs)=x.tmod y):=by rw[Hid,sj false true,HX.o,HY.o]
 have lY:=hid (bj (bj HB1.o (b:=w.heap.size+2) (by omega) (ai0 (decide (0<qn))) (ah9 q0 qn qc)) (b:=w.heap.size+3) (by omega) (ai0 (false)) (ah9 s0 sn sc));have Uy:Hid (Zd _ (decide (0<qn)) q0 qn qc (x.tdiv y)):=hid (vv.o▸(HU.o.ew aL.o.tl.tl.tl.tl.box (ai0 (decide (0<qn))) (ah9 q0 qn qc)).ew (aL.o.tl.tl.tl.tl.tl.box.dy (by omega) _ _) (ai0 (false)) (ah9 s0 sn sc));have Uz:Hid (Zd _ (false) s0 sn sc (x.tmod y)):=hid (HE2.o▸(HV.o.ew aL.o.tl.tl.tl.tl.box (ai0 (decide (0<qn))) (ah9 q0 qn qc)).ew (aL.o.tl.tl.tl.tl.tl.box.dy (by omega) _ _) (ai0 (false)) (ah9 s0 sn sc));refine bodyPost_ret (v:= .tuple #[.agg #[ai0 (decide (0<qn)),ah9 q0 qn qc],.agg #[ai0 (false),ah9 s0 sn sc]]) (by simp[results,Tryz.results56,go_sem,kR,kS,ay,az]) rfl ?_;exact⟨_,_,_,_,_,_,_,_,rfl,Uy.o,Uz.o,lY.o⟩
theorem qA [Ol] {ao bo:Z'} {n ae l cb:Nat} {x y:Int} {w:ah6} (hx:Zx w false ao n ae x) (hy:Zx w false bo l cb y) (h0:y≠0):
  Calls Tryz.prog 56 #[.agg #[ai0 false,ah9 ao n ae],.agg #[ai0 false,ah9 bo l cb]] w (C5 w (x.tdiv y) (x.tmod y)):=by
 have hle:=hx.le;have hle2:=hy.le;have HX:Hid (cV false x.natAbs=x):=hx.zd.au;have HY:Hid (cV false y.natAbs=y):=hy.zd.au;have H0:Hid (0<y.natAbs):=by rw[Hid];omega
 clear h0;go_enter Tryz.func56,Tryz.ntmps56;go_upto_region 1 with(fail)
 refine aj (λW hW=>?_);have HB0:Hid (ah8 w.heap.size w W):=by rw[hW];exact aN (aN (aN (af _ _)))
 have aO:bS W w.heap.size false ao n ae:=by rw[hW];exact(((bS.cS _ _ _ _ _ _ _ (by simp)).below (af _ _)).below (af _ _)).below (af _ _)
 have bI:bS W (w.heap.size+1) false bo l cb:=by rw[hW];exact((bS.cS _ _ _ _ _ _ _ (by simp)).below (af _ _)).below (af _ _)
 have kQ:bS W (w.heap.size+2) false none 0 0:=by rw[hW];exact(bS.cS _ _ _ _ _ _ _ (by simp)).below (af _ _)
 have aR:bS W (w.heap.size+3) false none 0 0:=by rw[hW];exact bS.cS _ _ _ _ _ _ _ (by simp)
 have aw:=hid (aA.cg (hx.below HB0.o) (aA.cg (hy.below HB0.o) (aA.aD aO (aA.aD bI (aA.aD kQ (aA.aD aR (aA.nil W)))))));clear hW aO bI kQ aR;have aF:=aw.o.tl.tl.box.c0;have aG:=aw.o.tl.tl.box.c1;have aJ:=aw.o.tl.tl.box.f0;have aK:=aw.o.tl.tl.box.f1;have aU:=aw.o.tl.tl.tl.box.c0;have aV:=aw.o.tl.tl.tl.box.c1;have bg:=aw.o.tl.tl.tl.box.f0;have bh:=aw.o.tl.tl.tl.box.f1;have kR:=aw.o.tl.tl.tl.tl.box.c0;have kS:=aw.o.tl.tl.tl.tl.box.c1;have oP:=aw.o.tl.tl.tl.tl.box.f0;have oQ:=aw.o.tl.tl.tl.tl.box.f1;have ay:=aw.o.tl.tl.tl.tl.tl.box.c0;have az:=aw.o.tl.tl.tl.tl.tl.box.c1;have aB:=aw.o.tl.tl.tl.tl.tl.box.f0;have aC:=aw.o.tl.tl.tl.tl.tl.box.f1;go_wp2_with fail;refine(Dg.kT _ _ _ _ _ _ _ _ _ aw.o.lz.zd.sl aw.o.tl.lz.zd.sl H0.o (by omega) (by omega)).mono ?_;rintro e w1 ⟨q0,qn,qc,s0,sn,sc,rfl,hQ,hS,hB⟩;rw[Dg.av]at hQ hS;have HQ:=hid hQ;have HS:=hid hS;have QR:=hQ.big;have hsb:=hS.big;have aL:=hid (aw.o.below hB);have HB1:=hid (Below.ar HB0.o hB);clear aF aG aJ aK aU aV bg bh kR kS oP oQ ay az aB aC aw HB0 hQ hS hB;have aF:=aL.o.tl.tl.box.c0;have aG:=aL.o.tl.tl.box.c1;have aJ:=aL.o.tl.tl.box.f0;have aK:=aL.o.tl.tl.box.f1;have aU:=aL.o.tl.tl.tl.box.c0;have aV:=aL.o.tl.tl.tl.box.c1;have bg:=aL.o.tl.tl.tl.box.f0;have bh:=aL.o.tl.tl.tl.box.f1;have kR:=aL.o.tl.tl.tl.tl.box.c0;have kS:=aL.o.tl.tl.tl.tl.box.c1;have oP:=aL.o.tl.tl.tl.tl.box.f0;have oQ:=aL.o.tl.tl.tl.tl.box.f1;have ay:=aL.o.tl.tl.tl.tl.tl.box.c0;have az:=aL.o.tl.tl.tl.tl.tl.box.c1;have aB:=aL.o.tl.tl.tl.tl.tl.box.f0;have aC:=aL.o.tl.tl.tl.tl.tl.box.f1;go_wp2_with fail;have HU:Hid (Zd w1 (false) q0 qn qc (cV (false !=false) (x.natAbs/y.natAbs))):=Zd.of HQ.o (by simp);have HV:Hid (Zd w1 (false) s0 sn sc (cV false (x.natAbs%y.natAbs))):=Zd.of HS.o (by simp);have vv:Hid (cV (false !=false) (x.natAbs/y.natAbs)=x.tdiv y):=by rw[Hid,si,HX.o,HY.o]
 have HE2:Hid (cV false (x.natAbs%y.natAbs)=x.tmod y):=by rw[Hid,sj false false,HX.o,HY.o]
 have lY:=hid (bj (bj HB1.o (b:=w.heap.size+2) (by omega) (ai0 (false)) (ah9 q0 qn qc)) (b:=w.heap.size+3) (by omega) (ai0 (false)) (ah9 s0 sn sc));have Uy:Hid (Zd _ (false) q0 qn qc (x.tdiv y)):=hid (vv.o▸(HU.o.ew aL.o.tl.tl.tl.tl.box (ai0 (false)) (ah9 q0 qn qc)).ew (aL.o.tl.tl.tl.tl.tl.box.dy (by omega) _ _) (ai0 (false)) (ah9 s0 sn sc));have Uz:Hid (Zd _ (false) s0 sn sc (x.tmod y)):=hid (HE2.o▸(HV.o.ew aL.o.tl.tl.tl.tl.box (ai0 (false)) (ah9 q0 qn qc)).ew (aL.o.tl.tl.tl.tl.tl.box.dy (by omega) _ _) (ai0 (false)) (ah9 s0 sn sc));refine bodyPost_ret (v:= .tuple #[.agg #[ai0 (false),ah9 q0 qn qc],.agg #[ai0 (false),ah9 s0 sn sc]]) (by simp[results,Tryz.results56,go_sem,kR,kS,ay,az]) rfl ?_;exact⟨_,_,_,_,_,_,_,_,rfl,Uy.o,Uz.o,lY.o⟩
theorem lH [Ol] {m k:Bool} {ao bo:Z'} {n ae l cb:Nat} {x y:Int} {w:ah6} (hx:Zx w m ao n ae x) (hy:Zx w k bo l cb y) (h0:y≠0):
  Calls Tryz.prog 56 #[.agg #[ai0 m,ah9 ao n ae],.agg #[ai0 k,ah9 bo l cb]] w (C5 w (x.tdiv y) (x.tmod y)):=by
 cases m<;>cases k
 ·exact qA hx hy h0
 ·exact qV hx hy h0
 ·exact qU hx hy h0
 ·exact sg hx hy h0
theorem CR [Ol] {m k:Bool} {ao bo:Z'} {n ae l cb:Nat} {x y:Int} {w:ah6} (hx:Zx w m ao n ae x) (hy:Zx w k bo l cb y):
  Calls Tryz.prog 55 #[.agg #[ai0 m,ah9 ao n ae],.agg #[ai0 k,ah9 bo l cb]] w (qz w ((x.gcd y:Nat):Int)):=by
 have hle:=hx.le;have hle2:=hy.le;obtain⟨G,hG⟩:∃G,G=x.gcd y:=⟨_,rfl⟩;rw[<-hG];have PR:=hid hG;clear hG;go_enter Tryz.func55,Tryz.ntmps55;go_upto_region 1 with(fail)
 refine aj (λW hW=>?_);have HB0:Hid (ah8 w.heap.size w W):=by rw[hW];exact aN (aN (af _ _))
 have aO:bS W w.heap.size m ao n ae:=by rw[hW];exact((bS.cS _ _ _ _ _ _ _ (by simp)).below (af _ _)).below (af _ _)
 have bI:bS W (w.heap.size+1) k bo l cb:=by rw[hW];exact(bS.cS _ _ _ _ _ _ _ (by simp)).below (af _ _)
 have aR:bS W (w.heap.size+2) false none 0 0:=by rw[hW];exact bS.cS _ _ _ _ _ _ _ (by simp)
 have aw:=hid (aA.cg (hx.below HB0.o) (aA.cg (hy.below HB0.o) (aA.aD aO (aA.aD bI (aA.aD aR (aA.nil W))))));clear hW aO bI aR;have aF:=aw.o.tl.tl.box.c0;have aG:=aw.o.tl.tl.box.c1;have aJ:=aw.o.tl.tl.box.f0;have aK:=aw.o.tl.tl.box.f1;have aU:=aw.o.tl.tl.tl.box.c0;have aV:=aw.o.tl.tl.tl.box.c1;have bg:=aw.o.tl.tl.tl.box.f0;have bh:=aw.o.tl.tl.tl.box.f1;have ay:=aw.o.tl.tl.tl.tl.box.c0;have az:=aw.o.tl.tl.tl.tl.box.c1;have aB:=aw.o.tl.tl.tl.tl.box.f0;have aC:=aw.o.tl.tl.tl.tl.box.f1;have iW:=hid (aw.o.below ((Below.refl _ _).drew));have iX:=hid HB0.o.drew;clear aF aG aJ aK aU aV bg bh ay az aB aC aw HB0;have aw:=hid iW.o;have HB0:=hid iX.o;clear iW iX;have aF:=aw.o.tl.tl.box.c0;have aG:=aw.o.tl.tl.box.c1;have aJ:=aw.o.tl.tl.box.f0;have aK:=aw.o.tl.tl.box.f1;have aU:=aw.o.tl.tl.tl.box.c0;have aV:=aw.o.tl.tl.tl.box.c1;have bg:=aw.o.tl.tl.tl.box.f0;have bh:=aw.o.tl.tl.tl.box.f1;have ay:=aw.o.tl.tl.tl.tl.box.c0;have az:=aw.o.tl.tl.tl.tl.box.c1;have aB:=aw.o.tl.tl.tl.tl.box.f0;have aC:=aw.o.tl.tl.tl.tl.box.f1;refine wp_region_held_drew (S:=λw'=>w'.cell? ⟨w.heap.size,0,none⟩=some (ai0 m)/\ w'.cell? ⟨w.heap.size,1,none⟩=some (ah9 ao n ae)/\ w'.cell? ⟨w.heap.size+1,0,none⟩=some (ai0 k)/\ w'.cell? ⟨w.heap.size+1,1,none⟩=some (ah9 bo l cb)) (by kernel_rfl) (ah5 aw.o.tl.tl.box.c0 (ah5 aw.o.tl.tl.box.c1 (ah5 aw.o.tl.tl.tl.box.c0 aw.o.tl.tl.tl.box.c1))) (λhHeld=>?_);refine cw 0 rfl (by kernel_rfl) (λ_ _ _ h=>h) (by rfl) hHeld (by intro w hSw;first|(go_simp;done)|(go_simp;with_reducible rfl)) ?_
 try simp only[ah7,ai1,ai2,ai3]
 refine cw 1 rfl (by kernel_rfl) (λ_ _ _ h=>h) (by rfl) hHeld (by intro w hSw;first|(go_simp;done)|(go_simp;with_reducible rfl)) ?_
 try simp only[ah7,ai1,ai2,ai3]
 refine cw 2 rfl (by kernel_rfl) (λ_ _ _ h=>h) (by rfl) hHeld (by intro w hSw;first|(go_simp;done)|(go_simp;with_reducible rfl)) ?_
 try simp only[ah7,ai1,ai2,ai3]
 refine cw 3 rfl (by kernel_rfl) (λ_ _ _ h=>h) (by rfl) hHeld (by intro w hSw;first|(go_simp;done)|(go_simp;with_reducible rfl)) ?_
 try simp only[ah7,ai1,ai2,ai3]
 refine cw 4 rfl (by kernel_rfl) (λ_ _ _ h=>h) (by rfl) hHeld (by intro w hSw;first|(go_simp;done)|(go_simp;with_reducible rfl)) ?_
 try simp only[ah7,ai1,ai2,ai3]
 refine cw 5 rfl (by kernel_rfl) (λ_ _ _ h=>h) (by rfl) hHeld (by intro w hSw;first|(go_simp;done)|(go_simp;with_reducible rfl)) ?_
 try simp only[ah7,ai1,ai2,ai3]
 refine wpAnyH_done (by kernel_rfl) ?_ _
 clear hHeld;go_wp2_with fail;have HI0:Hid (Dg.Sl W.drew ao n ae (Dg.aq x.natAbs)/\ Dg.Sl W.drew bo l cb (Dg.aq y.natAbs)/\ Nat.gcd x.natAbs y.natAbs=G/\ y.natAbs=y.natAbs/\ ah8 w.heap.size w W.drew/\ bS W.drew (w.heap.size+2) false none 0 0):=⟨aw.o.lz.zd.sl,aw.o.tl.lz.zd.sl,PR.o.symm,rfl,HB0.o,aw.o.tl.tl.tl.tl.box⟩;clear aF aG aJ aK aU aV bg bh ay az aB aC aw HB0;go_loopg [5,6] y.natAbs (λg u v wr=>∃(co:Option Addr) (cn cc:Nat) (fo:Option Addr) (fn fc:Nat) (a b:Nat),u=ah9 co cn cc/\ v=ah9 fo fn fc/\ cn<=1000000/\ fn<=1000000/\ Hid (Dg.Sl wr co cn cc (Dg.aq a)/\ Dg.Sl wr fo fn fc (Dg.aq b)/\ Nat.gcd a b=G/\ b=g/\ ah8 w.heap.size w wr/\ bS wr (w.heap.size+2) false none 0 0))
 case atStart=>exact⟨_,_,_,_,_,_,_,_,rfl,rfl,hle,hle2,HI0.o⟩
 case round=>
  clear HI0;obtain⟨co,cn,cc,fo,fn,fc,a,b,rfl,rfl,hcn,hfn,HI⟩:=hrel;obtain⟨wo,rfl⟩:∃wo:ah6,wo=wr:=⟨_,rfl⟩;have hfl:=HI.o.2.1.len;by_cases h0:b=0
  ·obtain rfl:fn=0:=by rw[<-hfl,h0];rfl
   have HE:Hid (a=G):=by rw[Hid,<-HI.o.2.2.1,h0,Nat.gcd_zero_right]
   have ay:=HI.o.2.2.2.2.2.c0;have az:=HI.o.2.2.2.2.2.c1;have aB:=HI.o.2.2.2.2.2.f0;have aC:=HI.o.2.2.2.2.2.f1;clear h0 hfl;go_wp2_with fail;refine bodyPost_ret (v:= .agg #[ai0 false,ah9 co cn cc]) (by simp[results,Tryz.results55,go_sem,ay,az]) rfl ?_;have HC:Hid (Zd wo false co cn cc ((G:Nat):Int)):=⟨by simp,by rw[Int.natAbs_natCast,<-HE.o];exact HI.o.1⟩;exact⟨_,_,_,_,rfl,HC.o.ew HI.o.2.2.2.2.2 _ _,bj HI.o.2.2.2.2.1 (by omega) _ _⟩
  ·have hfp:0<fn:=by
    rcases Nat.eq_zero_or_pos fn with h1|h1
    ·rw[h1]at hfl;have h2:Dg.aq b=[]:=List.eq_nil_of_length_eq_zero hfl;have h3:=Dg.av b;rw[h2,Dg.di]at h3;omega
    ·exact h1
   have hfi:(0:Int)<((fn:Nat):Int):=by omega
   have PN:Hid (0<b):=by rw[Hid];omega
   clear h0 hfl;go_wp2_with fail;refine(Dg.kT _ _ _ _ _ _ _ _ _ HI.o.1 HI.o.2.1 PN.o hcn hfn).mono ?_;rintro e w1 ⟨q0,qn,qc,s0,sn,sc,rfl,hQ,hS,hB⟩;rw[Dg.av]at hS;have hM:a%b<b:=Nat.mod_lt _ PN.o
   have hsn:sn<=1000000:=by
    have h1:=HI.o.2.1.len;have h2:=hS.len;have h3:=Dg.nI (Nat.le_of_lt hM);omega
   have HJ:Hid (Dg.Sl w1 fo fn fc (Dg.aq b)/\ Dg.Sl w1 s0 sn sc (Dg.aq (a%b))/\ Nat.gcd b (a%b)=G/\ a%b=a%b/\ ah8 w.heap.size w w1/\ bS w1 (w.heap.size+2) false none 0 0):=
    ⟨HI.o.2.1.below hB,hS,by rw[Nat.gcd_comm b,<-Nat.gcd_rec,Nat.gcd_comm];exact HI.o.2.2.1,rfl,Below.ar HI.o.2.2.2.2.1 hB,HI.o.2.2.2.2.2.below hB⟩
   have HM:Hid (a%b<gk):=by rw[Hid,<-HI.o.2.2.2.1];exact hM
   clear hQ hS hB hM;go_wp2_with fail;go_roundg (a%b)
   case measure=>exact HM.o
   case rel=>exact⟨_,_,_,_,_,_,b,a%b,rfl,rfl,hfn,hsn,HJ.o.1,HJ.o.2.1,HJ.o.2.2.1,rfl,HJ.o.2.2.2.2.1,HJ.o.2.2.2.2.2⟩
end Go.Proofs.YtmenbpmciblnlaaGreatDoor
