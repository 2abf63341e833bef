import Derived.Test.YtmenbpmciblnlaaGreatDoorGRa
import Derived.Test.YtmenbpmciblnlaaGreatDoorGTxt
import Derived.Test.YtmenbpmciblnlaaGreatDoorGWZ2
set_option maxHeartbeats 0
set_option maxRecDepth 100000
open Go renaming World->ah5
open Go.AllReadyH renaming nil->ah6
open Go.Value renaming bool->ah8,slice->ah7
open Int renaming gcd->ah9,gcd_pos_of_ne_zero_right->ai0
namespace Go.Proofs.YtmenbpmciblnlaaGreatDoor
section
open Lib
end
section
open Go.RowKit
end
section
open Lib (hid)
open Go.RowKit
theorem Fm [Ol] {m:Bool} {ao:Z'} {n ae:Nat} {bo:Z'} {l cb:Nat} {x d:Int} {q:Rat} {j:Nat} {w:ah5} (hx:Qx w m ao n ae false bo l cb x d q j) (h1:1<=j) (h2:j<=50000):
  Calls Tryz.prog 17 #[.agg #[ah8 m,ah7 ao n ae,ah8 false,ah7 bo l cb]] w (yy w q j):=by
 have hd0:0<d:=by
  have h3:=hx.den.zd.neg;have h4:=hx.nz;simp at h3;omega
 have hv:=hx.au;have hbn:Bd q.num j:=by rw[<-hv];exact tD hx.bn hx.nz
 have hbd:Bd (q.den:Int) j:=by rw[<-hv];exact tE hx.bd hx.nz
 have hg0:((ah9 x d:Nat):Int)≠0:=by have:=ai0 x (show d≠0 by omega);omega
 have vv:Hid (x.tdiv ((ah9 x d:Nat):Int)=q.num):=by rw[Hid,<-hv,ku (by omega)]
 have HE2:Hid (d.tdiv ((ah9 x d:Nat):Int)=(q.den:Int)):=by rw[Hid,<-hv,pV (by omega)]
 have HN:Hid (d≠0):=by show d≠0;omega
 have PR:=hid hg0;have JD:=hid hbn;have AO:=hid hbd;clear hd0 hv hbn hbd hg0;go_enter Tryz.func17,Tryz.ntmps17;have S0:=hid (Sx.start (w:=w) (N:=[.qx m ao n ae false bo l cb x d q j]) ⟨hx,trivial⟩);clear hx;have S1:=hid (S0.o.var w.heap.size [ah8 m,ah7 ao n ae,ah8 false,ah7 bo l cb] 47 (by simp));clear S0;have S2:=hid (S1.o.var (w.heap.size+1) [ah8 false,ah7 none 0 0,ah8 false,ah7 none 0 0] 31 (by simp));clear S1;go_upto_region 1 with(fail)
 refine aj (λw1 hW=>?_);rw[<-hW]at S2;clear hW;go_cut [3,4]from 6 to 10 (λsl0 sl1 w9=>∃(mb:Nat) (mf:Nat),sl0= .pointer (some ⟨mb,0,none⟩)/\ sl1= .pointer (some ⟨mf,0,none⟩)/\ Hid (Sx w w9 [⟨mf,[ah8 false,ah7 bo l cb]⟩,⟨mb,[ah8 m,ah7 ao n ae]⟩,⟨(w.heap.size+1),[ah8 false,ah7 none 0 0,ah8 false,ah7 none 0 0]⟩,⟨w.heap.size,[ah8 m,ah7 ao n ae,ah8 false,ah7 bo l cb]⟩] [.qx m ao n ae false bo l cb x d q j]))
 case first=>
  have S3:=hid S2.o.drew;clear S2;refine wp_region_held_drew (S:=λw'=>(w'.cell? ⟨w.heap.size,0,none⟩=some (ah8 m)/\ w'.cell? ⟨w.heap.size,1,none⟩=some (ah7 ao n ae)/\ w'.cell? ⟨w.heap.size,2,none⟩=some (ah8 false)/\ w'.cell? ⟨w.heap.size,3,none⟩=some (ah7 bo l cb))) (by kernel_rfl) ((S3.o.b.t.c4)) (λhH=>?_);refine ah (λw2 hW=>?_);rw[<-hW]at S3 hH;clear hW;refine aT 0 hH ?_;try simp only[ax]
  refine aT 1 hH ?_;try simp only[ax]
  refine aT 2 hH ?_;try simp only[ax]
  refine aT 3 hH ?_;try simp only[ax]
  refine wpAnyH_ready (rs:=[4,5]) (by kernel_rfl) (by simp) (aM rfl (λK hK=>?_) (aM rfl (λK hK=>?_) (ah6)))
  ·go_simp;have S4:=hid (S3.o.var w2.heap.size [ah8 false,ah7 none 0 0] 45 (by simp));clear S3;refine hK.o _ _ S4.o.b.t.t.c4 (λh2=>?_);clear hK K hH;have hH:=h2;clear h2
   try simp only[ax]
   refine ah (λw3 hW=>?_);rw[<-hW]at S4 hH;clear hW;refine ag 5 rfl (by kernel_rfl) (λK hK=>?_);go_simp;have S5:=hid (S4.o.var w3.heap.size [ah8 false,ah7 none 0 0] 45 (by simp));clear S4;refine hK.o _ _ S5.o.b.t.t.t.c4 (λh2=>?_);clear hK K hH;have hH:=h2;clear h2
   try simp only[ax]
   refine ah (λw4 hW=>?_);rw[<-hW]at S5 hH;clear hW;refine ag 6 rfl (by kernel_rfl) (λK hK=>?_);obtain⟨bM,bN⟩:=S5.o.b.t.c2;obtain⟨gT,gU⟩:=S5.o.b.t.f2;go_simp;clear bM bN gT gU;have S6:Hid (Sx w _ [⟨w3.heap.size,[ah8 false,ah7 none 0 0]⟩,⟨w2.heap.size,[ah8 m,ah7 ao n ae]⟩,⟨(w.heap.size+1),[ah8 false,ah7 none 0 0,ah8 false,ah7 none 0 0]⟩,⟨w.heap.size,[ah8 m,ah7 ao n ae,ah8 false,ah7 bo l cb]⟩] _):=hid (Sx.set [⟨w3.heap.size,[ah8 false,ah7 none 0 0]⟩] _ (Sx.set [⟨w3.heap.size,[ah8 false,ah7 none 0 0]⟩] _ S5.o 0 (ah8 m)) 1 (ah7 ao n ae));clear S5;refine hK.o _ _ S6.o.b.t.t.t.c4 (λh2=>?_);clear hK K hH;have hH:=h2;clear h2
   try simp only[ax]
   refine ah (λw5 hW=>?_);rw[<-hW]at S6 hH;clear hW;refine ag 7 rfl (by kernel_rfl) (λK hK=>?_);obtain⟨bK,bL⟩:=S6.o.b.c2;obtain⟨dL,dM⟩:=S6.o.b.f2;go_simp;clear bK bL dL dM;have S7:Hid (Sx w _ [⟨w3.heap.size,[ah8 false,ah7 bo l cb]⟩,⟨w2.heap.size,[ah8 m,ah7 ao n ae]⟩,⟨(w.heap.size+1),[ah8 false,ah7 none 0 0,ah8 false,ah7 none 0 0]⟩,⟨w.heap.size,[ah8 m,ah7 ao n ae,ah8 false,ah7 bo l cb]⟩] _):=hid (Sx.set [] _ (Sx.set [] _ S6.o 0 (ah8 false)) 1 (ah7 bo l cb));clear S6;refine hK.o _ _ S7.o.b.t.t.t.c4 (λh2=>?_);clear hK K hH;have hH:=h2;clear h2
   try simp only[ax]
   refine ah (λw6 hW=>?_);rw[<-hW]at S7 hH;clear hW;refine wpAnyH_done (by kernel_rfl) ?_ _
   clear hH;go_wp2_with fail;go_meet
   case rel=>exact⟨_,_,rfl,rfl,S7.o⟩
  ·go_simp;have S4:=hid (S3.o.var w2.heap.size [ah8 false,ah7 none 0 0] 45 (by simp));clear S3;refine hK.o _ _ S4.o.b.t.t.c4 (λh2=>?_);clear hK K hH;have hH:=h2;clear h2
   try simp only[ax]
   refine ah (λw3 hW=>?_);rw[<-hW]at S4 hH;clear hW;refine ag 4 rfl (by kernel_rfl) (λK hK=>?_);go_simp;have S5:=hid (S4.o.var w3.heap.size [ah8 false,ah7 none 0 0] 45 (by simp));clear S4;refine hK.o _ _ S5.o.b.t.t.t.c4 (λh2=>?_);clear hK K hH;have hH:=h2;clear h2
   try simp only[ax]
   refine ah (λw4 hW=>?_);rw[<-hW]at S5 hH;clear hW;refine ag 6 rfl (by kernel_rfl) (λK hK=>?_);obtain⟨bM,bN⟩:=S5.o.b.c2;obtain⟨gT,gU⟩:=S5.o.b.f2;go_simp;clear bM bN gT gU;have S6:Hid (Sx w _ [⟨w3.heap.size,[ah8 m,ah7 ao n ae]⟩,⟨w2.heap.size,[ah8 false,ah7 none 0 0]⟩,⟨(w.heap.size+1),[ah8 false,ah7 none 0 0,ah8 false,ah7 none 0 0]⟩,⟨w.heap.size,[ah8 m,ah7 ao n ae,ah8 false,ah7 bo l cb]⟩] _):=hid (Sx.set [] _ (Sx.set [] _ S5.o 0 (ah8 m)) 1 (ah7 ao n ae));clear S5;refine hK.o _ _ S6.o.b.t.t.t.c4 (λh2=>?_);clear hK K hH;have hH:=h2;clear h2
   try simp only[ax]
   refine ah (λw5 hW=>?_);rw[<-hW]at S6 hH;clear hW;refine ag 7 rfl (by kernel_rfl) (λK hK=>?_);obtain⟨bK,bL⟩:=S6.o.b.t.c2;obtain⟨dL,dM⟩:=S6.o.b.t.f2;go_simp;clear bK bL dL dM;have S7:Hid (Sx w _ [⟨w3.heap.size,[ah8 m,ah7 ao n ae]⟩,⟨w2.heap.size,[ah8 false,ah7 bo l cb]⟩,⟨(w.heap.size+1),[ah8 false,ah7 none 0 0,ah8 false,ah7 none 0 0]⟩,⟨w.heap.size,[ah8 m,ah7 ao n ae,ah8 false,ah7 bo l cb]⟩] _):=hid (Sx.set [⟨w3.heap.size,[ah8 m,ah7 ao n ae]⟩] _ (Sx.set [⟨w3.heap.size,[ah8 m,ah7 ao n ae]⟩] _ S6.o 0 (ah8 false)) 1 (ah7 bo l cb));clear S6;refine hK.o _ _ S7.o.b.t.t.t.c4 (λh2=>?_);clear hK K hH;have hH:=h2;clear h2
   try simp only[ax]
   refine ah (λw6 hW=>?_);rw[<-hW]at S7 hH;clear hW;refine wpAnyH_done (by kernel_rfl) ?_ _
   clear hH;go_wp2_with fail;go_meet
   case rel=>exact⟨_,_,rfl,rfl,S7.o.Cf⟩
 case rest=>
 clear S2;obtain⟨mb,mf,rfl,rfl,S3⟩:=hcut;obtain⟨w7,hW⟩:∃w7,w7=wc:=⟨_,rfl⟩;rw[<-hW]at S3 ⊢;clear hW;obtain⟨bK,bL⟩:=S3.o.b.c2;obtain⟨bM,bN⟩:=S3.o.b.t.c2;go_wp2_with fail;clear bK bL bM bN;refine(CR S3.o.n.qx.num S3.o.n.qx.den).mono ?_;rintro e w8 ⟨aX,aY,aZ,bf,rfl,hX,hB⟩;have S4:=hid (((S3.o.step hB).zb (hX.zb (wz S3.o.n.qx.bd HN.o) (by omega)) rfl));clear S3 hX hB;go_upto_region 5 with(fail)
 have S5:=hid (S4.o.var w8.heap.size [ah8 aX,ah7 aY aZ bf] 45 (by simp));clear S4;refine aj (λw9 hW=>?_);rw[<-hW]at S5;clear hW;obtain⟨bM,bN⟩:=S5.o.b.t.t.c2;obtain⟨cG,cH⟩:=S5.o.b.c2;go_wp2_with fail;clear bM bN cG cH;refine(lH S5.o.n.t.qx.num S5.o.n.zb.zx PR.o).mono ?_;rintro e PJ ⟨bO,bP,bQ,bR,QF,QG,QH,QI,rfl,hX,_,hB⟩;rw[vv.o]at hX;have S6:=hid (((S5.o.step hB).zb (hX.zb JD.o (by omega)) rfl));clear S5 hX hB;obtain⟨bM,bN⟩:=S6.o.b.t.t.c2;obtain⟨gT,gU⟩:=S6.o.b.t.t.f2;go_upto_region 6 with(fail)
 clear bM bN gT gU;have S7:Hid (Sx w _ [⟨w8.heap.size,[ah8 aX,ah7 aY aZ bf]⟩,⟨mf,[ah8 false,ah7 bo l cb]⟩,⟨mb,[ah8 bO,ah7 bP bQ bR]⟩,⟨(w.heap.size+1),[ah8 false,ah7 none 0 0,ah8 false,ah7 none 0 0]⟩,⟨w.heap.size,[ah8 m,ah7 ao n ae,ah8 false,ah7 bo l cb]⟩] _):=hid (Sx.set [⟨w8.heap.size,[ah8 aX,ah7 aY aZ bf]⟩,⟨mf,[ah8 false,ah7 bo l cb]⟩] _ (Sx.set [⟨w8.heap.size,[ah8 aX,ah7 aY aZ bf]⟩,⟨mf,[ah8 false,ah7 bo l cb]⟩] _ S6.o 0 (ah8 bO)) 1 (ah7 bP bQ bR));clear S6;refine aj (λHs hW=>?_);rw[<-hW]at S7;clear hW;obtain⟨bK,bL⟩:=S7.o.b.t.c2;obtain⟨cG,cH⟩:=S7.o.b.c2;go_wp2_with fail;clear bK bL cG cH;refine(lH S7.o.n.t.t.qx.den S7.o.n.t.zb.zx PR.o).mono ?_;rintro e LY ⟨cW,cX,cY,cZ,af4,af5,af6,af7,rfl,hX,_,hB⟩;rw[HE2.o]at hX;have S8:=hid (((S7.o.step hB).zb (hX.zb AO.o (by omega)) rfl));clear S7 hX hB;obtain⟨bK,bL⟩:=S8.o.b.t.c2;obtain⟨dL,dM⟩:=S8.o.b.t.f2;go_upto_region 7 with(fail)
 clear bK bL dL dM;have S9:Hid (Sx w _ [⟨w8.heap.size,[ah8 aX,ah7 aY aZ bf]⟩,⟨mf,[ah8 cW,ah7 cX cY cZ]⟩,⟨mb,[ah8 bO,ah7 bP bQ bR]⟩,⟨(w.heap.size+1),[ah8 false,ah7 none 0 0,ah8 false,ah7 none 0 0]⟩,⟨w.heap.size,[ah8 m,ah7 ao n ae,ah8 false,ah7 bo l cb]⟩] _):=hid (Sx.set [⟨w8.heap.size,[ah8 aX,ah7 aY aZ bf]⟩] _ (Sx.set [⟨w8.heap.size,[ah8 aX,ah7 aY aZ bf]⟩] _ S8.o 0 (ah8 cW)) 1 (ah7 cX cY cZ));clear S8;refine aj (λXN hW=>?_);rw[<-hW]at S9;clear hW;have lI:=hid S9.o.drew;clear S9;refine wp_region_held_drew (S:=λw'=>(w'.cell? ⟨mb,0,none⟩=some (ah8 bO)/\ w'.cell? ⟨mb,1,none⟩=some (ah7 bP bQ bR))/\ (w'.cell? ⟨mf,0,none⟩=some (ah8 cW)/\ w'.cell? ⟨mf,1,none⟩=some (ah7 cX cY cZ))) (by kernel_rfl) (⟨lI.o.b.t.t.c2,lI.o.b.t.c2⟩) (λhH=>?_);refine ah (λHy hW=>?_);rw[<-hW]at lI hH;clear hW;refine aT 0 hH ?_;try simp only[ax]
 refine aT 2 hH ?_;try simp only[ax]
 refine ag 1 rfl (by kernel_rfl) (λK hK=>?_);go_simp;refine(my lI.o.n.t.zb.zx).mono ?_;rintro e w15 ⟨dP,dQ,dR,dS,rfl,hX,hB⟩;have nh:=hid (((lI.o.step hB).cb (hX.cb lI.o.n.t.zb.bd (by omega)) rfl));clear lI hX hB;go_wp2_with fail;refine hK.o _ _ ⟨nh.o.b.t.t.c2,nh.o.b.t.c2⟩ (λh2=>?_);clear hK K hH;have hH:=h2;clear h2
 try simp only[ax]
 refine ag 3 rfl (by kernel_rfl) (λK hK=>?_);go_simp;refine(my nh.o.n.t.zb.zx).mono ?_;rintro e w16 ⟨ji,jk,jl,jm,rfl,hX,hB⟩;have oJ:=hid (((nh.o.step hB).cb (hX.cb nh.o.n.t.zb.bd (by omega)) rfl));clear nh hX hB;go_wp2_with fail;refine hK.o _ _ ⟨oJ.o.b.t.t.c2,oJ.o.b.t.c2⟩ (λh2=>?_);clear hK K hH;have hH:=h2;clear h2
 try simp only[ax]
 refine aT 4 hH ?_;try simp only[ax]
 refine ag 5 rfl (by kernel_rfl) (λK hK=>?_);obtain⟨cI,cJ,dE,dF⟩:=oJ.o.b.t.t.t.c4;obtain⟨kK,kL,nD,nE⟩:=oJ.o.b.t.t.t.f4;go_simp;clear cI cJ dE dF kK kL nD nE;have oK:Hid (Sx w _ [⟨w8.heap.size,[ah8 aX,ah7 aY aZ bf]⟩,⟨mf,[ah8 cW,ah7 cX cY cZ]⟩,⟨mb,[ah8 bO,ah7 bP bQ bR]⟩,⟨(w.heap.size+1),[ah8 dP,ah7 dQ dR dS,ah8 ji,ah7 jk jl jm]⟩,⟨w.heap.size,[ah8 m,ah7 ao n ae,ah8 false,ah7 bo l cb]⟩] _):=hid (Sx.set [⟨w8.heap.size,[ah8 aX,ah7 aY aZ bf]⟩,⟨mf,[ah8 cW,ah7 cX cY cZ]⟩,⟨mb,[ah8 bO,ah7 bP bQ bR]⟩] _ (Sx.set [⟨w8.heap.size,[ah8 aX,ah7 aY aZ bf]⟩,⟨mf,[ah8 cW,ah7 cX cY cZ]⟩,⟨mb,[ah8 bO,ah7 bP bQ bR]⟩] _ (Sx.set [⟨w8.heap.size,[ah8 aX,ah7 aY aZ bf]⟩,⟨mf,[ah8 cW,ah7 cX cY cZ]⟩,⟨mb,[ah8 bO,ah7 bP bQ bR]⟩] _ (Sx.set [⟨w8.heap.size,[ah8 aX,ah7 aY aZ bf]⟩,⟨mf,[ah8 cW,ah7 cX cY cZ]⟩,⟨mb,[ah8 bO,ah7 bP bQ bR]⟩] _ oJ.o 0 (ah8 dP)) 1 (ah7 dQ dR dS)) 2 (ah8 ji)) 3 (ah7 jk jl jm));clear oJ;refine hK.o _ _ ⟨oK.o.b.t.t.c2,oK.o.b.t.c2⟩ (λh2=>?_);clear hK K hH;have hH:=h2;clear h2
 try simp only[ax]
 refine ah (λw17 hW=>?_);rw[<-hW]at oK hH;clear hW;refine wpAnyH_done (by kernel_rfl) ?_ _
 clear hH;obtain⟨cI,cJ,dE,dF⟩:=oK.o.b.t.t.t.c4;obtain⟨kK,kL,nD,nE⟩:=oK.o.b.t.t.t.f4;go_wp2_with fail;refine bodyPost_ret (v:= .agg #[ah8 dP,ah7 dQ dR dS,ah8 ji,ah7 jk jl jm]) (by simp[results,Tryz.results17,go_sem,cI,cJ,dE,dF]) rfl ?_;exact⟨_,_,_,_,_,_,_,_,rfl,⟨oK.o.n.t.cb.cx,oK.o.n.cb.cx,oK.o.n.t.cb.bd,oK.o.n.cb.bd⟩,oK.o.h⟩
theorem JE [Ol] {m:Bool} {ao:Z'} {n ae:Nat} {bo:Z'} {l cb:Nat} {x d:Int} {q:Rat} {j:Nat} {w:ah5} (hx:Qx w m ao n ae true bo l cb x d q j) (h1:1<=j) (h2:j<=50000):
  Calls Tryz.prog 17 #[.agg #[ah8 m,ah7 ao n ae,ah8 true,ah7 bo l cb]] w (yy w q j):=by
 have hd0:0<(-d):=by
  have h3:=hx.den.zd.neg;have h4:=hx.nz;simp at h3;omega
 have hv:=hx.au;have hbn:Bd q.num j:=by rw[<-hv];exact tD hx.bn hx.nz
 have hbd:Bd (q.den:Int) j:=by rw[<-hv];exact tE hx.bd hx.nz
 have hg0:((ah9 (-x) (-d):Nat):Int)≠0:=by have:=ai0 (-x) (show(-d)≠0 by omega);omega
 have vv:Hid ((-x).tdiv ((ah9 (-x) (-d):Nat):Int)=q.num):=by rw[Hid,<-hv,zf (by omega)]
 have HE2:Hid ((-d).tdiv ((ah9 (-x) (-d):Nat):Int)=(q.den:Int)):=by rw[Hid,<-hv,zg (by omega)]
 have HN:Hid ((-d)≠0):=by show(-d)≠0;omega
 have PR:=hid hg0;have JD:=hid hbn;have AO:=hid hbd;clear hd0 hv hbn hbd hg0;go_enter Tryz.func17,Tryz.ntmps17;have S0:=hid (Sx.start (w:=w) (N:=[.qx m ao n ae true bo l cb x d q j]) ⟨hx,trivial⟩);clear hx;have S1:=hid (S0.o.var w.heap.size [ah8 m,ah7 ao n ae,ah8 true,ah7 bo l cb] 47 (by simp));clear S0;have S2:=hid (S1.o.var (w.heap.size+1) [ah8 false,ah7 none 0 0,ah8 false,ah7 none 0 0] 31 (by simp));clear S1;go_upto_region 1 with(fail)
 refine aj (λw1 hW=>?_);rw[<-hW]at S2;clear hW;go_cut [3,4]from 6 to 10 (λsl0 sl1 w9=>∃(mb:Nat) (mf:Nat),sl0= .pointer (some ⟨mb,0,none⟩)/\ sl1= .pointer (some ⟨mf,0,none⟩)/\ Hid (Sx w w9 [⟨mf,[ah8 true,ah7 bo l cb]⟩,⟨mb,[ah8 m,ah7 ao n ae]⟩,⟨(w.heap.size+1),[ah8 false,ah7 none 0 0,ah8 false,ah7 none 0 0]⟩,⟨w.heap.size,[ah8 m,ah7 ao n ae,ah8 true,ah7 bo l cb]⟩] [.qx m ao n ae true bo l cb x d q j]))
 case first=>
  have S3:=hid S2.o.drew;clear S2;refine wp_region_held_drew (S:=λw'=>(w'.cell? ⟨w.heap.size,0,none⟩=some (ah8 m)/\ w'.cell? ⟨w.heap.size,1,none⟩=some (ah7 ao n ae)/\ w'.cell? ⟨w.heap.size,2,none⟩=some (ah8 true)/\ w'.cell? ⟨w.heap.size,3,none⟩=some (ah7 bo l cb))) (by kernel_rfl) ((S3.o.b.t.c4)) (λhH=>?_);refine ah (λw2 hW=>?_);rw[<-hW]at S3 hH;clear hW;refine aT 0 hH ?_;try simp only[ax]
  refine aT 1 hH ?_;try simp only[ax]
  refine aT 2 hH ?_;try simp only[ax]
  refine aT 3 hH ?_;try simp only[ax]
  refine wpAnyH_ready (rs:=[4,5]) (by kernel_rfl) (by simp) (aM rfl (λK hK=>?_) (aM rfl (λK hK=>?_) (ah6)))
  ·go_simp;have S4:=hid (S3.o.var w2.heap.size [ah8 false,ah7 none 0 0] 45 (by simp));clear S3;refine hK.o _ _ S4.o.b.t.t.c4 (λh2=>?_);clear hK K hH;have hH:=h2;clear h2
   try simp only[ax]
   refine ah (λw3 hW=>?_);rw[<-hW]at S4 hH;clear hW;refine ag 5 rfl (by kernel_rfl) (λK hK=>?_);go_simp;have S5:=hid (S4.o.var w3.heap.size [ah8 false,ah7 none 0 0] 45 (by simp));clear S4;refine hK.o _ _ S5.o.b.t.t.t.c4 (λh2=>?_);clear hK K hH;have hH:=h2;clear h2
   try simp only[ax]
   refine ah (λw4 hW=>?_);rw[<-hW]at S5 hH;clear hW;refine ag 6 rfl (by kernel_rfl) (λK hK=>?_);obtain⟨bM,bN⟩:=S5.o.b.t.c2;obtain⟨gT,gU⟩:=S5.o.b.t.f2;go_simp;clear bM bN gT gU;have S6:Hid (Sx w _ [⟨w3.heap.size,[ah8 false,ah7 none 0 0]⟩,⟨w2.heap.size,[ah8 m,ah7 ao n ae]⟩,⟨(w.heap.size+1),[ah8 false,ah7 none 0 0,ah8 false,ah7 none 0 0]⟩,⟨w.heap.size,[ah8 m,ah7 ao n ae,ah8 true,ah7 bo l cb]⟩] _):=hid (Sx.set [⟨w3.heap.size,[ah8 false,ah7 none 0 0]⟩] _ (Sx.set [⟨w3.heap.size,[ah8 false,ah7 none 0 0]⟩] _ S5.o 0 (ah8 m)) 1 (ah7 ao n ae));clear S5;refine hK.o _ _ S6.o.b.t.t.t.c4 (λh2=>?_);clear hK K hH;have hH:=h2;clear h2
   try simp only[ax]
   refine ah (λw5 hW=>?_);rw[<-hW]at S6 hH;clear hW;refine ag 7 rfl (by kernel_rfl) (λK hK=>?_);obtain⟨bK,bL⟩:=S6.o.b.c2;obtain⟨dL,dM⟩:=S6.o.b.f2;go_simp;clear bK bL dL dM;have S7:Hid (Sx w _ [⟨w3.heap.size,[ah8 true,ah7 bo l cb]⟩,⟨w2.heap.size,[ah8 m,ah7 ao n ae]⟩,⟨(w.heap.size+1),[ah8 false,ah7 none 0 0,ah8 false,ah7 none 0 0]⟩,⟨w.heap.size,[ah8 m,ah7 ao n ae,ah8 true,ah7 bo l cb]⟩] _):=hid (Sx.set [] _ (Sx.set [] _ S6.o 0 (ah8 true)) 1 (ah7 bo l cb));clear S6;refine hK.o _ _ S7.o.b.t.t.t.c4 (λh2=>?_);clear hK K hH;have hH:=h2;clear h2
   try simp only[ax]
   refine ah (λw6 hW=>?_);rw[<-hW]at S7 hH;clear hW;refine wpAnyH_done (by kernel_rfl) ?_ _
   clear hH;go_wp2_with fail;go_meet
   case rel=>exact⟨_,_,rfl,rfl,S7.o⟩
  ·go_simp;have S4:=hid (S3.o.var w2.heap.size [ah8 false,ah7 none 0 0] 45 (by simp));clear S3;refine hK.o _ _ S4.o.b.t.t.c4 (λh2=>?_);clear hK K hH;have hH:=h2;clear h2
   try simp only[ax]
   refine ah (λw3 hW=>?_);rw[<-hW]at S4 hH;clear hW;refine ag 4 rfl (by kernel_rfl) (λK hK=>?_);go_simp;have S5:=hid (S4.o.var w3.heap.size [ah8 false,ah7 none 0 0] 45 (by simp));clear S4;refine hK.o _ _ S5.o.b.t.t.t.c4 (λh2=>?_);clear hK K hH;have hH:=h2;clear h2
   try simp only[ax]
   refine ah (λw4 hW=>?_);rw[<-hW]at S5 hH;clear hW;refine ag 6 rfl (by kernel_rfl) (λK hK=>?_);obtain⟨bM,bN⟩:=S5.o.b.c2;obtain⟨gT,gU⟩:=S5.o.b.f2;go_simp;clear bM bN gT gU;have S6:Hid (Sx w _ [⟨w3.heap.size,[ah8 m,ah7 ao n ae]⟩,⟨w2.heap.size,[ah8 false,ah7 none 0 0]⟩,⟨(w.heap.size+1),[ah8 false,ah7 none 0 0,ah8 false,ah7 none 0 0]⟩,⟨w.heap.size,[ah8 m,ah7 ao n ae,ah8 true,ah7 bo l cb]⟩] _):=hid (Sx.set [] _ (Sx.set [] _ S5.o 0 (ah8 m)) 1 (ah7 ao n ae));clear S5;refine hK.o _ _ S6.o.b.t.t.t.c4 (λh2=>?_);clear hK K hH;have hH:=h2;clear h2
   try simp only[ax]
   refine ah (λw5 hW=>?_);rw[<-hW]at S6 hH;clear hW;refine ag 7 rfl (by kernel_rfl) (λK hK=>?_);obtain⟨bK,bL⟩:=S6.o.b.t.c2;obtain⟨dL,dM⟩:=S6.o.b.t.f2;go_simp;clear bK bL dL dM;have S7:Hid (Sx w _ [⟨w3.heap.size,[ah8 m,ah7 ao n ae]⟩,⟨w2.heap.size,[ah8 true,ah7 bo l cb]⟩,⟨(w.heap.size+1),[ah8 false,ah7 none 0 0,ah8 false,ah7 none 0 0]⟩,⟨w.heap.size,[ah8 m,ah7 ao n ae,ah8 true,ah7 bo l cb]⟩] _):=hid (Sx.set [⟨w3.heap.size,[ah8 m,ah7 ao n ae]⟩] _ (Sx.set [⟨w3.heap.size,[ah8 m,ah7 ao n ae]⟩] _ S6.o 0 (ah8 true)) 1 (ah7 bo l cb));clear S6;refine hK.o _ _ S7.o.b.t.t.t.c4 (λh2=>?_);clear hK K hH;have hH:=h2;clear h2
   try simp only[ax]
   refine ah (λw6 hW=>?_);rw[<-hW]at S7 hH;clear hW;refine wpAnyH_done (by kernel_rfl) ?_ _
   clear hH;go_wp2_with fail;go_meet
   case rel=>exact⟨_,_,rfl,rfl,S7.o.Cf⟩
 case rest=>
 clear S2;obtain⟨mb,mf,rfl,rfl,S3⟩:=hcut;obtain⟨w7,hW⟩:∃w7,w7=wc:=⟨_,rfl⟩;rw[<-hW]at S3 ⊢;clear hW;obtain⟨bK,bL⟩:=S3.o.b.c2;go_wp2_with fail;clear bK bL;go_cut []from 12 to 16 (λ  w9=>∃(bO:Bool) (bP:Option Addr) (bQ:Nat) (bR:Nat) (aX:Bool) (aY:Option Addr) (aZ:Nat) (bf:Nat),Hid (Sx w w9 [⟨mf,[ah8 bO,ah7 bP bQ bR]⟩,⟨mb,[ah8 aX,ah7 aY aZ bf]⟩,⟨(w.heap.size+1),[ah8 false,ah7 none 0 0,ah8 false,ah7 none 0 0]⟩,⟨w.heap.size,[ah8 m,ah7 ao n ae,ah8 true,ah7 bo l cb]⟩] [.zb bO bP bQ bR (-d) j,.zb aX aY aZ bf (-x) j,.qx m ao n ae true bo l cb x d q j]))
 case first=>
  have S4:=hid S3.o.drew;clear S3;refine wp_region_held_drew (S:=λw'=>True) (by kernel_rfl) (trivial) (λhH=>?_);refine ah (λw8 hW=>?_);rw[<-hW]at S4;clear hW;refine wpAnyH_ready (rs:=[0,2]) (by kernel_rfl) (by simp) (aM rfl (λK hK=>?_) (aM rfl (λK hK=>?_) (ah6)))
  ·obtain⟨bM,bN⟩:=S4.o.b.t.c2;go_simp;clear bM bN;refine hK.o _ _ trivial (λh2=>?_);clear hK K hH;have hH:=h2;clear h2
   try simp only[ax]
   refine wpAnyH_ready (rs:=[1,2]) (by kernel_rfl) (by simp) (aM rfl (λK hK=>?_) (aM rfl (λK hK=>?_) (ah6)))
   ·go_simp;refine(kD S4.o.n.qx.num).mono ?_;rintro e w9 ⟨aX,aY,aZ,bf,rfl,hX,hB⟩;have S5:=hid (((S4.o.step hB).zb (hX.zb S4.o.n.qx.bn.neg (by omega)) rfl));clear S4 hX hB;go_wp2_with fail;refine hK.o _ _ trivial (λh2=>?_);clear hK K hH;have hH:=h2;clear h2
    try simp only[ax]
    refine ag 2 rfl (by kernel_rfl) (λK hK=>?_);obtain⟨bK,bL⟩:=S5.o.b.c2;go_simp;clear bK bL;refine hK.o _ _ trivial (λh2=>?_);clear hK K hH;have hH:=h2;clear h2
    try simp only[ax]
    refine ag 3 rfl (by kernel_rfl) (λK hK=>?_);go_simp;refine(kD S5.o.n.t.qx.den).mono ?_;rintro e PJ ⟨bO,bP,bQ,bR,rfl,hX,hB⟩;have S6:=hid (((S5.o.step hB).zb (hX.zb S5.o.n.t.qx.bd.neg (by omega)) rfl));clear S5 hX hB;go_wp2_with fail;refine hK.o _ _ trivial (λh2=>?_);clear hK K hH;have hH:=h2;clear h2
    try simp only[ax]
    refine ag 4 rfl (by kernel_rfl) (λK hK=>?_);obtain⟨bM,bN⟩:=S6.o.b.t.c2;obtain⟨gT,gU⟩:=S6.o.b.t.f2;go_simp;clear bM bN gT gU;have S7:Hid (Sx w _ [⟨mf,[ah8 true,ah7 bo l cb]⟩,⟨mb,[ah8 aX,ah7 aY aZ bf]⟩,⟨(w.heap.size+1),[ah8 false,ah7 none 0 0,ah8 false,ah7 none 0 0]⟩,⟨w.heap.size,[ah8 m,ah7 ao n ae,ah8 true,ah7 bo l cb]⟩] _):=hid (Sx.set [⟨mf,[ah8 true,ah7 bo l cb]⟩] _ (Sx.set [⟨mf,[ah8 true,ah7 bo l cb]⟩] _ S6.o 0 (ah8 aX)) 1 (ah7 aY aZ bf));clear S6;refine hK.o _ _ trivial (λh2=>?_);clear hK K hH;have hH:=h2;clear h2
    try simp only[ax]
    refine ah (λHs hW=>?_);rw[<-hW]at S7;clear hW;refine ag 5 rfl (by kernel_rfl) (λK hK=>?_);obtain⟨bK,bL⟩:=S7.o.b.c2;obtain⟨dL,dM⟩:=S7.o.b.f2;go_simp;clear bK bL dL dM;have S8:Hid (Sx w _ [⟨mf,[ah8 bO,ah7 bP bQ bR]⟩,⟨mb,[ah8 aX,ah7 aY aZ bf]⟩,⟨(w.heap.size+1),[ah8 false,ah7 none 0 0,ah8 false,ah7 none 0 0]⟩,⟨w.heap.size,[ah8 m,ah7 ao n ae,ah8 true,ah7 bo l cb]⟩] _):=hid (Sx.set [] _ (Sx.set [] _ S7.o 0 (ah8 bO)) 1 (ah7 bP bQ bR));clear S7;refine hK.o _ _ trivial (λh2=>?_);clear hK K hH;have hH:=h2;clear h2
    try simp only[ax]
    refine ah (λLY hW=>?_);rw[<-hW]at S8;clear hW;refine wpAnyH_done (by kernel_rfl) ?_ _
    clear hH;go_wp2_with fail;go_meet
    case rel=>exact⟨_,_,_,_,_,_,_,_,S8.o⟩
   ·obtain⟨bK,bL⟩:=S4.o.b.c2;go_simp;clear bK bL;refine hK.o _ _ trivial (λh2=>?_);clear hK K hH;have hH:=h2;clear h2
    try simp only[ax]
    refine ag 1 rfl (by kernel_rfl) (λK hK=>?_);go_simp;refine(kD S4.o.n.qx.num).mono ?_;rintro e w9 ⟨aX,aY,aZ,bf,rfl,hX,hB⟩;have S5:=hid (((S4.o.step hB).zb (hX.zb S4.o.n.qx.bn.neg (by omega)) rfl));clear S4 hX hB;go_wp2_with fail;refine hK.o _ _ trivial (λh2=>?_);clear hK K hH;have hH:=h2;clear h2
    try simp only[ax]
    refine ag 3 rfl (by kernel_rfl) (λK hK=>?_);go_simp;refine(kD S5.o.n.t.qx.den).mono ?_;rintro e PJ ⟨bO,bP,bQ,bR,rfl,hX,hB⟩;have S6:=hid (((S5.o.step hB).zb (hX.zb S5.o.n.t.qx.bd.neg (by omega)) rfl));clear S5 hX hB;go_wp2_with fail;refine hK.o _ _ trivial (λh2=>?_);clear hK K hH;have hH:=h2;clear h2
    try simp only[ax]
    refine ag 4 rfl (by kernel_rfl) (λK hK=>?_);obtain⟨bM,bN⟩:=S6.o.b.t.c2;obtain⟨gT,gU⟩:=S6.o.b.t.f2;go_simp;clear bM bN gT gU;have S7:Hid (Sx w _ [⟨mf,[ah8 true,ah7 bo l cb]⟩,⟨mb,[ah8 aX,ah7 aY aZ bf]⟩,⟨(w.heap.size+1),[ah8 false,ah7 none 0 0,ah8 false,ah7 none 0 0]⟩,⟨w.heap.size,[ah8 m,ah7 ao n ae,ah8 true,ah7 bo l cb]⟩] _):=hid (Sx.set [⟨mf,[ah8 true,ah7 bo l cb]⟩] _ (Sx.set [⟨mf,[ah8 true,ah7 bo l cb]⟩] _ S6.o 0 (ah8 aX)) 1 (ah7 aY aZ bf));clear S6;refine hK.o _ _ trivial (λh2=>?_);clear hK K hH;have hH:=h2;clear h2
    try simp only[ax]
    refine ah (λHs hW=>?_);rw[<-hW]at S7;clear hW;refine ag 5 rfl (by kernel_rfl) (λK hK=>?_);obtain⟨bK,bL⟩:=S7.o.b.c2;obtain⟨dL,dM⟩:=S7.o.b.f2;go_simp;clear bK bL dL dM;have S8:Hid (Sx w _ [⟨mf,[ah8 bO,ah7 bP bQ bR]⟩,⟨mb,[ah8 aX,ah7 aY aZ bf]⟩,⟨(w.heap.size+1),[ah8 false,ah7 none 0 0,ah8 false,ah7 none 0 0]⟩,⟨w.heap.size,[ah8 m,ah7 ao n ae,ah8 true,ah7 bo l cb]⟩] _):=hid (Sx.set [] _ (Sx.set [] _ S7.o 0 (ah8 bO)) 1 (ah7 bP bQ bR));clear S7;refine hK.o _ _ trivial (λh2=>?_);clear hK K hH;have hH:=h2;clear h2
    try simp only[ax]
    refine ah (λLY hW=>?_);rw[<-hW]at S8;clear hW;refine wpAnyH_done (by kernel_rfl) ?_ _
    clear hH;go_wp2_with fail;go_meet
    case rel=>exact⟨_,_,_,_,_,_,_,_,S8.o⟩
  ·obtain⟨bK,bL⟩:=S4.o.b.c2;go_simp;clear bK bL;refine hK.o _ _ trivial (λh2=>?_);clear hK K hH;have hH:=h2;clear h2
   try simp only[ax]
   refine ag 0 rfl (by kernel_rfl) (λK hK=>?_);obtain⟨bM,bN⟩:=S4.o.b.t.c2;go_simp;clear bM bN;refine hK.o _ _ trivial (λh2=>?_);clear hK K hH;have hH:=h2;clear h2
   try simp only[ax]
   refine ag 1 rfl (by kernel_rfl) (λK hK=>?_);go_simp;refine(kD S4.o.n.qx.num).mono ?_;rintro e w9 ⟨aX,aY,aZ,bf,rfl,hX,hB⟩;have S5:=hid (((S4.o.step hB).zb (hX.zb S4.o.n.qx.bn.neg (by omega)) rfl));clear S4 hX hB;go_wp2_with fail;refine hK.o _ _ trivial (λh2=>?_);clear hK K hH;have hH:=h2;clear h2
   try simp only[ax]
   refine ag 3 rfl (by kernel_rfl) (λK hK=>?_);go_simp;refine(kD S5.o.n.t.qx.den).mono ?_;rintro e PJ ⟨bO,bP,bQ,bR,rfl,hX,hB⟩;have S6:=hid (((S5.o.step hB).zb (hX.zb S5.o.n.t.qx.bd.neg (by omega)) rfl));clear S5 hX hB;go_wp2_with fail;refine hK.o _ _ trivial (λh2=>?_);clear hK K hH;have hH:=h2;clear h2
   try simp only[ax]
   refine ag 4 rfl (by kernel_rfl) (λK hK=>?_);obtain⟨bM,bN⟩:=S6.o.b.t.c2;obtain⟨gT,gU⟩:=S6.o.b.t.f2;go_simp;clear bM bN gT gU;have S7:Hid (Sx w _ [⟨mf,[ah8 true,ah7 bo l cb]⟩,⟨mb,[ah8 aX,ah7 aY aZ bf]⟩,⟨(w.heap.size+1),[ah8 false,ah7 none 0 0,ah8 false,ah7 none 0 0]⟩,⟨w.heap.size,[ah8 m,ah7 ao n ae,ah8 true,ah7 bo l cb]⟩] _):=hid (Sx.set [⟨mf,[ah8 true,ah7 bo l cb]⟩] _ (Sx.set [⟨mf,[ah8 true,ah7 bo l cb]⟩] _ S6.o 0 (ah8 aX)) 1 (ah7 aY aZ bf));clear S6;refine hK.o _ _ trivial (λh2=>?_);clear hK K hH;have hH:=h2;clear h2
   try simp only[ax]
   refine ah (λHs hW=>?_);rw[<-hW]at S7;clear hW;refine ag 5 rfl (by kernel_rfl) (λK hK=>?_);obtain⟨bK,bL⟩:=S7.o.b.c2;obtain⟨dL,dM⟩:=S7.o.b.f2;go_simp;clear bK bL dL dM;have S8:Hid (Sx w _ [⟨mf,[ah8 bO,ah7 bP bQ bR]⟩,⟨mb,[ah8 aX,ah7 aY aZ bf]⟩,⟨(w.heap.size+1),[ah8 false,ah7 none 0 0,ah8 false,ah7 none 0 0]⟩,⟨w.heap.size,[ah8 m,ah7 ao n ae,ah8 true,ah7 bo l cb]⟩] _):=hid (Sx.set [] _ (Sx.set [] _ S7.o 0 (ah8 bO)) 1 (ah7 bP bQ bR));clear S7;refine hK.o _ _ trivial (λh2=>?_);clear hK K hH;have hH:=h2;clear h2
   try simp only[ax]
   refine ah (λLY hW=>?_);rw[<-hW]at S8;clear hW;refine wpAnyH_done (by kernel_rfl) ?_ _
   clear hH;go_wp2_with fail;go_meet
   case rel=>exact⟨_,_,_,_,_,_,_,_,S8.o⟩
 case rest=>
 clear S3;obtain⟨bO,bP,bQ,bR,aX,aY,aZ,bf,S4⟩:=hcut;obtain⟨XN,hW⟩:∃XN,XN=wc:=⟨_,rfl⟩;rw[<-hW]at S4 ⊢;clear hW;obtain⟨bM,bN⟩:=S4.o.b.t.c2;obtain⟨bK,bL⟩:=S4.o.b.c2;go_wp2_with fail;clear bM bN bK bL;refine(CR S4.o.n.t.zb.zx S4.o.n.zb.zx).mono ?_;rintro e Hy ⟨cW,cX,cY,cZ,rfl,hX,hB⟩;have S5:=hid (((S4.o.step hB).zb (hX.zb (wz S4.o.n.zb.bd HN.o) (by omega)) rfl));clear S4 hX hB;go_upto_region 5 with(fail)
 have S6:=hid (S5.o.var Hy.heap.size [ah8 cW,ah7 cX cY cZ] 45 (by simp));clear S5;refine aj (λw15 hW=>?_);rw[<-hW]at S6;clear hW;obtain⟨bM,bN⟩:=S6.o.b.t.t.c2;obtain⟨cG,cH⟩:=S6.o.b.c2;go_wp2_with fail;clear bM bN cG cH;refine(lH S6.o.n.t.t.zb.zx S6.o.n.zb.zx PR.o).mono ?_;rintro e w16 ⟨dP,dQ,dR,dS,af8,af9,ag0,ag1,rfl,hX,_,hB⟩;rw[vv.o]at hX;have S7:=hid (((S6.o.step hB).zb (hX.zb JD.o (by omega)) rfl));clear S6 hX hB;obtain⟨bM,bN⟩:=S7.o.b.t.t.c2;obtain⟨gT,gU⟩:=S7.o.b.t.t.f2;go_upto_region 6 with(fail)
 clear bM bN gT gU;have S8:Hid (Sx w _ [⟨Hy.heap.size,[ah8 cW,ah7 cX cY cZ]⟩,⟨mf,[ah8 bO,ah7 bP bQ bR]⟩,⟨mb,[ah8 dP,ah7 dQ dR dS]⟩,⟨(w.heap.size+1),[ah8 false,ah7 none 0 0,ah8 false,ah7 none 0 0]⟩,⟨w.heap.size,[ah8 m,ah7 ao n ae,ah8 true,ah7 bo l cb]⟩] _):=hid (Sx.set [⟨Hy.heap.size,[ah8 cW,ah7 cX cY cZ]⟩,⟨mf,[ah8 bO,ah7 bP bQ bR]⟩] _ (Sx.set [⟨Hy.heap.size,[ah8 cW,ah7 cX cY cZ]⟩,⟨mf,[ah8 bO,ah7 bP bQ bR]⟩] _ S7.o 0 (ah8 dP)) 1 (ah7 dQ dR dS));clear S7;refine aj (λw17 hW=>?_);rw[<-hW]at S8;clear hW;obtain⟨bK,bL⟩:=S8.o.b.t.c2;obtain⟨cG,cH⟩:=S8.o.b.c2;go_wp2_with fail;clear bK bL cG cH;refine(lH S8.o.n.t.t.zb.zx S8.o.n.t.zb.zx PR.o).mono ?_;rintro e w18 ⟨ji,jk,jl,jm,QJ,QK,QL,QM,rfl,hX,_,hB⟩;rw[HE2.o]at hX;have S9:=hid (((S8.o.step hB).zb (hX.zb AO.o (by omega)) rfl));clear S8 hX hB;obtain⟨bK,bL⟩:=S9.o.b.t.c2;obtain⟨dL,dM⟩:=S9.o.b.t.f2;go_upto_region 7 with(fail)
 clear bK bL dL dM;have lI:Hid (Sx w _ [⟨Hy.heap.size,[ah8 cW,ah7 cX cY cZ]⟩,⟨mf,[ah8 ji,ah7 jk jl jm]⟩,⟨mb,[ah8 dP,ah7 dQ dR dS]⟩,⟨(w.heap.size+1),[ah8 false,ah7 none 0 0,ah8 false,ah7 none 0 0]⟩,⟨w.heap.size,[ah8 m,ah7 ao n ae,ah8 true,ah7 bo l cb]⟩] _):=hid (Sx.set [⟨Hy.heap.size,[ah8 cW,ah7 cX cY cZ]⟩] _ (Sx.set [⟨Hy.heap.size,[ah8 cW,ah7 cX cY cZ]⟩] _ S9.o 0 (ah8 ji)) 1 (ah7 jk jl jm));clear S9;refine aj (λw19 hW=>?_);rw[<-hW]at lI;clear hW;have nh:=hid lI.o.drew;clear lI;refine wp_region_held_drew (S:=λw'=>(w'.cell? ⟨mb,0,none⟩=some (ah8 dP)/\ w'.cell? ⟨mb,1,none⟩=some (ah7 dQ dR dS))/\ (w'.cell? ⟨mf,0,none⟩=some (ah8 ji)/\ w'.cell? ⟨mf,1,none⟩=some (ah7 jk jl jm))) (by kernel_rfl) (⟨nh.o.b.t.t.c2,nh.o.b.t.c2⟩) (λhH=>?_);refine ah (λw20 hW=>?_);rw[<-hW]at nh hH;clear hW;refine aT 0 hH ?_;try simp only[ax]
 refine aT 2 hH ?_;try simp only[ax]
 refine ag 1 rfl (by kernel_rfl) (λK hK=>?_);go_simp;refine(my nh.o.n.t.zb.zx).mono ?_;rintro e w21 ⟨Fo,Fp,Fq,Fu,rfl,hX,hB⟩;have oJ:=hid (((nh.o.step hB).cb (hX.cb nh.o.n.t.zb.bd (by omega)) rfl));clear nh hX hB;go_wp2_with fail;refine hK.o _ _ ⟨oJ.o.b.t.t.c2,oJ.o.b.t.c2⟩ (λh2=>?_);clear hK K hH;have hH:=h2;clear h2
 try simp only[ax]
 refine ag 3 rfl (by kernel_rfl) (λK hK=>?_);go_simp;refine(my oJ.o.n.t.zb.zx).mono ?_;rintro e w22 ⟨Fv,Fw,Fy,Fz,rfl,hX,hB⟩;have oK:=hid (((oJ.o.step hB).cb (hX.cb oJ.o.n.t.zb.bd (by omega)) rfl));clear oJ hX hB;go_wp2_with fail;refine hK.o _ _ ⟨oK.o.b.t.t.c2,oK.o.b.t.c2⟩ (λh2=>?_);clear hK K hH;have hH:=h2;clear h2
 try simp only[ax]
 refine aT 4 hH ?_;try simp only[ax]
 refine ag 5 rfl (by kernel_rfl) (λK hK=>?_);obtain⟨cI,cJ,dE,dF⟩:=oK.o.b.t.t.t.c4;obtain⟨kK,kL,nD,nE⟩:=oK.o.b.t.t.t.f4;go_simp;clear cI cJ dE dF kK kL nD nE;have uW:Hid (Sx w _ [⟨Hy.heap.size,[ah8 cW,ah7 cX cY cZ]⟩,⟨mf,[ah8 ji,ah7 jk jl jm]⟩,⟨mb,[ah8 dP,ah7 dQ dR dS]⟩,⟨(w.heap.size+1),[ah8 Fo,ah7 Fp Fq Fu,ah8 Fv,ah7 Fw Fy Fz]⟩,⟨w.heap.size,[ah8 m,ah7 ao n ae,ah8 true,ah7 bo l cb]⟩] _):=hid (Sx.set [⟨Hy.heap.size,[ah8 cW,ah7 cX cY cZ]⟩,⟨mf,[ah8 ji,ah7 jk jl jm]⟩,⟨mb,[ah8 dP,ah7 dQ dR dS]⟩] _ (Sx.set [⟨Hy.heap.size,[ah8 cW,ah7 cX cY cZ]⟩,⟨mf,[ah8 ji,ah7 jk jl jm]⟩,⟨mb,[ah8 dP,ah7 dQ dR dS]⟩] _ (Sx.set [⟨Hy.heap.size,[ah8 cW,ah7 cX cY cZ]⟩,⟨mf,[ah8 ji,ah7 jk jl jm]⟩,⟨mb,[ah8 dP,ah7 dQ dR dS]⟩] _ (Sx.set [⟨Hy.heap.size,[ah8 cW,ah7 cX cY cZ]⟩,⟨mf,[ah8 ji,ah7 jk jl jm]⟩,⟨mb,[ah8 dP,ah7 dQ dR dS]⟩] _ oK.o 0 (ah8 Fo)) 1 (ah7 Fp Fq Fu)) 2 (ah8 Fv)) 3 (ah7 Fw Fy Fz));clear oK;refine hK.o _ _ ⟨uW.o.b.t.t.c2,uW.o.b.t.c2⟩ (λh2=>?_);clear hK K hH;have hH:=h2;clear h2
 try simp only[ax]
 refine ah (λw23 hW=>?_);rw[<-hW]at uW hH;clear hW;refine wpAnyH_done (by kernel_rfl) ?_ _
 clear hH;obtain⟨cI,cJ,dE,dF⟩:=uW.o.b.t.t.t.c4;obtain⟨kK,kL,nD,nE⟩:=uW.o.b.t.t.t.f4;go_wp2_with fail;refine bodyPost_ret (v:= .agg #[ah8 Fo,ah7 Fp Fq Fu,ah8 Fv,ah7 Fw Fy Fz]) (by simp[results,Tryz.results17,go_sem,cI,cJ,dE,dF]) rfl ?_;exact⟨_,_,_,_,_,_,_,_,rfl,⟨uW.o.n.t.cb.cx,uW.o.n.cb.cx,uW.o.n.t.cb.bd,uW.o.n.cb.bd⟩,uW.o.h⟩
theorem vV [Ol] {m:Bool} {ao:Z'} {n ae:Nat} {k:Bool} {bo:Z'} {l cb:Nat} {x d:Int} {q:Rat} {j:Nat} {w:ah5} (hx:Qx w m ao n ae k bo l cb x d q j) (h1:1<=j) (h2:j<=50000):
  Calls Tryz.prog 17 #[.agg #[ah8 m,ah7 ao n ae,ah8 k,ah7 bo l cb]] w (yy w q j):=by
 cases k
 ·exact Fm hx h1 h2
 ·exact JE hx h1 h2
end
section
open Lib (hid)
open Go.RowKit
theorem qL [Ol] (a b:Int) (w:ah5) (Th: -9223372036854775808<=a/\ a<=9223372036854775807) (Ti: -9223372036854775808<=b/\ b<=9223372036854775807) (h0:b≠0):
  Calls Tryz.prog 39 #[.int .i64 a,.int .i64 b] w (ab2 w a b (Rat.divInt a b) 2):=by
 have H0:=hid h0;clear h0;go_enter Tryz.func39,Tryz.ntmps39;have S0:=hid (Sx.start (w:=w) (N:=[]) trivial);have S1:=hid (S0.o.var w.heap.size [ah8 false,ah7 none 0 0,ah8 false,ah7 none 0 0] 47 (by simp));clear S0;go_upto_region 1 with(fail)
 refine aj (λw1 hW=>?_);rw[<-hW]at S1;clear hW;go_wp2_with fail;refine(nv (a) _ Th).mono ?_;rintro e w2 ⟨aX,aY,aZ,bf,rfl,hX,hB⟩;have S2:=hid (((S1.o.step hB).zb (hX.zb (Yz Th) (by omega)) rfl));clear S1 hX hB;go_wp2_with fail;refine(nv (b) _ Ti).mono ?_;rintro e w3 ⟨bO,bP,bQ,bR,rfl,hX,hB⟩;have S3:=hid (((S2.o.step hB).zb (hX.zb (Yz Ti) (by omega)) rfl));clear S2 hX hB;obtain⟨bK,bL,kM,kN⟩:=S3.o.b.c4;obtain⟨dL,dM,qQ,qR⟩:=S3.o.b.f4;go_wp2_with fail;have S4:Hid (Sx w _ [⟨w.heap.size,[ah8 aX,ah7 aY aZ bf,ah8 bO,ah7 bP bQ bR]⟩] _):=hid (Sx.set [] _ (Sx.set [] _ (Sx.set [] _ (Sx.set [] _ S3.o 0 (ah8 aX)) 1 (ah7 aY aZ bf)) 2 (ah8 bO)) 3 (ah7 bP bQ bR));clear S3;refine bodyPost_ret (v:= .agg #[ah8 aX,ah7 aY aZ bf,ah8 bO,ah7 bP bQ bR]) (by simp[results,Tryz.results39,go_sem,bK,bL,kM,kN]) rfl ?_;exact⟨_,_,_,_,_,_,_,_,rfl,⟨S4.o.n.t.zb.zx,S4.o.n.zb.zx,H0.o,rfl,S4.o.n.t.zb.bd,S4.o.n.zb.bd⟩,S4.o.h⟩
def oL (m:Bool) (xs:List Nat) (z:Int):Bool:=decide (m=decide (z<0)/\ xs=aq z.natAbs)
theorem tF [Ol] (r:Bool) {m k:Bool} {ao bo:Z'} {n ae l cb:Nat} {xs:List Nat} {z:Int} {w:ah5} (hs:Sl w ao n ae xs) (hv:Cx w k bo l cb z) (h:oL m xs z=r):
  Calls Tryz.prog 53 #[.agg #[ah8 m,ah7 ao n ae],.agg #[ah8 k,ah7 bo l cb]] w (cr (ah8 r) w):=by
 have hk:=hv.cn.neg;by_cases hm:m=k
 ·subst hm;refine wh r hs hv.cn.sl ?_;rw[<-h];unfold oH oL;rw[<-hk];simp
 ·obtain rfl:r=false:=by
   rw[<-h];unfold oL;rw[<-hk];simp[hm]
  exact yX hm
theorem MU [Ol] {m:Bool} {ao:Z'} {n ae:Nat} {k:Bool} {bo:Z'} {l cb:Nat} {m2:Bool} {a2:Z'} {n2 c2:Nat} {k2:Bool} {b2:Z'} {l2 d2:Nat} {q:Rat} {j:Nat} {w:ah5} {xs ys:List Nat} (hs:Sl w ao n ae xs) (ht:Sl w bo l cb ys) (hy:Rc w m2 a2 n2 c2 k2 b2 l2 d2 q j) (ha:oL m xs q.num=false):
  Calls Tryz.prog 16 #[.agg #[ah8 m,ah7 ao n ae,ah8 k,ah7 bo l cb],.agg #[ah8 m2,ah7 a2 n2 c2,ah8 k2,ah7 b2 l2 d2]] w (cr (ah8 false) w):=by
 have HA:=hid ha;clear ha;go_enter Tryz.func16,Tryz.ntmps16;have S0:=hid (Sx.start (w:=w) (N:=[.sl ao n ae xs,.sl bo l cb ys,.rc m2 a2 n2 c2 k2 b2 l2 d2 q j]) ⟨hs,ht,hy,trivial⟩);clear hs ht hy;have S1:=hid (S0.o.var w.heap.size [ah8 m,ah7 ao n ae,ah8 k,ah7 bo l cb] 31 (by simp));clear S0;have S2:=hid (S1.o.var (w.heap.size+1) [ah8 m2,ah7 a2 n2 c2,ah8 k2,ah7 b2 l2 d2] 31 (by simp));clear S1;go_upto_region 1 with(fail)
 refine aj (λw1 hW=>?_);rw[<-hW]at S2;clear hW;obtain⟨cI,cJ,dE,dF⟩:=S2.o.b.t.c4;obtain⟨bM,bN,iU,iV⟩:=S2.o.b.c4;go_wp2_with fail;clear cI cJ dE dF bM bN iU iV;refine(tF false S2.o.n.sl S2.o.n.t.t.rc.num HA.o).mono ?_;rintro e w2 ⟨rfl,hB⟩;have S3:=hid ((S2.o.step hB));clear S2 hB;go_wp2_with fail;go_ret;exact⟨rfl,S3.o.h⟩
theorem JF [Ol] (r:Bool) {m:Bool} {ao:Z'} {n ae:Nat} {k:Bool} {bo:Z'} {l cb:Nat} {m2:Bool} {a2:Z'} {n2 c2:Nat} {k2:Bool} {b2:Z'} {l2 d2:Nat} {q:Rat} {j:Nat} {w:ah5} {xs ys:List Nat} (hs:Sl w ao n ae xs) (ht:Sl w bo l cb ys) (hy:Rc w m2 a2 n2 c2 k2 b2 l2 d2 q j) (ha:oL m xs q.num=true) (hb:oL k ys (q.den:Int)=r):
  Calls Tryz.prog 16 #[.agg #[ah8 m,ah7 ao n ae,ah8 k,ah7 bo l cb],.agg #[ah8 m2,ah7 a2 n2 c2,ah8 k2,ah7 b2 l2 d2]] w (cr (ah8 r) w):=by
 have HA:=hid ha;clear ha;have HB:=hid hb;clear hb;go_enter Tryz.func16,Tryz.ntmps16;have S0:=hid (Sx.start (w:=w) (N:=[.sl ao n ae xs,.sl bo l cb ys,.rc m2 a2 n2 c2 k2 b2 l2 d2 q j]) ⟨hs,ht,hy,trivial⟩);clear hs ht hy;have S1:=hid (S0.o.var w.heap.size [ah8 m,ah7 ao n ae,ah8 k,ah7 bo l cb] 31 (by simp));clear S0;have S2:=hid (S1.o.var (w.heap.size+1) [ah8 m2,ah7 a2 n2 c2,ah8 k2,ah7 b2 l2 d2] 31 (by simp));clear S1;go_upto_region 1 with(fail)
 refine aj (λw1 hW=>?_);rw[<-hW]at S2;clear hW;obtain⟨cI,cJ,dE,dF⟩:=S2.o.b.t.c4;obtain⟨bM,bN,iU,iV⟩:=S2.o.b.c4;go_wp2_with fail;clear cI cJ dE dF bM bN iU iV;refine(tF true S2.o.n.sl S2.o.n.t.t.rc.num HA.o).mono ?_;rintro e w2 ⟨rfl,hB⟩;have S3:=hid ((S2.o.step hB));clear S2 hB;obtain⟨cI,cJ,dE,dF⟩:=S3.o.b.t.c4;obtain⟨bM,bN,iU,iV⟩:=S3.o.b.c4;go_wp2_with fail;clear cI cJ dE dF bM bN iU iV;refine(tF r S3.o.n.t.sl S3.o.n.t.t.rc.den HB.o).mono ?_;rintro e w3 ⟨rfl,hB⟩;have S4:=hid ((S3.o.step hB));clear S3 hB;go_wp2_with fail;go_ret;exact⟨rfl,S4.o.h⟩
theorem JG [Ol] (r:Bool) {m:Bool} {ao:Z'} {n ae:Nat} {k:Bool} {bo:Z'} {l cb:Nat} {m2:Bool} {a2:Z'} {n2 c2:Nat} {k2:Bool} {b2:Z'} {l2 d2:Nat} {q:Rat} {j:Nat} {w:ah5} {xs ys:List Nat} (hs:Sl w ao n ae xs) (ht:Sl w bo l cb ys) (hy:Rc w m2 a2 n2 c2 k2 b2 l2 d2 q j) (h:(oL m xs q.num&&oL k ys (q.den:Int))=r):
  Calls Tryz.prog 16 #[.agg #[ah8 m,ah7 ao n ae,ah8 k,ah7 bo l cb],.agg #[ah8 m2,ah7 a2 n2 c2,ah8 k2,ah7 b2 l2 d2]] w (cr (ah8 r) w):=by
 cases ha:oL m xs q.num with
 |false=>rw[ha]at h;obtain rfl:r=false:=by simpa using h.symm
         exact MU hs ht hy ha
 |true=>rw[ha]at h;exact JF r hs ht hy ha (by simpa using h)
theorem wA {w:ah5} {m:Bool} {ao:Z'} {n ae:Nat} {z:Int} (h:Cn w m ao n ae z):oL m (aq z.natAbs) z=true:=by
 unfold oL;rw[<-h.neg];simp
theorem Mf [Ol] {m:Bool} {ao:Z'} {n ae:Nat} {k:Bool} {bo:Z'} {l cb:Nat} {m2:Bool} {a2:Z'} {n2 c2:Nat} {k2:Bool} {b2:Z'} {l2 d2:Nat} {q r:Rat} {j i:Nat} {w:ah5} (hx:Rc w m ao n ae k bo l cb q j) (hy:Rc w m2 a2 n2 c2 k2 b2 l2 d2 r i) (h:q=r):
  Calls Tryz.prog 16 #[.agg #[ah8 m,ah7 ao n ae,ah8 k,ah7 bo l cb],.agg #[ah8 m2,ah7 a2 n2 c2,ah8 k2,ah7 b2 l2 d2]] w (cr (ah8 true) w):=by
 subst h;exact JG true hx.num.cn.sl hx.den.cn.sl hy (by rw[wA hx.num.cn,wA hx.den.cn];rfl)
end
end Go.Proofs.YtmenbpmciblnlaaGreatDoor
