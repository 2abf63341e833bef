/- QTxt, RatioMay, RatioQ, RatioQ2 -/
import Derived.Test.YtmenbpmciblnlaaGreatDoorGRa
import Derived.Test.YtmenbpmciblnlaaGreatDoorGTxt
import Derived.Test.YtmenbpmciblnlaaGreatDoorGWZ2
set_option maxHeartbeats 0
set_option maxRecDepth 100000
open Go.AllReadyH renaming nil->a0a
open Go.Value renaming slice->a0b
open Int renaming gcd->a0c,gcd_pos_of_ne_zero_right->a0d
open Rat renaming divInt->a0e
/- Quotients' texts, in plain lists: where the stroke stands, that texts of unlike quotients are unlike, and which texts with a stroke are a quotient's. -/
namespace Go.Proofs.YtmenbpmciblnlaaGreatDoor
section
open Lib
end
/- The contracts of ratio.May and ratio.Text. -/
section
open Go.RowKit
end
/- The contracts of the reference's Of and Rat. -/
section
open Lib (hid)
open Go.RowKit
theorem ad7 {d s:Int} (hs:d.sign=s):(s==0)=decide (d=0):=by
 rw[<-hs,Bool.eq_iff_iff];simp[Int.sign_eq_zero_iff_zero]
theorem QU [Ol] {m:Bool} {ao:Option Addr} {n cap:Nat} {k:Bool} {bo:Option Addr} {l cb:Nat} {x d:Int} {q:Rat} {j:Nat} {w:World} (hx:Rx w m ao n cap k bo l cb x d q j) (h1:1<=j) (h2:j<=50000) (h0:d=0):
  Calls Tryz.prog 51 #[.agg #[.bool m,a0b ao n cap,.bool k,a0b bo l cb]] w (Gd w x (dn d) q j):=by
 obtain⟨s,hs⟩:∃s,d.sign=s:=⟨_,rfl⟩;have e1:(s==0)=true:=by rw[ad7 hs];simpa using h0
 have HS:=hid hs;have H0:=hid h0;clear hs h0;go_enter Tryz.func51,Tryz.ntmps51;have S0:=hid (Sx.start (w:=w) (N:=[.rx m ao n cap k bo l cb x d q j]) ⟨hx,trivial⟩);clear hx;have S1:=hid (S0.out.var (w.heap.size) [.bool m,a0b ao n cap,.bool k,a0b bo l cb] 31 (by simp));clear S0;have S2:=hid (S1.out.var (w.heap.size+1) [.bool false,a0b none 0 0,.bool false,a0b none 0 0] 47 (by simp));clear S1;go_upto_region 1 with(fail)
 refine aj (λw1 hW=>?_);rw[<-hW]at S2;clear hW;obtain⟨cZ,dh,dW,dX⟩:=S2.out.b.t.c4;go_wp2_with fail;clear cZ dh dW dX;refine(sW S2.out.n.rx.den).mono ?_;rintro e w2 ⟨aS,aT,aU,aV,rfl,hX,hB⟩;have S3:=hid (((S2.out.step hB).zb (hX.zb (S2.out.n.rx.bd) (by omega)) rfl));clear S2 hX hB;go_upto_region 2 with(fail)
 have S4:=hid (S3.out.var (w2.heap.size) [.bool aS,a0b aT aU aV] 45 (by simp));clear S3;refine aj (λw3 hW=>?_);rw[<-hW]at S4;clear hW;obtain⟨bP,bQ⟩:=S4.out.b.c2;go_wp2_with fail;clear bP bQ;refine(jN (s) S4.out.n.zb.zx (HS.out)).mono ?_;rintro e w4 ⟨rfl,hB⟩;have S5:=hid ((S4.out.step hB));clear S4 hB;go_wp2_with fail;refine(jX (1) _ ⟨by omega,by omega⟩).mono ?_;rintro e w5 ⟨bH,bI,bJ,bK,rfl,hX,hB⟩;have S6:=hid (((S5.out.step hB).zb (hX.zb (show Bd (1:Int) 1 by unfold Bd;decide) (by omega)) rfl));clear S5 hX hB;obtain⟨bP,bQ⟩:=S6.out.b.c2;obtain⟨iX,iY⟩:=S6.out.b.f2;go_upto_region 4 with(fail)
 clear bP bQ iX iY;have S7:Hid (Sx w _ [⟨(w2.heap.size),[.bool bH,a0b bI bJ bK]⟩,⟨(w.heap.size+1),[.bool false,a0b none 0 0,.bool false,a0b none 0 0]⟩,⟨(w.heap.size),[.bool m,a0b ao n cap,.bool k,a0b bo l cb]⟩] _):=hid (Sx.set [] [⟨(w.heap.size+1),[.bool false,a0b none 0 0,.bool false,a0b none 0 0]⟩,⟨(w.heap.size),[.bool m,a0b ao n cap,.bool k,a0b bo l cb]⟩] (Sx.set [] [⟨(w.heap.size+1),[.bool false,a0b none 0 0,.bool false,a0b none 0 0]⟩,⟨(w.heap.size),[.bool m,a0b ao n cap,.bool k,a0b bo l cb]⟩] S6.out 0 (.bool bH)) 1 (a0b bI bJ bK));clear S6;refine aj (λw6 hW=>?_);rw[<-hW]at S7;clear hW;have S8:=hid (S7.out.drew);clear S7;refine wp_region_held_drew (S:=λw'=>(w'.cell? ⟨(w.heap.size),0,none⟩=some (.bool m)/\ w'.cell? ⟨(w.heap.size),1,none⟩=some (a0b ao n cap)/\ w'.cell? ⟨(w.heap.size),2,none⟩=some (.bool k)/\ w'.cell? ⟨(w.heap.size),3,none⟩=some (a0b bo l cb))/\ (w'.cell? ⟨(w2.heap.size),0,none⟩=some (.bool bH)/\ w'.cell? ⟨(w2.heap.size),1,none⟩=some (a0b bI bJ bK))) (by kernel_rfl) (⟨S8.out.b.t.t.c4,S8.out.b.c2⟩) (λhH=>?_);refine ai (λw7 hW=>?_);rw[<-hW]at S8 hH;clear hW;refine aQ 0 hH ?_;try simp only[ax]
 refine aQ 1 hH ?_;try simp only[ax]
 refine aQ 3 hH ?_;try simp only[ax]
 refine ah 2 rfl (by kernel_rfl) (λK hK=>?_);go_simp;refine(sW S8.out.n.t.t.rx.num).mono ?_;rintro e w8 ⟨dL,dM,dN,dO,rfl,hX,hB⟩;have S9:=hid (((S8.out.step hB).zb (hX.zb (S8.out.n.t.t.rx.bn) (by omega)) rfl));clear S8 hX hB;go_wp2_with fail;refine hK.out _ _ ⟨S9.out.b.t.t.c4,S9.out.b.c2⟩ (λh2=>?_);clear hK K hH;have hH:=h2;clear h2
 try simp only[ax]
 refine aQ 4 hH ?_;try simp only[ax]
 refine ah 5 rfl (by kernel_rfl) (λK hK=>?_);obtain⟨bW,bX,dB,dD⟩:=S9.out.b.t.c4;obtain⟨jg,jh,jK,jL⟩:=S9.out.b.t.f4;go_simp;clear bW bX dB dD jg jh jK jL;have kV:Hid (Sx w _ [⟨(w2.heap.size),[.bool bH,a0b bI bJ bK]⟩,⟨(w.heap.size+1),[.bool dL,a0b dM dN dO,.bool bH,a0b bI bJ bK]⟩,⟨(w.heap.size),[.bool m,a0b ao n cap,.bool k,a0b bo l cb]⟩] _):=hid (Sx.set [⟨(w2.heap.size),[.bool bH,a0b bI bJ bK]⟩] [⟨(w.heap.size),[.bool m,a0b ao n cap,.bool k,a0b bo l cb]⟩] (Sx.set [⟨(w2.heap.size),[.bool bH,a0b bI bJ bK]⟩] [⟨(w.heap.size),[.bool m,a0b ao n cap,.bool k,a0b bo l cb]⟩] (Sx.set [⟨(w2.heap.size),[.bool bH,a0b bI bJ bK]⟩] [⟨(w.heap.size),[.bool m,a0b ao n cap,.bool k,a0b bo l cb]⟩] (Sx.set [⟨(w2.heap.size),[.bool bH,a0b bI bJ bK]⟩] [⟨(w.heap.size),[.bool m,a0b ao n cap,.bool k,a0b bo l cb]⟩] S9.out 0 (.bool dL)) 1 (a0b dM dN dO)) 2 (.bool bH)) 3 (a0b bI bJ bK));clear S9;refine hK.out _ _ ⟨kV.out.b.t.t.c4,kV.out.b.c2⟩ (λh2=>?_);clear hK K hH;have hH:=h2;clear h2
 try simp only[ax]
 refine ai (λw9 hW=>?_);rw[<-hW]at kV hH;clear hW;refine wpAnyH_done (by kernel_rfl) ?_ _
 clear hH;obtain⟨bW,bX,dB,dD⟩:=kV.out.b.t.c4;obtain⟨jg,jh,jK,jL⟩:=kV.out.b.t.f4;go_wp2_with fail;refine bodyPost_ret (v:= .agg #[.bool dL,a0b dM dN dO,.bool bH,a0b bI bJ bK]) (by simp[results,Tryz.results51,go_sem,bW,bX,dB,dD]) rfl ?_;exact⟨_,_,_,_,_,_,_,_,rfl,⟨kV.out.n.zb.zx,(by rw[EA H0.out];exact kV.out.n.t.zb.zx),kg d,kV.out.n.t.t.t.rx.val,kV.out.n.t.t.t.rx.bn,jc kV.out.n.t.t.t.rx.bd (by omega)⟩,kV.out.h⟩
theorem QW [Ol] {m:Bool} {ao:Option Addr} {n cap:Nat} {k:Bool} {bo:Option Addr} {l cb:Nat} {x d:Int} {q:Rat} {j:Nat} {w:World} (hx:Rx w m ao n cap k bo l cb x d q j) (h1:1<=j) (h2:j<=50000) (h0:d≠0):
  Calls Tryz.prog 51 #[.agg #[.bool m,a0b ao n cap,.bool k,a0b bo l cb]] w (Gd w x (dn d) q j):=by
 obtain⟨s,hs⟩:∃s,d.sign=s:=⟨_,rfl⟩;have e1:(s==0)=false:=by rw[ad7 hs];simpa using h0
 have HS:=hid hs;have H0:=hid h0;clear hs h0;go_enter Tryz.func51,Tryz.ntmps51;have S0:=hid (Sx.start (w:=w) (N:=[.rx m ao n cap k bo l cb x d q j]) ⟨hx,trivial⟩);clear hx;have S1:=hid (S0.out.var (w.heap.size) [.bool m,a0b ao n cap,.bool k,a0b bo l cb] 31 (by simp));clear S0;have S2:=hid (S1.out.var (w.heap.size+1) [.bool false,a0b none 0 0,.bool false,a0b none 0 0] 47 (by simp));clear S1;go_upto_region 1 with(fail)
 refine aj (λw1 hW=>?_);rw[<-hW]at S2;clear hW;obtain⟨cZ,dh,dW,dX⟩:=S2.out.b.t.c4;go_wp2_with fail;clear cZ dh dW dX;refine(sW S2.out.n.rx.den).mono ?_;rintro e w2 ⟨aS,aT,aU,aV,rfl,hX,hB⟩;have S3:=hid (((S2.out.step hB).zb (hX.zb (S2.out.n.rx.bd) (by omega)) rfl));clear S2 hX hB;go_upto_region 2 with(fail)
 have S4:=hid (S3.out.var (w2.heap.size) [.bool aS,a0b aT aU aV] 45 (by simp));clear S3;refine aj (λw3 hW=>?_);rw[<-hW]at S4;clear hW;obtain⟨bP,bQ⟩:=S4.out.b.c2;go_wp2_with fail;clear bP bQ;refine(jN (s) S4.out.n.zb.zx (HS.out)).mono ?_;rintro e w4 ⟨rfl,hB⟩;have S5:=hid ((S4.out.step hB));clear S4 hB;go_wp2_with fail;have S6:=hid (S5.out.drew);clear S5;refine wp_region_held_drew (S:=λw'=>(w'.cell? ⟨(w.heap.size),0,none⟩=some (.bool m)/\ w'.cell? ⟨(w.heap.size),1,none⟩=some (a0b ao n cap)/\ w'.cell? ⟨(w.heap.size),2,none⟩=some (.bool k)/\ w'.cell? ⟨(w.heap.size),3,none⟩=some (a0b bo l cb))/\ (w'.cell? ⟨(w2.heap.size),0,none⟩=some (.bool aS)/\ w'.cell? ⟨(w2.heap.size),1,none⟩=some (a0b aT aU aV))) (by kernel_rfl) (⟨S6.out.b.t.t.c4,S6.out.b.c2⟩) (λhH=>?_);refine ai (λw5 hW=>?_);rw[<-hW]at S6 hH;clear hW;refine aQ 0 hH ?_;try simp only[ax]
 refine aQ 1 hH ?_;try simp only[ax]
 refine aQ 3 hH ?_;try simp only[ax]
 refine ah 2 rfl (by kernel_rfl) (λK hK=>?_);go_simp;refine(sW S6.out.n.t.rx.num).mono ?_;rintro e w6 ⟨bH,bI,bJ,bK,rfl,hX,hB⟩;have S7:=hid (((S6.out.step hB).zb (hX.zb (S6.out.n.t.rx.bn) (by omega)) rfl));clear S6 hX hB;go_wp2_with fail;refine hK.out _ _ ⟨S7.out.b.t.t.c4,S7.out.b.c2⟩ (λh2=>?_);clear hK K hH;have hH:=h2;clear h2
 try simp only[ax]
 refine aQ 4 hH ?_;try simp only[ax]
 refine ah 5 rfl (by kernel_rfl) (λK hK=>?_);obtain⟨bW,bX,dB,dD⟩:=S7.out.b.t.c4;obtain⟨jg,jh,jK,jL⟩:=S7.out.b.t.f4;go_simp;clear bW bX dB dD jg jh jK jL;have S8:Hid (Sx w _ [⟨(w2.heap.size),[.bool aS,a0b aT aU aV]⟩,⟨(w.heap.size+1),[.bool bH,a0b bI bJ bK,.bool aS,a0b aT aU aV]⟩,⟨(w.heap.size),[.bool m,a0b ao n cap,.bool k,a0b bo l cb]⟩] _):=hid (Sx.set [⟨(w2.heap.size),[.bool aS,a0b aT aU aV]⟩] [⟨(w.heap.size),[.bool m,a0b ao n cap,.bool k,a0b bo l cb]⟩] (Sx.set [⟨(w2.heap.size),[.bool aS,a0b aT aU aV]⟩] [⟨(w.heap.size),[.bool m,a0b ao n cap,.bool k,a0b bo l cb]⟩] (Sx.set [⟨(w2.heap.size),[.bool aS,a0b aT aU aV]⟩] [⟨(w.heap.size),[.bool m,a0b ao n cap,.bool k,a0b bo l cb]⟩] (Sx.set [⟨(w2.heap.size),[.bool aS,a0b aT aU aV]⟩] [⟨(w.heap.size),[.bool m,a0b ao n cap,.bool k,a0b bo l cb]⟩] S7.out 0 (.bool bH)) 1 (a0b bI bJ bK)) 2 (.bool aS)) 3 (a0b aT aU aV));clear S7;refine hK.out _ _ ⟨S8.out.b.t.t.c4,S8.out.b.c2⟩ (λh2=>?_);clear hK K hH;have hH:=h2;clear h2
 try simp only[ax]
 refine ai (λw7 hW=>?_);rw[<-hW]at S8 hH;clear hW;refine wpAnyH_done (by kernel_rfl) ?_ _
 clear hH;obtain⟨bW,bX,dB,dD⟩:=S8.out.b.t.c4;obtain⟨jg,jh,jK,jL⟩:=S8.out.b.t.f4;go_wp2_with fail;refine bodyPost_ret (v:= .agg #[.bool bH,a0b bI bJ bK,.bool aS,a0b aT aU aV]) (by simp[results,Tryz.results51,go_sem,bW,bX,dB,dD]) rfl ?_;exact⟨_,_,_,_,_,_,_,_,rfl,⟨S8.out.n.zb.zx,(by rw[Dk H0.out];exact S8.out.n.t.zb.zx),kg d,S8.out.n.t.t.rx.val,S8.out.n.t.t.rx.bn,jc S8.out.n.t.t.rx.bd (by omega)⟩,S8.out.h⟩
theorem Eo [Ol] {m:Bool} {ao:Option Addr} {n cap:Nat} {k:Bool} {bo:Option Addr} {l cb:Nat} {x d:Int} {q:Rat} {j:Nat} {w:World} (hx:Rx w m ao n cap k bo l cb x d q j) (h1:1<=j) (h2:j<=50000):
  Calls Tryz.prog 51 #[.agg #[.bool m,a0b ao n cap,.bool k,a0b bo l cb]] w (Gd w x (dn d) q j):=by
 by_cases h:d=0
 ·exact QU hx h1 h2 h
 ·exact QW hx h1 h2 h
theorem JP [Ol] {m:Bool} {ao:Option Addr} {n cap:Nat} {bo:Option Addr} {l cb:Nat} {x d:Int} {q:Rat} {j:Nat} {w:World} (hx:Qx w m ao n cap false bo l cb x d q j) (h1:1<=j) (h2:j<=50000):
  Calls Tryz.prog 17 #[.agg #[.bool m,a0b ao n cap,.bool false,a0b bo l cb]] w (EC w q j):=by
 have hd0:0<d:=by
  have h3:=hx.den.zd.neg;have h4:=hx.nz;simp at h3;omega
 have hv:=hx.val;have hbn:Bd q.num j:=by rw[<-hv];exact xI hx.bn hx.nz
 have hbd:Bd (q.den:Int) j:=by rw[<-hv];exact xJ hx.bd hx.nz
 have hg0:((a0c x d:Nat):Int)≠0:=by have:=a0d x (show d≠0 by omega);omega
 have Dl:Hid (x.tdiv ((a0c x d:Nat):Int)=q.num):=by rw[Hid,<-hv,mP (by omega)]
 have HE2:Hid (d.tdiv ((a0c x d:Nat):Int)=(q.den:Int)):=by rw[Hid,<-hv,tF (by omega)]
 have HN:Hid (d≠0):=by show d≠0;omega
 have Ub:=hid hg0;have UI:=hid hbn;have BZ:=hid hbd;clear hd0 hv hbn hbd hg0;go_enter Tryz.func17,Tryz.ntmps17;have S0:=hid (Sx.start (w:=w) (N:=[.qx m ao n cap false bo l cb x d q j]) ⟨hx,trivial⟩);clear hx;have S1:=hid (S0.out.var (w.heap.size) [.bool m,a0b ao n cap,.bool false,a0b bo l cb] 47 (by simp));clear S0;have S2:=hid (S1.out.var (w.heap.size+1) [.bool false,a0b none 0 0,.bool false,a0b none 0 0] 31 (by simp));clear S1;go_upto_region 1 with(fail)
 refine aj (λw1 hW=>?_);rw[<-hW]at S2;clear hW;go_cut [3,4]from 6 to 10 (λsl0 sl1 w9=>∃(oQ:Nat) (oU:Nat),sl0= .pointer (some ⟨oQ,0,none⟩)/\ sl1= .pointer (some ⟨oU,0,none⟩)/\ Hid (Sx w w9 [⟨oU,[.bool false,a0b bo l cb]⟩,⟨oQ,[.bool m,a0b ao n cap]⟩,⟨(w.heap.size+1),[.bool false,a0b none 0 0,.bool false,a0b none 0 0]⟩,⟨(w.heap.size),[.bool m,a0b ao n cap,.bool false,a0b bo l cb]⟩] [.qx m ao n cap false bo l cb x d q j]))
 case first=>
  have S3:=hid (S2.out.drew);clear S2;refine wp_region_held_drew (S:=λw'=>(w'.cell? ⟨(w.heap.size),0,none⟩=some (.bool m)/\ w'.cell? ⟨(w.heap.size),1,none⟩=some (a0b ao n cap)/\ w'.cell? ⟨(w.heap.size),2,none⟩=some (.bool false)/\ w'.cell? ⟨(w.heap.size),3,none⟩=some (a0b bo l cb))) (by kernel_rfl) ((S3.out.b.t.c4)) (λhH=>?_);refine ai (λw2 hW=>?_);rw[<-hW]at S3 hH;clear hW;refine aQ 0 hH ?_;try simp only[ax]
  refine aQ 1 hH ?_;try simp only[ax]
  refine aQ 2 hH ?_;try simp only[ax]
  refine aQ 3 hH ?_;try simp only[ax]
  refine wpAnyH_ready (rs:=[4,5]) (by kernel_rfl) (by simp) (aO rfl (λK hK=>?_) (aO rfl (λK hK=>?_) (a0a)))
  ·go_simp;have S4:=hid (S3.out.var (w2.heap.size) [.bool false,a0b none 0 0] 45 (by simp));clear S3;refine hK.out _ _ (S4.out.b.t.t.c4) (λh2=>?_);clear hK K hH;have hH:=h2;clear h2
   try simp only[ax]
   refine ai (λw3 hW=>?_);rw[<-hW]at S4 hH;clear hW;refine ah 5 rfl (by kernel_rfl) (λK hK=>?_);go_simp;have S5:=hid (S4.out.var (w3.heap.size) [.bool false,a0b none 0 0] 45 (by simp));clear S4;refine hK.out _ _ (S5.out.b.t.t.t.c4) (λh2=>?_);clear hK K hH;have hH:=h2;clear h2
   try simp only[ax]
   refine ai (λw4 hW=>?_);rw[<-hW]at S5 hH;clear hW;refine ah 6 rfl (by kernel_rfl) (λK hK=>?_);obtain⟨bP,bQ⟩:=S5.out.b.t.c2;obtain⟨iX,iY⟩:=S5.out.b.t.f2;go_simp;clear bP bQ iX iY;have S6:Hid (Sx w _ [⟨(w3.heap.size),[.bool false,a0b none 0 0]⟩,⟨(w2.heap.size),[.bool m,a0b ao n cap]⟩,⟨(w.heap.size+1),[.bool false,a0b none 0 0,.bool false,a0b none 0 0]⟩,⟨(w.heap.size),[.bool m,a0b ao n cap,.bool false,a0b bo l cb]⟩] _):=hid (Sx.set [⟨(w3.heap.size),[.bool false,a0b none 0 0]⟩] [⟨(w.heap.size+1),[.bool false,a0b none 0 0,.bool false,a0b none 0 0]⟩,⟨(w.heap.size),[.bool m,a0b ao n cap,.bool false,a0b bo l cb]⟩] (Sx.set [⟨(w3.heap.size),[.bool false,a0b none 0 0]⟩] [⟨(w.heap.size+1),[.bool false,a0b none 0 0,.bool false,a0b none 0 0]⟩,⟨(w.heap.size),[.bool m,a0b ao n cap,.bool false,a0b bo l cb]⟩] S5.out 0 (.bool m)) 1 (a0b ao n cap));clear S5;refine hK.out _ _ (S6.out.b.t.t.t.c4) (λh2=>?_);clear hK K hH;have hH:=h2;clear h2
   try simp only[ax]
   refine ai (λw5 hW=>?_);rw[<-hW]at S6 hH;clear hW;refine ah 7 rfl (by kernel_rfl) (λK hK=>?_);obtain⟨bM,bN⟩:=S6.out.b.c2;obtain⟨eP,eT⟩:=S6.out.b.f2;go_simp;clear bM bN eP eT;have S7:Hid (Sx w _ [⟨(w3.heap.size),[.bool false,a0b bo l cb]⟩,⟨(w2.heap.size),[.bool m,a0b ao n cap]⟩,⟨(w.heap.size+1),[.bool false,a0b none 0 0,.bool false,a0b none 0 0]⟩,⟨(w.heap.size),[.bool m,a0b ao n cap,.bool false,a0b bo l cb]⟩] _):=hid (Sx.set [] [⟨(w2.heap.size),[.bool m,a0b ao n cap]⟩,⟨(w.heap.size+1),[.bool false,a0b none 0 0,.bool false,a0b none 0 0]⟩,⟨(w.heap.size),[.bool m,a0b ao n cap,.bool false,a0b bo l cb]⟩] (Sx.set [] [⟨(w2.heap.size),[.bool m,a0b ao n cap]⟩,⟨(w.heap.size+1),[.bool false,a0b none 0 0,.bool false,a0b none 0 0]⟩,⟨(w.heap.size),[.bool m,a0b ao n cap,.bool false,a0b bo l cb]⟩] S6.out 0 (.bool false)) 1 (a0b bo l cb));clear S6;refine hK.out _ _ (S7.out.b.t.t.t.c4) (λh2=>?_);clear hK K hH;have hH:=h2;clear h2
   try simp only[ax]
   refine ai (λw6 hW=>?_);rw[<-hW]at S7 hH;clear hW;refine wpAnyH_done (by kernel_rfl) ?_ _
   clear hH;go_wp2_with fail;go_meet
   case rel=>exact⟨_,_,rfl,rfl,S7.out⟩
  ·go_simp;have S4:=hid (S3.out.var (w2.heap.size) [.bool false,a0b none 0 0] 45 (by simp));clear S3;refine hK.out _ _ (S4.out.b.t.t.c4) (λh2=>?_);clear hK K hH;have hH:=h2;clear h2
   try simp only[ax]
   refine ai (λw3 hW=>?_);rw[<-hW]at S4 hH;clear hW;refine ah 4 rfl (by kernel_rfl) (λK hK=>?_);go_simp;have S5:=hid (S4.out.var (w3.heap.size) [.bool false,a0b none 0 0] 45 (by simp));clear S4;refine hK.out _ _ (S5.out.b.t.t.t.c4) (λh2=>?_);clear hK K hH;have hH:=h2;clear h2
   try simp only[ax]
   refine ai (λw4 hW=>?_);rw[<-hW]at S5 hH;clear hW;refine ah 6 rfl (by kernel_rfl) (λK hK=>?_);obtain⟨bP,bQ⟩:=S5.out.b.c2;obtain⟨iX,iY⟩:=S5.out.b.f2;go_simp;clear bP bQ iX iY;have S6:Hid (Sx w _ [⟨(w3.heap.size),[.bool m,a0b ao n cap]⟩,⟨(w2.heap.size),[.bool false,a0b none 0 0]⟩,⟨(w.heap.size+1),[.bool false,a0b none 0 0,.bool false,a0b none 0 0]⟩,⟨(w.heap.size),[.bool m,a0b ao n cap,.bool false,a0b bo l cb]⟩] _):=hid (Sx.set [] [⟨(w2.heap.size),[.bool false,a0b none 0 0]⟩,⟨(w.heap.size+1),[.bool false,a0b none 0 0,.bool false,a0b none 0 0]⟩,⟨(w.heap.size),[.bool m,a0b ao n cap,.bool false,a0b bo l cb]⟩] (Sx.set [] [⟨(w2.heap.size),[.bool false,a0b none 0 0]⟩,⟨(w.heap.size+1),[.bool false,a0b none 0 0,.bool false,a0b none 0 0]⟩,⟨(w.heap.size),[.bool m,a0b ao n cap,.bool false,a0b bo l cb]⟩] S5.out 0 (.bool m)) 1 (a0b ao n cap));clear S5;refine hK.out _ _ (S6.out.b.t.t.t.c4) (λh2=>?_);clear hK K hH;have hH:=h2;clear h2
   try simp only[ax]
   refine ai (λw5 hW=>?_);rw[<-hW]at S6 hH;clear hW;refine ah 7 rfl (by kernel_rfl) (λK hK=>?_);obtain⟨bM,bN⟩:=S6.out.b.t.c2;obtain⟨eP,eT⟩:=S6.out.b.t.f2;go_simp;clear bM bN eP eT;have S7:Hid (Sx w _ [⟨(w3.heap.size),[.bool m,a0b ao n cap]⟩,⟨(w2.heap.size),[.bool false,a0b bo l cb]⟩,⟨(w.heap.size+1),[.bool false,a0b none 0 0,.bool false,a0b none 0 0]⟩,⟨(w.heap.size),[.bool m,a0b ao n cap,.bool false,a0b bo l cb]⟩] _):=hid (Sx.set [⟨(w3.heap.size),[.bool m,a0b ao n cap]⟩] [⟨(w.heap.size+1),[.bool false,a0b none 0 0,.bool false,a0b none 0 0]⟩,⟨(w.heap.size),[.bool m,a0b ao n cap,.bool false,a0b bo l cb]⟩] (Sx.set [⟨(w3.heap.size),[.bool m,a0b ao n cap]⟩] [⟨(w.heap.size+1),[.bool false,a0b none 0 0,.bool false,a0b none 0 0]⟩,⟨(w.heap.size),[.bool m,a0b ao n cap,.bool false,a0b bo l cb]⟩] S6.out 0 (.bool false)) 1 (a0b bo l cb));clear S6;refine hK.out _ _ (S7.out.b.t.t.t.c4) (λh2=>?_);clear hK K hH;have hH:=h2;clear h2
   try simp only[ax]
   refine ai (λw6 hW=>?_);rw[<-hW]at S7 hH;clear hW;refine wpAnyH_done (by kernel_rfl) ?_ _
   clear hH;go_wp2_with fail;go_meet
   case rel=>exact⟨_,_,rfl,rfl,S7.out.swap⟩
 case rest=>
 clear S2;obtain⟨oQ,oU,rfl,rfl,S3⟩:=hcut;obtain⟨w7,hW⟩:∃w7,w7=wc:=⟨_,rfl⟩;rw[<-hW]at S3 ⊢;clear hW;obtain⟨bM,bN⟩:=S3.out.b.c2;obtain⟨bP,bQ⟩:=S3.out.b.t.c2;go_wp2_with fail;clear bM bN bP bQ;refine(GI S3.out.n.qx.num S3.out.n.qx.den).mono ?_;rintro e w8 ⟨aS,aT,aU,aV,rfl,hX,hB⟩;have S4:=hid (((S3.out.step hB).zb (hX.zb (Ap S3.out.n.qx.bd (HN.out)) (by omega)) rfl));clear S3 hX hB;go_upto_region 5 with(fail)
 have S5:=hid (S4.out.var (w8.heap.size) [.bool aS,a0b aT aU aV] 45 (by simp));clear S4;refine aj (λw9 hW=>?_);rw[<-hW]at S5;clear hW;obtain⟨bP,bQ⟩:=S5.out.b.t.t.c2;obtain⟨dF,dG⟩:=S5.out.b.c2;go_wp2_with fail;clear bP bQ dF dG;refine(ol S5.out.n.t.qx.num S5.out.n.zb.zx (Ub.out)).mono ?_;rintro e XM ⟨bH,bI,bJ,bK,GJ,GK,GL,GN,rfl,hX,_,hB⟩;rw[Dl.out]at hX;have S6:=hid (((S5.out.step hB).zb (hX.zb (UI.out) (by omega)) rfl));clear S5 hX hB;obtain⟨bP,bQ⟩:=S6.out.b.t.t.c2;obtain⟨iX,iY⟩:=S6.out.b.t.t.f2;go_upto_region 6 with(fail)
 clear bP bQ iX iY;have S7:Hid (Sx w _ [⟨(w8.heap.size),[.bool aS,a0b aT aU aV]⟩,⟨oU,[.bool false,a0b bo l cb]⟩,⟨oQ,[.bool bH,a0b bI bJ bK]⟩,⟨(w.heap.size+1),[.bool false,a0b none 0 0,.bool false,a0b none 0 0]⟩,⟨(w.heap.size),[.bool m,a0b ao n cap,.bool false,a0b bo l cb]⟩] _):=hid (Sx.set [⟨(w8.heap.size),[.bool aS,a0b aT aU aV]⟩,⟨oU,[.bool false,a0b bo l cb]⟩] [⟨(w.heap.size+1),[.bool false,a0b none 0 0,.bool false,a0b none 0 0]⟩,⟨(w.heap.size),[.bool m,a0b ao n cap,.bool false,a0b bo l cb]⟩] (Sx.set [⟨(w8.heap.size),[.bool aS,a0b aT aU aV]⟩,⟨oU,[.bool false,a0b bo l cb]⟩] [⟨(w.heap.size+1),[.bool false,a0b none 0 0,.bool false,a0b none 0 0]⟩,⟨(w.heap.size),[.bool m,a0b ao n cap,.bool false,a0b bo l cb]⟩] S6.out 0 (.bool bH)) 1 (a0b bI bJ bK));clear S6;refine aj (λZI hW=>?_);rw[<-hW]at S7;clear hW;obtain⟨bM,bN⟩:=S7.out.b.t.c2;obtain⟨dF,dG⟩:=S7.out.b.c2;go_wp2_with fail;clear bM bN dF dG;refine(ol S7.out.n.t.t.qx.den S7.out.n.t.zb.zx (Ub.out)).mono ?_;rintro e ZJ ⟨dL,dM,dN,dO,UJ,UK,UL,UM,rfl,hX,_,hB⟩;rw[HE2.out]at hX;have S8:=hid (((S7.out.step hB).zb (hX.zb (BZ.out) (by omega)) rfl));clear S7 hX hB;obtain⟨bM,bN⟩:=S8.out.b.t.c2;obtain⟨eP,eT⟩:=S8.out.b.t.f2;go_upto_region 7 with(fail)
 clear bM bN eP eT;have S9:Hid (Sx w _ [⟨(w8.heap.size),[.bool aS,a0b aT aU aV]⟩,⟨oU,[.bool dL,a0b dM dN dO]⟩,⟨oQ,[.bool bH,a0b bI bJ bK]⟩,⟨(w.heap.size+1),[.bool false,a0b none 0 0,.bool false,a0b none 0 0]⟩,⟨(w.heap.size),[.bool m,a0b ao n cap,.bool false,a0b bo l cb]⟩] _):=hid (Sx.set [⟨(w8.heap.size),[.bool aS,a0b aT aU aV]⟩] [⟨oQ,[.bool bH,a0b bI bJ bK]⟩,⟨(w.heap.size+1),[.bool false,a0b none 0 0,.bool false,a0b none 0 0]⟩,⟨(w.heap.size),[.bool m,a0b ao n cap,.bool false,a0b bo l cb]⟩] (Sx.set [⟨(w8.heap.size),[.bool aS,a0b aT aU aV]⟩] [⟨oQ,[.bool bH,a0b bI bJ bK]⟩,⟨(w.heap.size+1),[.bool false,a0b none 0 0,.bool false,a0b none 0 0]⟩,⟨(w.heap.size),[.bool m,a0b ao n cap,.bool false,a0b bo l cb]⟩] S8.out 0 (.bool dL)) 1 (a0b dM dN dO));clear S8;refine aj (λw13 hW=>?_);rw[<-hW]at S9;clear hW;have kV:=hid (S9.out.drew);clear S9;refine wp_region_held_drew (S:=λw'=>(w'.cell? ⟨oQ,0,none⟩=some (.bool bH)/\ w'.cell? ⟨oQ,1,none⟩=some (a0b bI bJ bK))/\ (w'.cell? ⟨oU,0,none⟩=some (.bool dL)/\ w'.cell? ⟨oU,1,none⟩=some (a0b dM dN dO))) (by kernel_rfl) (⟨kV.out.b.t.t.c2,kV.out.b.t.c2⟩) (λhH=>?_);refine ai (λLj hW=>?_);rw[<-hW]at kV hH;clear hW;refine aQ 0 hH ?_;try simp only[ax]
 refine aQ 2 hH ?_;try simp only[ax]
 refine ah 1 rfl (by kernel_rfl) (λK hK=>?_);go_simp;refine(mX kV.out.n.t.zb.zx).mono ?_;rintro e w15 ⟨fF,fG,fH,fI,rfl,hX,hB⟩;have qa:=hid (((kV.out.step hB).cb (hX.cb (kV.out.n.t.zb.bd) (by omega)) rfl));clear kV hX hB;go_wp2_with fail;refine hK.out _ _ ⟨qa.out.b.t.t.c2,qa.out.b.t.c2⟩ (λh2=>?_);clear hK K hH;have hH:=h2;clear h2
 try simp only[ax]
 refine ah 3 rfl (by kernel_rfl) (λK hK=>?_);go_simp;refine(mX qa.out.n.t.zb.zx).mono ?_;rintro e w16 ⟨kN,kP,kQ,kR,rfl,hX,hB⟩;have rF:=hid (((qa.out.step hB).cb (hX.cb (qa.out.n.t.zb.bd) (by omega)) rfl));clear qa hX hB;go_wp2_with fail;refine hK.out _ _ ⟨rF.out.b.t.t.c2,rF.out.b.t.c2⟩ (λh2=>?_);clear hK K hH;have hH:=h2;clear h2
 try simp only[ax]
 refine aQ 4 hH ?_;try simp only[ax]
 refine ah 5 rfl (by kernel_rfl) (λK hK=>?_);obtain⟨bW,bX,dB,dD⟩:=rF.out.b.t.t.t.c4;obtain⟨jg,jh,jK,jL⟩:=rF.out.b.t.t.t.f4;go_simp;clear bW bX dB dD jg jh jK jL;have rG:Hid (Sx w _ [⟨(w8.heap.size),[.bool aS,a0b aT aU aV]⟩,⟨oU,[.bool dL,a0b dM dN dO]⟩,⟨oQ,[.bool bH,a0b bI bJ bK]⟩,⟨(w.heap.size+1),[.bool fF,a0b fG fH fI,.bool kN,a0b kP kQ kR]⟩,⟨(w.heap.size),[.bool m,a0b ao n cap,.bool false,a0b bo l cb]⟩] _):=hid (Sx.set [⟨(w8.heap.size),[.bool aS,a0b aT aU aV]⟩,⟨oU,[.bool dL,a0b dM dN dO]⟩,⟨oQ,[.bool bH,a0b bI bJ bK]⟩] [⟨(w.heap.size),[.bool m,a0b ao n cap,.bool false,a0b bo l cb]⟩] (Sx.set [⟨(w8.heap.size),[.bool aS,a0b aT aU aV]⟩,⟨oU,[.bool dL,a0b dM dN dO]⟩,⟨oQ,[.bool bH,a0b bI bJ bK]⟩] [⟨(w.heap.size),[.bool m,a0b ao n cap,.bool false,a0b bo l cb]⟩] (Sx.set [⟨(w8.heap.size),[.bool aS,a0b aT aU aV]⟩,⟨oU,[.bool dL,a0b dM dN dO]⟩,⟨oQ,[.bool bH,a0b bI bJ bK]⟩] [⟨(w.heap.size),[.bool m,a0b ao n cap,.bool false,a0b bo l cb]⟩] (Sx.set [⟨(w8.heap.size),[.bool aS,a0b aT aU aV]⟩,⟨oU,[.bool dL,a0b dM dN dO]⟩,⟨oQ,[.bool bH,a0b bI bJ bK]⟩] [⟨(w.heap.size),[.bool m,a0b ao n cap,.bool false,a0b bo l cb]⟩] rF.out 0 (.bool fF)) 1 (a0b fG fH fI)) 2 (.bool kN)) 3 (a0b kP kQ kR));clear rF;refine hK.out _ _ ⟨rG.out.b.t.t.c2,rG.out.b.t.c2⟩ (λh2=>?_);clear hK K hH;have hH:=h2;clear h2
 try simp only[ax]
 refine ai (λw17 hW=>?_);rw[<-hW]at rG hH;clear hW;refine wpAnyH_done (by kernel_rfl) ?_ _
 clear hH;obtain⟨bW,bX,dB,dD⟩:=rG.out.b.t.t.t.c4;obtain⟨jg,jh,jK,jL⟩:=rG.out.b.t.t.t.f4;go_wp2_with fail;refine bodyPost_ret (v:= .agg #[.bool fF,a0b fG fH fI,.bool kN,a0b kP kQ kR]) (by simp[results,Tryz.results17,go_sem,bW,bX,dB,dD]) rfl ?_;exact⟨_,_,_,_,_,_,_,_,rfl,⟨rG.out.n.t.cb.cx,rG.out.n.cb.cx,rG.out.n.t.cb.bd,rG.out.n.cb.bd⟩,rG.out.h⟩
theorem Ng [Ol] {m:Bool} {ao:Option Addr} {n cap:Nat} {bo:Option Addr} {l cb:Nat} {x d:Int} {q:Rat} {j:Nat} {w:World} (hx:Qx w m ao n cap true bo l cb x d q j) (h1:1<=j) (h2:j<=50000):
  Calls Tryz.prog 17 #[.agg #[.bool m,a0b ao n cap,.bool true,a0b bo l cb]] w (EC w q j):=by
 have hd0:0<(-d):=by
  have h3:=hx.den.zd.neg;have h4:=hx.nz;simp at h3;omega
 have hv:=hx.val;have hbn:Bd q.num j:=by rw[<-hv];exact xI hx.bn hx.nz
 have hbd:Bd (q.den:Int) j:=by rw[<-hv];exact xJ hx.bd hx.nz
 have hg0:((a0c (-x) (-d):Nat):Int)≠0:=by have:=a0d (-x) (show(-d)≠0 by omega);omega
 have Dl:Hid ((-x).tdiv ((a0c (-x) (-d):Nat):Int)=q.num):=by rw[Hid,<-hv,Dm (by omega)]
 have HE2:Hid ((-d).tdiv ((a0c (-x) (-d):Nat):Int)=(q.den:Int)):=by rw[Hid,<-hv,Dn (by omega)]
 have HN:Hid ((-d)≠0):=by show(-d)≠0;omega
 have Ub:=hid hg0;have UI:=hid hbn;have BZ:=hid hbd;clear hd0 hv hbn hbd hg0;go_enter Tryz.func17,Tryz.ntmps17;have S0:=hid (Sx.start (w:=w) (N:=[.qx m ao n cap true bo l cb x d q j]) ⟨hx,trivial⟩);clear hx;have S1:=hid (S0.out.var (w.heap.size) [.bool m,a0b ao n cap,.bool true,a0b bo l cb] 47 (by simp));clear S0;have S2:=hid (S1.out.var (w.heap.size+1) [.bool false,a0b none 0 0,.bool false,a0b none 0 0] 31 (by simp));clear S1;go_upto_region 1 with(fail)
 refine aj (λw1 hW=>?_);rw[<-hW]at S2;clear hW;go_cut [3,4]from 6 to 10 (λsl0 sl1 w9=>∃(oQ:Nat) (oU:Nat),sl0= .pointer (some ⟨oQ,0,none⟩)/\ sl1= .pointer (some ⟨oU,0,none⟩)/\ Hid (Sx w w9 [⟨oU,[.bool true,a0b bo l cb]⟩,⟨oQ,[.bool m,a0b ao n cap]⟩,⟨(w.heap.size+1),[.bool false,a0b none 0 0,.bool false,a0b none 0 0]⟩,⟨(w.heap.size),[.bool m,a0b ao n cap,.bool true,a0b bo l cb]⟩] [.qx m ao n cap true bo l cb x d q j]))
 case first=>
  have S3:=hid (S2.out.drew);clear S2;refine wp_region_held_drew (S:=λw'=>(w'.cell? ⟨(w.heap.size),0,none⟩=some (.bool m)/\ w'.cell? ⟨(w.heap.size),1,none⟩=some (a0b ao n cap)/\ w'.cell? ⟨(w.heap.size),2,none⟩=some (.bool true)/\ w'.cell? ⟨(w.heap.size),3,none⟩=some (a0b bo l cb))) (by kernel_rfl) ((S3.out.b.t.c4)) (λhH=>?_);refine ai (λw2 hW=>?_);rw[<-hW]at S3 hH;clear hW;refine aQ 0 hH ?_;try simp only[ax]
  refine aQ 1 hH ?_;try simp only[ax]
  refine aQ 2 hH ?_;try simp only[ax]
  refine aQ 3 hH ?_;try simp only[ax]
  refine wpAnyH_ready (rs:=[4,5]) (by kernel_rfl) (by simp) (aO rfl (λK hK=>?_) (aO rfl (λK hK=>?_) (a0a)))
  ·go_simp;have S4:=hid (S3.out.var (w2.heap.size) [.bool false,a0b none 0 0] 45 (by simp));clear S3;refine hK.out _ _ (S4.out.b.t.t.c4) (λh2=>?_);clear hK K hH;have hH:=h2;clear h2
   try simp only[ax]
   refine ai (λw3 hW=>?_);rw[<-hW]at S4 hH;clear hW;refine ah 5 rfl (by kernel_rfl) (λK hK=>?_);go_simp;have S5:=hid (S4.out.var (w3.heap.size) [.bool false,a0b none 0 0] 45 (by simp));clear S4;refine hK.out _ _ (S5.out.b.t.t.t.c4) (λh2=>?_);clear hK K hH;have hH:=h2;clear h2
   try simp only[ax]
   refine ai (λw4 hW=>?_);rw[<-hW]at S5 hH;clear hW;refine ah 6 rfl (by kernel_rfl) (λK hK=>?_);obtain⟨bP,bQ⟩:=S5.out.b.t.c2;obtain⟨iX,iY⟩:=S5.out.b.t.f2;go_simp;clear bP bQ iX iY;have S6:Hid (Sx w _ [⟨(w3.heap.size),[.bool false,a0b none 0 0]⟩,⟨(w2.heap.size),[.bool m,a0b ao n cap]⟩,⟨(w.heap.size+1),[.bool false,a0b none 0 0,.bool false,a0b none 0 0]⟩,⟨(w.heap.size),[.bool m,a0b ao n cap,.bool true,a0b bo l cb]⟩] _):=hid (Sx.set [⟨(w3.heap.size),[.bool false,a0b none 0 0]⟩] [⟨(w.heap.size+1),[.bool false,a0b none 0 0,.bool false,a0b none 0 0]⟩,⟨(w.heap.size),[.bool m,a0b ao n cap,.bool true,a0b bo l cb]⟩] (Sx.set [⟨(w3.heap.size),[.bool false,a0b none 0 0]⟩] [⟨(w.heap.size+1),[.bool false,a0b none 0 0,.bool false,a0b none 0 0]⟩,⟨(w.heap.size),[.bool m,a0b ao n cap,.bool true,a0b bo l cb]⟩] S5.out 0 (.bool m)) 1 (a0b ao n cap));clear S5;refine hK.out _ _ (S6.out.b.t.t.t.c4) (λh2=>?_);clear hK K hH;have hH:=h2;clear h2
   try simp only[ax]
   refine ai (λw5 hW=>?_);rw[<-hW]at S6 hH;clear hW;refine ah 7 rfl (by kernel_rfl) (λK hK=>?_);obtain⟨bM,bN⟩:=S6.out.b.c2;obtain⟨eP,eT⟩:=S6.out.b.f2;go_simp;clear bM bN eP eT;have S7:Hid (Sx w _ [⟨(w3.heap.size),[.bool true,a0b bo l cb]⟩,⟨(w2.heap.size),[.bool m,a0b ao n cap]⟩,⟨(w.heap.size+1),[.bool false,a0b none 0 0,.bool false,a0b none 0 0]⟩,⟨(w.heap.size),[.bool m,a0b ao n cap,.bool true,a0b bo l cb]⟩] _):=hid (Sx.set [] [⟨(w2.heap.size),[.bool m,a0b ao n cap]⟩,⟨(w.heap.size+1),[.bool false,a0b none 0 0,.bool false,a0b none 0 0]⟩,⟨(w.heap.size),[.bool m,a0b ao n cap,.bool true,a0b bo l cb]⟩] (Sx.set [] [⟨(w2.heap.size),[.bool m,a0b ao n cap]⟩,⟨(w.heap.size+1),[.bool false,a0b none 0 0,.bool false,a0b none 0 0]⟩,⟨(w.heap.size),[.bool m,a0b ao n cap,.bool true,a0b bo l cb]⟩] S6.out 0 (.bool true)) 1 (a0b bo l cb));clear S6;refine hK.out _ _ (S7.out.b.t.t.t.c4) (λh2=>?_);clear hK K hH;have hH:=h2;clear h2
   try simp only[ax]
   refine ai (λw6 hW=>?_);rw[<-hW]at S7 hH;clear hW;refine wpAnyH_done (by kernel_rfl) ?_ _
   clear hH;go_wp2_with fail;go_meet
   case rel=>exact⟨_,_,rfl,rfl,S7.out⟩
  ·go_simp;have S4:=hid (S3.out.var (w2.heap.size) [.bool false,a0b none 0 0] 45 (by simp));clear S3;refine hK.out _ _ (S4.out.b.t.t.c4) (λh2=>?_);clear hK K hH;have hH:=h2;clear h2
   try simp only[ax]
   refine ai (λw3 hW=>?_);rw[<-hW]at S4 hH;clear hW;refine ah 4 rfl (by kernel_rfl) (λK hK=>?_);go_simp;have S5:=hid (S4.out.var (w3.heap.size) [.bool false,a0b none 0 0] 45 (by simp));clear S4;refine hK.out _ _ (S5.out.b.t.t.t.c4) (λh2=>?_);clear hK K hH;have hH:=h2;clear h2
   try simp only[ax]
   refine ai (λw4 hW=>?_);rw[<-hW]at S5 hH;clear hW;refine ah 6 rfl (by kernel_rfl) (λK hK=>?_);obtain⟨bP,bQ⟩:=S5.out.b.c2;obtain⟨iX,iY⟩:=S5.out.b.f2;go_simp;clear bP bQ iX iY;have S6:Hid (Sx w _ [⟨(w3.heap.size),[.bool m,a0b ao n cap]⟩,⟨(w2.heap.size),[.bool false,a0b none 0 0]⟩,⟨(w.heap.size+1),[.bool false,a0b none 0 0,.bool false,a0b none 0 0]⟩,⟨(w.heap.size),[.bool m,a0b ao n cap,.bool true,a0b bo l cb]⟩] _):=hid (Sx.set [] [⟨(w2.heap.size),[.bool false,a0b none 0 0]⟩,⟨(w.heap.size+1),[.bool false,a0b none 0 0,.bool false,a0b none 0 0]⟩,⟨(w.heap.size),[.bool m,a0b ao n cap,.bool true,a0b bo l cb]⟩] (Sx.set [] [⟨(w2.heap.size),[.bool false,a0b none 0 0]⟩,⟨(w.heap.size+1),[.bool false,a0b none 0 0,.bool false,a0b none 0 0]⟩,⟨(w.heap.size),[.bool m,a0b ao n cap,.bool true,a0b bo l cb]⟩] S5.out 0 (.bool m)) 1 (a0b ao n cap));clear S5;refine hK.out _ _ (S6.out.b.t.t.t.c4) (λh2=>?_);clear hK K hH;have hH:=h2;clear h2
   try simp only[ax]
   refine ai (λw5 hW=>?_);rw[<-hW]at S6 hH;clear hW;refine ah 7 rfl (by kernel_rfl) (λK hK=>?_);obtain⟨bM,bN⟩:=S6.out.b.t.c2;obtain⟨eP,eT⟩:=S6.out.b.t.f2;go_simp;clear bM bN eP eT;have S7:Hid (Sx w _ [⟨(w3.heap.size),[.bool m,a0b ao n cap]⟩,⟨(w2.heap.size),[.bool true,a0b bo l cb]⟩,⟨(w.heap.size+1),[.bool false,a0b none 0 0,.bool false,a0b none 0 0]⟩,⟨(w.heap.size),[.bool m,a0b ao n cap,.bool true,a0b bo l cb]⟩] _):=hid (Sx.set [⟨(w3.heap.size),[.bool m,a0b ao n cap]⟩] [⟨(w.heap.size+1),[.bool false,a0b none 0 0,.bool false,a0b none 0 0]⟩,⟨(w.heap.size),[.bool m,a0b ao n cap,.bool true,a0b bo l cb]⟩] (Sx.set [⟨(w3.heap.size),[.bool m,a0b ao n cap]⟩] [⟨(w.heap.size+1),[.bool false,a0b none 0 0,.bool false,a0b none 0 0]⟩,⟨(w.heap.size),[.bool m,a0b ao n cap,.bool true,a0b bo l cb]⟩] S6.out 0 (.bool true)) 1 (a0b bo l cb));clear S6;refine hK.out _ _ (S7.out.b.t.t.t.c4) (λh2=>?_);clear hK K hH;have hH:=h2;clear h2
   try simp only[ax]
   refine ai (λw6 hW=>?_);rw[<-hW]at S7 hH;clear hW;refine wpAnyH_done (by kernel_rfl) ?_ _
   clear hH;go_wp2_with fail;go_meet
   case rel=>exact⟨_,_,rfl,rfl,S7.out.swap⟩
 case rest=>
 clear S2;obtain⟨oQ,oU,rfl,rfl,S3⟩:=hcut;obtain⟨w7,hW⟩:∃w7,w7=wc:=⟨_,rfl⟩;rw[<-hW]at S3 ⊢;clear hW;obtain⟨bM,bN⟩:=S3.out.b.c2;go_wp2_with fail;clear bM bN;go_cut []from 12 to 16 (λ  w9=>∃(bH:Bool) (bI:Option Addr) (bJ:Nat) (bK:Nat) (aS:Bool) (aT:Option Addr) (aU:Nat) (aV:Nat),Hid (Sx w w9 [⟨oU,[.bool bH,a0b bI bJ bK]⟩,⟨oQ,[.bool aS,a0b aT aU aV]⟩,⟨(w.heap.size+1),[.bool false,a0b none 0 0,.bool false,a0b none 0 0]⟩,⟨(w.heap.size),[.bool m,a0b ao n cap,.bool true,a0b bo l cb]⟩] [.zb bH bI bJ bK (-d) j,.zb aS aT aU aV (-x) j,.qx m ao n cap true bo l cb x d q j]))
 case first=>
  have S4:=hid (S3.out.drew);clear S3;refine wp_region_held_drew (S:=λw'=>True) (by kernel_rfl) (trivial) (λhH=>?_);refine ai (λw8 hW=>?_);rw[<-hW]at S4;clear hW;refine wpAnyH_ready (rs:=[0,2]) (by kernel_rfl) (by simp) (aO rfl (λK hK=>?_) (aO rfl (λK hK=>?_) (a0a)))
  ·obtain⟨bP,bQ⟩:=S4.out.b.t.c2;go_simp;clear bP bQ;refine hK.out _ _ trivial (λh2=>?_);clear hK K hH;have hH:=h2;clear h2
   try simp only[ax]
   refine wpAnyH_ready (rs:=[1,2]) (by kernel_rfl) (by simp) (aO rfl (λK hK=>?_) (aO rfl (λK hK=>?_) (a0a)))
   ·go_simp;refine(mW S4.out.n.qx.num).mono ?_;rintro e w9 ⟨aS,aT,aU,aV,rfl,hX,hB⟩;have S5:=hid (((S4.out.step hB).zb (hX.zb (S4.out.n.qx.bn.neg) (by omega)) rfl));clear S4 hX hB;go_wp2_with fail;refine hK.out _ _ trivial (λh2=>?_);clear hK K hH;have hH:=h2;clear h2
    try simp only[ax]
    refine ah 2 rfl (by kernel_rfl) (λK hK=>?_);obtain⟨bM,bN⟩:=S5.out.b.c2;go_simp;clear bM bN;refine hK.out _ _ trivial (λh2=>?_);clear hK K hH;have hH:=h2;clear h2
    try simp only[ax]
    refine ah 3 rfl (by kernel_rfl) (λK hK=>?_);go_simp;refine(mW S5.out.n.t.qx.den).mono ?_;rintro e XM ⟨bH,bI,bJ,bK,rfl,hX,hB⟩;have S6:=hid (((S5.out.step hB).zb (hX.zb (S5.out.n.t.qx.bd.neg) (by omega)) rfl));clear S5 hX hB;go_wp2_with fail;refine hK.out _ _ trivial (λh2=>?_);clear hK K hH;have hH:=h2;clear h2
    try simp only[ax]
    refine ah 4 rfl (by kernel_rfl) (λK hK=>?_);obtain⟨bP,bQ⟩:=S6.out.b.t.c2;obtain⟨iX,iY⟩:=S6.out.b.t.f2;go_simp;clear bP bQ iX iY;have S7:Hid (Sx w _ [⟨oU,[.bool true,a0b bo l cb]⟩,⟨oQ,[.bool aS,a0b aT aU aV]⟩,⟨(w.heap.size+1),[.bool false,a0b none 0 0,.bool false,a0b none 0 0]⟩,⟨(w.heap.size),[.bool m,a0b ao n cap,.bool true,a0b bo l cb]⟩] _):=hid (Sx.set [⟨oU,[.bool true,a0b bo l cb]⟩] [⟨(w.heap.size+1),[.bool false,a0b none 0 0,.bool false,a0b none 0 0]⟩,⟨(w.heap.size),[.bool m,a0b ao n cap,.bool true,a0b bo l cb]⟩] (Sx.set [⟨oU,[.bool true,a0b bo l cb]⟩] [⟨(w.heap.size+1),[.bool false,a0b none 0 0,.bool false,a0b none 0 0]⟩,⟨(w.heap.size),[.bool m,a0b ao n cap,.bool true,a0b bo l cb]⟩] S6.out 0 (.bool aS)) 1 (a0b aT aU aV));clear S6;refine hK.out _ _ trivial (λh2=>?_);clear hK K hH;have hH:=h2;clear h2
    try simp only[ax]
    refine ai (λZI hW=>?_);rw[<-hW]at S7;clear hW;refine ah 5 rfl (by kernel_rfl) (λK hK=>?_);obtain⟨bM,bN⟩:=S7.out.b.c2;obtain⟨eP,eT⟩:=S7.out.b.f2;go_simp;clear bM bN eP eT;have S8:Hid (Sx w _ [⟨oU,[.bool bH,a0b bI bJ bK]⟩,⟨oQ,[.bool aS,a0b aT aU aV]⟩,⟨(w.heap.size+1),[.bool false,a0b none 0 0,.bool false,a0b none 0 0]⟩,⟨(w.heap.size),[.bool m,a0b ao n cap,.bool true,a0b bo l cb]⟩] _):=hid (Sx.set [] [⟨oQ,[.bool aS,a0b aT aU aV]⟩,⟨(w.heap.size+1),[.bool false,a0b none 0 0,.bool false,a0b none 0 0]⟩,⟨(w.heap.size),[.bool m,a0b ao n cap,.bool true,a0b bo l cb]⟩] (Sx.set [] [⟨oQ,[.bool aS,a0b aT aU aV]⟩,⟨(w.heap.size+1),[.bool false,a0b none 0 0,.bool false,a0b none 0 0]⟩,⟨(w.heap.size),[.bool m,a0b ao n cap,.bool true,a0b bo l cb]⟩] S7.out 0 (.bool bH)) 1 (a0b bI bJ bK));clear S7;refine hK.out _ _ trivial (λh2=>?_);clear hK K hH;have hH:=h2;clear h2
    try simp only[ax]
    refine ai (λZJ hW=>?_);rw[<-hW]at S8;clear hW;refine wpAnyH_done (by kernel_rfl) ?_ _
    clear hH;go_wp2_with fail;go_meet
    case rel=>exact⟨_,_,_,_,_,_,_,_,S8.out⟩
   ·obtain⟨bM,bN⟩:=S4.out.b.c2;go_simp;clear bM bN;refine hK.out _ _ trivial (λh2=>?_);clear hK K hH;have hH:=h2;clear h2
    try simp only[ax]
    refine ah 1 rfl (by kernel_rfl) (λK hK=>?_);go_simp;refine(mW S4.out.n.qx.num).mono ?_;rintro e w9 ⟨aS,aT,aU,aV,rfl,hX,hB⟩;have S5:=hid (((S4.out.step hB).zb (hX.zb (S4.out.n.qx.bn.neg) (by omega)) rfl));clear S4 hX hB;go_wp2_with fail;refine hK.out _ _ trivial (λh2=>?_);clear hK K hH;have hH:=h2;clear h2
    try simp only[ax]
    refine ah 3 rfl (by kernel_rfl) (λK hK=>?_);go_simp;refine(mW S5.out.n.t.qx.den).mono ?_;rintro e XM ⟨bH,bI,bJ,bK,rfl,hX,hB⟩;have S6:=hid (((S5.out.step hB).zb (hX.zb (S5.out.n.t.qx.bd.neg) (by omega)) rfl));clear S5 hX hB;go_wp2_with fail;refine hK.out _ _ trivial (λh2=>?_);clear hK K hH;have hH:=h2;clear h2
    try simp only[ax]
    refine ah 4 rfl (by kernel_rfl) (λK hK=>?_);obtain⟨bP,bQ⟩:=S6.out.b.t.c2;obtain⟨iX,iY⟩:=S6.out.b.t.f2;go_simp;clear bP bQ iX iY;have S7:Hid (Sx w _ [⟨oU,[.bool true,a0b bo l cb]⟩,⟨oQ,[.bool aS,a0b aT aU aV]⟩,⟨(w.heap.size+1),[.bool false,a0b none 0 0,.bool false,a0b none 0 0]⟩,⟨(w.heap.size),[.bool m,a0b ao n cap,.bool true,a0b bo l cb]⟩] _):=hid (Sx.set [⟨oU,[.bool true,a0b bo l cb]⟩] [⟨(w.heap.size+1),[.bool false,a0b none 0 0,.bool false,a0b none 0 0]⟩,⟨(w.heap.size),[.bool m,a0b ao n cap,.bool true,a0b bo l cb]⟩] (Sx.set [⟨oU,[.bool true,a0b bo l cb]⟩] [⟨(w.heap.size+1),[.bool false,a0b none 0 0,.bool false,a0b none 0 0]⟩,⟨(w.heap.size),[.bool m,a0b ao n cap,.bool true,a0b bo l cb]⟩] S6.out 0 (.bool aS)) 1 (a0b aT aU aV));clear S6;refine hK.out _ _ trivial (λh2=>?_);clear hK K hH;have hH:=h2;clear h2
    try simp only[ax]
    refine ai (λZI hW=>?_);rw[<-hW]at S7;clear hW;refine ah 5 rfl (by kernel_rfl) (λK hK=>?_);obtain⟨bM,bN⟩:=S7.out.b.c2;obtain⟨eP,eT⟩:=S7.out.b.f2;go_simp;clear bM bN eP eT;have S8:Hid (Sx w _ [⟨oU,[.bool bH,a0b bI bJ bK]⟩,⟨oQ,[.bool aS,a0b aT aU aV]⟩,⟨(w.heap.size+1),[.bool false,a0b none 0 0,.bool false,a0b none 0 0]⟩,⟨(w.heap.size),[.bool m,a0b ao n cap,.bool true,a0b bo l cb]⟩] _):=hid (Sx.set [] [⟨oQ,[.bool aS,a0b aT aU aV]⟩,⟨(w.heap.size+1),[.bool false,a0b none 0 0,.bool false,a0b none 0 0]⟩,⟨(w.heap.size),[.bool m,a0b ao n cap,.bool true,a0b bo l cb]⟩] (Sx.set [] [⟨oQ,[.bool aS,a0b aT aU aV]⟩,⟨(w.heap.size+1),[.bool false,a0b none 0 0,.bool false,a0b none 0 0]⟩,⟨(w.heap.size),[.bool m,a0b ao n cap,.bool true,a0b bo l cb]⟩] S7.out 0 (.bool bH)) 1 (a0b bI bJ bK));clear S7;refine hK.out _ _ trivial (λh2=>?_);clear hK K hH;have hH:=h2;clear h2
    try simp only[ax]
    refine ai (λZJ hW=>?_);rw[<-hW]at S8;clear hW;refine wpAnyH_done (by kernel_rfl) ?_ _
    clear hH;go_wp2_with fail;go_meet
    case rel=>exact⟨_,_,_,_,_,_,_,_,S8.out⟩
  ·obtain⟨bM,bN⟩:=S4.out.b.c2;go_simp;clear bM bN;refine hK.out _ _ trivial (λh2=>?_);clear hK K hH;have hH:=h2;clear h2
   try simp only[ax]
   refine ah 0 rfl (by kernel_rfl) (λK hK=>?_);obtain⟨bP,bQ⟩:=S4.out.b.t.c2;go_simp;clear bP bQ;refine hK.out _ _ trivial (λh2=>?_);clear hK K hH;have hH:=h2;clear h2
   try simp only[ax]
   refine ah 1 rfl (by kernel_rfl) (λK hK=>?_);go_simp;refine(mW S4.out.n.qx.num).mono ?_;rintro e w9 ⟨aS,aT,aU,aV,rfl,hX,hB⟩;have S5:=hid (((S4.out.step hB).zb (hX.zb (S4.out.n.qx.bn.neg) (by omega)) rfl));clear S4 hX hB;go_wp2_with fail;refine hK.out _ _ trivial (λh2=>?_);clear hK K hH;have hH:=h2;clear h2
   try simp only[ax]
   refine ah 3 rfl (by kernel_rfl) (λK hK=>?_);go_simp;refine(mW S5.out.n.t.qx.den).mono ?_;rintro e XM ⟨bH,bI,bJ,bK,rfl,hX,hB⟩;have S6:=hid (((S5.out.step hB).zb (hX.zb (S5.out.n.t.qx.bd.neg) (by omega)) rfl));clear S5 hX hB;go_wp2_with fail;refine hK.out _ _ trivial (λh2=>?_);clear hK K hH;have hH:=h2;clear h2
   try simp only[ax]
   refine ah 4 rfl (by kernel_rfl) (λK hK=>?_);obtain⟨bP,bQ⟩:=S6.out.b.t.c2;obtain⟨iX,iY⟩:=S6.out.b.t.f2;go_simp;clear bP bQ iX iY;have S7:Hid (Sx w _ [⟨oU,[.bool true,a0b bo l cb]⟩,⟨oQ,[.bool aS,a0b aT aU aV]⟩,⟨(w.heap.size+1),[.bool false,a0b none 0 0,.bool false,a0b none 0 0]⟩,⟨(w.heap.size),[.bool m,a0b ao n cap,.bool true,a0b bo l cb]⟩] _):=hid (Sx.set [⟨oU,[.bool true,a0b bo l cb]⟩] [⟨(w.heap.size+1),[.bool false,a0b none 0 0,.bool false,a0b none 0 0]⟩,⟨(w.heap.size),[.bool m,a0b ao n cap,.bool true,a0b bo l cb]⟩] (Sx.set [⟨oU,[.bool true,a0b bo l cb]⟩] [⟨(w.heap.size+1),[.bool false,a0b none 0 0,.bool false,a0b none 0 0]⟩,⟨(w.heap.size),[.bool m,a0b ao n cap,.bool true,a0b bo l cb]⟩] S6.out 0 (.bool aS)) 1 (a0b aT aU aV));clear S6;refine hK.out _ _ trivial (λh2=>?_);clear hK K hH;have hH:=h2;clear h2
   try simp only[ax]
   refine ai (λZI hW=>?_);rw[<-hW]at S7;clear hW;refine ah 5 rfl (by kernel_rfl) (λK hK=>?_);obtain⟨bM,bN⟩:=S7.out.b.c2;obtain⟨eP,eT⟩:=S7.out.b.f2;go_simp;clear bM bN eP eT;have S8:Hid (Sx w _ [⟨oU,[.bool bH,a0b bI bJ bK]⟩,⟨oQ,[.bool aS,a0b aT aU aV]⟩,⟨(w.heap.size+1),[.bool false,a0b none 0 0,.bool false,a0b none 0 0]⟩,⟨(w.heap.size),[.bool m,a0b ao n cap,.bool true,a0b bo l cb]⟩] _):=hid (Sx.set [] [⟨oQ,[.bool aS,a0b aT aU aV]⟩,⟨(w.heap.size+1),[.bool false,a0b none 0 0,.bool false,a0b none 0 0]⟩,⟨(w.heap.size),[.bool m,a0b ao n cap,.bool true,a0b bo l cb]⟩] (Sx.set [] [⟨oQ,[.bool aS,a0b aT aU aV]⟩,⟨(w.heap.size+1),[.bool false,a0b none 0 0,.bool false,a0b none 0 0]⟩,⟨(w.heap.size),[.bool m,a0b ao n cap,.bool true,a0b bo l cb]⟩] S7.out 0 (.bool bH)) 1 (a0b bI bJ bK));clear S7;refine hK.out _ _ trivial (λh2=>?_);clear hK K hH;have hH:=h2;clear h2
   try simp only[ax]
   refine ai (λZJ hW=>?_);rw[<-hW]at S8;clear hW;refine wpAnyH_done (by kernel_rfl) ?_ _
   clear hH;go_wp2_with fail;go_meet
   case rel=>exact⟨_,_,_,_,_,_,_,_,S8.out⟩
 case rest=>
 clear S3;obtain⟨bH,bI,bJ,bK,aS,aT,aU,aV,S4⟩:=hcut;obtain⟨w13,hW⟩:∃w13,w13=wc:=⟨_,rfl⟩;rw[<-hW]at S4 ⊢;clear hW;obtain⟨bP,bQ⟩:=S4.out.b.t.c2;obtain⟨bM,bN⟩:=S4.out.b.c2;go_wp2_with fail;clear bP bQ bM bN;refine(GI S4.out.n.t.zb.zx S4.out.n.zb.zx).mono ?_;rintro e Lj ⟨dL,dM,dN,dO,rfl,hX,hB⟩;have S5:=hid (((S4.out.step hB).zb (hX.zb (Ap S4.out.n.zb.bd (HN.out)) (by omega)) rfl));clear S4 hX hB;go_upto_region 5 with(fail)
 have S6:=hid (S5.out.var (Lj.heap.size) [.bool dL,a0b dM dN dO] 45 (by simp));clear S5;refine aj (λw15 hW=>?_);rw[<-hW]at S6;clear hW;obtain⟨bP,bQ⟩:=S6.out.b.t.t.c2;obtain⟨dF,dG⟩:=S6.out.b.c2;go_wp2_with fail;clear bP bQ dF dG;refine(ol S6.out.n.t.t.zb.zx S6.out.n.zb.zx (Ub.out)).mono ?_;rintro e w16 ⟨fF,fG,fH,fI,al4,al5,al6,al7,rfl,hX,_,hB⟩;rw[Dl.out]at hX;have S7:=hid (((S6.out.step hB).zb (hX.zb (UI.out) (by omega)) rfl));clear S6 hX hB;obtain⟨bP,bQ⟩:=S7.out.b.t.t.c2;obtain⟨iX,iY⟩:=S7.out.b.t.t.f2;go_upto_region 6 with(fail)
 clear bP bQ iX iY;have S8:Hid (Sx w _ [⟨(Lj.heap.size),[.bool dL,a0b dM dN dO]⟩,⟨oU,[.bool bH,a0b bI bJ bK]⟩,⟨oQ,[.bool fF,a0b fG fH fI]⟩,⟨(w.heap.size+1),[.bool false,a0b none 0 0,.bool false,a0b none 0 0]⟩,⟨(w.heap.size),[.bool m,a0b ao n cap,.bool true,a0b bo l cb]⟩] _):=hid (Sx.set [⟨(Lj.heap.size),[.bool dL,a0b dM dN dO]⟩,⟨oU,[.bool bH,a0b bI bJ bK]⟩] [⟨(w.heap.size+1),[.bool false,a0b none 0 0,.bool false,a0b none 0 0]⟩,⟨(w.heap.size),[.bool m,a0b ao n cap,.bool true,a0b bo l cb]⟩] (Sx.set [⟨(Lj.heap.size),[.bool dL,a0b dM dN dO]⟩,⟨oU,[.bool bH,a0b bI bJ bK]⟩] [⟨(w.heap.size+1),[.bool false,a0b none 0 0,.bool false,a0b none 0 0]⟩,⟨(w.heap.size),[.bool m,a0b ao n cap,.bool true,a0b bo l cb]⟩] S7.out 0 (.bool fF)) 1 (a0b fG fH fI));clear S7;refine aj (λw17 hW=>?_);rw[<-hW]at S8;clear hW;obtain⟨bM,bN⟩:=S8.out.b.t.c2;obtain⟨dF,dG⟩:=S8.out.b.c2;go_wp2_with fail;clear bM bN dF dG;refine(ol S8.out.n.t.t.zb.zx S8.out.n.t.zb.zx (Ub.out)).mono ?_;rintro e w18 ⟨kN,kP,kQ,kR,UN,UO,UQ,UR,rfl,hX,_,hB⟩;rw[HE2.out]at hX;have S9:=hid (((S8.out.step hB).zb (hX.zb (BZ.out) (by omega)) rfl));clear S8 hX hB;obtain⟨bM,bN⟩:=S9.out.b.t.c2;obtain⟨eP,eT⟩:=S9.out.b.t.f2;go_upto_region 7 with(fail)
 clear bM bN eP eT;have kV:Hid (Sx w _ [⟨(Lj.heap.size),[.bool dL,a0b dM dN dO]⟩,⟨oU,[.bool kN,a0b kP kQ kR]⟩,⟨oQ,[.bool fF,a0b fG fH fI]⟩,⟨(w.heap.size+1),[.bool false,a0b none 0 0,.bool false,a0b none 0 0]⟩,⟨(w.heap.size),[.bool m,a0b ao n cap,.bool true,a0b bo l cb]⟩] _):=hid (Sx.set [⟨(Lj.heap.size),[.bool dL,a0b dM dN dO]⟩] [⟨oQ,[.bool fF,a0b fG fH fI]⟩,⟨(w.heap.size+1),[.bool false,a0b none 0 0,.bool false,a0b none 0 0]⟩,⟨(w.heap.size),[.bool m,a0b ao n cap,.bool true,a0b bo l cb]⟩] (Sx.set [⟨(Lj.heap.size),[.bool dL,a0b dM dN dO]⟩] [⟨oQ,[.bool fF,a0b fG fH fI]⟩,⟨(w.heap.size+1),[.bool false,a0b none 0 0,.bool false,a0b none 0 0]⟩,⟨(w.heap.size),[.bool m,a0b ao n cap,.bool true,a0b bo l cb]⟩] S9.out 0 (.bool kN)) 1 (a0b kP kQ kR));clear S9;refine aj (λw19 hW=>?_);rw[<-hW]at kV;clear hW;have qa:=hid (kV.out.drew);clear kV;refine wp_region_held_drew (S:=λw'=>(w'.cell? ⟨oQ,0,none⟩=some (.bool fF)/\ w'.cell? ⟨oQ,1,none⟩=some (a0b fG fH fI))/\ (w'.cell? ⟨oU,0,none⟩=some (.bool kN)/\ w'.cell? ⟨oU,1,none⟩=some (a0b kP kQ kR))) (by kernel_rfl) (⟨qa.out.b.t.t.c2,qa.out.b.t.c2⟩) (λhH=>?_);refine ai (λw20 hW=>?_);rw[<-hW]at qa hH;clear hW;refine aQ 0 hH ?_;try simp only[ax]
 refine aQ 2 hH ?_;try simp only[ax]
 refine ah 1 rfl (by kernel_rfl) (λK hK=>?_);go_simp;refine(mX qa.out.n.t.zb.zx).mono ?_;rintro e w21 ⟨JQ,JR,JS,JU,rfl,hX,hB⟩;have rF:=hid (((qa.out.step hB).cb (hX.cb (qa.out.n.t.zb.bd) (by omega)) rfl));clear qa hX hB;go_wp2_with fail;refine hK.out _ _ ⟨rF.out.b.t.t.c2,rF.out.b.t.c2⟩ (λh2=>?_);clear hK K hH;have hH:=h2;clear h2
 try simp only[ax]
 refine ah 3 rfl (by kernel_rfl) (λK hK=>?_);go_simp;refine(mX rF.out.n.t.zb.zx).mono ?_;rintro e w22 ⟨JV,JW,JX,JY,rfl,hX,hB⟩;have rG:=hid (((rF.out.step hB).cb (hX.cb (rF.out.n.t.zb.bd) (by omega)) rfl));clear rF hX hB;go_wp2_with fail;refine hK.out _ _ ⟨rG.out.b.t.t.c2,rG.out.b.t.c2⟩ (λh2=>?_);clear hK K hH;have hH:=h2;clear h2
 try simp only[ax]
 refine aQ 4 hH ?_;try simp only[ax]
 refine ah 5 rfl (by kernel_rfl) (λK hK=>?_);obtain⟨bW,bX,dB,dD⟩:=rG.out.b.t.t.t.c4;obtain⟨jg,jh,jK,jL⟩:=rG.out.b.t.t.t.f4;go_simp;clear bW bX dB dD jg jh jK jL;have y9:Hid (Sx w _ [⟨(Lj.heap.size),[.bool dL,a0b dM dN dO]⟩,⟨oU,[.bool kN,a0b kP kQ kR]⟩,⟨oQ,[.bool fF,a0b fG fH fI]⟩,⟨(w.heap.size+1),[.bool JQ,a0b JR JS JU,.bool JV,a0b JW JX JY]⟩,⟨(w.heap.size),[.bool m,a0b ao n cap,.bool true,a0b bo l cb]⟩] _):=hid (Sx.set [⟨(Lj.heap.size),[.bool dL,a0b dM dN dO]⟩,⟨oU,[.bool kN,a0b kP kQ kR]⟩,⟨oQ,[.bool fF,a0b fG fH fI]⟩] [⟨(w.heap.size),[.bool m,a0b ao n cap,.bool true,a0b bo l cb]⟩] (Sx.set [⟨(Lj.heap.size),[.bool dL,a0b dM dN dO]⟩,⟨oU,[.bool kN,a0b kP kQ kR]⟩,⟨oQ,[.bool fF,a0b fG fH fI]⟩] [⟨(w.heap.size),[.bool m,a0b ao n cap,.bool true,a0b bo l cb]⟩] (Sx.set [⟨(Lj.heap.size),[.bool dL,a0b dM dN dO]⟩,⟨oU,[.bool kN,a0b kP kQ kR]⟩,⟨oQ,[.bool fF,a0b fG fH fI]⟩] [⟨(w.heap.size),[.bool m,a0b ao n cap,.bool true,a0b bo l cb]⟩] (Sx.set [⟨(Lj.heap.size),[.bool dL,a0b dM dN dO]⟩,⟨oU,[.bool kN,a0b kP kQ kR]⟩,⟨oQ,[.bool fF,a0b fG fH fI]⟩] [⟨(w.heap.size),[.bool m,a0b ao n cap,.bool true,a0b bo l cb]⟩] rG.out 0 (.bool JQ)) 1 (a0b JR JS JU)) 2 (.bool JV)) 3 (a0b JW JX JY));clear rG;refine hK.out _ _ ⟨y9.out.b.t.t.c2,y9.out.b.t.c2⟩ (λh2=>?_);clear hK K hH;have hH:=h2;clear h2
 try simp only[ax]
 refine ai (λw23 hW=>?_);rw[<-hW]at y9 hH;clear hW;refine wpAnyH_done (by kernel_rfl) ?_ _
 clear hH;obtain⟨bW,bX,dB,dD⟩:=y9.out.b.t.t.t.c4;obtain⟨jg,jh,jK,jL⟩:=y9.out.b.t.t.t.f4;go_wp2_with fail;refine bodyPost_ret (v:= .agg #[.bool JQ,a0b JR JS JU,.bool JV,a0b JW JX JY]) (by simp[results,Tryz.results17,go_sem,bW,bX,dB,dD]) rfl ?_;exact⟨_,_,_,_,_,_,_,_,rfl,⟨y9.out.n.t.cb.cx,y9.out.n.cb.cx,y9.out.n.t.cb.bd,y9.out.n.cb.bd⟩,y9.out.h⟩
theorem q8 [Ol] {m:Bool} {ao:Option Addr} {n cap:Nat} {k:Bool} {bo:Option Addr} {l cb:Nat} {x d:Int} {q:Rat} {j:Nat} {w:World} (hx:Qx w m ao n cap k bo l cb x d q j) (h1:1<=j) (h2:j<=50000):
  Calls Tryz.prog 17 #[.agg #[.bool m,a0b ao n cap,.bool k,a0b bo l cb]] w (EC w q j):=by
 cases k
 ·exact JP hx h1 h2
 ·exact Ng hx h1 h2
end
/- The contracts of the reference's field; Same and May. -/
section
open Lib (hid)
open Go.RowKit
theorem Qx.ne [Ol] {w:World} {m:Bool} {ao:Option Addr} {n cap:Nat} {k:Bool} {bo:Option Addr} {l cb:Nat} {x d:Int} {q:Rat} {j:Nat} (h:Qx w m ao n cap k bo l cb x d q j):d≠0:=h.nz
theorem QX {a b:Int} (ha:a≠0) (hb:b≠0):a*b≠0:=λe=>by
 rcases Int.mul_eq_zero.1 e with h|h
 ·exact ha h
 ·exact hb h
theorem Ye {x d y c:Int} {q r:Rat} (hq:a0e x d=q) (hr:a0e y c=r) (hd:d≠0) (hc:c≠0):a0e (x*c+y*d) (d*c)=q+r:=by
 rw[<-hq,<-hr,Rat.divInt_add_divInt _ _ hd hc]
theorem Yf {x d y c:Int} {q r:Rat} (hq:a0e x d=q) (hr:a0e y c=r):a0e (x*y) (d*c)=q*r:=by
 rw[<-hq,<-hr,Rat.divInt_mul_divInt]
theorem Aq [Ol] {m:Bool} {ao:Option Addr} {n cap:Nat} {k:Bool} {bo:Option Addr} {l cb:Nat} {x d:Int} {q:Rat} {j:Nat} {w:World} (hx:Qx w m ao n cap k bo l cb x d q j) (h1:1<=j) (h2:j<=50000):
  Calls Tryz.prog 102 #[.agg #[.bool m,a0b ao n cap,.bool k,a0b bo l cb]] w (Gd w q.num q.den q j):=by
 go_enter Tryz.func102,Tryz.ntmps102;have S0:=hid (Sx.start (w:=w) (N:=[.qx m ao n cap k bo l cb x d q j]) ⟨hx,trivial⟩);clear hx;have S1:=hid (S0.out.var (w.heap.size) [.bool m,a0b ao n cap,.bool k,a0b bo l cb] 47 (by simp));clear S0;have S2:=hid (S1.out.var (w.heap.size+1) [.bool false,a0b none 0 0,.bool false,a0b none 0 0] 47 (by simp));clear S1;go_upto_region 1 with(fail)
 refine aj (λw1 hW=>?_);rw[<-hW]at S2;clear hW;obtain⟨cZ,dh,dW,dX⟩:=S2.out.b.t.c4;go_wp2_with fail;clear cZ dh dW dX;refine(q8 S2.out.n.qx (by omega) (by omega)).mono ?_;rintro e w2 ⟨aS,aT,aU,aV,ED,EF,EG,EH,rfl,hX,hB⟩;have S3:=hid (((S2.out.step hB).rc hX rfl));clear S2 hX hB;go_wp2_with fail;refine(Eo S3.out.n.rc.rx (by omega) (by omega)).mono ?_;rintro e w3 ⟨bH,bI,bJ,bK,GJ,GK,GL,GN,rfl,hX,hB⟩;have S4:=hid (((S3.out.step hB).qx hX rfl));clear S3 hX hB;obtain⟨bW,bX,dB,dD⟩:=S4.out.b.c4;obtain⟨jg,jh,jK,jL⟩:=S4.out.b.f4;go_wp2_with fail;have S5:Hid (Sx w _ [⟨(w.heap.size+1),[.bool bH,a0b bI bJ bK,.bool GJ,a0b GK GL GN]⟩,⟨(w.heap.size),[.bool m,a0b ao n cap,.bool k,a0b bo l cb]⟩] _):=hid (Sx.set [] [⟨(w.heap.size),[.bool m,a0b ao n cap,.bool k,a0b bo l cb]⟩] (Sx.set [] [⟨(w.heap.size),[.bool m,a0b ao n cap,.bool k,a0b bo l cb]⟩] (Sx.set [] [⟨(w.heap.size),[.bool m,a0b ao n cap,.bool k,a0b bo l cb]⟩] (Sx.set [] [⟨(w.heap.size),[.bool m,a0b ao n cap,.bool k,a0b bo l cb]⟩] S4.out 0 (.bool bH)) 1 (a0b bI bJ bK)) 2 (.bool GJ)) 3 (a0b GK GL GN));clear S4;refine bodyPost_ret (v:= .agg #[.bool bH,a0b bI bJ bK,.bool GJ,a0b GK GL GN]) (by simp[results,Tryz.results102,go_sem,bW,bX,dB,dD]) rfl ?_;exact⟨_,_,_,_,_,_,_,_,rfl,⟨S5.out.n.qx.num,Dk (EK q)▸S5.out.n.qx.den,EK q,Rat.num_divInt_den q,S5.out.n.qx.bn,Dk (EK q)▸S5.out.n.qx.bd⟩,S5.out.h⟩
theorem PW [Ol] {m:Bool} {ao:Option Addr} {n cap:Nat} {k:Bool} {bo:Option Addr} {l cb:Nat} {m2:Bool} {a2:Option Addr} {n2 c2:Nat} {k2:Bool} {b2:Option Addr} {l2 d2:Nat} {x d y c:Int} {q r:Rat} {j i:Nat} {w:World} (hx:Qx w m ao n cap k bo l cb x d q j) (hy:Qx w m2 a2 n2 c2 k2 b2 l2 d2 y c r i) (hj:1<=j) (hi:1<=i) (hk:j+i+1<=50000):
  Calls Tryz.prog 52 #[.agg #[.bool m,a0b ao n cap,.bool k,a0b bo l cb],.agg #[.bool m2,a0b a2 n2 c2,.bool k2,a0b b2 l2 d2]] w (Gd w (q+r).num (q+r).den (q+r) (j+i+1)):=by
 have HNZ:=hid (QX hx.nz hy.nz);have HV:=hid (Ye hx.val hy.val hx.nz hy.nz);go_enter Tryz.func52,Tryz.ntmps52;have S0:=hid (Sx.start (w:=w) (N:=[.qx m ao n cap k bo l cb x d q j,.qx m2 a2 n2 c2 k2 b2 l2 d2 y c r i]) ⟨hx,hy,trivial⟩);clear hx hy;have S1:=hid (S0.out.var (w.heap.size) [.bool m,a0b ao n cap,.bool k,a0b bo l cb] 47 (by simp));clear S0;have S2:=hid (S1.out.var (w.heap.size+1) [.bool m2,a0b a2 n2 c2,.bool k2,a0b b2 l2 d2] 47 (by simp));clear S1;have S3:=hid (S2.out.var (w.heap.size+2) [.bool false,a0b none 0 0,.bool false,a0b none 0 0] 47 (by simp));clear S2;go_upto_region 1 with(fail)
 refine aj (λw1 hW=>?_);rw[<-hW]at S3;clear hW;have S4:=hid (S3.out.drew);clear S3;refine wp_region_held_drew (S:=λw'=>(w'.cell? ⟨(w.heap.size),0,none⟩=some (.bool m)/\ w'.cell? ⟨(w.heap.size),1,none⟩=some (a0b ao n cap)/\ w'.cell? ⟨(w.heap.size),2,none⟩=some (.bool k)/\ w'.cell? ⟨(w.heap.size),3,none⟩=some (a0b bo l cb))/\ (w'.cell? ⟨(w.heap.size+1),0,none⟩=some (.bool m2)/\ w'.cell? ⟨(w.heap.size+1),1,none⟩=some (a0b a2 n2 c2)/\ w'.cell? ⟨(w.heap.size+1),2,none⟩=some (.bool k2)/\ w'.cell? ⟨(w.heap.size+1),3,none⟩=some (a0b b2 l2 d2))) (by kernel_rfl) (⟨S4.out.b.t.t.c4,S4.out.b.t.c4⟩) (λhH=>?_);refine ai (λw2 hW=>?_);rw[<-hW]at S4 hH;clear hW;refine aQ 0 hH ?_;try simp only[ax]
 refine aQ 1 hH ?_;try simp only[ax]
 refine aQ 2 hH ?_;try simp only[ax]
 refine aQ 3 hH ?_;try simp only[ax]
 refine aQ 5 hH ?_;try simp only[ax]
 refine aQ 6 hH ?_;try simp only[ax]
 refine aQ 7 hH ?_;try simp only[ax]
 refine aQ 8 hH ?_;try simp only[ax]
 refine aQ 11 hH ?_;try simp only[ax]
 refine aQ 12 hH ?_;try simp only[ax]
 refine aQ 13 hH ?_;try simp only[ax]
 refine aQ 14 hH ?_;try simp only[ax]
 refine ah 4 rfl (by kernel_rfl) (λK hK=>?_);go_simp;refine(o7 S4.out.n.qx.num S4.out.n.t.qx.den).mono ?_;rintro e w3 ⟨aS,aT,aU,aV,rfl,hX,hB⟩;have S5:=hid (((S4.out.step hB).zb (hX.zb (S4.out.n.qx.bn.mul S4.out.n.t.qx.bd) (by omega)) rfl));clear S4 hX hB;go_wp2_with fail;refine hK.out _ _ ⟨S5.out.b.t.t.c4,S5.out.b.t.c4⟩ (λh2=>?_);clear hK K hH;have hH:=h2;clear h2
 try simp only[ax]
 refine ah 9 rfl (by kernel_rfl) (λK hK=>?_);go_simp;refine(o7 S5.out.n.t.t.qx.num S5.out.n.t.qx.den).mono ?_;rintro e w4 ⟨bH,bI,bJ,bK,rfl,hX,hB⟩;have S6:=hid (((S5.out.step hB).zb (hX.zb (S5.out.n.t.t.qx.bn.mul S5.out.n.t.qx.bd) (by omega)) rfl));clear S5 hX hB;go_wp2_with fail;refine hK.out _ _ ⟨S6.out.b.t.t.c4,S6.out.b.t.c4⟩ (λh2=>?_);clear hK K hH;have hH:=h2;clear h2
 try simp only[ax]
 refine ah 10 rfl (by kernel_rfl) (λK hK=>?_);go_simp;refine(Gp S6.out.n.t.zb.zx S6.out.n.zb.zx).mono ?_;rintro e w5 ⟨dL,dM,dN,dO,rfl,hX,hB⟩;have S7:=hid (((S6.out.step hB).zb (hX.zb ((show Bd ((x*c)+(y*d)) ((j+i)+1)from S6.out.n.t.zb.bd.Yg S6.out.n.zb.bd (by omega) (by omega))) (by omega)) rfl));clear S6 hX hB;go_wp2_with fail;refine hK.out _ _ ⟨S7.out.b.t.t.c4,S7.out.b.t.c4⟩ (λh2=>?_);clear hK K hH;have hH:=h2;clear h2
 try simp only[ax]
 refine ah 15 rfl (by kernel_rfl) (λK hK=>?_);go_simp;refine(o7 S7.out.n.t.t.t.qx.den S7.out.n.t.t.t.t.qx.den).mono ?_;rintro e w6 ⟨fF,fG,fH,fI,rfl,hX,hB⟩;have S8:=hid (((S7.out.step hB).zb (hX.zb (S7.out.n.t.t.t.qx.bd.mul S7.out.n.t.t.t.t.qx.bd) (by omega)) rfl));clear S7 hX hB;go_wp2_with fail;refine hK.out _ _ ⟨S8.out.b.t.t.c4,S8.out.b.t.c4⟩ (λh2=>?_);clear hK K hH;have hH:=h2;clear h2
 try simp only[ax]
 refine aQ 16 hH ?_;try simp only[ax]
 refine ah 17 rfl (by kernel_rfl) (λK hK=>?_);go_simp;refine(Aq (⟨S8.out.n.t.zb.zx,S8.out.n.zb.zx,HNZ.out,HV.out,S8.out.n.t.zb.bd.mono (by omega),S8.out.n.zb.bd.mono (by omega)⟩:Qx _ _ _ _ _ _ _ _ _ _ _ (q+r) (j+i+1)) (by omega) (by omega)).mono ?_;rintro e w7 ⟨kN,kP,kQ,kR,UN,UO,UQ,UR,rfl,hX,hB⟩;have S9:=hid (((S8.out.step hB).qx hX rfl));clear S8 hX hB;go_wp2_with fail;refine hK.out _ _ ⟨S9.out.b.t.t.c4,S9.out.b.t.c4⟩ (λh2=>?_);clear hK K hH;have hH:=h2;clear h2
 try simp only[ax]
 refine ah 18 rfl (by kernel_rfl) (λK hK=>?_);obtain⟨bM,bN,j4,j5⟩:=S9.out.b.c4;obtain⟨eP,eT,oH,oI⟩:=S9.out.b.f4;go_simp;clear bM bN j4 j5 eP eT oH oI;have kV:Hid (Sx w _ [⟨(w.heap.size+2),[.bool kN,a0b kP kQ kR,.bool UN,a0b UO UQ UR]⟩,⟨(w.heap.size+1),[.bool m2,a0b a2 n2 c2,.bool k2,a0b b2 l2 d2]⟩,⟨(w.heap.size),[.bool m,a0b ao n cap,.bool k,a0b bo l cb]⟩] _):=hid (Sx.set [] [⟨(w.heap.size+1),[.bool m2,a0b a2 n2 c2,.bool k2,a0b b2 l2 d2]⟩,⟨(w.heap.size),[.bool m,a0b ao n cap,.bool k,a0b bo l cb]⟩] (Sx.set [] [⟨(w.heap.size+1),[.bool m2,a0b a2 n2 c2,.bool k2,a0b b2 l2 d2]⟩,⟨(w.heap.size),[.bool m,a0b ao n cap,.bool k,a0b bo l cb]⟩] (Sx.set [] [⟨(w.heap.size+1),[.bool m2,a0b a2 n2 c2,.bool k2,a0b b2 l2 d2]⟩,⟨(w.heap.size),[.bool m,a0b ao n cap,.bool k,a0b bo l cb]⟩] (Sx.set [] [⟨(w.heap.size+1),[.bool m2,a0b a2 n2 c2,.bool k2,a0b b2 l2 d2]⟩,⟨(w.heap.size),[.bool m,a0b ao n cap,.bool k,a0b bo l cb]⟩] S9.out 0 (.bool kN)) 1 (a0b kP kQ kR)) 2 (.bool UN)) 3 (a0b UO UQ UR));clear S9;refine hK.out _ _ ⟨kV.out.b.t.t.c4,kV.out.b.t.c4⟩ (λh2=>?_);clear hK K hH;have hH:=h2;clear h2
 try simp only[ax]
 refine ai (λw8 hW=>?_);rw[<-hW]at kV hH;clear hW;refine wpAnyH_done (by kernel_rfl) ?_ _
 clear hH;obtain⟨bM,bN,j4,j5⟩:=kV.out.b.c4;obtain⟨eP,eT,oH,oI⟩:=kV.out.b.f4;go_wp2_with fail;refine bodyPost_ret (v:= .agg #[.bool kN,a0b kP kQ kR,.bool UN,a0b UO UQ UR]) (by simp[results,Tryz.results52,go_sem,bM,bN,j4,j5]) rfl ?_;exact⟨_,_,_,_,_,_,_,_,rfl,kV.out.n.qx,kV.out.h⟩
theorem PV [Ol] {m:Bool} {ao:Option Addr} {n cap:Nat} {k:Bool} {bo:Option Addr} {l cb:Nat} {m2:Bool} {a2:Option Addr} {n2 c2:Nat} {k2:Bool} {b2:Option Addr} {l2 d2:Nat} {x d y c:Int} {q r:Rat} {j i:Nat} {w:World} (hx:Qx w m ao n cap k bo l cb x d q j) (hy:Qx w m2 a2 n2 c2 k2 b2 l2 d2 y c r i) (hj:1<=j) (hi:1<=i) (hk:j+i+1<=50000):
  Calls Tryz.prog 50 #[.agg #[.bool m,a0b ao n cap,.bool k,a0b bo l cb],.agg #[.bool m2,a0b a2 n2 c2,.bool k2,a0b b2 l2 d2]] w (Gd w (q*r).num (q*r).den (q*r) (j+i)):=by
 have HNZ:=hid (QX hx.nz hy.nz);have HV:=hid (Yf hx.val hy.val);go_enter Tryz.func50,Tryz.ntmps50;have S0:=hid (Sx.start (w:=w) (N:=[.qx m ao n cap k bo l cb x d q j,.qx m2 a2 n2 c2 k2 b2 l2 d2 y c r i]) ⟨hx,hy,trivial⟩);clear hx hy;have S1:=hid (S0.out.var (w.heap.size) [.bool m,a0b ao n cap,.bool k,a0b bo l cb] 47 (by simp));clear S0;have S2:=hid (S1.out.var (w.heap.size+1) [.bool m2,a0b a2 n2 c2,.bool k2,a0b b2 l2 d2] 47 (by simp));clear S1;have S3:=hid (S2.out.var (w.heap.size+2) [.bool false,a0b none 0 0,.bool false,a0b none 0 0] 47 (by simp));clear S2;go_upto_region 1 with(fail)
 refine aj (λw1 hW=>?_);rw[<-hW]at S3;clear hW;have S4:=hid (S3.out.drew);clear S3;refine wp_region_held_drew (S:=λw'=>(w'.cell? ⟨(w.heap.size),0,none⟩=some (.bool m)/\ w'.cell? ⟨(w.heap.size),1,none⟩=some (a0b ao n cap)/\ w'.cell? ⟨(w.heap.size),2,none⟩=some (.bool k)/\ w'.cell? ⟨(w.heap.size),3,none⟩=some (a0b bo l cb))/\ (w'.cell? ⟨(w.heap.size+1),0,none⟩=some (.bool m2)/\ w'.cell? ⟨(w.heap.size+1),1,none⟩=some (a0b a2 n2 c2)/\ w'.cell? ⟨(w.heap.size+1),2,none⟩=some (.bool k2)/\ w'.cell? ⟨(w.heap.size+1),3,none⟩=some (a0b b2 l2 d2))) (by kernel_rfl) (⟨S4.out.b.t.t.c4,S4.out.b.t.c4⟩) (λhH=>?_);refine ai (λw2 hW=>?_);rw[<-hW]at S4 hH;clear hW;refine aQ 0 hH ?_;try simp only[ax]
 refine aQ 1 hH ?_;try simp only[ax]
 refine aQ 2 hH ?_;try simp only[ax]
 refine aQ 3 hH ?_;try simp only[ax]
 refine aQ 5 hH ?_;try simp only[ax]
 refine aQ 6 hH ?_;try simp only[ax]
 refine aQ 7 hH ?_;try simp only[ax]
 refine aQ 8 hH ?_;try simp only[ax]
 refine ah 4 rfl (by kernel_rfl) (λK hK=>?_);go_simp;refine(o7 S4.out.n.qx.num S4.out.n.t.qx.num).mono ?_;rintro e w3 ⟨aS,aT,aU,aV,rfl,hX,hB⟩;have S5:=hid (((S4.out.step hB).zb (hX.zb (S4.out.n.qx.bn.mul S4.out.n.t.qx.bn) (by omega)) rfl));clear S4 hX hB;go_wp2_with fail;refine hK.out _ _ ⟨S5.out.b.t.t.c4,S5.out.b.t.c4⟩ (λh2=>?_);clear hK K hH;have hH:=h2;clear h2
 try simp only[ax]
 refine ah 9 rfl (by kernel_rfl) (λK hK=>?_);go_simp;refine(o7 S5.out.n.t.qx.den S5.out.n.t.t.qx.den).mono ?_;rintro e w4 ⟨bH,bI,bJ,bK,rfl,hX,hB⟩;have S6:=hid (((S5.out.step hB).zb (hX.zb (S5.out.n.t.qx.bd.mul S5.out.n.t.t.qx.bd) (by omega)) rfl));clear S5 hX hB;go_wp2_with fail;refine hK.out _ _ ⟨S6.out.b.t.t.c4,S6.out.b.t.c4⟩ (λh2=>?_);clear hK K hH;have hH:=h2;clear h2
 try simp only[ax]
 refine aQ 10 hH ?_;try simp only[ax]
 refine ah 11 rfl (by kernel_rfl) (λK hK=>?_);go_simp;refine(Aq (⟨S6.out.n.t.zb.zx,S6.out.n.zb.zx,HNZ.out,HV.out,S6.out.n.t.zb.bd.mono (by omega),S6.out.n.zb.bd.mono (by omega)⟩:Qx _ _ _ _ _ _ _ _ _ _ _ (q*r) (j+i)) (by omega) (by omega)).mono ?_;rintro e w5 ⟨dL,dM,dN,dO,UJ,UK,UL,UM,rfl,hX,hB⟩;have S7:=hid (((S6.out.step hB).qx hX rfl));clear S6 hX hB;go_wp2_with fail;refine hK.out _ _ ⟨S7.out.b.t.t.c4,S7.out.b.t.c4⟩ (λh2=>?_);clear hK K hH;have hH:=h2;clear h2
 try simp only[ax]
 refine ah 12 rfl (by kernel_rfl) (λK hK=>?_);obtain⟨bM,bN,j4,j5⟩:=S7.out.b.c4;obtain⟨eP,eT,oH,oI⟩:=S7.out.b.f4;go_simp;clear bM bN j4 j5 eP eT oH oI;have S8:Hid (Sx w _ [⟨(w.heap.size+2),[.bool dL,a0b dM dN dO,.bool UJ,a0b UK UL UM]⟩,⟨(w.heap.size+1),[.bool m2,a0b a2 n2 c2,.bool k2,a0b b2 l2 d2]⟩,⟨(w.heap.size),[.bool m,a0b ao n cap,.bool k,a0b bo l cb]⟩] _):=hid (Sx.set [] [⟨(w.heap.size+1),[.bool m2,a0b a2 n2 c2,.bool k2,a0b b2 l2 d2]⟩,⟨(w.heap.size),[.bool m,a0b ao n cap,.bool k,a0b bo l cb]⟩] (Sx.set [] [⟨(w.heap.size+1),[.bool m2,a0b a2 n2 c2,.bool k2,a0b b2 l2 d2]⟩,⟨(w.heap.size),[.bool m,a0b ao n cap,.bool k,a0b bo l cb]⟩] (Sx.set [] [⟨(w.heap.size+1),[.bool m2,a0b a2 n2 c2,.bool k2,a0b b2 l2 d2]⟩,⟨(w.heap.size),[.bool m,a0b ao n cap,.bool k,a0b bo l cb]⟩] (Sx.set [] [⟨(w.heap.size+1),[.bool m2,a0b a2 n2 c2,.bool k2,a0b b2 l2 d2]⟩,⟨(w.heap.size),[.bool m,a0b ao n cap,.bool k,a0b bo l cb]⟩] S7.out 0 (.bool dL)) 1 (a0b dM dN dO)) 2 (.bool UJ)) 3 (a0b UK UL UM));clear S7;refine hK.out _ _ ⟨S8.out.b.t.t.c4,S8.out.b.t.c4⟩ (λh2=>?_);clear hK K hH;have hH:=h2;clear h2
 try simp only[ax]
 refine ai (λw6 hW=>?_);rw[<-hW]at S8 hH;clear hW;refine wpAnyH_done (by kernel_rfl) ?_ _
 clear hH;obtain⟨bM,bN,j4,j5⟩:=S8.out.b.c4;obtain⟨eP,eT,oH,oI⟩:=S8.out.b.f4;go_wp2_with fail;refine bodyPost_ret (v:= .agg #[.bool dL,a0b dM dN dO,.bool UJ,a0b UK UL UM]) (by simp[results,Tryz.results50,go_sem,bM,bN,j4,j5]) rfl ?_;exact⟨_,_,_,_,_,_,_,_,rfl,S8.out.n.qx,S8.out.h⟩
theorem qf [Ol] (a b:Int) (w:World) (WX: -9223372036854775808<=a/\ a<=9223372036854775807) (WY: -9223372036854775808<=b/\ b<=9223372036854775807) (h0:b≠0):
  Calls Tryz.prog 39 #[.int .i64 a,.int .i64 b] w (Gd w a b (a0e a b) 2):=by
 have H0:=hid h0;clear h0;go_enter Tryz.func39,Tryz.ntmps39;have S0:=hid (Sx.start (w:=w) (N:=[]) trivial);have S1:=hid (S0.out.var (w.heap.size) [.bool false,a0b none 0 0,.bool false,a0b none 0 0] 47 (by simp));clear S0;go_upto_region 1 with(fail)
 refine aj (λw1 hW=>?_);rw[<-hW]at S1;clear hW;go_wp2_with fail;refine(jX (a) _ WX).mono ?_;rintro e w2 ⟨aS,aT,aU,aV,rfl,hX,hB⟩;have S2:=hid (((S1.out.step hB).zb (hX.zb (ad8 WX) (by omega)) rfl));clear S1 hX hB;go_wp2_with fail;refine(jX (b) _ WY).mono ?_;rintro e w3 ⟨bH,bI,bJ,bK,rfl,hX,hB⟩;have S3:=hid (((S2.out.step hB).zb (hX.zb (ad8 WY) (by omega)) rfl));clear S2 hX hB;obtain⟨bM,bN,j4,j5⟩:=S3.out.b.c4;obtain⟨eP,eT,oH,oI⟩:=S3.out.b.f4;go_wp2_with fail;have S4:Hid (Sx w _ [⟨(w.heap.size),[.bool aS,a0b aT aU aV,.bool bH,a0b bI bJ bK]⟩] _):=hid (Sx.set [] [] (Sx.set [] [] (Sx.set [] [] (Sx.set [] [] S3.out 0 (.bool aS)) 1 (a0b aT aU aV)) 2 (.bool bH)) 3 (a0b bI bJ bK));clear S3;refine bodyPost_ret (v:= .agg #[.bool aS,a0b aT aU aV,.bool bH,a0b bI bJ bK]) (by simp[results,Tryz.results39,go_sem,bM,bN,j4,j5]) rfl ?_;exact⟨_,_,_,_,_,_,_,_,rfl,⟨S4.out.n.t.zb.zx,S4.out.n.zb.zx,H0.out,rfl,S4.out.n.t.zb.bd,S4.out.n.zb.bd⟩,S4.out.h⟩
theorem MC [Ol] (z:Int) {m:Bool} {ao:Option Addr} {n cap:Nat} {k:Bool} {bo:Option Addr} {l cb:Nat} {x d:Int} {q:Rat} {j:Nat} {w:World} (hx:Qx w m ao n cap k bo l cb x d q j) (h:qs q=z):
  Calls Tryz.prog 18 #[.agg #[.bool m,a0b ao n cap,.bool k,a0b bo l cb]] w (cu (.int .i64 z) w):=by
 have hv:x.sign*d.sign=qs q:=by rw[<-hx.val];unfold qs;rw[QY hx.nz]
 obtain⟨s,hs⟩:∃s,x.sign=s:=⟨_,rfl⟩;obtain⟨t,ht⟩:∃t,d.sign=t:=⟨_,rfl⟩
 have e1:IntKind.i64.wrap (s*t)=z:=by
  rw[<-hs,<-ht,hv,h,<-h];rcases GQ q with h2|h2|h2<;>rw[h2]<;>rfl
 have HS:=hid hs;have HT:=hid ht;clear hs ht hv h;go_enter Tryz.func18,Tryz.ntmps18;have S0:=hid (Sx.start (w:=w) (N:=[.qx m ao n cap k bo l cb x d q j]) ⟨hx,trivial⟩);clear hx;have S1:=hid (S0.out.var (w.heap.size) [.bool m,a0b ao n cap,.bool k,a0b bo l cb] 47 (by simp));clear S0;go_upto_region 1 with(fail)
 refine aj (λw1 hW=>?_);rw[<-hW]at S1;clear hW;have S2:=hid (S1.out.drew);clear S1;refine wp_region_held_drew (S:=λw'=>(w'.cell? ⟨(w.heap.size),0,none⟩=some (.bool m)/\ w'.cell? ⟨(w.heap.size),1,none⟩=some (a0b ao n cap)/\ w'.cell? ⟨(w.heap.size),2,none⟩=some (.bool k)/\ w'.cell? ⟨(w.heap.size),3,none⟩=some (a0b bo l cb))) (by kernel_rfl) ((S2.out.b.c4)) (λhH=>?_);refine ai (λw2 hW=>?_);rw[<-hW]at S2 hH;clear hW;refine aQ 0 hH ?_;try simp only[ax]
 refine aQ 1 hH ?_;try simp only[ax]
 refine aQ 3 hH ?_;try simp only[ax]
 refine aQ 4 hH ?_;try simp only[ax]
 refine ah 2 rfl (by kernel_rfl) (λK hK=>?_);go_simp;refine(jN (s) S2.out.n.qx.num (HS.out)).mono ?_;rintro e w3 ⟨rfl,hB⟩;have S3:=hid ((S2.out.step hB));clear S2 hB;go_wp2_with fail;refine hK.out _ _ (S3.out.b.c4) (λh2=>?_);clear hK K hH;have hH:=h2;clear h2
 try simp only[ax]
 refine ah 5 rfl (by kernel_rfl) (λK hK=>?_);go_simp;refine(jN (t) S3.out.n.qx.den (HT.out)).mono ?_;rintro e w4 ⟨rfl,hB⟩;have S4:=hid ((S3.out.step hB));clear S3 hB;go_wp2_with fail;refine hK.out _ _ (S4.out.b.c4) (λh2=>?_);clear hK K hH;have hH:=h2;clear h2
 try simp only[ax]
 refine aQ 6 hH ?_;try simp only[ax]
 refine aQ 7 hH ?_;try simp only[ax]
 refine wpAnyH_done (by kernel_rfl) ?_ _
 clear hH;go_wp2_with fail;go_ret;exact⟨rfl,S4.out.h⟩
def rH (m:Bool) (xs:List Nat) (z:Int):Bool:=decide (m=decide (z<0)/\ xs=limbs z.natAbs)
theorem xK [Ol] (r:Bool) {m k:Bool} {ao bo:Option Addr} {n cap l cb:Nat} {xs:List Nat} {z:Int} {w:World} (hs:Sl w ao n cap xs) (hv:Cx w k bo l cb z) (h:rH m xs z=r):
  Calls Tryz.prog 53 #[.agg #[.bool m,a0b ao n cap],.agg #[.bool k,a0b bo l cb]] w (cu (.bool r) w):=by
 have hk:=hv.cn.neg;by_cases hm:m=k
 ·subst hm;refine uO r hs hv.cn.sl ?_;rw[<-h];unfold qO rH;rw[<-hk];simp
 ·obtain rfl:r=false:=by
   rw[<-h];unfold rH;rw[<-hk];simp[hm]
  exact xC hm
theorem QZ [Ol] {m:Bool} {ao:Option Addr} {n cap:Nat} {k:Bool} {bo:Option Addr} {l cb:Nat} {m2:Bool} {a2:Option Addr} {n2 c2:Nat} {k2:Bool} {b2:Option Addr} {l2 d2:Nat} {q:Rat} {j:Nat} {w:World} {xs ys:List Nat} (hs:Sl w ao n cap xs) (ht:Sl w bo l cb ys) (hy:Rc w m2 a2 n2 c2 k2 b2 l2 d2 q j) (ha:rH m xs q.num=false):
  Calls Tryz.prog 16 #[.agg #[.bool m,a0b ao n cap,.bool k,a0b bo l cb],.agg #[.bool m2,a0b a2 n2 c2,.bool k2,a0b b2 l2 d2]] w (cu (.bool false) w):=by
 have HA:=hid ha;clear ha;go_enter Tryz.func16,Tryz.ntmps16;have S0:=hid (Sx.start (w:=w) (N:=[.sl ao n cap xs,.sl bo l cb ys,.rc m2 a2 n2 c2 k2 b2 l2 d2 q j]) ⟨hs,ht,hy,trivial⟩);clear hs ht hy;have S1:=hid (S0.out.var (w.heap.size) [.bool m,a0b ao n cap,.bool k,a0b bo l cb] 31 (by simp));clear S0;have S2:=hid (S1.out.var (w.heap.size+1) [.bool m2,a0b a2 n2 c2,.bool k2,a0b b2 l2 d2] 31 (by simp));clear S1;go_upto_region 1 with(fail)
 refine aj (λw1 hW=>?_);rw[<-hW]at S2;clear hW;obtain⟨bW,bX,dB,dD⟩:=S2.out.b.t.c4;obtain⟨bP,bQ,l8,l9⟩:=S2.out.b.c4;go_wp2_with fail;clear bW bX dB dD bP bQ l8 l9;refine(xK false S2.out.n.sl S2.out.n.t.t.rc.num (HA.out)).mono ?_;rintro e w2 ⟨rfl,hB⟩;have S3:=hid ((S2.out.step hB));clear S2 hB;go_wp2_with fail;go_ret;exact⟨rfl,S3.out.h⟩
theorem Nh [Ol] (r:Bool) {m:Bool} {ao:Option Addr} {n cap:Nat} {k:Bool} {bo:Option Addr} {l cb:Nat} {m2:Bool} {a2:Option Addr} {n2 c2:Nat} {k2:Bool} {b2:Option Addr} {l2 d2:Nat} {q:Rat} {j:Nat} {w:World} {xs ys:List Nat} (hs:Sl w ao n cap xs) (ht:Sl w bo l cb ys) (hy:Rc w m2 a2 n2 c2 k2 b2 l2 d2 q j) (ha:rH m xs q.num=true) (hb:rH k ys (q.den:Int)=r):
  Calls Tryz.prog 16 #[.agg #[.bool m,a0b ao n cap,.bool k,a0b bo l cb],.agg #[.bool m2,a0b a2 n2 c2,.bool k2,a0b b2 l2 d2]] w (cu (.bool r) w):=by
 have HA:=hid ha;clear ha;have HB:=hid hb;clear hb;go_enter Tryz.func16,Tryz.ntmps16;have S0:=hid (Sx.start (w:=w) (N:=[.sl ao n cap xs,.sl bo l cb ys,.rc m2 a2 n2 c2 k2 b2 l2 d2 q j]) ⟨hs,ht,hy,trivial⟩);clear hs ht hy;have S1:=hid (S0.out.var (w.heap.size) [.bool m,a0b ao n cap,.bool k,a0b bo l cb] 31 (by simp));clear S0;have S2:=hid (S1.out.var (w.heap.size+1) [.bool m2,a0b a2 n2 c2,.bool k2,a0b b2 l2 d2] 31 (by simp));clear S1;go_upto_region 1 with(fail)
 refine aj (λw1 hW=>?_);rw[<-hW]at S2;clear hW;obtain⟨bW,bX,dB,dD⟩:=S2.out.b.t.c4;obtain⟨bP,bQ,l8,l9⟩:=S2.out.b.c4;go_wp2_with fail;clear bW bX dB dD bP bQ l8 l9;refine(xK true S2.out.n.sl S2.out.n.t.t.rc.num (HA.out)).mono ?_;rintro e w2 ⟨rfl,hB⟩;have S3:=hid ((S2.out.step hB));clear S2 hB;obtain⟨bW,bX,dB,dD⟩:=S3.out.b.t.c4;obtain⟨bP,bQ,l8,l9⟩:=S3.out.b.c4;go_wp2_with fail;clear bW bX dB dD bP bQ l8 l9;refine(xK r S3.out.n.t.sl S3.out.n.t.t.rc.den (HB.out)).mono ?_;rintro e w3 ⟨rfl,hB⟩;have S4:=hid ((S3.out.step hB));clear S3 hB;go_wp2_with fail;go_ret;exact⟨rfl,S4.out.h⟩
theorem Nj [Ol] (r:Bool) {m:Bool} {ao:Option Addr} {n cap:Nat} {k:Bool} {bo:Option Addr} {l cb:Nat} {m2:Bool} {a2:Option Addr} {n2 c2:Nat} {k2:Bool} {b2:Option Addr} {l2 d2:Nat} {q:Rat} {j:Nat} {w:World} {xs ys:List Nat} (hs:Sl w ao n cap xs) (ht:Sl w bo l cb ys) (hy:Rc w m2 a2 n2 c2 k2 b2 l2 d2 q j) (h:(rH m xs q.num&&rH k ys (q.den:Int))=r):
  Calls Tryz.prog 16 #[.agg #[.bool m,a0b ao n cap,.bool k,a0b bo l cb],.agg #[.bool m2,a0b a2 n2 c2,.bool k2,a0b b2 l2 d2]] w (cu (.bool r) w):=by
 cases ha:rH m xs q.num with
 |false=>rw[ha]at h;obtain rfl:r=false:=by simpa using h.symm
         exact QZ hs ht hy ha
 |true=>rw[ha]at h;exact Nh r hs ht hy ha (by simpa using h)
theorem Ar {w:World} {m:Bool} {ao:Option Addr} {n cap:Nat} {z:Int} (h:Cn w m ao n cap z):rH m (limbs z.natAbs) z=true:=by
 unfold rH;rw[<-h.neg];simp
theorem F9 [Ol] {m:Bool} {ao:Option Addr} {n cap:Nat} {k:Bool} {bo:Option Addr} {l cb:Nat} {m2:Bool} {a2:Option Addr} {n2 c2:Nat} {k2:Bool} {b2:Option Addr} {l2 d2:Nat} {q r:Rat} {j i:Nat} {w:World} (hx:Rc w m ao n cap k bo l cb q j) (hy:Rc w m2 a2 n2 c2 k2 b2 l2 d2 r i) (h:q=r):
  Calls Tryz.prog 16 #[.agg #[.bool m,a0b ao n cap,.bool k,a0b bo l cb],.agg #[.bool m2,a0b a2 n2 c2,.bool k2,a0b b2 l2 d2]] w (cu (.bool true) w):=by
 subst h;exact Nj true hx.num.cn.sl hx.den.cn.sl hy (by rw[Ar hx.num.cn,Ar hx.den.cn];rfl)
end
end Go.Proofs.YtmenbpmciblnlaaGreatDoor
