import Derived.Test.YtmenbpmciblnlaaGreatDoorGM1
import Derived.Shelf.Abstract
set_option maxHeartbeats 0
set_option maxRecDepth 100000
open Go renaming Value->ah7,World->ah6,below_drewN->ah5
open Go.RowKit.Below renaming heap_setCell->ah9,refl->ah8
open Go.Value renaming slice->ai0
open List renaming drop_eq_nil_of_le->ai1
open Nat renaming le_refl->ai3,zero_le->ai2
namespace Go.Proofs.YtmenbpmciblnlaaGreatDoor
open Lib (hid)
open Go.RowKit
theorem Ml.h0 [Ol] {w:ah6} {b off n ae:Nat} {p1 p2:Int} {r:List (Int×Int)} (h:Ml w (some ⟨b,off,none⟩) (n+1) ae ((p1,p2)::r)):w.cell? ⟨b,off,none⟩=some (.int .i64 p1):=by
 have:=(h.cells _ rfl 0 (by omega)).1;rw[Addr.add_lit]at this;simpa using this
theorem Ml.h1 [Ol] {w:ah6} {b off n ae:Nat} {p1 p2:Int} {r:List (Int×Int)} (h:Ml w (some ⟨b,off,none⟩) (n+1) ae ((p1,p2)::r)):w.cell? ⟨b,off+1,none⟩=some (.int .i64 p2):=by
 have:=(h.cells _ rfl 0 (by omega)).2;rw[Addr.add_lit]at this;simpa using this
theorem Ml.cons [Ol] {w:ah6} {ao:Z'} {n ae:Nat} {ps:List (Int×Int)} (h:Ml w ao (n+1) ae ps):∃b off p1 p2 r,ao=some ⟨b,off,none⟩/\ ps=(p1,p2)::r:=by
 obtain⟨b,off,rfl,_⟩:=h.at (by omega);have hl:=h.len
 match ps,hl with
 |(p1,p2)::r,_=>exact⟨b,off,p1,p2,r,rfl,rfl⟩
def Gq:ah7->Nat
 |ai0 _ n _=>n
 | _=>0
def Tw (b off ae:Nat):Option Addr:=if ae=1 then some ⟨b,off,none⟩else some ⟨b,off+2,none⟩
theorem Ml.rest [Ol] {w:ah6} {b off n ae:Nat} {p:Int×Int} {r:List (Int×Int)} (h:Ml w (some ⟨b,off,none⟩) (n+1) ae (p::r)):Ml w (Tw b off ae) n (ae-1) r:=by
 unfold Tw;by_cases hc:ae=1
 ·obtain⟨h1,h2⟩:=NY h hc;rw[if_pos hc,h2,hc];exact h1
 ·rw[if_neg hc];exact RB h
def IP [Ol] (w:ah6) (Inv:List (Int×Int×Int)->ah6->Prop) (a b:ah7) (wr:ah6) (ts:List (Int×Int×Int)):Prop:=
 ∃(ao:Option Addr) (n ae:Nat) (bo:Option Addr) (m cb:Nat) (xs' ys':List (Int×Int)) (done:List (Int×Int×Int)),a=ai0 ao n ae/\ b=ai0 bo m cb/\
  Hid (Ml w ao n ae xs'/\ Ml w bo m cb ys')/\ Hid (ts=done++ow xs' ys')/\ Hid (Inv done wr)
theorem Dz [Ol] {G:Nat} {lb:Array ah7} (eg:∀args w,(callFunc G args).run Tryz.prog w= .ok (.enter G args) w) (Inv:List (Int×Int×Int)->ah6->Prop)
  {a0 b0:Z'} {la ca lc cc:Nat} {xs ys:List (Int×Int)} {w0 w:ah6} (ha:Ml w0 a0 la ca xs) (hb:Ml w0 b0 lc cc ys)
  (hS:∀done W W',Inv done W->Below W.heap.size W W'->Inv done W')
  (hB:∀done W,Inv done W->Below w0.heap.size w0 W)
  (hF:∀done t rest W,ow xs ys=done++t::rest->Inv done W->Calls Tryz.prog G (#[.int .i64 t.1,.int .i64 t.2.1,.int .i64 t.2.2]++lb) W (λe w'=>e= .returned (.tuple #[])/\ Inv (done++[t]) w'))
  (h0:Inv [] w):
  Calls Tryz.prog 192 #[ai0 a0 la ca,ai0 b0 lc cc,.func (.func G) #[] lb] w (λe w'=>e= .returned (.tuple #[])/\ Inv (ow xs ys) w'):=by
 have HF:=hid hF;have WQ:=hid hS;have HBw:=hid hB;obtain⟨ts,hts⟩:∃ts,ts=ow xs ys:=⟨_,rfl⟩;rw[<-hts]at HF ⊢;have HI0:=hid h0;have vp:Hid (IP w0 Inv (ai0 a0 la ca) (ai0 b0 lc cc) w ts):=⟨_,_,_,_,_,_,_,_,[],rfl,rfl,⟨ha,hb⟩,hts,h0⟩;clear hF hS hB h0 ha hb hts;go_enter Tryz.func192,Tryz.ntmps192;go_wp2;go_loopw [0,1] (λa b wr=>IP w0 Inv a b wr ts) (λa b _=>Gq a+Gq b)
 case atStart=>exact vp.o
 case round=>
  clear vp;obtain⟨ao,n,ae,bo,m,cb,xs',ys',done,rfl,rfl,HM,HT,HI⟩:=hrel;have hn1:=HM.o.1.le;have hn2:=HM.o.1.big;have hm1:=HM.o.2.le;have hm2:=HM.o.2.big;by_cases hn:n<=0
  ·have fn:decide (0<n)=false:=decide_eq_false (by omega);have fn2:decide ((0:Int)<(n:Int))=false:=decide_eq_false (by omega);have HT:=hid (HT.o.trans (by rw[IJ (.inl (HM.o.1.empty (by omega)))]));go_wp2;go_loopw [68] (λi wr=>∃(k:Nat) (done:List (Int×Int×Int)),k<=n/\ i= .int .i64 k/\ Hid (ts=done++((xs'.drop k).map (λp=>(p.1,p.2,(0:Int)))++ys'.map (λq=>(q.1,(0:Int),q.2))))/\ Hid (Inv done wr)) (λi _=>n-(intOf i).toNat)
   case atStart=>exact⟨0,done,ai2 _,rfl,HT.o,HI.o⟩
   case round=>
    clear HT HI;obtain⟨k,done,hk,rfl,HT,HI⟩:=hrel;by_cases hkn:k<n
    ·exfalso;omega
    ·obtain rfl:k=n:=by omega
     have HT2:Hid (ts=done++ys'.map (λq=>(q.1,(0:Int),q.2))):=HT.o.trans (by rw[ai1 (by rw[HM.o.1.len];exact ai3 _)];rfl);clear HT;go_wp2;go_loopw [81] (λi wr=>∃(k:Nat) (done:List (Int×Int×Int)),k<=m/\ i= .int .i64 k/\ Hid (ts=done++(ys'.drop k).map (λq=>(q.1,(0:Int),q.2)))/\ Hid (Inv done wr)) (λi _=>m-(intOf i).toNat)
     case atStart=>exact⟨0,done,ai2 _,rfl,HT2.o,HI.o⟩
     case round=>
      clear HT2 HI;obtain⟨j,done,hj,rfl,HT,HI⟩:=hrel;by_cases hjm:j<m
      ·have HX:=hid (HM.o.2.below (HBw.o _ _ HI.o));obtain⟨b,off,rfl,hb,hc⟩:=HX.o.at (by omega);obtain⟨c1,c2⟩:=hc j hjm;have HT2:=hid (HT.o.trans (by rw[map_drop _ (by rw[HX.o.len];exact hjm)]));clear hc HT;obtain⟨p,hp⟩:∃p,p=ys'.getD j (0,0):=⟨_,rfl⟩;rw[<-hp]at c1 c2 HT2;clear hp HX;obtain⟨v,e⟩:=p;go_wp2_with (go_at_fn G;refine(HF.o done (v,0,e) _ _ HT2.o (WQ.o _ _ _ HI.o (af _ _))).mono ?_;rintro e w2 ⟨rfl,hI2⟩;have HI2:=hid hI2;clear hI2);go_roundw
       case rel=>exact⟨j+1,done++[(v,0,e)],by omega,by go_num,by rw[Hid,HT2.o];simp,HI2.o⟩
       case measure=>simp[intOf];omega
      ·obtain rfl:j=m:=by omega
       go_wp2;go_end0;refine⟨rfl,?_⟩;have e2:=HT.o;rw[ai1 (by rw[HM.o.2.len];exact ai3 _)]at e2;rw[e2];simpa using HI.o
  ·by_cases hm:m<=0
   ·have hn0:0<n:=by omega
    have fn:decide (0<m)=false:=decide_eq_false (by omega);have fn2:decide ((0:Int)<(m:Int))=false:=decide_eq_false (by omega);have HT:=hid (HT.o.trans (by rw[IJ (.inr (HM.o.2.empty (by omega)))]));go_wp2;go_loopw [68] (λi wr=>∃(k:Nat) (done:List (Int×Int×Int)),k<=n/\ i= .int .i64 k/\ Hid (ts=done++((xs'.drop k).map (λp=>(p.1,p.2,(0:Int)))++ys'.map (λq=>(q.1,(0:Int),q.2))))/\ Hid (Inv done wr)) (λi _=>n-(intOf i).toNat)
    case atStart=>exact⟨0,done,ai2 _,rfl,HT.o,HI.o⟩
    case round=>
     clear HT HI;obtain⟨k,done,hk,rfl,HT,HI⟩:=hrel;by_cases hkn:k<n
     ·have HX:=hid (HM.o.1.below (HBw.o _ _ HI.o));obtain⟨b,off,rfl,hb,hc⟩:=HX.o.at (by omega);obtain⟨c1,c2⟩:=hc k hkn;have HT2:=hid (HT.o.trans (by rw[map_drop _ (by rw[HX.o.len];exact hkn)]));clear hc HT;obtain⟨p,hp⟩:∃p,p=xs'.getD k (0,0):=⟨_,rfl⟩;rw[<-hp]at c1 c2 HT2;clear hp HX;obtain⟨v,e⟩:=p;go_wp2_with (go_at_fn G;refine(HF.o done (v,e,0) _ _ HT2.o (WQ.o _ _ _ HI.o (af _ _))).mono ?_;rintro e w2 ⟨rfl,hI2⟩;have HI2:=hid hI2;clear hI2);go_roundw
      case rel=>exact⟨k+1,done++[(v,e,0)],by omega,by go_num,by rw[Hid,HT2.o];simp,HI2.o⟩
      case measure=>simp[intOf];omega
     ·obtain rfl:k=n:=by omega
      have HT2:Hid (ts=done++ys'.map (λq=>(q.1,(0:Int),q.2))):=HT.o.trans (by rw[ai1 (by rw[HM.o.1.len];exact ai3 _)];rfl);clear HT;go_wp2;go_loopw [81] (λi wr=>∃(k:Nat) (done:List (Int×Int×Int)),k<=m/\ i= .int .i64 k/\ Hid (ts=done++(ys'.drop k).map (λq=>(q.1,(0:Int),q.2)))/\ Hid (Inv done wr)) (λi _=>m-(intOf i).toNat)
      case atStart=>exact⟨0,done,ai2 _,rfl,HT2.o,HI.o⟩
      case round=>
       clear HT2 HI;obtain⟨j,done,hj,rfl,HT,HI⟩:=hrel;by_cases hjm:j<m
       ·exfalso;omega
       ·obtain rfl:j=m:=by omega
        go_wp2;go_end0;refine⟨rfl,?_⟩;have e2:=HT.o;rw[ai1 (by rw[HM.o.2.len];exact ai3 _)]at e2;rw[e2];simpa using HI.o
   ·obtain⟨n,rfl⟩:∃k,n=k+1:=⟨n-1,by omega⟩;obtain⟨m,rfl⟩:∃k,m=k+1:=⟨m-1,by omega⟩;clear hn hm;obtain⟨b,off,p1,p2,r,rfl,rfl⟩:=HM.o.1.cons;obtain⟨b2,off2,q1,q2,s,rfl,rfl⟩:=HM.o.2.cons;have HS:=HM;go_upto_region 1 with(fail)
    have S0:=hid (Sx.start (w:=wr) (N:=[.ml (some ⟨b,off,none⟩) (n+1) ae ((p1,p2)::r),.ml (some ⟨b2,off2,none⟩) (m+1) cb ((q1,q2)::s)]) ⟨HS.o.1.below (HBw.o _ _ HI.o),HS.o.2.below (HBw.o _ _ HI.o),trivial⟩);go_cut [6,7]from 20 to 26 (λsl0 sl1 w9=>∃(U6:Nat) (qb7:Nat),sl0= .pointer (some ⟨U6,0,none⟩)/\ sl1= .pointer (some ⟨qb7,0,none⟩)/\ Hid (Sx wr w9 [⟨qb7,[.int .i64 q1,.int .i64 q2]⟩,⟨U6,[.int .i64 p1,.int .i64 p2]⟩] [.ml (some ⟨b,off,none⟩) (n+1) ae ((p1,p2)::r),.ml (some ⟨b2,off2,none⟩) (m+1) cb ((q1,q2)::s)]))
    case first=>
     have S1:=hid S0.o.drew;clear S0;refine wp_region_held_drew (S:=λw'=>w'.cell? ⟨b,off,none⟩=some (.int .i64 p1)/\ w'.cell? ⟨b,off+1,none⟩=some (.int .i64 p2)/\ w'.cell? ⟨b2,off2,none⟩=some (.int .i64 q1)/\ w'.cell? ⟨b2,off2+1,none⟩=some (.int .i64 q2)) (by kernel_rfl) (⟨S1.o.n.ml.h0,S1.o.n.ml.h1,S1.o.n.t.ml.h0,S1.o.n.t.ml.h1⟩) (λhH=>?_);refine ah (λw1 hW=>?_);rw[<-hW]at S1 hH;clear hW;refine aT 0 hH ?_;try simp only[ax]
     refine aT 1 hH ?_;try simp only[ax]
     refine aT 2 hH ?_;try simp only[ax]
     refine aT 3 hH ?_;try simp only[ax]
     refine aT 4 hH ?_;try simp only[ax]
     refine aT 5 hH ?_;try simp only[ax]
     refine wpAnyH_ready (rs:=[6,7]) (by kernel_rfl) (by simp) (aM rfl (λK hK=>?_) (aM rfl (λK hK=>?_) AllReadyH.nil))
     ·go_simp;have S2:=hid (S1.o.var w1.heap.size [.int .i64 0,.int .i64 0] 72 (by simp));clear S1;refine hK.o _ _ ⟨S2.o.n.ml.h0,S2.o.n.ml.h1,S2.o.n.t.ml.h0,S2.o.n.t.ml.h1⟩ (λh2=>?_);clear hK K hH;have hH:=h2;clear h2
      try simp only[ax]
      refine ah (λw2 hW=>?_);rw[<-hW]at S2 hH;clear hW;refine ag 7 rfl (by kernel_rfl) (λK hK=>?_);go_simp;have S3:=hid (S2.o.var w2.heap.size [.int .i64 0,.int .i64 0] 72 (by simp));clear S2;refine hK.o _ _ ⟨S3.o.n.ml.h0,S3.o.n.ml.h1,S3.o.n.t.ml.h0,S3.o.n.t.ml.h1⟩ (λh2=>?_);clear hK K hH;have hH:=h2;clear h2
      try simp only[ax]
      refine ah (λw3 hW=>?_);rw[<-hW]at S3 hH;clear hW;refine ag 8 rfl (by kernel_rfl) (λK hK=>?_);obtain⟨cy,cA⟩:=S3.o.b.t.c2;obtain⟨cQ,cR⟩:=S3.o.b.t.f2;go_simp;clear cy cA cQ cR;have S4:Hid (Sx wr _ [⟨w2.heap.size,[.int .i64 0,.int .i64 0]⟩,⟨w1.heap.size,[.int .i64 p1,.int .i64 p2]⟩] _):=hid (Sx.set [⟨w2.heap.size,[.int .i64 0,.int .i64 0]⟩] _ (Sx.set [⟨w2.heap.size,[.int .i64 0,.int .i64 0]⟩] _ S3.o 0 (.int .i64 p1)) 1 (.int .i64 p2));clear S3;refine hK.o _ _ ⟨S4.o.n.ml.h0,S4.o.n.ml.h1,S4.o.n.t.ml.h0,S4.o.n.t.ml.h1⟩ (λh2=>?_);clear hK K hH;have hH:=h2;clear h2
      try simp only[ax]
      refine ah (λw4 hW=>?_);rw[<-hW]at S4 hH;clear hW;refine ag 9 rfl (by kernel_rfl) (λK hK=>?_);obtain⟨xk,xl⟩:=S4.o.b.c2;obtain⟨Gr,Gs⟩:=S4.o.b.f2;go_simp;clear xk xl Gr Gs;have S5:Hid (Sx wr _ [⟨w2.heap.size,[.int .i64 q1,.int .i64 q2]⟩,⟨w1.heap.size,[.int .i64 p1,.int .i64 p2]⟩] _):=hid (Sx.set [] _ (Sx.set [] _ S4.o 0 (.int .i64 q1)) 1 (.int .i64 q2));clear S4;refine hK.o _ _ ⟨S5.o.n.ml.h0,S5.o.n.ml.h1,S5.o.n.t.ml.h0,S5.o.n.t.ml.h1⟩ (λh2=>?_);clear hK K hH;have hH:=h2;clear h2
      try simp only[ax]
      refine ah (λw5 hW=>?_);rw[<-hW]at S5 hH;clear hW;refine wpAnyH_done (by kernel_rfl) ?_ _
      clear hH;go_wp2_with fail;go_meet
      case rel=>exact⟨_,_,rfl,rfl,S5.o⟩
     ·go_simp;have S2:=hid (S1.o.var w1.heap.size [.int .i64 0,.int .i64 0] 72 (by simp));clear S1;refine hK.o _ _ ⟨S2.o.n.ml.h0,S2.o.n.ml.h1,S2.o.n.t.ml.h0,S2.o.n.t.ml.h1⟩ (λh2=>?_);clear hK K hH;have hH:=h2;clear h2
      try simp only[ax]
      refine ah (λw2 hW=>?_);rw[<-hW]at S2 hH;clear hW;refine ag 6 rfl (by kernel_rfl) (λK hK=>?_);go_simp;have S3:=hid (S2.o.var w2.heap.size [.int .i64 0,.int .i64 0] 72 (by simp));clear S2;refine hK.o _ _ ⟨S3.o.n.ml.h0,S3.o.n.ml.h1,S3.o.n.t.ml.h0,S3.o.n.t.ml.h1⟩ (λh2=>?_);clear hK K hH;have hH:=h2;clear h2
      try simp only[ax]
      refine ah (λw3 hW=>?_);rw[<-hW]at S3 hH;clear hW;refine ag 8 rfl (by kernel_rfl) (λK hK=>?_);obtain⟨cy,cA⟩:=S3.o.b.c2;obtain⟨cQ,cR⟩:=S3.o.b.f2;go_simp;clear cy cA cQ cR;have S4:Hid (Sx wr _ [⟨w2.heap.size,[.int .i64 p1,.int .i64 p2]⟩,⟨w1.heap.size,[.int .i64 0,.int .i64 0]⟩] _):=hid (Sx.set [] _ (Sx.set [] _ S3.o 0 (.int .i64 p1)) 1 (.int .i64 p2));clear S3;refine hK.o _ _ ⟨S4.o.n.ml.h0,S4.o.n.ml.h1,S4.o.n.t.ml.h0,S4.o.n.t.ml.h1⟩ (λh2=>?_);clear hK K hH;have hH:=h2;clear h2
      try simp only[ax]
      refine ah (λw4 hW=>?_);rw[<-hW]at S4 hH;clear hW;refine ag 9 rfl (by kernel_rfl) (λK hK=>?_);obtain⟨xk,xl⟩:=S4.o.b.t.c2;obtain⟨Gr,Gs⟩:=S4.o.b.t.f2;go_simp;clear xk xl Gr Gs;have S5:Hid (Sx wr _ [⟨w2.heap.size,[.int .i64 p1,.int .i64 p2]⟩,⟨w1.heap.size,[.int .i64 q1,.int .i64 q2]⟩] _):=hid (Sx.set [⟨w2.heap.size,[.int .i64 p1,.int .i64 p2]⟩] _ (Sx.set [⟨w2.heap.size,[.int .i64 p1,.int .i64 p2]⟩] _ S4.o 0 (.int .i64 q1)) 1 (.int .i64 q2));clear S4;refine hK.o _ _ ⟨S5.o.n.ml.h0,S5.o.n.ml.h1,S5.o.n.t.ml.h0,S5.o.n.t.ml.h1⟩ (λh2=>?_);clear hK K hH;have hH:=h2;clear h2
      try simp only[ax]
      refine ah (λw5 hW=>?_);rw[<-hW]at S5 hH;clear hW;refine wpAnyH_done (by kernel_rfl) ?_ _
      clear hH;go_wp2_with fail;go_meet
      case rel=>exact⟨_,_,rfl,rfl,S5.o.Cf⟩
    case rest=>
    clear S0;obtain⟨U6,qb7,rfl,rfl,S1⟩:=hcut;obtain⟨w6,hW⟩:∃w6,w6=wc:=⟨_,rfl⟩;rw[<-hW]at S1 ⊢;clear hW;obtain⟨ag3,ag4⟩:=S1.o.b.t.c2;obtain⟨ag5,ag6⟩:=S1.o.b.c2;rcases Int.lt_trichotomy p1 q1 with g|g|g
    ·have HT2:=hid (HT.o.trans (by rw[wZ _ _ g]));have f1:decide (p1<q1)=true:=decide_eq_true g;go_wp2_with (go_at_fn G;(refine(HF.o done (p1,p2,0) _ _ HT2.o (WQ.o _ _ _ HI.o S1.o.h)).mono ?_);rintro e w2 ⟨rfl,hI2⟩;have HI2:=hid hI2;clear hI2);go_roundw
     case rel=>exact⟨_,n,ae-1,_,m+1,cb,r,(q1,q2)::s,done++[(p1,p2,0)],rfl,rfl,⟨HM.o.1.rest,HM.o.2⟩,by rw[Hid,HT2.o];simp,HI2.o⟩
     case measure=>simp[Gq];try omega
    ·have HT2:=hid (HT.o.trans (by rw[xd _ _ g]));subst g;go_wp2_with (go_at_fn G;(refine(HF.o done (p1,p2,q2) _ _ HT2.o (WQ.o _ _ _ HI.o S1.o.h)).mono ?_);rintro e w2 ⟨rfl,hI2⟩;have HI2:=hid hI2;clear hI2);go_quiet (fail);go_wp2;go_roundw
     case rel=>exact⟨_,n,ae-1,_,m,cb-1,r,s,done++[(p1,p2,q2)],rfl,rfl,⟨HM.o.1.rest,HM.o.2.rest⟩,by rw[Hid,HT2.o];simp,WQ.o _ _ _ HI2.o (ah5 (ah8 _ _) _)⟩
     case measure=>simp[Gq];try omega
    ·have HT2:=hid (HT.o.trans (by rw[xb _ _ g]));have f1:decide (p1<q1)=false:=decide_eq_false (by omega);have f2:decide (q1<p1)=true:=decide_eq_true g;go_wp2_with (go_at_fn G;(refine(HF.o done (q1,0,q2) _ _ HT2.o (WQ.o _ _ _ HI.o S1.o.h)).mono ?_);rintro e w2 ⟨rfl,hI2⟩;have HI2:=hid hI2;clear hI2);go_roundw
     case rel=>exact⟨_,n+1,ae,_,m,cb-1,(p1,p2)::r,s,done++[(q1,0,q2)],rfl,rfl,⟨HM.o.1,HM.o.2.rest⟩,by rw[Hid,HT2.o];simp,HI2.o⟩
     case measure=>simp[Gq];try omega
open Lib (hid)
theorem gJ [Ol] (r:Bool) {ao:Z'} {n ae:Nat} {ps:List (Int×Int)} {w:ah6} (h:Ml w ao n ae ps) (hr:aQ 0 ps=r):
  Calls Tryz.prog 90 #[ai0 ao n ae] w (cr (.bool r) w):=by
 have hle:=h.le;have hbig:=h.big;have HM:=hid h;clear h;go_enter Tryz.func90,Tryz.ntmps90;go_wp2;go_loopw [3,8] (λo i wr=>∃k:Nat,∃lo:Int,k<=n/\ i= .int .i64 k/\ o= .int .i64 lo/\ Hid (lo=Rq ps k/\ 0<=lo)/\ Hid (aQ lo (ps.drop k)=r)/\ Hid (Ml wr ao n ae ps/\ Below w.heap.size w wr)) (λ_ i _=>n-(intOf i).toNat)
 case atStart=>exact⟨0,0,ai2 _,rfl,rfl,⟨rfl,Int.le_refl 0⟩,by rw[Hid,List.drop_zero];exact hr,HM.o,ah8 _ _⟩
 case round=>
  clear HM;obtain⟨k,lo,hk,rfl,rfl,HL,HR,HS⟩:=hrel;have HM:=hid HS.o.1;by_cases hkn:k<n
  ·obtain⟨b,off,rfl,hb,hc⟩:=HM.o.at (by omega);obtain⟨c1,c2⟩:=hc k hkn;have HR2:=hid ((zI ps k lo (by rw[HM.o.len];exact hkn)).symm.trans HR.o);clear HR hc;obtain⟨v,hv⟩:∃v,v=(ps.getD k (0,0)).1:=⟨_,rfl⟩;obtain⟨e,he⟩:∃v,v=(ps.getD k (0,0)).2:=⟨_,rfl⟩;rw[<-hv]at c1;rw[<-he]at c2;have HV:=hid hv;have HE:=hid he;clear hv he;by_cases g0:v<=lo
   ·have f0:decide (v<=lo)=true:=decide_eq_true (by omega);go_wp2;go_ret;exact⟨gA (by rw[<-HR2.o];unfold Cp;rw[<-HV.o,<-HE.o];have:=HL.o;simp;omega),(Below.ar HS.o.2 (af _ _))⟩
   ·have f0:decide (v<=lo)=false:=decide_eq_false (by omega);by_cases g1:200<v
    ·have f1:decide (200<v)=true:=decide_eq_true (by omega);go_wp2;go_ret;exact⟨gA (by rw[<-HR2.o];unfold Cp;rw[<-HV.o,<-HE.o];have:=HL.o;simp;omega),(Below.ar HS.o.2 (af _ _))⟩
    ·have f1:decide (200<v)=false:=decide_eq_false (by omega);by_cases g2:e<1
     ·have f2:decide (e<1)=true:=decide_eq_true (by omega);go_wp2;go_ret;exact⟨gA (by rw[<-HR2.o];unfold Cp;rw[<-HV.o,<-HE.o];have:=HL.o;simp;omega),(Below.ar HS.o.2 (af _ _))⟩
     ·have f2:decide (e<1)=false:=decide_eq_false (by omega);by_cases g3:10000<e
      ·have f3:decide (10000<e)=true:=decide_eq_true (by omega);go_wp2;go_ret;exact⟨gA (by rw[<-HR2.o];unfold Cp;rw[<-HV.o,<-HE.o];have:=HL.o;simp;omega),(Below.ar HS.o.2 (af _ _))⟩
      ·have f3:decide (10000<e)=false:=decide_eq_false (by omega);go_wp2;go_roundw
       case rel=>exact⟨k+1,v,by omega,by go_num,rfl,⟨HV.o,by have:=HL.o;omega⟩,by rw[Hid,<-HR2.o,Gt (show lo<_ by rw[<-HV.o];omega) (by rw[<-HV.o];omega) (by rw[<-HE.o];omega) (by rw[<-HE.o];omega),HV.o];rfl,HM.o.below (af _ _),(Below.ar HS.o.2 (af _ _))⟩
       case measure=>simp[intOf];omega
  ·obtain rfl:k=n:=by omega
   go_wp2;go_ret;have e2:=HR.o;rw[ai1 (by rw[HM.o.len];exact ai3 _)]at e2;exact⟨gA (by rw[<-e2];rfl),HS.o.2⟩
theorem KA [Ol] {ao:Z'} {n ae:Nat} {ps:List (Int×Int)} {w:ah6} (h:Ml w ao n ae ps) (hr:aQ 0 ps=true):
  Calls Tryz.prog 172 #[ai0 ao n ae] w (cr (ai0 ao n ae) w):=by
 go_enter Tryz.func172,Tryz.ntmps172;go_wp2_with fail;refine(gJ true h hr).mono ?_;rintro e w' ⟨rfl,hB⟩;go_wp2_with fail;go_ret;exact⟨rfl,hB⟩
theorem NZ [Ol] {ao:Z'} {n ae:Nat} {ps:List (Int×Int)} {w:ah6} (h:Ml w ao n ae ps) (hr:aQ 0 ps=false):
  Calls Tryz.prog 172 #[ai0 ao n ae] w (cr (ai0 none 0 0) w):=by
 go_enter Tryz.func172,Tryz.ntmps172;go_wp2_with fail;refine(gJ false h hr).mono ?_;rintro e w' ⟨rfl,hB⟩;go_wp2_with fail;go_ret;exact⟨rfl,hB⟩
theorem tQ [Ol] {ao:Z'} {n ae:Nat} {ps:List (Int×Int)} {w:ah6} (h:Ml w ao n ae ps):
  Calls Tryz.prog 172 #[ai0 ao n ae] w (RD w (ET ps)):=by
 cases hr:aQ 0 ps with
 |true=>exact(KA h hr).mono λe w' ⟨he,hB⟩=>⟨ao,n,ae,he,by rw[qg hr];exact h.below hB,hB⟩
 |false=>exact(NZ h hr).mono λe w' ⟨he,hB⟩=>⟨none,0,0,he,by rw[NS hr];exact Ml.zero _,hB⟩
open Lib (hid)
def ov (w:ah6) (b:Nat) (v:ah7) (T:TypeId):Prop:=w.heap[b]? =some (.cells #[v] T (0,0))
theorem ov.lt {w:ah6} {b:Nat} {v:ah7} {T:TypeId} (h:ov w b v T):b<w.heap.size:=lt_of_block h
theorem ov.cS (w:ah6) (v:ah7) (T:TypeId):ov (w.alloc (.cells #[v] T)) w.heap.size v T:=by
 show(w.heap.push _)[w.heap.size]? =_;rw[Array.getElem?_push_size]
theorem ov.cell {w:ah6} {b:Nat} {v:ah7} {T:TypeId} (h:ov w b v T):w.cell? ⟨b,0,none⟩=some v:=by
 unfold ov at h;simp[World.cell?,h]
theorem ov.fz {w:ah6} {b:Nat} {v:ah7} {T:TypeId} (h:ov w b v T):w.frozen? ⟨b,0,none⟩=false:=by
 unfold ov at h;simp[World.frozen?,h]
theorem ov.ct {w w':ah6} {b:Nat} {v:ah7} {T:TypeId} (h:ov w b v T) (e:w'.heap[b]? =w.heap[b]?):ov w' b v T:=e.trans h
theorem ov.below {w w':ah6} {b:Nat} {v:ah7} {T:TypeId} (h:ov w b v T) (hb:Below w.heap.size w w'):ov w' b v T:=h.ct (hb.block b h.lt)
theorem ov.set {w:ah6} {b:Nat} {v:ah7} {T:TypeId} (h:ov w b v T) (u:ah7):ov (w.setCell ⟨b,0,none⟩ u) b u T:=by
 unfold ov at h ⊢;simp[World.setCell,Array.getElem?_modify,h]
theorem ov.dy {w:ah6} {b c:Nat} {v:ah7} {T:TypeId} (h:ov w b v T) (hc:c≠b) (o:Nat) (u:ah7):ov (w.setCell ⟨c,o,none⟩ u) b v T:=
 h.ct (ah9 _ _ _ _ (λe=>hc e.symm))
theorem Mo.dy {B:Nat} {w:ah6} {ao:Z'} {n ae:Nat} {ps:List (Int×Int)} (h:Mo B w ao n ae ps) {b:Nat} {v:ah7} {T:TypeId} (hc:ov w b v T) (hT:T≠72) (o:Nat) (u:ah7):Mo B (w.setCell ⟨b,o,none⟩ u) ao n ae ps:=by
 refine h.ct λa ha=>ah9 _ _ _ _ λe=>?_
 rcases h.parts with⟨h1,_⟩|⟨g,cur,h1,_,_,_,hh⟩
 ·rw[h1]at ha;cases ha
 ·rw[h1]at ha;cases ha;have e':g=b:=e;subst e';unfold ov at hc;rw[hc]at hh;cases hh;exact hT rfl
theorem ov.grown {B:Nat} {w w':ah6} {o:Obj} {ao:Z'} {n ae:Nat} {ps:List (Int×Int)} {b:Nat} {v:ah7} {T:TypeId} (h:ov w b v T) (hM:Mo B w ao n ae ps) (hT:T≠72) (hG:(w.alloc o).grownBy w' (ai0 ao n ae).ownBlock):ov w' b v T:=by
 refine(h.below (af w o)).ct (hG.block b (by have:=h.lt;simp;omega) λe=>?_);rcases hM.parts with⟨rfl,_⟩|⟨g,cur,rfl,_,_,_,hh⟩
 ·cases e
 ·have e':b=g:=Option.some.inj e;subst e';unfold ov at h;rw[h]at hh;cases hh;exact hT rfl
structure EF (w0:ah6) (c k J:Nat) (f:Int->Int->Int) (done:List (Int×Int×Int)) (w:ah6):Prop where
 m:∃ao ae,Mo w0.heap.size w ao (fB f done).length ae (fB f done)/\ ov w c (.slice ao (fB f done).length ae) 68
 fn:ov w k (.func (.func J) #[] #[]) 170
 below:Below w0.heap.size w0 w
 hc:w0.heap.size<=c
theorem EF.Hk {w0:ah6} {c k J:Nat} {f:Int->Int->Int} {done:List (Int×Int×Int)} {w w':ah6} (h:EF w0 c k J f done w) (hb:Below w.heap.size w w'):EF w0 c k J f done w':=by
 obtain⟨ao,ae,h1,h2⟩:=h.m;exact⟨⟨ao,ae,h1.below hb,h2.below hb⟩,h.fn.below hb,Below.ar h.below hb,h.hc⟩
def WR (J:Nat) (f:Int->Int->Int):Prop:=∀(x y:Int) (w:ah6),(0<=x/\ x<=10000)->(0<=y/\ y<=10000)->Calls Tryz.prog J #[.int .i64 x,.int .i64 y] w (λe w'=>e= .returned (.int .i64 (f x y))/\ w=w')
theorem Bp {J:Nat} {f:Int->Int->Int} (eJ:∀args w,(callFunc J args).run Tryz.prog w= .ok (.enter J args) w) (hJ:WR J f) {w0 w:ah6} {c k:Nat} {done:List (Int×Int×Int)} {v x y:Int}
  (hv:fq v) (hf:fq (f x y)) (hx:0<=x/\ x<=10000) (hy:0<=y/\ y<=10000) (hn:done.length<=400) (h:EF w0 c k J f done w):
  Calls Tryz.prog 208 #[.int .i64 v,.int .i64 x,.int .i64 y,.pointer (some ⟨k,0,none⟩),.pointer (some ⟨c,0,none⟩)] w (λe w'=>e= .returned (.tuple #[])/\ EF w0 c k J f (done++[(v,x,y)]) w'):=by
 obtain⟨i0,hi,hz0,hz1,hz2⟩:=info_parts Tryz.mv;obtain⟨ao,ae,hM,hC⟩:=h.m;have ck:=h.fn.cell;have cc:=hC.cell;have fc:=hC.fz;have lc:=hC.lt;have lk:=h.fn.lt;have hln:=zJ f done;obtain⟨n,hnn⟩:∃n,(fB f done).length=n:=⟨_,rfl⟩;obtain⟨z,hz⟩:∃z,f x y=z:=⟨_,rfl⟩;have HJ:=hid (hJ x y w hx hy);rw[hz]at HJ hf;rw[hnn]at hM hC cc;have hn4:n<=400:=by omega
 have HI:=hid h;have HM:=hid hM;have HC:=hid hC;have HN:=hid hnn;have HZ:=hid hz;have HV:=hid hv;have HF:=hid hf;clear h hM hC hnn hz hJ hx hy hn hln hv hf;by_cases g:z=0
 ·subst g;go_enter Tryz.func208,Tryz.ntmps208;go_wp2_with (go_at_fn J;(refine HJ.o.mono ?_);rintro e w' ⟨rfl,rfl⟩);go_end0;exact⟨rfl,⟨by rw[uZ _ HZ.o,HN.o];exact⟨ao,ae,HM.o,HC.o⟩,HI.o.fn,HI.o.below,HI.o.hc⟩⟩
 ·have g1:(z==0)=false:=by simpa using g
  have g2:(z !=0)=true:=by simpa using g
  have HG:=hid g;clear g;go_enter Tryz.func208,Tryz.ntmps208
  go_wp2_with (first
   |(go_at_fn J;(refine HJ.o.mono ?_);rintro e w' ⟨rfl,rfl⟩)
   |(at_builtin;refine sJ w w0 rfl (.tmp 15) (.tmp 19) 68 rfl w0.heap.size i0 (.agg #[.int .i64 0,.int .i64 0]) Tryz.underlying68 hi hz0 hz1 hz2 rfl ao n ae (fB f done) rfl HM.o v z HV.o HF.o _ rfl HI.o.below HI.o.below.size (by omega) ?_;intro Gu cap2 w2 hM2 hB2 hG2;have HM2:=hid hM2;have HB2:=hid hB2;have UE:=hid (HC.o.grown HM.o (by decide) hG2);have bH:=hid (HI.o.fn.grown HM.o (by decide) hG2);clear hM2 hB2 hG2 cc fc ck lc lk;have cc:=UE.o.cell;have fc:=UE.o.fz))
  go_end0;have e2:=HN.o;refine⟨rfl,⟨?_,bH.o.dy ?_ _ _,HB2.o.setCell HI.o.hc _,HI.o.hc⟩⟩
  ·rw[Gj _ (by rw[HZ.o];exact HG.o),HZ.o];simp only[List.length_append,List.length_cons,List.length_nil,e2];exact⟨Gu,cap2,HM2.o.dy UE.o (by decide) _ _,UE.o.set _⟩
  ·intro e;subst e;have h1:=UE.o;have h2:=bH.o;unfold ov at h1 h2;rw[h1]at h2;cases h2
theorem xt [Ol] {J:Nat} {f:Int->Int->Int} (eJ:∀args w,(callFunc J args).run Tryz.prog w= .ok (.enter J args) w) (hJ:WR J f) (hf:∀x y:Int,(0<=x/\ x<=10000)->(0<=y/\ y<=10000)->fq (f x y))
  {a0 b0:Z'} {la ca lc cc:Nat} {xs ys:List (Int×Int)} {w:ah6} (ha:Ml w a0 la ca xs) (hb:Ml w b0 lc cc ys) (hx:aQ 0 xs=true) (hy:aQ 0 ys=true):
  Calls Tryz.prog 171 #[ai0 a0 la ca,ai0 b0 lc cc,.func (.func J) #[] #[]] w (RD w (jt f xs ys)):=by
 have eg:∀args w,(callFunc 208 args).run Tryz.prog w= .ok (.enter 208 args) w:=enters_of Tryz.func208 (by kernel_rfl) rfl;have h1:=vu hx;have h2:=vu hy;have h3:=ha.len;have h4:=hb.len;have hla:la<=200:=by omega
 have hlc:lc<=200:=by omega
 have htl:=vD _ xs ys (ai3 _)
 have hmem:∀t∈ow xs ys,fq t.1/\ (0<=t.2.1/\ t.2.1<=10000)/\ (0<=t.2.2/\ t.2.2<=10000):=
  vE (P:=fq) (Q:=λz=>0<=z/\ z<=10000) (by omega) _ xs ys (ai3 _) (λp hp=>⟨by have:=(nC hx (by omega) p hp).1;unfold fq;omega,(nC hx (by omega) p hp).2⟩) (λp hp=>⟨by have:=(nC hy (by omega) p hp).1;unfold fq;omega,(nC hy (by omega) p hp).2⟩)
 have hF:∀(c k:Nat) done t rest W,ow xs ys=done++t::rest->EF w c k J f done W->Calls Tryz.prog 208 (#[.int .i64 t.1,.int .i64 t.2.1,.int .i64 t.2.2]++ #[.pointer (some ⟨k,0,none⟩),.pointer (some ⟨c,0,none⟩)]) W (λe w'=>e= .returned (.tuple #[])/\ EF w c k J f (done++[t]) w'):=by
  intro c k done t rest W ht hI;have hm:=hmem t (by rw[ht];simp);have hl:done.length<=400:=by rw[ht]at htl;simp at htl;omega
  exact Bp eJ hJ hm.1 (hf _ _ hm.2.1 hm.2.2) hm.2.1 hm.2.2 hl hI
 have HF:=hid hF;have HA:=hid ha;have HB:=hid hb;clear hF hmem htl h1 h2 h3 h4 ha hb hx hy hf hJ eJ;obtain⟨i0,hi,hz0,hz1,hz2⟩:=info_parts Tryz.mv;go_enter Tryz.func171,Tryz.ntmps171;go_wp2_with (at_make;refine wpList_make_own _ rfl _ _ 68 rfl w.heap.size 72 i0 (.agg #[.int .i64 0,.int .i64 0]) 2 Tryz.underlying68 hi hz0 hz1 _ _ _ (la+lc) rfl rfl (by omega) ?b2 ?b3 (by simp) ?_)
 case b2=>rw[hz2];omega
 case b3=>unfold maxLen;omega
 intro w1 hO hG;have WL:Hid (Mo w.heap.size w1 _ 0 _ []):=hid ⟨hO,by omega,λ_ h=>by cases h⟩;have aL:Hid (ov w1 w.heap.size (.func (.func J) #[] #[]) 170):=hid ((ov.cS w _ _).ct (hG.block w.heap.size (by simp) (by simp)));have HB1:=hid ((af w _).grown hG (by simp) (by intro k hk;cases hk));clear hO hG hi hz0 hz1 hz2;go_wp2_with fail;refine(Dz eg (EF w w1.heap.size w.heap.size J f) (w0:=w) HA.o HB.o (λ_ _ _ h hb=>h.Hk hb) (λ_ _ h=>h.below) (HF.o _ _) ⟨⟨_,_,WL.o.below (af _ _),ov.cS _ _ _⟩,aL.o.below (af _ _),Below.ar HB1.o (af _ _),HB1.o.size⟩).mono ?_;rintro e w3 ⟨rfl,hI⟩;obtain⟨ao,ae,hM,hC⟩:=hI.m;have HM:=hid hM;have HB3:=hid hI.below;have cc:=hC.cell;obtain⟨n,hn⟩:∃n,n=(fB f (ow xs ys)).length:=⟨_,rfl⟩;rw[<-hn]at HM cc;clear hM hC hI hn WL aL HF HA HB HB1;go_wp2_with fail;go_ret;exact⟨_,_,_,rfl,HM.o.ml,HB3.o⟩
open Lib (hid)
section
variable {J:Nat} {f:Int->Int->Int} {a0 b0:Option Addr} {la ca lc cc:Nat} {xs ys:List (Int×Int)} {w:ah6}
theorem yE [Ol] (er:Int) (ha:Ml w a0 la ca xs) (hx:aQ 0 xs=false) (F:ah7):
  Calls Tryz.prog 120 #[.int .i64 er,ai0 a0 la ca,ai0 b0 lc cc,F] w (qH w [] 2):=by
 go_enter Tryz.func120,Tryz.ntmps120;go_wp2_with fail;refine(gJ false ha hx).mono ?_;rintro e w1 ⟨rfl,hB⟩;go_wp2_with fail;go_ret2;exact⟨none,0,0,rfl,Ml.zero _,hB⟩
theorem yF [Ol] (er:Int) (ha:Ml w a0 la ca xs) (hb:Ml w b0 lc cc ys) (hx:aQ 0 xs=true) (hy:aQ 0 ys=false) (F:ah7):
  Calls Tryz.prog 120 #[.int .i64 er,ai0 a0 la ca,ai0 b0 lc cc,F] w (qH w [] 2):=by
 have rV:=hid hb;clear hb;go_enter Tryz.func120,Tryz.ntmps120;go_wp2_with fail;refine(gJ true ha hx).mono ?_;rintro e w1 ⟨rfl,hB⟩;have HB:=hid hB;have HY:=hid (rV.o.below hB);clear hB ha hx rV;go_wp2_with fail;refine(gJ false HY.o hy).mono ?_;rintro e w2 ⟨rfl,hB⟩;go_wp2_with fail;go_ret2;exact⟨none,0,0,rfl,Ml.zero _,Below.ar HB.o hB⟩
theorem yG [Ol] (er:Int) (r:Bool) (eJ:∀args w,(callFunc J args).run Tryz.prog w= .ok (.enter J args) w) (hJ:WR J f) (hf:∀x y:Int,(0<=x/\ x<=10000)->(0<=y/\ y<=10000)->fq (f x y))
  (ha:Ml w a0 la ca xs) (hb:Ml w b0 lc cc ys) (hx:aQ 0 xs=true) (hy:aQ 0 ys=true) (hr:aQ 0 (jt f xs ys)=r) (qs:List (Int×Int)) (z:Int) (hq:qs=if r=true then jt f xs ys else[]) (hz:z=if r=true then 0 else er):
  Calls Tryz.prog 120 #[.int .i64 er,ai0 a0 la ca,ai0 b0 lc cc,.func (.func J) #[] #[]] w (qH w qs z):=by
 have HQ:=hid hq;have HZ:=hid hz;clear hq hz;have HX:=hid hx;have HY:=hid hy;have HR:=hid hr;have HA:=hid ha;have rV:=hid hb;have EJ:=hid eJ;have HJ:=hid hJ;have HF:=hid hf;clear hx hy hr ha hb eJ hJ hf;go_enter Tryz.func120,Tryz.ntmps120;go_wp2_with fail;refine(gJ true HA.o HX.o).mono ?_;rintro e w1 ⟨rfl,hB⟩;have HB1:=hid hB;have HA1:=hid (HA.o.below hB);have zj:=hid (rV.o.below hB);clear hB rV HA;go_wp2_with fail;refine(gJ true zj.o HY.o).mono ?_;rintro e w2 ⟨rfl,hB⟩;have HB2:=hid (Below.ar HB1.o hB);have HA2:=hid (HA1.o.below hB);have Il:=hid (zj.o.below hB);clear hB HA1 zj HB1;go_wp2_with fail;refine(xt EJ.o HJ.o HF.o HA2.o Il.o HX.o HY.o).mono ?_;rintro e w3 ⟨mo,n,ae,rfl,hM,hB⟩;have HB3:=hid (Below.ar HB2.o hB);have HM:=hid hM;clear hB hM HA2 Il HB2;go_wp2_with fail;refine(gJ r HM.o HR.o).mono ?_;rintro e w4 ⟨rfl,hB⟩;have lx:=hid (Below.ar HB3.o hB);have HM4:=hid (HM.o.below hB);clear hB HM HB3;cases r
 ·go_wp2_with fail;go_ret2;exact⟨none,0,0,by rw[HZ.o];rfl,by rw[HQ.o];exact Ml.zero _,lx.o⟩
 ·go_wp2_with fail;go_ret2;exact⟨mo,n,ae,by rw[HZ.o];rfl,by rw[HQ.o];exact HM4.o,lx.o⟩
theorem Br [Ol] (er:Int) (eJ:∀args w,(callFunc J args).run Tryz.prog w= .ok (.enter J args) w) (hJ:WR J f) (hf:∀x y:Int,(0<=x/\ x<=10000)->(0<=y/\ y<=10000)->fq (f x y))
  (ha:Ml w a0 la ca xs) (hb:Ml w b0 lc cc ys):
  Calls Tryz.prog 120 #[.int .i64 er,ai0 a0 la ca,ai0 b0 lc cc,.func (.func J) #[] #[]] w (qH w (gq f er xs ys).1 (gq f er xs ys).2):=by
 unfold gq;cases hx:aQ 0 xs with
 |false=>
  rw[if_neg (by simp)];exact yE er ha hx _
 |true=>
  cases hy:aQ 0 ys with
  |false=>
   rw[if_neg (by simp)];exact yF er ha hb hx hy _
  |true=>
   rw[if_pos ⟨rfl,rfl⟩];refine(yG er (aQ 0 (jt f xs ys)) eJ hJ hf ha hb hx hy rfl _ _ rfl rfl).mono ?_;intro e w' h;cases hm:aQ 0 (jt f xs ys)<;>simpa[hm]using h
end
theorem RF:WR 121 (λx y=>x+y):=by
 intro x y w hx hy;have h1:=hx.1;have h2:=hx.2;have h3:=hy.1;have h4:=hy.2;clear hx hy;go_enter Tryz.func121,Tryz.ntmps121;go_wp2;go_ret;exact⟨rfl,rfl⟩
theorem RG:WR 173 (λx y=>max x y):=by
 intro x y w hx hy;have h1:=hx.1;have h2:=hx.2;have h3:=hy.1;have h4:=hy.2;clear hx hy;go_enter Tryz.func173,Tryz.ntmps173;go_wp2
 all_goals (go_ret;exact⟨fe (by omega),rfl⟩)
section
variable {a0 b0:Option Addr} {la ca lc cc:Nat} {xs ys:List (Int×Int)} {w:ah6}
theorem tI [Ol] (ha:Ml w a0 la ca xs) (hb:Ml w b0 lc cc ys):
  Calls Tryz.prog 73 #[ai0 a0 la ca,ai0 b0 lc cc] w (qH w (gq (λx y=>x+y) 8 xs ys).1 (gq (λx y=>x+y) 8 xs ys).2):=by
 go_enter Tryz.func73,Tryz.ntmps73;go_wp2_with fail;refine(Br 8 (enters_of Tryz.func121 (by kernel_rfl) rfl) RF (λx y hx hy=>by unfold fq;omega) ha hb).mono ?_;rintro e w' ⟨ao,n,ae,rfl,hM,hB⟩;have HM:=hid hM;have HB:=hid hB;clear hM hB ha hb;go_wp2_with fail;go_ret2;exact⟨_,_,_,rfl,HM.o,HB.o⟩
theorem Ki [Ol] (ha:Ml w a0 la ca xs) (hb:Ml w b0 lc cc ys):
  Calls Tryz.prog 122 #[ai0 a0 la ca,ai0 b0 lc cc] w (RD w (jt (λx y=>max x y) (ET xs) (ET ys))):=by
 have HY:=hid hb;clear hb;go_enter Tryz.func122,Tryz.ntmps122;go_wp2_with fail;refine(tQ ha).mono ?_;rintro e w1 ⟨xo,n,ae,rfl,hM,hB⟩;have HX:=hid hM;have HB1:=hid hB;have zj:=hid (HY.o.below hB);clear hM hB ha HY;go_wp2_with fail;refine(tQ zj.o).mono ?_;rintro e w2 ⟨yo,m,cb,rfl,hM,hB⟩;have PS:=hid (HX.o.below hB);have Il:=hid hM;have HB2:=hid (Below.ar HB1.o hB);clear hM hB HX zj HB1;go_wp2_with fail;refine(xt (enters_of Tryz.func173 (by kernel_rfl) rfl) RG (λx y hx hy=>by unfold fq;omega) PS.o Il.o (pY _) (pY _)).mono ?_;rintro e w3 ⟨mo,k,c,rfl,hM,hB⟩;have HM:=hid hM;have HB3:=hid (Below.ar HB2.o hB);clear hM hB PS Il HB2;go_wp2_with fail;go_ret;exact⟨_,_,_,rfl,HM.o,HB3.o⟩
end
open Lib (hid)
def KB (x y:Int):Int:=if x<y then-1 else if y<x then 1 else 0
theorem Bt (x:Int) (w:ah6):Calls Tryz.prog 219 #[.int .i64 x] w (λe w'=>e= .returned (.bool false)/\ w=w'):=by
 go_enter Tryz.func219,Tryz.ntmps219;go_wp2;go_ret;exact⟨gA (by simp),rfl⟩
theorem Gv (x y z:Int) (w:ah6) (hz:KB x y=z):Calls Tryz.prog 194 #[.int .i64 x,.int .i64 y] w (λe w'=>e= .returned (.int .i64 z)/\ w=w'):=by
 have HZ:=hid hz;clear hz;rcases Int.lt_trichotomy x y with g|g|g
 ·have f1:decide (x<y)=true:=decide_eq_true g;go_enter Tryz.func194,Tryz.ntmps194;go_wp2_with ((with_reducible refine(Bt _ _).mono ?_);rintro e w' ⟨rfl,rfl⟩);go_ret;exact⟨fe (by rw[<-HZ.o];unfold KB;rw[if_pos g]),rfl⟩
 ·subst g;go_enter Tryz.func194,Tryz.ntmps194;go_wp2_with ((with_reducible refine(Bt _ _).mono ?_);rintro e w' ⟨rfl,rfl⟩);go_ret;exact⟨fe (by rw[<-HZ.o];unfold KB;simp),rfl⟩
 ·have f1:decide (x<y)=false:=decide_eq_false (by omega);have f2:decide (y<x)=true:=decide_eq_true g;go_enter Tryz.func194,Tryz.ntmps194;go_wp2_with ((with_reducible refine(Bt _ _).mono ?_);rintro e w' ⟨rfl,rfl⟩);go_ret;exact⟨fe (by rw[<-HZ.o];unfold KB;rw[if_neg (by omega),if_pos g]),rfl⟩
structure Bu (w0:ah6) (o:Nat) (done:List (Int×Int×Int)) (w:ah6):Prop where
 dY:ov w o (.int .i64 (lg 0 done)) 3
 below:Below w0.heap.size w0 w
 ho:w0.heap.size<=o
theorem Bu.Hk {w0:ah6} {o:Nat} {done:List (Int×Int×Int)} {w w':ah6} (h:Bu w0 o done w) (hb:Below w.heap.size w w'):Bu w0 o done w':=
 ⟨h.dY.below hb,Below.ar h.below hb,h.ho⟩
theorem KC {w0 w:ah6} {o:Nat} {done:List (Int×Int×Int)} (t:Int×Int×Int) (h:Bu w0 o done w):
  Calls Tryz.prog 193 #[.int .i64 t.1,.int .i64 t.2.1,.int .i64 t.2.2,.pointer (some ⟨o,0,none⟩)] w (λe w'=>e= .returned (.tuple #[])/\ Bu w0 o (done++[t]) w'):=by
 obtain⟨v,x,y⟩:=t;have cc:=h.dY.cell;have fc:=h.dY.fz;have lc:=h.dY.lt;have HI:=hid h;clear h;obtain⟨l,hl⟩:∃l,l=lg 0 done:=⟨_,rfl⟩;rw[<-hl]at cc;have HL:=hid hl;clear hl;by_cases g:x=y
 ·subst g;go_enter Tryz.func193,Tryz.ntmps193;go_wp2;go_end0;refine⟨rfl,⟨?_,HI.o.below,HI.o.ho⟩⟩;rw[nO];simpa[lg]using HI.o.dY
 ·have g1:(x==y)=false:=by simpa using g
  have g2:(x !=y)=true:=by simpa using g
  have HG:=hid g;clear g;obtain⟨z,hz⟩:∃z,KB x y=z:=⟨_,rfl⟩;have HZ:=hid hz;clear hz;go_enter Tryz.func193,Tryz.ntmps193;go_wp2_with ((with_reducible refine(Gv x y z _ HZ.o).mono ?_);rintro e w' ⟨rfl,rfl⟩);go_end0;refine⟨rfl,⟨?_,HI.o.below.setCell HI.o.ho _,HI.o.ho⟩⟩
  have e1:lg 0 (done++[(v,x,y)])=z:=by
   rw[nO,<-HZ.o];unfold KB;simp only[lg];have:=HG.o;by_cases h1:x<y
   ·rw[if_pos h1,if_pos h1]
   ·rw[if_neg h1,if_neg h1,if_pos (by omega),if_pos (by omega)]
  rw[e1];exact HI.o.dY.set _
section
variable {a0 b0:Option Addr} {la ca lc cc:Nat} {xs ys:List (Int×Int)} {w:ah6}
def JM (xs ys:List (Int×Int)):Int×Int:=if aQ 0 xs=true/\ aQ 0 ys=true then(iq xs ys,0)else(0,2)
theorem Bw [Ol] (ha:Ml w a0 la ca xs) (hx:aQ 0 xs=false):
  Calls Tryz.prog 144 #[ai0 a0 la ca,ai0 b0 lc cc] w (cr (.tuple #[.int .i64 0,.int .i64 2]) w):=by
 go_enter Tryz.func144,Tryz.ntmps144;go_wp2_with fail;refine(gJ false ha hx).mono ?_;rintro e w1 ⟨rfl,hB⟩;go_wp2_with fail;go_ret2;exact⟨rfl,hB⟩
theorem Bx [Ol] (ha:Ml w a0 la ca xs) (hb:Ml w b0 lc cc ys) (hx:aQ 0 xs=true) (hy:aQ 0 ys=false):
  Calls Tryz.prog 144 #[ai0 a0 la ca,ai0 b0 lc cc] w (cr (.tuple #[.int .i64 0,.int .i64 2]) w):=by
 have rV:=hid hb;clear hb;go_enter Tryz.func144,Tryz.ntmps144;go_wp2_with fail;refine(gJ true ha hx).mono ?_;rintro e w1 ⟨rfl,hB⟩;have HB:=hid hB;have HY:=hid (rV.o.below hB);clear hB ha hx rV;go_wp2_with fail;refine(gJ false HY.o hy).mono ?_;rintro e w2 ⟨rfl,hB⟩;go_wp2_with fail;go_ret2;exact⟨rfl,Below.ar HB.o hB⟩
theorem Bz [Ol] (ha:Ml w a0 la ca xs) (hb:Ml w b0 lc cc ys) (hx:aQ 0 xs=true) (hy:aQ 0 ys=true) (z:Int) (hz:iq xs ys=z):
  Calls Tryz.prog 144 #[ai0 a0 la ca,ai0 b0 lc cc] w (cr (.tuple #[.int .i64 z,.int .i64 0]) w):=by
 have eg:∀args w,(callFunc 193 args).run Tryz.prog w= .ok (.enter 193 args) w:=enters_of Tryz.func193 (by kernel_rfl) rfl
 have hF:∀(w0:ah6) (o:Nat) done t rest W,ow xs ys=done++t::rest->Bu w0 o done W->Calls Tryz.prog 193 (#[.int .i64 t.1,.int .i64 t.2.1,.int .i64 t.2.2]++ #[.pointer (some ⟨o,0,none⟩)]) W (λe w'=>e= .returned (.tuple #[])/\ Bu w0 o (done++[t]) w'):=
  λw0 o done t rest W _ h=>by exact KC t h
 have h0:∀W:ah6,Bu W W.heap.size [] (W.alloc (.cells #[.int .i64 0] 3)):=λW=>⟨ov.cS _ _ _,af _ _,ai3 _⟩
 have HF:=hid hF;have H0:=hid h0;have HX:=hid hx;have HY:=hid hy;have HA:=hid ha;have rV:=hid hb;have HZ:=hid hz;clear hx hy ha hb hz hF h0;go_enter Tryz.func144,Tryz.ntmps144;go_wp2_with fail;refine(gJ true HA.o HX.o).mono ?_;rintro e w1 ⟨rfl,hB⟩;have HB1:=hid hB;have HA1:=hid (HA.o.below hB);have zj:=hid (rV.o.below hB);clear hB rV HA;go_wp2_with fail;refine(gJ true zj.o HY.o).mono ?_;rintro e w2 ⟨rfl,hB⟩;have HB2:=hid (Below.ar HB1.o hB);have HA2:=hid (HA1.o.below hB);have Il:=hid (zj.o.below hB);clear hB HA1 zj HB1;go_wp2_with fail;refine(Dz eg (Bu w2 w2.heap.size) (w0:=w2) HA2.o Il.o (λ_ _ _ h hb=>h.Hk hb) (λ_ _ h=>h.below) (HF.o _ _) (H0.o _)).mono ?_;rintro e w3 ⟨rfl,hI⟩;have c3:=hI.dY.cell;have HB3:=hid (Below.ar HB2.o hI.below);obtain⟨l,hl⟩:∃l,l=lg 0 (ow xs ys):=⟨_,rfl⟩;rw[<-hl]at c3;have HL:=hid hl;clear hI hl HA2 Il HB2;go_wp2_with fail;go_ret2;refine⟨?_,HB3.o⟩;have e1:l=z:=by rw[HL.o,Gk];exact HZ.o
 rw[e1];rfl
theorem C6 [Ol] (ha:Ml w a0 la ca xs) (hb:Ml w b0 lc cc ys):
  Calls Tryz.prog 144 #[ai0 a0 la ca,ai0 b0 lc cc] w (cr (.tuple #[.int .i64 (JM xs ys).1,.int .i64 (JM xs ys).2]) w):=by
 unfold JM;cases hx:aQ 0 xs with
 |false=>
  rw[if_neg (by simp)];exact Bw ha hx
 |true=>
  cases hy:aQ 0 ys with
  |false=>
   rw[if_neg (by simp)];exact Bx ha hb hx hy
  |true=>
   rw[if_pos ⟨rfl,rfl⟩];exact Bz ha hb hx hy _ rfl
end
theorem DA:∀(ps:List (Int×Int)),ps≠[]->fU ps=(ps.getD (ps.length-1) (0,0)).1
 |[],h=>absurd rfl h
 |[p],_=>rfl
 |p::q::r,_=>by
  have ih:=DA (q::r) (by simp);simp only[fU]at ih ⊢;rw[if_neg (by simp)];rw[ih];simp
theorem tM [Ol] {ao:Z'} {n ae:Nat} {ps:List (Int×Int)} {w:ah6} (h:Ml w ao n ae ps) (z:Int) (hz:fU (ET ps)=z):
  Calls Tryz.prog 148 #[ai0 ao n ae] w (cr (.int .i64 z) w):=by
 have HZ:=hid hz;have HM:=hid h;clear h hz;go_enter Tryz.func148,Tryz.ntmps148;go_wp2_with fail;refine(tQ HM.o).mono ?_;rintro e w1 ⟨mo,m,cm,rfl,hM,hB⟩;have hle:=hM.le;have hbig:=hM.big;obtain⟨qs,WS⟩:∃qs,qs=ET ps:=⟨_,rfl⟩;rw[<-WS]at HZ hM;have HQ:=hid hM;have HB:=hid hB;clear hM hB WS HM;by_cases hm:m=0
 ·subst hm;have hq:=HQ.o.empty rfl;have HE:Hid (z=0):=by rw[Hid,<-HZ.o,hq];rfl
  clear hq HZ HQ;go_wp2;go_ret;exact⟨fe HE.o.symm,HB.o⟩
 ·obtain⟨m,rfl⟩:∃k,m=k+1:=⟨m-1,by omega⟩;obtain⟨b,off,rfl,hb,hc⟩:=HQ.o.at (by omega);obtain⟨c1,_⟩:=hc m (by omega);have hl:=HQ.o.len
  have HE:Hid (z=(qs.getD m (0,0)).1):=by
   rw[Hid,<-HZ.o,DA qs (by intro h;rw[h]at hl;simp at hl),hl];simp
  obtain⟨u,hu⟩:∃u,u=(qs.getD m (0,0)).1:=⟨_,rfl⟩;rw[<-hu]at c1 HE;have g1:((m+1:Nat):Int)-1=(m:Int):=by omega
  have g2:(((m+1:Nat):Int)==0)=false:=by simp;omega
  clear hl hu hc HZ HQ hm;go_wp2;go_ret;exact⟨fe HE.o.symm,HB.o⟩
theorem KD [Ol] {ao:Z'} {n ae:Nat} {ps:List (Int×Int)} {w:ah6} (h:Ml w ao n ae ps):
  Calls Tryz.prog 119 #[ai0 ao n ae] w (λe w'=>∃mo m cm,e= .returned (ai0 mo m cm)/\ Mo w.heap.size w' mo m cm ps/\ Below w.heap.size w w'):=by
 have q1:∀(w:ah6) (a:Option Addr) (n c n' c':Nat),(binOp .eql 68 (ai0 a n c) (ai0 none n' c')).run Tryz.prog w= .ok (.bool a.isNone) w:=λw a n c n' c'=>Lib.run_eql_slice_nil w _ _ a n c n' c' Tryz.underlying68
 obtain⟨i0,hi,hz0,hz1,hz2⟩:=info_parts Tryz.mv;cases ao with
 |none=>
  have h1:=h.nil rfl;have h2:=h.le;obtain rfl:n=0:=by omega
  have hp:=h.empty rfl;have HP:Hid (ps=[]):=hp;clear h h1 h2 hp;go_enter Tryz.func119,Tryz.ntmps119;go_wp2;go_ret;exact⟨none,0,0,rfl,by rw[HP.o];exact Mo.nil _ _,ah8 _ _⟩
 |some ad=>
  have HS:=Lib.hid h;clear h;go_enter Tryz.func119,Tryz.ntmps119;go_wp2_with (at_builtin;refine DB w w rfl (.tmp 5) (.tmp 6) 68 rfl w.heap.size i0 (.agg #[.int .i64 0,.int .i64 0]) Tryz.underlying68 hi hz0 hz1 hz2 rfl rfl _ _ _ _ rfl HS.o (ah8 _ _) (ai3 _) ?_;intro mo cm w1 hM hB _;have HM:=Lib.hid hM;have HB:=Lib.hid hB;clear hM hB HS hi hz0 hz1 hz2);go_ret;exact⟨_,_,_,rfl,HM.o,HB.o⟩
section
variable {G:Nat} {lb:Array ah7} {v:Int}
end
end Go.Proofs.YtmenbpmciblnlaaGreatDoor
