/- MSide, MMayP, MJoin, MOne, MOps, MCmp, MDel -/
import Derived.Test.YtmenbpmciblnlaaGreatDoorGM1
import Derived.Shelf.Abstract
set_option maxHeartbeats 0
set_option maxRecDepth 100000
open Go.Value renaming slice->a0a
open List renaming drop_eq_nil_of_le->a0b
open Nat renaming le_refl->a0d,zero_add->a0e,zero_le->a0c
namespace Go.Proofs.YtmenbpmciblnlaaGreatDoor
open Lib (hid)
open Go.RowKit
theorem Ml.h0 [Ol] {w:World} {b off n cap:Nat} {p1 p2:Int} {r:List (Int×Int)} (h:Ml w (some ⟨b,off,none⟩) (n+1) cap ((p1,p2)::r)):w.cell? ⟨b,off,none⟩=some (.int .i64 p1):=by
 have:=(h.cells _ rfl 0 (by omega)).1;rw[Addr.add_lit]at this;simpa using this
theorem Ml.h1 [Ol] {w:World} {b off n cap:Nat} {p1 p2:Int} {r:List (Int×Int)} (h:Ml w (some ⟨b,off,none⟩) (n+1) cap ((p1,p2)::r)):w.cell? ⟨b,off+1,none⟩=some (.int .i64 p2):=by
 have:=(h.cells _ rfl 0 (by omega)).2;rw[Addr.add_lit]at this;simpa using this
theorem Ml.cons [Ol] {w:World} {ao:Option Addr} {n cap:Nat} {ps:List (Int×Int)} (h:Ml w ao (n+1) cap ps):∃b off p1 p2 r,ao=some ⟨b,off,none⟩/\ ps=(p1,p2)::r:=by
 obtain⟨b,off,rfl,_⟩:=h.at (by omega);have hl:=h.len
 match ps,hl with
 |(p1,p2)::r,_=>exact⟨b,off,p1,p2,r,rfl,rfl⟩
def R9:Value->Nat
 |a0a _ n _=>n
 | _=>0
def Xj (b off cap:Nat):Option Addr:=if cap=1 then some ⟨b,off,none⟩else some ⟨b,off+2,none⟩
theorem Ml.rest [Ol] {w:World} {b off n cap:Nat} {p:Int×Int} {r:List (Int×Int)} (h:Ml w (some ⟨b,off,none⟩) (n+1) cap (p::r)):Ml w (Xj b off cap) n (cap-1) r:=by
 unfold Xj;by_cases hc:cap=1
 ·obtain⟨h1,h2⟩:=Sb h hc;rw[if_pos hc,h2,hc];exact h1
 ·rw[if_neg hc];exact VA h
def Md [Ol] (w:World) (Inv:List (Int×Int×Int)->World->Prop) (a b:Value) (wr:World) (ts:List (Int×Int×Int)):Prop:=
 ∃(ao:Option Addr) (n cap:Nat) (bo:Option Addr) (m cb:Nat) (xs' ys':List (Int×Int)) (done:List (Int×Int×Int)),a=a0a ao n cap/\ b=a0a bo m cb/\
  Hid (Ml w ao n cap xs'/\ Ml w bo m cb ys')/\ Hid (ts=done++qZ xs' ys')/\ Hid (Inv done wr)
theorem Ik [Ol] {G:Nat} {lb:Array Value} (eg:∀args w,(callFunc G args).run Tryz.prog w= .ok (.enter G args) w) (Inv:List (Int×Int×Int)->World->Prop)
  {a0 b0:Option Addr} {la ca lc cc:Nat} {xs ys:List (Int×Int)} {w0 w:World} (ha:Ml w0 a0 la ca xs) (hb:Ml w0 b0 lc cc ys)
  (hS:∀done W W',Inv done W->Below W.heap.size W W'->Inv done W')
  (hB:∀done W,Inv done W->Below w0.heap.size w0 W)
  (hF:∀done t rest W,qZ xs ys=done++t::rest->Inv done W->Calls Tryz.prog G (#[.int .i64 t.1,.int .i64 t.2.1,.int .i64 t.2.2]++lb) W (λe w'=>e= .returned (.tuple #[])/\ Inv (done++[t]) w'))
  (h0:Inv [] w):
  Calls Tryz.prog 192 #[a0a a0 la ca,a0a b0 lc cc,.func (.func G) #[] lb] w (λe w'=>e= .returned (.tuple #[])/\ Inv (qZ xs ys) w'):=by
 have HF:=hid hF;have ZY:=hid hS;have HBw:=hid hB;obtain⟨ts,hts⟩:∃ts,ts=qZ xs ys:=⟨_,rfl⟩;rw[<-hts]at HF ⊢;have HI0:=hid h0;have Ci:Hid (Md w0 Inv (a0a a0 la ca) (a0a b0 lc cc) w ts):=⟨_,_,_,_,_,_,_,_,[],rfl,rfl,⟨ha,hb⟩,hts,h0⟩;clear hF hS hB h0 ha hb hts;go_enter Tryz.func192,Tryz.ntmps192;go_wp2;go_loopw [0,1] (λa b wr=>Md w0 Inv a b wr ts) (λa b _=>R9 a+R9 b)
 case atStart=>exact Ci.out
 case round=>
  clear Ci;obtain⟨ao,n,cap,bo,m,cb,xs',ys',done,rfl,rfl,HM,HT,HI⟩:=hrel;have hn1:=HM.out.1.le;have hn2:=HM.out.1.big;have hm1:=HM.out.2.le;have hm2:=HM.out.2.big;by_cases hn:n<=0
  ·have fn:decide (0<n)=false:=decide_eq_false (by omega);have fn2:decide ((0:Int)<(n:Int))=false:=decide_eq_false (by omega);have HT:=hid (HT.out.trans (by rw[L8 (.inl (HM.out.1.empty (by omega)))]));go_wp2;go_loopw [68] (λi wr=>∃(k:Nat) (done:List (Int×Int×Int)),k<=n/\ i= .int .i64 k/\ Hid (ts=done++((xs'.drop k).map (λp=>(p.1,p.2,(0:Int)))++ys'.map (λq=>(q.1,(0:Int),q.2))))/\ Hid (Inv done wr)) (λi _=>n-(intOf i).toNat)
   case atStart=>exact⟨0,done,a0c _,rfl,HT.out,HI.out⟩
   case round=>
    clear HT HI;obtain⟨k,done,hk,rfl,HT,HI⟩:=hrel;by_cases hkn:k<n
    ·exfalso;omega
    ·obtain rfl:k=n:=by omega
     have HT2:Hid (ts=done++ys'.map (λq=>(q.1,(0:Int),q.2))):=HT.out.trans (by rw[a0b (by rw[HM.out.1.len];exact a0d _)];rfl);clear HT;go_wp2;go_loopw [81] (λi wr=>∃(k:Nat) (done:List (Int×Int×Int)),k<=m/\ i= .int .i64 k/\ Hid (ts=done++(ys'.drop k).map (λq=>(q.1,(0:Int),q.2)))/\ Hid (Inv done wr)) (λi _=>m-(intOf i).toNat)
     case atStart=>exact⟨0,done,a0c _,rfl,HT2.out,HI.out⟩
     case round=>
      clear HT2 HI;obtain⟨j,done,hj,rfl,HT,HI⟩:=hrel;by_cases hjm:j<m
      ·have HX:=hid (HM.out.2.below (HBw.out _ _ HI.out));obtain⟨b,off,rfl,hb,hc⟩:=HX.out.at (by omega);obtain⟨c1,c2⟩:=hc j hjm;have HT2:=hid (HT.out.trans (by rw[map_drop _ (by rw[HX.out.len];exact hjm)]));clear hc HT;obtain⟨p,hp⟩:∃p,p=ys'.getD j (0,0):=⟨_,rfl⟩;rw[<-hp]at c1 c2 HT2;clear hp HX;obtain⟨v,e⟩:=p;go_wp2_with (go_at_fn G;refine(HF.out done (v,0,e) _ _ HT2.out (ZY.out _ _ _ HI.out (af _ _))).mono ?_;rintro e w2 ⟨rfl,hI2⟩;have HI2:=hid hI2;clear hI2);go_roundw
       case rel=>exact⟨j+1,done++[(v,0,e)],by omega,by go_num,by rw[Hid,HT2.out];simp,HI2.out⟩
       case measure=>simp[intOf];omega
      ·obtain rfl:j=m:=by omega
       go_wp2;go_end0;refine⟨rfl,?_⟩;have e2:=HT.out;rw[a0b (by rw[HM.out.2.len];exact a0d _)]at e2;rw[e2];simpa using HI.out
  ·by_cases hm:m<=0
   ·have hn0:0<n:=by omega
    have fn:decide (0<m)=false:=decide_eq_false (by omega);have fn2:decide ((0:Int)<(m:Int))=false:=decide_eq_false (by omega);have HT:=hid (HT.out.trans (by rw[L8 (.inr (HM.out.2.empty (by omega)))]));go_wp2;go_loopw [68] (λi wr=>∃(k:Nat) (done:List (Int×Int×Int)),k<=n/\ i= .int .i64 k/\ Hid (ts=done++((xs'.drop k).map (λp=>(p.1,p.2,(0:Int)))++ys'.map (λq=>(q.1,(0:Int),q.2))))/\ Hid (Inv done wr)) (λi _=>n-(intOf i).toNat)
    case atStart=>exact⟨0,done,a0c _,rfl,HT.out,HI.out⟩
    case round=>
     clear HT HI;obtain⟨k,done,hk,rfl,HT,HI⟩:=hrel;by_cases hkn:k<n
     ·have HX:=hid (HM.out.1.below (HBw.out _ _ HI.out));obtain⟨b,off,rfl,hb,hc⟩:=HX.out.at (by omega);obtain⟨c1,c2⟩:=hc k hkn;have HT2:=hid (HT.out.trans (by rw[map_drop _ (by rw[HX.out.len];exact hkn)]));clear hc HT;obtain⟨p,hp⟩:∃p,p=xs'.getD k (0,0):=⟨_,rfl⟩;rw[<-hp]at c1 c2 HT2;clear hp HX;obtain⟨v,e⟩:=p;go_wp2_with (go_at_fn G;refine(HF.out done (v,e,0) _ _ HT2.out (ZY.out _ _ _ HI.out (af _ _))).mono ?_;rintro e w2 ⟨rfl,hI2⟩;have HI2:=hid hI2;clear hI2);go_roundw
      case rel=>exact⟨k+1,done++[(v,e,0)],by omega,by go_num,by rw[Hid,HT2.out];simp,HI2.out⟩
      case measure=>simp[intOf];omega
     ·obtain rfl:k=n:=by omega
      have HT2:Hid (ts=done++ys'.map (λq=>(q.1,(0:Int),q.2))):=HT.out.trans (by rw[a0b (by rw[HM.out.1.len];exact a0d _)];rfl);clear HT;go_wp2;go_loopw [81] (λi wr=>∃(k:Nat) (done:List (Int×Int×Int)),k<=m/\ i= .int .i64 k/\ Hid (ts=done++(ys'.drop k).map (λq=>(q.1,(0:Int),q.2)))/\ Hid (Inv done wr)) (λi _=>m-(intOf i).toNat)
      case atStart=>exact⟨0,done,a0c _,rfl,HT2.out,HI.out⟩
      case round=>
       clear HT2 HI;obtain⟨j,done,hj,rfl,HT,HI⟩:=hrel;by_cases hjm:j<m
       ·exfalso;omega
       ·obtain rfl:j=m:=by omega
        go_wp2;go_end0;refine⟨rfl,?_⟩;have e2:=HT.out;rw[a0b (by rw[HM.out.2.len];exact a0d _)]at e2;rw[e2];simpa using HI.out
   ·obtain⟨n,rfl⟩:∃k,n=k+1:=⟨n-1,by omega⟩;obtain⟨m,rfl⟩:∃k,m=k+1:=⟨m-1,by omega⟩;clear hn hm;obtain⟨b,off,p1,p2,r,rfl,rfl⟩:=HM.out.1.cons;obtain⟨b2,off2,q1,q2,s,rfl,rfl⟩:=HM.out.2.cons;have HS:=HM;go_upto_region 1 with(fail)
    have S0:=hid (Sx.start (w:=wr) (N:=[.ml (some ⟨b,off,none⟩) (n+1) cap ((p1,p2)::r),.ml (some ⟨b2,off2,none⟩) (m+1) cb ((q1,q2)::s)]) ⟨HS.out.1.below (HBw.out _ _ HI.out),HS.out.2.below (HBw.out _ _ HI.out),trivial⟩);go_cut [6,7]from 20 to 26 (λsl0 sl1 w9=>∃(YI:Nat) (qb7:Nat),sl0= .pointer (some ⟨YI,0,none⟩)/\ sl1= .pointer (some ⟨qb7,0,none⟩)/\ Hid (Sx wr w9 [⟨qb7,[.int .i64 q1,.int .i64 q2]⟩,⟨YI,[.int .i64 p1,.int .i64 p2]⟩] [.ml (some ⟨b,off,none⟩) (n+1) cap ((p1,p2)::r),.ml (some ⟨b2,off2,none⟩) (m+1) cb ((q1,q2)::s)]))
    case first=>
     have S1:=hid (S0.out.drew);clear S0;refine wp_region_held_drew (S:=λw'=>w'.cell? ⟨b,off,none⟩=some (.int .i64 p1)/\ w'.cell? ⟨b,off+1,none⟩=some (.int .i64 p2)/\ w'.cell? ⟨b2,off2,none⟩=some (.int .i64 q1)/\ w'.cell? ⟨b2,off2+1,none⟩=some (.int .i64 q2)) (by kernel_rfl) (⟨S1.out.n.ml.h0,S1.out.n.ml.h1,S1.out.n.t.ml.h0,S1.out.n.t.ml.h1⟩) (λhH=>?_);refine ai (λw1 hW=>?_);rw[<-hW]at S1 hH;clear hW;refine aQ 0 hH ?_;try simp only[ax]
     refine aQ 1 hH ?_;try simp only[ax]
     refine aQ 2 hH ?_;try simp only[ax]
     refine aQ 3 hH ?_;try simp only[ax]
     refine aQ 4 hH ?_;try simp only[ax]
     refine aQ 5 hH ?_;try simp only[ax]
     refine wpAnyH_ready (rs:=[6,7]) (by kernel_rfl) (by simp) (aO rfl (λK hK=>?_) (aO rfl (λK hK=>?_) (AllReadyH.nil)))
     ·go_simp;have S2:=hid (S1.out.var (w1.heap.size) [.int .i64 0,.int .i64 0] 72 (by simp));clear S1;refine hK.out _ _ ⟨S2.out.n.ml.h0,S2.out.n.ml.h1,S2.out.n.t.ml.h0,S2.out.n.t.ml.h1⟩ (λh2=>?_);clear hK K hH;have hH:=h2;clear h2
      try simp only[ax]
      refine ai (λw2 hW=>?_);rw[<-hW]at S2 hH;clear hW;refine ah 7 rfl (by kernel_rfl) (λK hK=>?_);go_simp;have S3:=hid (S2.out.var (w2.heap.size) [.int .i64 0,.int .i64 0] 72 (by simp));clear S2;refine hK.out _ _ ⟨S3.out.n.ml.h0,S3.out.n.ml.h1,S3.out.n.t.ml.h0,S3.out.n.t.ml.h1⟩ (λh2=>?_);clear hK K hH;have hH:=h2;clear h2
      try simp only[ax]
      refine ai (λw3 hW=>?_);rw[<-hW]at S3 hH;clear hW;refine ah 8 rfl (by kernel_rfl) (λK hK=>?_);obtain⟨dQ,dR⟩:=S3.out.b.t.c2;obtain⟨dZ,eu⟩:=S3.out.b.t.f2;go_simp;clear dQ dR dZ eu;have S4:Hid (Sx wr _ [⟨(w2.heap.size),[.int .i64 0,.int .i64 0]⟩,⟨(w1.heap.size),[.int .i64 p1,.int .i64 p2]⟩] _):=hid (Sx.set [⟨(w2.heap.size),[.int .i64 0,.int .i64 0]⟩] [] (Sx.set [⟨(w2.heap.size),[.int .i64 0,.int .i64 0]⟩] [] S3.out 0 (.int .i64 p1)) 1 (.int .i64 p2));clear S3;refine hK.out _ _ ⟨S4.out.n.ml.h0,S4.out.n.ml.h1,S4.out.n.t.ml.h0,S4.out.n.t.ml.h1⟩ (λh2=>?_);clear hK K hH;have hH:=h2;clear h2
      try simp only[ax]
      refine ai (λw4 hW=>?_);rw[<-hW]at S4 hH;clear hW;refine ah 9 rfl (by kernel_rfl) (λK hK=>?_);obtain⟨Bt,Bu⟩:=S4.out.b.c2;obtain⟨KD,KE⟩:=S4.out.b.f2;go_simp;clear Bt Bu KD KE;have S5:Hid (Sx wr _ [⟨(w2.heap.size),[.int .i64 q1,.int .i64 q2]⟩,⟨(w1.heap.size),[.int .i64 p1,.int .i64 p2]⟩] _):=hid (Sx.set [] [⟨(w1.heap.size),[.int .i64 p1,.int .i64 p2]⟩] (Sx.set [] [⟨(w1.heap.size),[.int .i64 p1,.int .i64 p2]⟩] S4.out 0 (.int .i64 q1)) 1 (.int .i64 q2));clear S4;refine hK.out _ _ ⟨S5.out.n.ml.h0,S5.out.n.ml.h1,S5.out.n.t.ml.h0,S5.out.n.t.ml.h1⟩ (λh2=>?_);clear hK K hH;have hH:=h2;clear h2
      try simp only[ax]
      refine ai (λw5 hW=>?_);rw[<-hW]at S5 hH;clear hW;refine wpAnyH_done (by kernel_rfl) ?_ _
      clear hH;go_wp2_with fail;go_meet
      case rel=>exact⟨_,_,rfl,rfl,S5.out⟩
     ·go_simp;have S2:=hid (S1.out.var (w1.heap.size) [.int .i64 0,.int .i64 0] 72 (by simp));clear S1;refine hK.out _ _ ⟨S2.out.n.ml.h0,S2.out.n.ml.h1,S2.out.n.t.ml.h0,S2.out.n.t.ml.h1⟩ (λh2=>?_);clear hK K hH;have hH:=h2;clear h2
      try simp only[ax]
      refine ai (λw2 hW=>?_);rw[<-hW]at S2 hH;clear hW;refine ah 6 rfl (by kernel_rfl) (λK hK=>?_);go_simp;have S3:=hid (S2.out.var (w2.heap.size) [.int .i64 0,.int .i64 0] 72 (by simp));clear S2;refine hK.out _ _ ⟨S3.out.n.ml.h0,S3.out.n.ml.h1,S3.out.n.t.ml.h0,S3.out.n.t.ml.h1⟩ (λh2=>?_);clear hK K hH;have hH:=h2;clear h2
      try simp only[ax]
      refine ai (λw3 hW=>?_);rw[<-hW]at S3 hH;clear hW;refine ah 8 rfl (by kernel_rfl) (λK hK=>?_);obtain⟨dQ,dR⟩:=S3.out.b.c2;obtain⟨dZ,eu⟩:=S3.out.b.f2;go_simp;clear dQ dR dZ eu;have S4:Hid (Sx wr _ [⟨(w2.heap.size),[.int .i64 p1,.int .i64 p2]⟩,⟨(w1.heap.size),[.int .i64 0,.int .i64 0]⟩] _):=hid (Sx.set [] [⟨(w1.heap.size),[.int .i64 0,.int .i64 0]⟩] (Sx.set [] [⟨(w1.heap.size),[.int .i64 0,.int .i64 0]⟩] S3.out 0 (.int .i64 p1)) 1 (.int .i64 p2));clear S3;refine hK.out _ _ ⟨S4.out.n.ml.h0,S4.out.n.ml.h1,S4.out.n.t.ml.h0,S4.out.n.t.ml.h1⟩ (λh2=>?_);clear hK K hH;have hH:=h2;clear h2
      try simp only[ax]
      refine ai (λw4 hW=>?_);rw[<-hW]at S4 hH;clear hW;refine ah 9 rfl (by kernel_rfl) (λK hK=>?_);obtain⟨Bt,Bu⟩:=S4.out.b.t.c2;obtain⟨KD,KE⟩:=S4.out.b.t.f2;go_simp;clear Bt Bu KD KE;have S5:Hid (Sx wr _ [⟨(w2.heap.size),[.int .i64 p1,.int .i64 p2]⟩,⟨(w1.heap.size),[.int .i64 q1,.int .i64 q2]⟩] _):=hid (Sx.set [⟨(w2.heap.size),[.int .i64 p1,.int .i64 p2]⟩] [] (Sx.set [⟨(w2.heap.size),[.int .i64 p1,.int .i64 p2]⟩] [] S4.out 0 (.int .i64 q1)) 1 (.int .i64 q2));clear S4;refine hK.out _ _ ⟨S5.out.n.ml.h0,S5.out.n.ml.h1,S5.out.n.t.ml.h0,S5.out.n.t.ml.h1⟩ (λh2=>?_);clear hK K hH;have hH:=h2;clear h2
      try simp only[ax]
      refine ai (λw5 hW=>?_);rw[<-hW]at S5 hH;clear hW;refine wpAnyH_done (by kernel_rfl) ?_ _
      clear hH;go_wp2_with fail;go_meet
      case rel=>exact⟨_,_,rfl,rfl,S5.out.swap⟩
    case rest=>
    clear S0;obtain⟨YI,qb7,rfl,rfl,S1⟩:=hcut;obtain⟨w6,hW⟩:∃w6,w6=wc:=⟨_,rfl⟩;rw[<-hW]at S1 ⊢;clear hW;obtain⟨am0,am1⟩:=S1.out.b.t.c2;obtain⟨am2,am3⟩:=S1.out.b.c2;rcases Int.lt_trichotomy p1 q1 with g|g|g
    ·have HT2:=hid (HT.out.trans (by rw[Bf _ _ g]));have f1:decide (p1<q1)=true:=decide_eq_true g;go_wp2_with (go_at_fn G;(refine(HF.out done (p1,p2,0) _ _ HT2.out (ZY.out _ _ _ HI.out S1.out.h)).mono ?_);rintro e w2 ⟨rfl,hI2⟩;have HI2:=hid hI2;clear hI2);go_roundw
     case rel=>exact⟨_,n,cap-1,_,m+1,cb,r,(q1,q2)::s,done++[(p1,p2,0)],rfl,rfl,⟨HM.out.1.rest,HM.out.2⟩,by rw[Hid,HT2.out];simp,HI2.out⟩
     case measure=>simp[R9];try omega
    ·have HT2:=hid (HT.out.trans (by rw[Bh _ _ g]));subst g;go_wp2_with (go_at_fn G;(refine(HF.out done (p1,p2,q2) _ _ HT2.out (ZY.out _ _ _ HI.out S1.out.h)).mono ?_);rintro e w2 ⟨rfl,hI2⟩;have HI2:=hid hI2;clear hI2);go_quiet (fail);go_wp2;go_roundw
     case rel=>exact⟨_,n,cap-1,_,m,cb-1,r,s,done++[(p1,p2,q2)],rfl,rfl,⟨HM.out.1.rest,HM.out.2.rest⟩,by rw[Hid,HT2.out];simp,ZY.out _ _ _ HI2.out (_root_.Go.below_drewN (Below.refl _ _) _)⟩
     case measure=>simp[R9];try omega
    ·have HT2:=hid (HT.out.trans (by rw[Bg _ _ g]));have f1:decide (p1<q1)=false:=decide_eq_false (by omega);have f2:decide (q1<p1)=true:=decide_eq_true g;go_wp2_with (go_at_fn G;(refine(HF.out done (q1,0,q2) _ _ HT2.out (ZY.out _ _ _ HI.out S1.out.h)).mono ?_);rintro e w2 ⟨rfl,hI2⟩;have HI2:=hid hI2;clear hI2);go_roundw
     case rel=>exact⟨_,n+1,cap,_,m,cb-1,(p1,p2)::r,s,done++[(q1,0,q2)],rfl,rfl,⟨HM.out.1,HM.out.2.rest⟩,by rw[Hid,HT2.out];simp,HI2.out⟩
     case measure=>simp[R9];try omega
open Lib (hid)
theorem ji [Ol] (r:Bool) {ao:Option Addr} {n cap:Nat} {ps:List (Int×Int)} {w:World} (h:Ml w ao n cap ps) (hr:aZ 0 ps=r):
  Calls Tryz.prog 90 #[a0a ao n cap] w (cu (.bool r) w):=by
 have hle:=h.le;have hbig:=h.big;have HM:=hid h;clear h;go_enter Tryz.func90,Tryz.ntmps90;go_wp2;go_loopw [3,8] (λo i wr=>∃k:Nat,∃lo:Int,k<=n/\ i= .int .i64 k/\ o= .int .i64 lo/\ Hid (lo=Vs ps k/\ 0<=lo)/\ Hid (aZ lo (ps.drop k)=r)/\ Hid (Ml wr ao n cap ps/\ Below w.heap.size w wr)) (λ_ i _=>n-(intOf i).toNat)
 case atStart=>exact⟨0,0,a0c _,rfl,rfl,⟨rfl,Int.le_refl 0⟩,by rw[Hid,List.drop_zero];exact hr,HM.out,Below.refl _ _⟩
 case round=>
  clear HM;obtain⟨k,lo,hk,rfl,rfl,HL,HR,HS⟩:=hrel;have HM:=hid HS.out.1;by_cases hkn:k<n
  ·obtain⟨b,off,rfl,hb,hc⟩:=HM.out.at (by omega);obtain⟨c1,c2⟩:=hc k hkn;have HR2:=hid ((DN ps k lo (by rw[HM.out.len];exact hkn)).symm.trans HR.out);clear HR hc;obtain⟨v,hv⟩:∃v,v=(ps.getD k (0,0)).1:=⟨_,rfl⟩;obtain⟨e,he⟩:∃v,v=(ps.getD k (0,0)).2:=⟨_,rfl⟩;rw[<-hv]at c1;rw[<-he]at c2;have HV:=hid hv;have HE:=hid he;clear hv he;by_cases g0:v<=lo
   ·have f0:decide (v<=lo)=true:=decide_eq_true (by omega);go_wp2;go_ret;exact⟨jd (by rw[<-HR2.out];unfold El;rw[<-HV.out,<-HE.out];have:=HL.out;simp;omega),(Below.steps HS.out.2 (af _ _))⟩
   ·have f0:decide (v<=lo)=false:=decide_eq_false (by omega);by_cases g1:200<v
    ·have f1:decide (200<v)=true:=decide_eq_true (by omega);go_wp2;go_ret;exact⟨jd (by rw[<-HR2.out];unfold El;rw[<-HV.out,<-HE.out];have:=HL.out;simp;omega),(Below.steps HS.out.2 (af _ _))⟩
    ·have f1:decide (200<v)=false:=decide_eq_false (by omega);by_cases g2:e<1
     ·have f2:decide (e<1)=true:=decide_eq_true (by omega);go_wp2;go_ret;exact⟨jd (by rw[<-HR2.out];unfold El;rw[<-HV.out,<-HE.out];have:=HL.out;simp;omega),(Below.steps HS.out.2 (af _ _))⟩
     ·have f2:decide (e<1)=false:=decide_eq_false (by omega);by_cases g3:10000<e
      ·have f3:decide (10000<e)=true:=decide_eq_true (by omega);go_wp2;go_ret;exact⟨jd (by rw[<-HR2.out];unfold El;rw[<-HV.out,<-HE.out];have:=HL.out;simp;omega),(Below.steps HS.out.2 (af _ _))⟩
      ·have f3:decide (10000<e)=false:=decide_eq_false (by omega);go_wp2;go_roundw
       case rel=>exact⟨k+1,v,by omega,by go_num,rfl,⟨HV.out,by have:=HL.out;omega⟩,by rw[Hid,<-HR2.out,KF (show lo<_ by rw[<-HV.out];omega) (by rw[<-HV.out];omega) (by rw[<-HE.out];omega) (by rw[<-HE.out];omega),HV.out];rfl,HM.out.below (af _ _),(Below.steps HS.out.2 (af _ _))⟩
       case measure=>simp[intOf];omega
  ·obtain rfl:k=n:=by omega
   go_wp2;go_ret;have e2:=HR.out;rw[a0b (by rw[HM.out.len];exact a0d _)]at e2;exact⟨jd (by rw[<-e2];rfl),HS.out.2⟩
theorem Ot [Ol] {ao:Option Addr} {n cap:Nat} {ps:List (Int×Int)} {w:World} (h:Ml w ao n cap ps) (hr:aZ 0 ps=true):
  Calls Tryz.prog 172 #[a0a ao n cap] w (cu (a0a ao n cap) w):=by
 go_enter Tryz.func172,Tryz.ntmps172;go_wp2_with fail;refine(ji true h hr).mono ?_;rintro e w' ⟨rfl,hB⟩;go_wp2_with fail;go_ret;exact⟨rfl,hB⟩
theorem Sc [Ol] {ao:Option Addr} {n cap:Nat} {ps:List (Int×Int)} {w:World} (h:Ml w ao n cap ps) (hr:aZ 0 ps=false):
  Calls Tryz.prog 172 #[a0a ao n cap] w (cu (a0a none 0 0) w):=by
 go_enter Tryz.func172,Tryz.ntmps172;go_wp2_with fail;refine(ji false h hr).mono ?_;rintro e w' ⟨rfl,hB⟩;go_wp2_with fail;go_ret;exact⟨rfl,hB⟩
theorem Ou [Ol] {ao:Option Addr} {n cap:Nat} {ps:List (Int×Int)} {w:World} (h:Ml w ao n cap ps):
  Calls Tryz.prog 172 #[a0a ao n cap] w (YP w (orM ps)):=by
 cases hr:aZ 0 ps with
 |true=>exact(Ot h hr).mono λe w' ⟨he,hB⟩=>⟨ao,n,cap,he,by rw[qg hr];exact h.below hB,hB⟩
 |false=>exact(Sc h hr).mono λe w' ⟨he,hB⟩=>⟨none,0,0,he,by rw[RX hr];exact Ml.zero _,hB⟩
open Lib (hid)
def qY (w:World) (b:Nat) (v:Value) (T:TypeId):Prop:=w.heap[b]? =some (.cells #[v] T (0,0))
theorem qY.lt {w:World} {b:Nat} {v:Value} {T:TypeId} (h:qY w b v T):b<w.heap.size:=lt_of_block h
theorem qY.new (w:World) (v:Value) (T:TypeId):qY (w.alloc (.cells #[v] T)) w.heap.size v T:=by
 show(w.heap.push _)[w.heap.size]? =_;rw[Array.getElem?_push_size]
theorem qY.cell {w:World} {b:Nat} {v:Value} {T:TypeId} (h:qY w b v T):w.cell? ⟨b,0,none⟩=some v:=by
 unfold qY at h;simp[World.cell?,h]
theorem qY.fz {w:World} {b:Nat} {v:Value} {T:TypeId} (h:qY w b v T):w.frozen? ⟨b,0,none⟩=false:=by
 unfold qY at h;simp[World.frozen?,h]
theorem qY.keep {w w':World} {b:Nat} {v:Value} {T:TypeId} (h:qY w b v T) (e:w'.heap[b]? =w.heap[b]?):qY w' b v T:=e.trans h
theorem qY.below {w w':World} {b:Nat} {v:Value} {T:TypeId} (h:qY w b v T) (hb:Below w.heap.size w w'):qY w' b v T:=h.keep (hb.block b h.lt)
theorem qY.set {w:World} {b:Nat} {v:Value} {T:TypeId} (h:qY w b v T) (u:Value):qY (w.setCell ⟨b,0,none⟩ u) b u T:=by
 unfold qY at h ⊢;simp[World.setCell,Array.getElem?_modify,h]
theorem qY.far {w:World} {b c:Nat} {v:Value} {T:TypeId} (h:qY w b v T) (hc:c≠b) (o:Nat) (u:Value):qY (w.setCell ⟨c,o,none⟩ u) b v T:=
 h.keep (Below.heap_setCell _ _ _ _ (λe=>hc e.symm))
theorem Mo.far {B:Nat} {w:World} {ao:Option Addr} {n cap:Nat} {ps:List (Int×Int)} (h:Mo B w ao n cap ps) {b:Nat} {v:Value} {T:TypeId} (hc:qY w b v T) (hT:T≠72) (o:Nat) (u:Value):Mo B (w.setCell ⟨b,o,none⟩ u) ao n cap ps:=by
 refine h.keep λa ha=>Below.heap_setCell _ _ _ _ λe=>?_
 rcases h.parts with⟨h1,_⟩|⟨g,cur,h1,_,_,_,hh⟩
 ·rw[h1]at ha;cases ha
 ·rw[h1]at ha;cases ha;have e':g=b:=e;subst e';unfold qY at hc;rw[hc]at hh;cases hh;exact hT rfl
theorem qY.grown {B:Nat} {w w':World} {o:Obj} {ao:Option Addr} {n cap:Nat} {ps:List (Int×Int)} {b:Nat} {v:Value} {T:TypeId} (h:qY w b v T) (hM:Mo B w ao n cap ps) (hT:T≠72) (hG:(w.alloc o).grownBy w' (a0a ao n cap).ownBlock):qY w' b v T:=by
 refine(h.below (af w o)).keep (hG.block b (by have:=h.lt;simp;omega) λe=>?_);rcases hM.parts with⟨rfl,_⟩|⟨g,cur,rfl,_,_,_,hh⟩
 ·cases e
 ·have e':b=g:=Option.some.inj e;subst e';unfold qY at h;rw[h]at hh;cases hh;exact hT rfl
structure JInv (w0:World) (c k J:Nat) (f:Int->Int->Int) (done:List (Int×Int×Int)) (w:World):Prop where
 m:∃ao cap,Mo w0.heap.size w ao (gY f done).length cap (gY f done)/\ qY w c (.slice ao (gY f done).length cap) 68
 fn:qY w k (.func (.func J) #[] #[]) 170
 below:Below w0.heap.size w0 w
 hc:w0.heap.size<=c
theorem JInv.stable {w0:World} {c k J:Nat} {f:Int->Int->Int} {done:List (Int×Int×Int)} {w w':World} (h:JInv w0 c k J f done w) (hb:Below w.heap.size w w'):JInv w0 c k J f done w':=by
 obtain⟨ao,cap,h1,h2⟩:=h.m;exact⟨⟨ao,cap,h1.below hb,h2.below hb⟩,h.fn.below hb,Below.steps h.below hb,h.hc⟩
def Fn2 (J:Nat) (f:Int->Int->Int):Prop:=∀(x y:Int) (w:World),(0<=x/\ x<=10000)->(0<=y/\ y<=10000)->Calls Tryz.prog J #[.int .i64 x,.int .i64 y] w (λe w'=>e= .returned (.int .i64 (f x y))/\ w=w')
theorem Fp {J:Nat} {f:Int->Int->Int} (eJ:∀args w,(callFunc J args).run Tryz.prog w= .ok (.enter J args) w) (hJ:Fn2 J f) {w0 w:World} {c k:Nat} {done:List (Int×Int×Int)} {v x y:Int}
  (hv:gQ v) (hf:gQ (f x y)) (hx:0<=x/\ x<=10000) (hy:0<=y/\ y<=10000) (hn:done.length<=400) (h:JInv w0 c k J f done w):
  Calls Tryz.prog 208 #[.int .i64 v,.int .i64 x,.int .i64 y,.pointer (some ⟨k,0,none⟩),.pointer (some ⟨c,0,none⟩)] w (λe w'=>e= .returned (.tuple #[])/\ JInv w0 c k J f (done++[(v,x,y)]) w'):=by
 obtain⟨i0,hi,hz0,hz1,hz2⟩:=info_parts Tryz.rA;obtain⟨ao,cap,hM,hC⟩:=h.m;have ck:=h.fn.cell;have cc:=hC.cell;have fc:=hC.fz;have lc:=hC.lt;have lk:=h.fn.lt;have hln:=DR f done;obtain⟨n,hnn⟩:∃n,(gY f done).length=n:=⟨_,rfl⟩;obtain⟨z,hz⟩:∃z,f x y=z:=⟨_,rfl⟩;have HJ:=hid (hJ x y w hx hy);rw[hz]at HJ hf;rw[hnn]at hM hC cc;have hn4:n<=400:=by omega
 have HI:=hid h;have HM:=hid hM;have HC:=hid hC;have HN:=hid hnn;have HZ:=hid hz;have HV:=hid hv;have HF:=hid hf;clear h hM hC hnn hz hJ hx hy hn hln hv hf;by_cases g:z=0
 ·subst g;go_enter Tryz.func208,Tryz.ntmps208;go_wp2_with (go_at_fn J;(refine HJ.out.mono ?_);rintro e w' ⟨rfl,rfl⟩);go_end0;exact⟨rfl,⟨by rw[zh _ HZ.out,HN.out];exact⟨ao,cap,HM.out,HC.out⟩,HI.out.fn,HI.out.below,HI.out.hc⟩⟩
 ·have g1:(z==0)=false:=by simpa using g
  have g2:(z !=0)=true:=by simpa using g
  have HG:=hid g;clear g;go_enter Tryz.func208,Tryz.ntmps208
  go_wp2_with (first
   |(go_at_fn J;(refine HJ.out.mono ?_);rintro e w' ⟨rfl,rfl⟩)
   |(at_builtin;refine wO w w0 rfl (.tmp 15) (.tmp 19) 68 rfl w0.heap.size i0 (.agg #[.int .i64 0,.int .i64 0]) Tryz.underlying68 hi hz0 hz1 hz2 rfl ao n cap (gY f done) rfl HM.out v z HV.out HF.out _ rfl HI.out.below HI.out.below.size (by omega) ?_;intro Il cap2 w2 hM2 hB2 hG2;have HM2:=hid hM2;have HB2:=hid hB2;have Yw:=hid (HC.out.grown HM.out (by decide) hG2);have bL:=hid (HI.out.fn.grown HM.out (by decide) hG2);clear hM2 hB2 hG2 cc fc ck lc lk;have cc:=Yw.out.cell;have fc:=Yw.out.fz))
  go_end0;have e2:=HN.out;refine⟨rfl,⟨?_,bL.out.far ?_ _ _,HB2.out.setCell HI.out.hc _,HI.out.hc⟩⟩
  ·rw[Kw _ (by rw[HZ.out];exact HG.out),HZ.out];simp only[List.length_append,List.length_cons,List.length_nil,e2];exact⟨Il,cap2,HM2.out.far Yw.out (by decide) _ _,Yw.out.set _⟩
  ·intro e;subst e;have h1:=Yw.out;have h2:=bL.out;unfold qY at h1 h2;rw[h1]at h2;cases h2
theorem KG [Ol] {J:Nat} {f:Int->Int->Int} (eJ:∀args w,(callFunc J args).run Tryz.prog w= .ok (.enter J args) w) (hJ:Fn2 J f) (hf:∀x y:Int,(0<=x/\ x<=10000)->(0<=y/\ y<=10000)->gQ (f x y))
  {a0 b0:Option Addr} {la ca lc cc:Nat} {xs ys:List (Int×Int)} {w:World} (ha:Ml w a0 la ca xs) (hb:Ml w b0 lc cc ys) (hx:aZ 0 xs=true) (hy:aZ 0 ys=true):
  Calls Tryz.prog 171 #[a0a a0 la ca,a0a b0 lc cc,.func (.func J) #[] #[]] w (YP w (joinL f xs ys)):=by
 have eg:∀args w,(callFunc 208 args).run Tryz.prog w= .ok (.enter 208 args) w:=enters_of Tryz.func208 (by kernel_rfl) rfl;have h1:=zF hx;have h2:=zF hy;have h3:=ha.len;have h4:=hb.len;have hla:la<=200:=by omega
 have hlc:lc<=200:=by omega
 have htl:=zL _ xs ys (a0d _)
 have hmem:∀t∈qZ xs ys,gQ t.1/\ (0<=t.2.1/\ t.2.1<=10000)/\ (0<=t.2.2/\ t.2.2<=10000):=
  zM (P:=gQ) (Q:=λz=>0<=z/\ z<=10000) (by omega) _ xs ys (a0d _) (λp hp=>⟨by have:=(qA hx (by omega) p hp).1;unfold gQ;omega,(qA hx (by omega) p hp).2⟩) (λp hp=>⟨by have:=(qA hy (by omega) p hp).1;unfold gQ;omega,(qA hy (by omega) p hp).2⟩)
 have hF:∀(c k:Nat) done t rest W,qZ xs ys=done++t::rest->JInv w c k J f done W->Calls Tryz.prog 208 (#[.int .i64 t.1,.int .i64 t.2.1,.int .i64 t.2.2]++ #[.pointer (some ⟨k,0,none⟩),.pointer (some ⟨c,0,none⟩)]) W (λe w'=>e= .returned (.tuple #[])/\ JInv w c k J f (done++[t]) w'):=by
  intro c k done t rest W ht hI;have hm:=hmem t (by rw[ht];simp);have hl:done.length<=400:=by rw[ht]at htl;simp at htl;omega
  exact Fp eJ hJ hm.1 (hf _ _ hm.2.1 hm.2.2) hm.2.1 hm.2.2 hl hI
 have HF:=hid hF;have HA:=hid ha;have HB:=hid hb;clear hF hmem htl h1 h2 h3 h4 ha hb hx hy hf hJ eJ;obtain⟨i0,hi,hz0,hz1,hz2⟩:=info_parts Tryz.rA;go_enter Tryz.func171,Tryz.ntmps171;go_wp2_with (at_make;refine wpList_make_own _ rfl _ _ 68 rfl w.heap.size 72 i0 (.agg #[.int .i64 0,.int .i64 0]) 2 Tryz.underlying68 hi hz0 hz1 _ _ _ (la+lc) rfl rfl (by omega) ?b2 ?b3 (by simp) ?_)
 case b2=>rw[hz2];omega
 case b3=>unfold maxLen;omega
 intro w1 hO hG;have HM1:Hid (Mo w.heap.size w1 _ 0 _ []):=hid ⟨hO,by omega,λ_ h=>by cases h⟩;have aL:Hid (qY w1 w.heap.size (.func (.func J) #[] #[]) 170):=hid ((qY.new w _ _).keep (hG.block w.heap.size (by simp) (by simp)));have HB1:=hid ((af w _).grown hG (by simp) (by intro k hk;cases hk));clear hO hG hi hz0 hz1 hz2;go_wp2_with fail;refine(Ik eg (JInv w w1.heap.size w.heap.size J f) (w0:=w) HA.out HB.out (λ_ _ _ h hb=>h.stable hb) (λ_ _ h=>h.below) (HF.out _ _) ⟨⟨_,_,HM1.out.below (af _ _),qY.new _ _ _⟩,aL.out.below (af _ _),Below.steps HB1.out (af _ _),HB1.out.size⟩).mono ?_;rintro e w3 ⟨rfl,hI⟩;obtain⟨ao,cap,hM,hC⟩:=hI.m;have HM:=hid hM;have HB3:=hid hI.below;have cc:=hC.cell;obtain⟨n,hn⟩:∃n,n=(gY f (qZ xs ys)).length:=⟨_,rfl⟩;rw[<-hn]at HM cc;clear hM hC hI hn HM1 aL HF HA HB HB1;go_wp2_with fail;go_ret;exact⟨_,_,_,rfl,HM.out.ml,HB3.out⟩
open Lib (hid)
section
variable {J:Nat} {f:Int->Int->Int} {a0 b0:Option Addr} {la ca lc cc:Nat} {xs ys:List (Int×Int)} {w:World}
theorem CB [Ol] (er:Int) (ha:Ml w a0 la ca xs) (hx:aZ 0 xs=false) (F:Value):
  Calls Tryz.prog 120 #[.int .i64 er,a0a a0 la ca,a0a b0 lc cc,F] w (wP w [] 2):=by
 go_enter Tryz.func120,Tryz.ntmps120;go_wp2_with fail;refine(ji false ha hx).mono ?_;rintro e w1 ⟨rfl,hB⟩;go_wp2_with fail;go_ret2;exact⟨none,0,0,rfl,Ml.zero _,hB⟩
theorem CF [Ol] (er:Int) (ha:Ml w a0 la ca xs) (hb:Ml w b0 lc cc ys) (hx:aZ 0 xs=true) (hy:aZ 0 ys=false) (F:Value):
  Calls Tryz.prog 120 #[.int .i64 er,a0a a0 la ca,a0a b0 lc cc,F] w (wP w [] 2):=by
 have vS:=hid hb;clear hb;go_enter Tryz.func120,Tryz.ntmps120;go_wp2_with fail;refine(ji true ha hx).mono ?_;rintro e w1 ⟨rfl,hB⟩;have HB:=hid hB;have HY:=hid (vS.out.below hB);clear hB ha hx vS;go_wp2_with fail;refine(ji false HY.out hy).mono ?_;rintro e w2 ⟨rfl,hB⟩;go_wp2_with fail;go_ret2;exact⟨none,0,0,rfl,Ml.zero _,Below.steps HB.out hB⟩
theorem CG [Ol] (er:Int) (r:Bool) (eJ:∀args w,(callFunc J args).run Tryz.prog w= .ok (.enter J args) w) (hJ:Fn2 J f) (hf:∀x y:Int,(0<=x/\ x<=10000)->(0<=y/\ y<=10000)->gQ (f x y))
  (ha:Ml w a0 la ca xs) (hb:Ml w b0 lc cc ys) (hx:aZ 0 xs=true) (hy:aZ 0 ys=true) (hr:aZ 0 (joinL f xs ys)=r) (qs:List (Int×Int)) (z:Int) (hq:qs=if r=true then joinL f xs ys else[]) (hz:z=if r=true then 0 else er):
  Calls Tryz.prog 120 #[.int .i64 er,a0a a0 la ca,a0a b0 lc cc,.func (.func J) #[] #[]] w (wP w qs z):=by
 have HQ:=hid hq;have HZ:=hid hz;clear hq hz;have HX:=hid hx;have HY:=hid hy;have HR:=hid hr;have HA:=hid ha;have vS:=hid hb;have EJ:=hid eJ;have HJ:=hid hJ;have HF:=hid hf;clear hx hy hr ha hb eJ hJ hf;go_enter Tryz.func120,Tryz.ntmps120;go_wp2_with fail;refine(ji true HA.out HX.out).mono ?_;rintro e w1 ⟨rfl,hB⟩;have HB1:=hid hB;have HA1:=hid (HA.out.below hB);have Hg:=hid (vS.out.below hB);clear hB vS HA;go_wp2_with fail;refine(ji true Hg.out HY.out).mono ?_;rintro e w2 ⟨rfl,hB⟩;have HB2:=hid (Below.steps HB1.out hB);have HA2:=hid (HA1.out.below hB);have Rf:=hid (Hg.out.below hB);clear hB HA1 Hg HB1;go_wp2_with fail;refine(KG EJ.out HJ.out HF.out HA2.out Rf.out HX.out HY.out).mono ?_;rintro e w3 ⟨mo,n,cap,rfl,hM,hB⟩;have HB3:=hid (Below.steps HB2.out hB);have HM:=hid hM;clear hB hM HA2 Rf HB2;go_wp2_with fail;refine(ji r HM.out HR.out).mono ?_;rintro e w4 ⟨rfl,hB⟩;have qP:=hid (Below.steps HB3.out hB);have HM4:=hid (HM.out.below hB);clear hB HM HB3;cases r
 ·go_wp2_with fail;go_ret2;exact⟨none,0,0,by rw[HZ.out];rfl,by rw[HQ.out];exact Ml.zero _,qP.out⟩
 ·go_wp2_with fail;go_ret2;exact⟨mo,n,cap,by rw[HZ.out];rfl,by rw[HQ.out];exact HM4.out,qP.out⟩
theorem Fq [Ol] (er:Int) (eJ:∀args w,(callFunc J args).run Tryz.prog w= .ok (.enter J args) w) (hJ:Fn2 J f) (hf:∀x y:Int,(0<=x/\ x<=10000)->(0<=y/\ y<=10000)->gQ (f x y))
  (ha:Ml w a0 la ca xs) (hb:Ml w b0 lc cc ys):
  Calls Tryz.prog 120 #[.int .i64 er,a0a a0 la ca,a0a b0 lc cc,.func (.func J) #[] #[]] w (wP w (kU f er xs ys).1 (kU f er xs ys).2):=by
 unfold kU;cases hx:aZ 0 xs with
 |false=>
  rw[if_neg (by simp)];exact CB er ha hx _
 |true=>
  cases hy:aZ 0 ys with
  |false=>
   rw[if_neg (by simp)];exact CF er ha hb hx hy _
  |true=>
   rw[if_pos ⟨rfl,rfl⟩];refine(CG er (aZ 0 (joinL f xs ys)) eJ hJ hf ha hb hx hy rfl _ _ rfl rfl).mono ?_;intro e w' h;cases hm:aZ 0 (joinL f xs ys)<;>simpa[hm]using h
end
theorem VB:Fn2 121 (λx y=>x+y):=by
 intro x y w hx hy;have h1:=hx.1;have h2:=hx.2;have h3:=hy.1;have h4:=hy.2;clear hx hy;go_enter Tryz.func121,Tryz.ntmps121;go_wp2;go_ret;exact⟨rfl,rfl⟩
section
variable {a0 b0:Option Addr} {la ca lc cc:Nat} {xs ys:List (Int×Int)} {w:World}
theorem DX [Ol] (ha:Ml w a0 la ca xs) (hb:Ml w b0 lc cc ys):
  Calls Tryz.prog 73 #[a0a a0 la ca,a0a b0 lc cc] w (wP w (kU (λx y=>x+y) 8 xs ys).1 (kU (λx y=>x+y) 8 xs ys).2):=by
 go_enter Tryz.func73,Tryz.ntmps73;go_wp2_with fail;refine(Fq 8 (enters_of Tryz.func121 (by kernel_rfl) rfl) VB (λx y hx hy=>by unfold gQ;omega) ha hb).mono ?_;rintro e w' ⟨ao,n,cap,rfl,hM,hB⟩;have HM:=hid hM;have HB:=hid hB;clear hM hB ha hb;go_wp2_with fail;go_ret2;exact⟨_,_,_,rfl,HM.out,HB.out⟩
end
open Lib (hid)
def Ov (x y:Int):Int:=if x<y then-1 else if y<x then 1 else 0
theorem Fu (x:Int) (w:World):Calls Tryz.prog 219 #[.int .i64 x] w (λe w'=>e= .returned (.bool false)/\ w=w'):=by
 go_enter Tryz.func219,Tryz.ntmps219;go_wp2;go_ret;exact⟨jd (by simp),rfl⟩
theorem KH (x y z:Int) (w:World) (hz:Ov x y=z):Calls Tryz.prog 194 #[.int .i64 x,.int .i64 y] w (λe w'=>e= .returned (.int .i64 z)/\ w=w'):=by
 have HZ:=hid hz;clear hz;rcases Int.lt_trichotomy x y with g|g|g
 ·have f1:decide (x<y)=true:=decide_eq_true g;go_enter Tryz.func194,Tryz.ntmps194;go_wp2_with ((with_reducible refine(Fu _ _).mono ?_);rintro e w' ⟨rfl,rfl⟩);go_ret;exact⟨fZ (by rw[<-HZ.out];unfold Ov;rw[if_pos g]),rfl⟩
 ·subst g;go_enter Tryz.func194,Tryz.ntmps194;go_wp2_with ((with_reducible refine(Fu _ _).mono ?_);rintro e w' ⟨rfl,rfl⟩);go_ret;exact⟨fZ (by rw[<-HZ.out];unfold Ov;simp),rfl⟩
 ·have f1:decide (x<y)=false:=decide_eq_false (by omega);have f2:decide (y<x)=true:=decide_eq_true g;go_enter Tryz.func194,Tryz.ntmps194;go_wp2_with ((with_reducible refine(Fu _ _).mono ?_);rintro e w' ⟨rfl,rfl⟩);go_ret;exact⟨fZ (by rw[<-HZ.out];unfold Ov;rw[if_neg (by omega),if_pos g]),rfl⟩
structure Fv (w0:World) (o:Nat) (done:List (Int×Int×Int)) (w:World):Prop where
 iW:qY w o (.int .i64 (nM 0 done)) 3
 below:Below w0.heap.size w0 w
 ho:w0.heap.size<=o
theorem Fv.stable {w0:World} {o:Nat} {done:List (Int×Int×Int)} {w w':World} (h:Fv w0 o done w) (hb:Below w.heap.size w w'):Fv w0 o done w':=
 ⟨h.iW.below hb,Below.steps h.below hb,h.ho⟩
theorem Ow {w0 w:World} {o:Nat} {done:List (Int×Int×Int)} (t:Int×Int×Int) (h:Fv w0 o done w):
  Calls Tryz.prog 193 #[.int .i64 t.1,.int .i64 t.2.1,.int .i64 t.2.2,.pointer (some ⟨o,0,none⟩)] w (λe w'=>e= .returned (.tuple #[])/\ Fv w0 o (done++[t]) w'):=by
 obtain⟨v,x,y⟩:=t;have cc:=h.iW.cell;have fc:=h.iW.fz;have lc:=h.iW.lt;have HI:=hid h;clear h;obtain⟨l,hl⟩:∃l,l=nM 0 done:=⟨_,rfl⟩;rw[<-hl]at cc;have HL:=hid hl;clear hl;by_cases g:x=y
 ·subst g;go_enter Tryz.func193,Tryz.ntmps193;go_wp2;go_end0;refine⟨rfl,⟨?_,HI.out.below,HI.out.ho⟩⟩;rw[qH];simpa[nM]using HI.out.iW
 ·have g1:(x==y)=false:=by simpa using g
  have g2:(x !=y)=true:=by simpa using g
  have HG:=hid g;clear g;obtain⟨z,hz⟩:∃z,Ov x y=z:=⟨_,rfl⟩;have HZ:=hid hz;clear hz;go_enter Tryz.func193,Tryz.ntmps193;go_wp2_with ((with_reducible refine(KH x y z _ HZ.out).mono ?_);rintro e w' ⟨rfl,rfl⟩);go_end0;refine⟨rfl,⟨?_,HI.out.below.setCell HI.out.ho _,HI.out.ho⟩⟩
  have e1:nM 0 (done++[(v,x,y)])=z:=by
   rw[qH,<-HZ.out];unfold Ov;simp only[nM];have:=HG.out;by_cases h1:x<y
   ·rw[if_pos h1,if_pos h1]
   ·rw[if_neg h1,if_neg h1,if_pos (by omega),if_pos (by omega)]
  rw[e1];exact HI.out.iW.set _
section
variable {a0 b0:Option Addr} {la ca lc cc:Nat} {xs ys:List (Int×Int)} {w:World}
def Nn (xs ys:List (Int×Int)):Int×Int:=if aZ 0 xs=true/\ aZ 0 ys=true then(lS xs ys,0)else(0,2)
theorem Fw [Ol] (ha:Ml w a0 la ca xs) (hx:aZ 0 xs=false):
  Calls Tryz.prog 144 #[a0a a0 la ca,a0a b0 lc cc] w (cu (.tuple #[.int .i64 0,.int .i64 2]) w):=by
 go_enter Tryz.func144,Tryz.ntmps144;go_wp2_with fail;refine(ji false ha hx).mono ?_;rintro e w1 ⟨rfl,hB⟩;go_wp2_with fail;go_ret2;exact⟨rfl,hB⟩
theorem Fy [Ol] (ha:Ml w a0 la ca xs) (hb:Ml w b0 lc cc ys) (hx:aZ 0 xs=true) (hy:aZ 0 ys=false):
  Calls Tryz.prog 144 #[a0a a0 la ca,a0a b0 lc cc] w (cu (.tuple #[.int .i64 0,.int .i64 2]) w):=by
 have vS:=hid hb;clear hb;go_enter Tryz.func144,Tryz.ntmps144;go_wp2_with fail;refine(ji true ha hx).mono ?_;rintro e w1 ⟨rfl,hB⟩;have HB:=hid hB;have HY:=hid (vS.out.below hB);clear hB ha hx vS;go_wp2_with fail;refine(ji false HY.out hy).mono ?_;rintro e w2 ⟨rfl,hB⟩;go_wp2_with fail;go_ret2;exact⟨rfl,Below.steps HB.out hB⟩
theorem Fz [Ol] (ha:Ml w a0 la ca xs) (hb:Ml w b0 lc cc ys) (hx:aZ 0 xs=true) (hy:aZ 0 ys=true) (z:Int) (hz:lS xs ys=z):
  Calls Tryz.prog 144 #[a0a a0 la ca,a0a b0 lc cc] w (cu (.tuple #[.int .i64 z,.int .i64 0]) w):=by
 have eg:∀args w,(callFunc 193 args).run Tryz.prog w= .ok (.enter 193 args) w:=enters_of Tryz.func193 (by kernel_rfl) rfl
 have hF:∀(w0:World) (o:Nat) done t rest W,qZ xs ys=done++t::rest->Fv w0 o done W->Calls Tryz.prog 193 (#[.int .i64 t.1,.int .i64 t.2.1,.int .i64 t.2.2]++ #[.pointer (some ⟨o,0,none⟩)]) W (λe w'=>e= .returned (.tuple #[])/\ Fv w0 o (done++[t]) w'):=
  λw0 o done t rest W _ h=>by exact Ow t h
 have h0:∀W:World,Fv W W.heap.size [] (W.alloc (.cells #[.int .i64 0] 3)):=λW=>⟨qY.new _ _ _,af _ _,a0d _⟩
 have HF:=hid hF;have H0:=hid h0;have HX:=hid hx;have HY:=hid hy;have HA:=hid ha;have vS:=hid hb;have HZ:=hid hz;clear hx hy ha hb hz hF h0;go_enter Tryz.func144,Tryz.ntmps144;go_wp2_with fail;refine(ji true HA.out HX.out).mono ?_;rintro e w1 ⟨rfl,hB⟩;have HB1:=hid hB;have HA1:=hid (HA.out.below hB);have Hg:=hid (vS.out.below hB);clear hB vS HA;go_wp2_with fail;refine(ji true Hg.out HY.out).mono ?_;rintro e w2 ⟨rfl,hB⟩;have HB2:=hid (Below.steps HB1.out hB);have HA2:=hid (HA1.out.below hB);have Rf:=hid (Hg.out.below hB);clear hB HA1 Hg HB1;go_wp2_with fail;refine(Ik eg (Fv w2 w2.heap.size) (w0:=w2) HA2.out Rf.out (λ_ _ _ h hb=>h.stable hb) (λ_ _ h=>h.below) (HF.out _ _) (H0.out _)).mono ?_;rintro e w3 ⟨rfl,hI⟩;have c3:=hI.iW.cell;have HB3:=hid (Below.steps HB2.out hI.below);obtain⟨l,hl⟩:∃l,l=nM 0 (qZ xs ys):=⟨_,rfl⟩;rw[<-hl]at c3;have HL:=hid hl;clear hI hl HA2 Rf HB2;go_wp2_with fail;go_ret2;refine⟨?_,HB3.out⟩;have e1:l=z:=by rw[HL.out,Ky];exact HZ.out
 rw[e1];rfl
theorem Hl [Ol] (ha:Ml w a0 la ca xs) (hb:Ml w b0 lc cc ys):
  Calls Tryz.prog 144 #[a0a a0 la ca,a0a b0 lc cc] w (cu (.tuple #[.int .i64 (Nn xs ys).1,.int .i64 (Nn xs ys).2]) w):=by
 unfold Nn;cases hx:aZ 0 xs with
 |false=>
  rw[if_neg (by simp)];exact Fw ha hx
 |true=>
  cases hy:aZ 0 ys with
  |false=>
   rw[if_neg (by simp)];exact Fy ha hb hx hy
  |true=>
   rw[if_pos ⟨rfl,rfl⟩];exact Fz ha hb hx hy _ rfl
end
theorem Im:∀(ps:List (Int×Int)),ps≠[]->fe ps=(ps.getD (ps.length-1) (0,0)).1
 |[],h=>absurd rfl h
 |[p],_=>rfl
 |p::q::r,_=>by
  have ih:=Im (q::r) (by simp);simp only[fe]at ih ⊢;rw[if_neg (by simp)];rw[ih];simp
theorem xu [Ol] {ao:Option Addr} {n cap:Nat} {ps:List (Int×Int)} {w:World} (h:Ml w ao n cap ps) (z:Int) (hz:fe (orM ps)=z):
  Calls Tryz.prog 148 #[a0a ao n cap] w (cu (.int .i64 z) w):=by
 have HZ:=hid hz;have HM:=hid h;clear h hz;go_enter Tryz.func148,Tryz.ntmps148;go_wp2_with fail;refine(Ou HM.out).mono ?_;rintro e w1 ⟨mo,m,cm,rfl,hM,hB⟩;have hle:=hM.le;have hbig:=hM.big;obtain⟨qs,Z4⟩:∃qs,qs=orM ps:=⟨_,rfl⟩;rw[<-Z4]at HZ hM;have HQ:=hid hM;have HB:=hid hB;clear hM hB Z4 HM;by_cases hm:m=0
 ·subst hm;have hq:=HQ.out.empty rfl;have HE:Hid (z=0):=by rw[Hid,<-HZ.out,hq];rfl
  clear hq HZ HQ;go_wp2;go_ret;exact⟨fZ HE.out.symm,HB.out⟩
 ·obtain⟨m,rfl⟩:∃k,m=k+1:=⟨m-1,by omega⟩;obtain⟨b,off,rfl,hb,hc⟩:=HQ.out.at (by omega);obtain⟨c1,_⟩:=hc m (by omega);have hl:=HQ.out.len
  have HE:Hid (z=(qs.getD m (0,0)).1):=by
   rw[Hid,<-HZ.out,Im qs (by intro h;rw[h]at hl;simp at hl),hl];simp
  obtain⟨u,hu⟩:∃u,u=(qs.getD m (0,0)).1:=⟨_,rfl⟩;rw[<-hu]at c1 HE;have g1:((m+1:Nat):Int)-1=(m:Int):=by omega
  have g2:(((m+1:Nat):Int)==0)=false:=by simp;omega
  clear hl hu hc HZ HQ hm;go_wp2;go_ret;exact⟨fZ HE.out.symm,HB.out⟩
theorem Bw:∀(ps:List (Int×Int)) (i:Nat) (p:Int×Int),((fq ps).set (i*2) (.int .i64 p.1)).set (i*2+1) (.int .i64 p.2)=fq (ps.set i p)
 |[],_,_=>rfl
 |q::r,0,p=>rfl
 |q::r,i+1,p=>by
  rw[show(i+1)*2=i*2+1+1 by omega];simp only[fq,List.set_cons_succ];rw[Bw r i p]
theorem Mo.set {B:Nat} {w:World} {g n cap:Nat} {ps:List (Int×Int)} (h:Mo B w (some ⟨g,0,none⟩) n cap ps) (i:Nat) (p:Int×Int) (h1:gQ p.1) (h2:gQ p.2):
  Mo B ((w.setCell ⟨g,i*2,none⟩ (.int .i64 p.1)).setCell ⟨g,i*2+1,none⟩ (.int .i64 p.2)) (some ⟨g,0,none⟩) n cap (ps.set i p):=by
 refine⟨?_,h.big,λq hq=>?_⟩
 ·rw[<-Bw];exact((h.row.stored (i*2) _).1.stored (i*2+1) _).1
 ·rcases List.mem_or_eq_of_mem_set hq with hq|rfl
  ·exact h.wf q hq
  ·exact⟨h1,h2⟩
theorem Mo.cell [Ol] {B:Nat} {w:World} {g n cap:Nat} {ps:List (Int×Int)} (h:Mo B w (some ⟨g,0,none⟩) n cap ps) (t:Nat) (ht:t<n):
  w.cell? ⟨g,t*2,none⟩=some (.int .i64 (ps.getD t (0,0)).1)/\ w.cell? ⟨g,t*2+1,none⟩=some (.int .i64 (ps.getD t (0,0)).2):=by
 have:=h.ml.cells _ rfl t ht;rw[Addr.add_lit,Addr.add_lit,a0e,a0e]at this;exact this
theorem Mo.fz {B:Nat} {w:World} {g n cap:Nat} {ps:List (Int×Int)} (h:Mo B w (some ⟨g,0,none⟩) n cap ps) (j:Nat):w.frozen? ⟨g,j,none⟩=false:=h.row.frozenAt j
section
variable {G:Nat} {lb:Array Value} {v:Int}
end
end Go.Proofs.YtmenbpmciblnlaaGreatDoor
