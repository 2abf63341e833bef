/- MSide, MMayP, MJoin, MOne, MOps, MCmp, MDel -/
import Derived.Test.YtmenbpmciblnlaaGreatDoorGM1
import Derived.Shelf.Abstract
import Derived.Deep.DeepMust
import Derived.Lib.SliceRun
import Derived.Laws.IdiomCopy
set_option maxHeartbeats 40000000
set_option maxRecDepth 100000
namespace Go.Proofs.YtmenbpmciblnlaaGreatDoor
open Lib (hid)
open Go.RowKit
theorem Ml.h0 [Ol] {w:World} {b off n cap:Nat} {p1 p2:Int} {r:List (Int×Int)} (h:Ml w (some ⟨b,off,none⟩) (n+1) cap ((p1,p2)::r)):w.cell? ⟨b,off,none⟩=some (.int .i64 p1):=by
 have:=(h.cells _ rfl 0 (by omega)).1;rw[Addr.add_lit]at this;simpa using this
theorem Ml.h1 [Ol] {w:World} {b off n cap:Nat} {p1 p2:Int} {r:List (Int×Int)} (h:Ml w (some ⟨b,off,none⟩) (n+1) cap ((p1,p2)::r)):w.cell? ⟨b,off+1,none⟩=some (.int .i64 p2):=by
 have:=(h.cells _ rfl 0 (by omega)).2;rw[Addr.add_lit]at this;simpa using this
theorem Ml.cons [Ol] {w:World} {ao:Option Addr} {n cap:Nat} {ps:List (Int×Int)} (h:Ml w ao (n+1) cap ps):∃b off p1 p2 r,ao=some ⟨b,off,none⟩/\ ps=(p1,p2)::r:=by
 obtain⟨b,off,rfl,_⟩:=h.at (by omega);have hl:=h.len
 match ps,hl with
 |(p1,p2)::r,_=>exact⟨b,off,p1,p2,r,rfl,rfl⟩
def Px:Value->Nat
 | .slice _ n _=>n
 | _=>0
def TR (b off cap:Nat):Option Addr:=if cap=1 then some ⟨b,off,none⟩else some ⟨b,off+2,none⟩
theorem Ml.rest [Ol] {w:World} {b off n cap:Nat} {p:Int×Int} {r:List (Int×Int)} (h:Ml w (some ⟨b,off,none⟩) (n+1) cap (p::r)):Ml w (TR b off cap) n (cap-1) r:=by
 unfold TR;by_cases hc:cap=1
 ·obtain⟨h1,h2⟩:=Py h hc;rw[if_pos hc,h2,hc];exact h1
 ·rw[if_neg hc];exact Sw h
def Jz [Ol] (w:World) (Inv:List (Int×Int×Int)->World->Prop) (a b:Value) (wr:World) (ts:List (Int×Int×Int)):Prop:=
 ∃(ao:Option Addr) (n cap:Nat) (bo:Option Addr) (m cb:Nat) (xs' ys':List (Int×Int)) (done:List (Int×Int×Int)),a= .slice ao n cap/\ b= .slice bo m cb/\
  Hid (Ml w ao n cap xs'/\ Ml w bo m cb ys')/\ Hid (ts=done++tQ xs' ys')/\ Hid (Inv done wr)
theorem PD [Ol] {G:Nat} {lb:Array Value} (eg:∀args w,(callFunc G args).run Tryz.prog w= .ok (.enter G args) w) (Inv:List (Int×Int×Int)->World->Prop)
  {a0 b0:Option Addr} {la ca lc cc:Nat} {xs ys:List (Int×Int)} {w0 w:World} (ha:Ml w0 a0 la ca xs) (hb:Ml w0 b0 lc cc ys)
  (hS:∀done W W',Inv done W->Below W.heap.size W W'->Inv done W')
  (hB:∀done W,Inv done W->Below w0.heap.size w0 W)
  (hF:∀done t rest W,tQ xs ys=done++t::rest->Inv done W->Calls Tryz.prog G (#[.int .i64 t.1,.int .i64 t.2.1,.int .i64 t.2.2]++lb) W (fun e w'=>e= .returned (.tuple #[])/\ Inv (done++[t]) w'))
  (h0:Inv [] w):
  Calls Tryz.prog 192 #[.slice a0 la ca,.slice b0 lc cc,.func (.func G) #[] lb] w (fun e w'=>e= .returned (.tuple #[])/\ Inv (tQ xs ys) w'):=by
 have HF:=hid hF;have Wn:=hid hS;have Zn:=hid hB;obtain⟨ts,hts⟩:∃ts,ts=tQ xs ys:=⟨_,rfl⟩;rw[<-hts]at HF ⊢;have HI0:=hid h0;have DC:Hid (Jz w0 Inv (.slice a0 la ca) (.slice b0 lc cc) w ts):=⟨_,_,_,_,_,_,_,_,[],rfl,rfl,⟨ha,hb⟩,hts,h0⟩;clear hF hS hB h0 ha hb hts;go_enter Tryz.func192,Tryz.ntmps192;go_wp2;go_loopw [0,1] (fun a b wr=>Jz w0 Inv a b wr ts) (fun a b _=>Px a+Px b)
 case atStart=>exact DC.out
 case round=>
  clear DC;obtain⟨ao,n,cap,bo,m,cb,xs',ys',done,rfl,rfl,HM,HT,HI⟩:=hrel;have hn1:=HM.out.1.le;have hn2:=HM.out.1.big;have hm1:=HM.out.2.le;have hm2:=HM.out.2.big;by_cases hn:n<=0
  ·have fn:decide (0<n)=false:=decide_eq_false (by omega);have fn2:decide ((0:Int)<(n:Int))=false:=decide_eq_false (by omega);have HT:=hid (HT.out.trans (by rw[Jw (.inl (HM.out.1.empty (by omega)))]));go_wp2;go_loopw [68] (fun i wr=>∃(k:Nat) (done:List (Int×Int×Int)),k<=n/\ i= .int .i64 k/\ Hid (ts=done++((xs'.drop k).map (fun p=>(p.1,p.2,(0:Int)))++ys'.map (fun q=>(q.1,(0:Int),q.2))))/\ Hid (Inv done wr)) (fun i _=>n-(intOf i).toNat)
   case atStart=>exact⟨0,done,Nat.zero_le _,rfl,HT.out,HI.out⟩
   case round=>
    clear HT HI;obtain⟨k,done,hk,rfl,HT,HI⟩:=hrel;by_cases hkn:k<n
    ·exfalso;omega
    ·obtain rfl:k=n:=by omega
     have HT2:Hid (ts=done++ys'.map (fun q=>(q.1,(0:Int),q.2))):=HT.out.trans (by rw[List.drop_eq_nil_of_le (by rw[HM.out.1.len];exact Nat.le_refl _)];rfl);clear HT;go_wp2;go_loopw [81] (fun i wr=>∃(k:Nat) (done:List (Int×Int×Int)),k<=m/\ i= .int .i64 k/\ Hid (ts=done++(ys'.drop k).map (fun q=>(q.1,(0:Int),q.2)))/\ Hid (Inv done wr)) (fun i _=>m-(intOf i).toNat)
     case atStart=>exact⟨0,done,Nat.zero_le _,rfl,HT2.out,HI.out⟩
     case round=>
      clear HT2 HI;obtain⟨j,done,hj,rfl,HT,HI⟩:=hrel;by_cases hjm:j<m
      ·have HX:=hid (HM.out.2.below (Zn.out _ _ HI.out));obtain⟨b,off,rfl,hb,hc⟩:=HX.out.at (by omega);obtain⟨c1,c2⟩:=hc j hjm;have HT2:=hid (HT.out.trans (by rw[map_drop _ (by rw[HX.out.len];exact hjm)]));clear hc HT;obtain⟨p,hp⟩:∃p,p=ys'.getD j (0,0):=⟨_,rfl⟩;rw[<-hp]at c1 c2 HT2;clear hp HX;obtain⟨v,e⟩:=p;go_wp2_with (go_at_fn G;refine(HF.out done (v,0,e) _ _ HT2.out (Wn.out _ _ _ HI.out (af _ _))).mono ?_;rintro e w2 ⟨rfl,hI2⟩;have HI2:=hid hI2;clear hI2);go_roundw
       case rel=>exact⟨j+1,done++[(v,0,e)],by omega,by go_num,by rw[Hid,HT2.out];simp,HI2.out⟩
       case measure=>simp[intOf];omega
      ·obtain rfl:j=m:=by omega
       go_wp2;go_end0;refine⟨rfl,?_⟩;have e2:=HT.out;rw[List.drop_eq_nil_of_le (by rw[HM.out.2.len];exact Nat.le_refl _)]at e2;rw[e2];simpa using HI.out
  ·by_cases hm:m<=0
   ·have hn0:0<n:=by omega
    have fn:decide (0<m)=false:=decide_eq_false (by omega);have fn2:decide ((0:Int)<(m:Int))=false:=decide_eq_false (by omega);have HT:=hid (HT.out.trans (by rw[Jw (.inr (HM.out.2.empty (by omega)))]));go_wp2;go_loopw [68] (fun i wr=>∃(k:Nat) (done:List (Int×Int×Int)),k<=n/\ i= .int .i64 k/\ Hid (ts=done++((xs'.drop k).map (fun p=>(p.1,p.2,(0:Int)))++ys'.map (fun q=>(q.1,(0:Int),q.2))))/\ Hid (Inv done wr)) (fun i _=>n-(intOf i).toNat)
    case atStart=>exact⟨0,done,Nat.zero_le _,rfl,HT.out,HI.out⟩
    case round=>
     clear HT HI;obtain⟨k,done,hk,rfl,HT,HI⟩:=hrel;by_cases hkn:k<n
     ·have HX:=hid (HM.out.1.below (Zn.out _ _ HI.out));obtain⟨b,off,rfl,hb,hc⟩:=HX.out.at (by omega);obtain⟨c1,c2⟩:=hc k hkn;have HT2:=hid (HT.out.trans (by rw[map_drop _ (by rw[HX.out.len];exact hkn)]));clear hc HT;obtain⟨p,hp⟩:∃p,p=xs'.getD k (0,0):=⟨_,rfl⟩;rw[<-hp]at c1 c2 HT2;clear hp HX;obtain⟨v,e⟩:=p;go_wp2_with (go_at_fn G;refine(HF.out done (v,e,0) _ _ HT2.out (Wn.out _ _ _ HI.out (af _ _))).mono ?_;rintro e w2 ⟨rfl,hI2⟩;have HI2:=hid hI2;clear hI2);go_roundw
      case rel=>exact⟨k+1,done++[(v,e,0)],by omega,by go_num,by rw[Hid,HT2.out];simp,HI2.out⟩
      case measure=>simp[intOf];omega
     ·obtain rfl:k=n:=by omega
      have HT2:Hid (ts=done++ys'.map (fun q=>(q.1,(0:Int),q.2))):=HT.out.trans (by rw[List.drop_eq_nil_of_le (by rw[HM.out.1.len];exact Nat.le_refl _)];rfl);clear HT;go_wp2;go_loopw [81] (fun i wr=>∃(k:Nat) (done:List (Int×Int×Int)),k<=m/\ i= .int .i64 k/\ Hid (ts=done++(ys'.drop k).map (fun q=>(q.1,(0:Int),q.2)))/\ Hid (Inv done wr)) (fun i _=>m-(intOf i).toNat)
      case atStart=>exact⟨0,done,Nat.zero_le _,rfl,HT2.out,HI.out⟩
      case round=>
       clear HT2 HI;obtain⟨j,done,hj,rfl,HT,HI⟩:=hrel;by_cases hjm:j<m
       ·exfalso;omega
       ·obtain rfl:j=m:=by omega
        go_wp2;go_end0;refine⟨rfl,?_⟩;have e2:=HT.out;rw[List.drop_eq_nil_of_le (by rw[HM.out.2.len];exact Nat.le_refl _)]at e2;rw[e2];simpa using HI.out
   ·obtain⟨n,rfl⟩:∃k,n=k+1:=⟨n-1,by omega⟩;obtain⟨m,rfl⟩:∃k,m=k+1:=⟨m-1,by omega⟩;clear hn hm;obtain⟨b,off,p1,p2,r,rfl,rfl⟩:=HM.out.1.cons;obtain⟨b2,off2,q1,q2,s,rfl,rfl⟩:=HM.out.2.cons;have HS:=HM;go_upto_region 1 with(fail)
    have S0:=hid (Sx.start (w:=wr) (N:=[.ml (some ⟨b,off,none⟩) (n+1) cap ((p1,p2)::r),.ml (some ⟨b2,off2,none⟩) (m+1) cb ((q1,q2)::s)]) ⟨HS.out.1.below (Zn.out _ _ HI.out),HS.out.2.below (Zn.out _ _ HI.out),trivial⟩);go_cut [6,7]from 20 to 26 (fun sl0 sl1 w9=>∃(UL:Nat) (qb7:Nat),sl0= .pointer (some ⟨UL,0,none⟩)/\ sl1= .pointer (some ⟨qb7,0,none⟩)/\ Hid (Sx wr w9 [⟨qb7,[.int .i64 q1,.int .i64 q2]⟩,⟨UL,[.int .i64 p1,.int .i64 p2]⟩] [.ml (some ⟨b,off,none⟩) (n+1) cap ((p1,p2)::r),.ml (some ⟨b2,off2,none⟩) (m+1) cb ((q1,q2)::s)]))
    case first=>
     have S1:=hid (S0.out.drew);clear S0;refine wp_region_held_drew (S:=fun w'=>w'.cell? ⟨b,off,none⟩=some (.int .i64 p1)/\ w'.cell? ⟨b,off+1,none⟩=some (.int .i64 p2)/\ w'.cell? ⟨b2,off2,none⟩=some (.int .i64 q1)/\ w'.cell? ⟨b2,off2+1,none⟩=some (.int .i64 q2)) (by kernel_rfl) (⟨S1.out.n.ml.h0,S1.out.n.ml.h1,S1.out.n.t.ml.h0,S1.out.n.t.ml.h1⟩) (fun hH=>?_);refine ai (fun w1 hW=>?_);rw[<-hW]at S1 hH;clear hW;refine bC 0 hH ?_;try simp only[aI]
     refine bC 1 hH ?_;try simp only[aI]
     refine bC 2 hH ?_;try simp only[aI]
     refine bC 3 hH ?_;try simp only[aI]
     refine bC 4 hH ?_;try simp only[aI]
     refine bC 5 hH ?_;try simp only[aI]
     refine wpAnyH_ready (rs:=[6,7]) (by kernel_rfl) (by simp) (aO rfl (fun K hK=>?_) (aO rfl (fun K hK=>?_) (AllReadyH.nil)))
     ·go_simp;have S2:=hid (S1.out.var (w1.heap.size) [.int .i64 0,.int .i64 0] 72 (by simp));clear S1;refine hK.out _ _ ⟨S2.out.n.ml.h0,S2.out.n.ml.h1,S2.out.n.t.ml.h0,S2.out.n.t.ml.h1⟩ (fun h2=>?_);clear hK K hH;have hH:=h2;clear h2
      try simp only[aI]
      refine ai (fun w2 hW=>?_);rw[<-hW]at S2 hH;clear hW;refine ah 7 rfl (by kernel_rfl) (fun K hK=>?_);go_simp;have S3:=hid (S2.out.var (w2.heap.size) [.int .i64 0,.int .i64 0] 72 (by simp));clear S2;refine hK.out _ _ ⟨S3.out.n.ml.h0,S3.out.n.ml.h1,S3.out.n.t.ml.h0,S3.out.n.t.ml.h1⟩ (fun h2=>?_);clear hK K hH;have hH:=h2;clear h2
      try simp only[aI]
      refine ai (fun w3 hW=>?_);rw[<-hW]at S3 hH;clear hW;refine ah 8 rfl (by kernel_rfl) (fun K hK=>?_);obtain⟨dG,dH⟩:=S3.out.b.t.c2;obtain⟨dO,dP⟩:=S3.out.b.t.f2;go_simp;clear dG dH dO dP;have S4:Hid (Sx wr _ [⟨(w2.heap.size),[.int .i64 0,.int .i64 0]⟩,⟨(w1.heap.size),[.int .i64 p1,.int .i64 p2]⟩] _):=hid (Sx.set [⟨(w2.heap.size),[.int .i64 0,.int .i64 0]⟩] [] (Sx.set [⟨(w2.heap.size),[.int .i64 0,.int .i64 0]⟩] [] S3.out 0 (.int .i64 p1)) 1 (.int .i64 p2));clear S3;refine hK.out _ _ ⟨S4.out.n.ml.h0,S4.out.n.ml.h1,S4.out.n.t.ml.h0,S4.out.n.t.ml.h1⟩ (fun h2=>?_);clear hK K hH;have hH:=h2;clear h2
      try simp only[aI]
      refine ai (fun w4 hW=>?_);rw[<-hW]at S4 hH;clear hW;refine ah 9 rfl (by kernel_rfl) (fun K hK=>?_);obtain⟨zK,zL⟩:=S4.out.b.c2;obtain⟨Iy,Iz⟩:=S4.out.b.f2;go_simp;clear zK zL Iy Iz;have S5:Hid (Sx wr _ [⟨(w2.heap.size),[.int .i64 q1,.int .i64 q2]⟩,⟨(w1.heap.size),[.int .i64 p1,.int .i64 p2]⟩] _):=hid (Sx.set [] [⟨(w1.heap.size),[.int .i64 p1,.int .i64 p2]⟩] (Sx.set [] [⟨(w1.heap.size),[.int .i64 p1,.int .i64 p2]⟩] S4.out 0 (.int .i64 q1)) 1 (.int .i64 q2));clear S4;refine hK.out _ _ ⟨S5.out.n.ml.h0,S5.out.n.ml.h1,S5.out.n.t.ml.h0,S5.out.n.t.ml.h1⟩ (fun h2=>?_);clear hK K hH;have hH:=h2;clear h2
      try simp only[aI]
      refine ai (fun w5 hW=>?_);rw[<-hW]at S5 hH;clear hW;refine wpAnyH_done (by kernel_rfl) ?_ _
      clear hH;go_wp2_with fail;go_meet
      case rel=>exact⟨_,_,rfl,rfl,S5.out⟩
     ·go_simp;have S2:=hid (S1.out.var (w1.heap.size) [.int .i64 0,.int .i64 0] 72 (by simp));clear S1;refine hK.out _ _ ⟨S2.out.n.ml.h0,S2.out.n.ml.h1,S2.out.n.t.ml.h0,S2.out.n.t.ml.h1⟩ (fun h2=>?_);clear hK K hH;have hH:=h2;clear h2
      try simp only[aI]
      refine ai (fun w2 hW=>?_);rw[<-hW]at S2 hH;clear hW;refine ah 6 rfl (by kernel_rfl) (fun K hK=>?_);go_simp;have S3:=hid (S2.out.var (w2.heap.size) [.int .i64 0,.int .i64 0] 72 (by simp));clear S2;refine hK.out _ _ ⟨S3.out.n.ml.h0,S3.out.n.ml.h1,S3.out.n.t.ml.h0,S3.out.n.t.ml.h1⟩ (fun h2=>?_);clear hK K hH;have hH:=h2;clear h2
      try simp only[aI]
      refine ai (fun w3 hW=>?_);rw[<-hW]at S3 hH;clear hW;refine ah 8 rfl (by kernel_rfl) (fun K hK=>?_);obtain⟨dG,dH⟩:=S3.out.b.c2;obtain⟨dO,dP⟩:=S3.out.b.f2;go_simp;clear dG dH dO dP;have S4:Hid (Sx wr _ [⟨(w2.heap.size),[.int .i64 p1,.int .i64 p2]⟩,⟨(w1.heap.size),[.int .i64 0,.int .i64 0]⟩] _):=hid (Sx.set [] [⟨(w1.heap.size),[.int .i64 0,.int .i64 0]⟩] (Sx.set [] [⟨(w1.heap.size),[.int .i64 0,.int .i64 0]⟩] S3.out 0 (.int .i64 p1)) 1 (.int .i64 p2));clear S3;refine hK.out _ _ ⟨S4.out.n.ml.h0,S4.out.n.ml.h1,S4.out.n.t.ml.h0,S4.out.n.t.ml.h1⟩ (fun h2=>?_);clear hK K hH;have hH:=h2;clear h2
      try simp only[aI]
      refine ai (fun w4 hW=>?_);rw[<-hW]at S4 hH;clear hW;refine ah 9 rfl (by kernel_rfl) (fun K hK=>?_);obtain⟨zK,zL⟩:=S4.out.b.t.c2;obtain⟨Iy,Iz⟩:=S4.out.b.t.f2;go_simp;clear zK zL Iy Iz;have S5:Hid (Sx wr _ [⟨(w2.heap.size),[.int .i64 p1,.int .i64 p2]⟩,⟨(w1.heap.size),[.int .i64 q1,.int .i64 q2]⟩] _):=hid (Sx.set [⟨(w2.heap.size),[.int .i64 p1,.int .i64 p2]⟩] [] (Sx.set [⟨(w2.heap.size),[.int .i64 p1,.int .i64 p2]⟩] [] S4.out 0 (.int .i64 q1)) 1 (.int .i64 q2));clear S4;refine hK.out _ _ ⟨S5.out.n.ml.h0,S5.out.n.ml.h1,S5.out.n.t.ml.h0,S5.out.n.t.ml.h1⟩ (fun h2=>?_);clear hK K hH;have hH:=h2;clear h2
      try simp only[aI]
      refine ai (fun w5 hW=>?_);rw[<-hW]at S5 hH;clear hW;refine wpAnyH_done (by kernel_rfl) ?_ _
      clear hH;go_wp2_with fail;go_meet
      case rel=>exact⟨_,_,rfl,rfl,S5.out.swap⟩
    case rest=>
    clear S0;obtain⟨UL,qb7,rfl,rfl,S1⟩:=hcut;obtain⟨w6,hW⟩:∃w6,w6=wc:=⟨_,rfl⟩;rw[<-hW]at S1 ⊢;clear hW;obtain⟨ad8,ad9⟩:=S1.out.b.t.c2;obtain⟨ae0,ae1⟩:=S1.out.b.c2;rcases Int.lt_trichotomy p1 q1 with g|g|g
    ·have HT2:=hid (HT.out.trans (by rw[Iq _ _ g]));have f1:decide (p1<q1)=true:=decide_eq_true g;go_wp2_with (go_at_fn G;(refine(HF.out done (p1,p2,0) _ _ HT2.out (Wn.out _ _ _ HI.out S1.out.h)).mono ?_);rintro e w2 ⟨rfl,hI2⟩;have HI2:=hid hI2;clear hI2);go_roundw
     case rel=>exact⟨_,n,cap-1,_,m+1,cb,r,(q1,q2)::s,done++[(p1,p2,0)],rfl,rfl,⟨HM.out.1.rest,HM.out.2⟩,by rw[Hid,HT2.out];simp,HI2.out⟩
     case measure=>simp[Px];try omega
    ·have HT2:=hid (HT.out.trans (by rw[Iu _ _ g]));subst g;go_wp2_with (go_at_fn G;(refine(HF.out done (p1,p2,q2) _ _ HT2.out (Wn.out _ _ _ HI.out S1.out.h)).mono ?_);rintro e w2 ⟨rfl,hI2⟩;have HI2:=hid hI2;clear hI2);go_quiet (fail);go_wp2;go_roundw
     case rel=>exact⟨_,n,cap-1,_,m,cb-1,r,s,done++[(p1,p2,q2)],rfl,rfl,⟨HM.out.1.rest,HM.out.2.rest⟩,by rw[Hid,HT2.out];simp,Wn.out _ _ _ HI2.out (_root_.Go.below_drewN (Below.refl _ _) _)⟩
     case measure=>simp[Px];try omega
    ·have HT2:=hid (HT.out.trans (by rw[Ir _ _ g]));have f1:decide (p1<q1)=false:=decide_eq_false (by omega);have f2:decide (q1<p1)=true:=decide_eq_true g;go_wp2_with (go_at_fn G;(refine(HF.out done (q1,0,q2) _ _ HT2.out (Wn.out _ _ _ HI.out S1.out.h)).mono ?_);rintro e w2 ⟨rfl,hI2⟩;have HI2:=hid hI2;clear hI2);go_roundw
     case rel=>exact⟨_,n+1,cap,_,m,cb-1,(p1,p2)::r,s,done++[(q1,0,q2)],rfl,rfl,⟨HM.out.1,HM.out.2.rest⟩,by rw[Hid,HT2.out];simp,HI2.out⟩
     case measure=>simp[Px];try omega
open Lib (hid)
theorem mU [Ol] (r:Bool) {ao:Option Addr} {n cap:Nat} {ps:List (Int×Int)} {w:World} (h:Ml w ao n cap ps) (hr:bA 0 ps=r):
  Calls Tryz.prog 90 #[.slice ao n cap] w (dI (.bool r) w):=by
 have hle:=h.le;have hbig:=h.big;have HM:=hid h;clear h;go_enter Tryz.func90,Tryz.ntmps90;go_wp2;go_loopw [3,8] (fun o i wr=>∃k:Nat,∃lo:Int,k<=n/\ i= .int .i64 k/\ o= .int .i64 lo/\ Hid (lo=Sv ps k/\ 0<=lo)/\ Hid (bA lo (ps.drop k)=r)/\ Hid (Ml wr ao n cap ps/\ Below w.heap.size w wr)) (fun _ i _=>n-(intOf i).toNat)
 case atStart=>exact⟨0,0,Nat.zero_le _,rfl,rfl,⟨rfl,Int.le_refl 0⟩,by rw[Hid,List.drop_zero];exact hr,HM.out,Below.refl _ _⟩
 case round=>
  clear HM;obtain⟨k,lo,hk,rfl,rfl,HL,HR,HS⟩:=hrel;have HM:=hid HS.out.1;by_cases hkn:k<n
  ·obtain⟨b,off,rfl,hb,hc⟩:=HM.out.at (by omega);obtain⟨c1,c2⟩:=hc k hkn;have HR2:=hid ((BU ps k lo (by rw[HM.out.len];exact hkn)).symm.trans HR.out);clear HR hc;obtain⟨v,hv⟩:∃v,v=(ps.getD k (0,0)).1:=⟨_,rfl⟩;obtain⟨e,he⟩:∃v,v=(ps.getD k (0,0)).2:=⟨_,rfl⟩;rw[<-hv]at c1;rw[<-he]at c2;have HV:=hid hv;have HE:=hid he;clear hv he;by_cases g0:v<=lo
   ·have f0:decide (v<=lo)=true:=decide_eq_true (by omega);go_wp2;go_ret;exact⟨iM (by rw[<-HR2.out];unfold DL;rw[<-HV.out,<-HE.out];have:=HL.out;simp;omega),(Below.steps HS.out.2 (af _ _))⟩
   ·have f0:decide (v<=lo)=false:=decide_eq_false (by omega);by_cases g1:200<v
    ·have f1:decide (200<v)=true:=decide_eq_true (by omega);go_wp2;go_ret;exact⟨iM (by rw[<-HR2.out];unfold DL;rw[<-HV.out,<-HE.out];have:=HL.out;simp;omega),(Below.steps HS.out.2 (af _ _))⟩
    ·have f1:decide (200<v)=false:=decide_eq_false (by omega);by_cases g2:e<1
     ·have f2:decide (e<1)=true:=decide_eq_true (by omega);go_wp2;go_ret;exact⟨iM (by rw[<-HR2.out];unfold DL;rw[<-HV.out,<-HE.out];have:=HL.out;simp;omega),(Below.steps HS.out.2 (af _ _))⟩
     ·have f2:decide (e<1)=false:=decide_eq_false (by omega);by_cases g3:10000<e
      ·have f3:decide (10000<e)=true:=decide_eq_true (by omega);go_wp2;go_ret;exact⟨iM (by rw[<-HR2.out];unfold DL;rw[<-HV.out,<-HE.out];have:=HL.out;simp;omega),(Below.steps HS.out.2 (af _ _))⟩
      ·have f3:decide (10000<e)=false:=decide_eq_false (by omega);go_wp2;go_roundw
       case rel=>exact⟨k+1,v,by omega,by go_num,rfl,⟨HV.out,by have:=HL.out;omega⟩,by rw[Hid,<-HR2.out,IA (show lo<_ by rw[<-HV.out];omega) (by rw[<-HV.out];omega) (by rw[<-HE.out];omega) (by rw[<-HE.out];omega),HV.out];rfl,HM.out.below (af _ _),(Below.steps HS.out.2 (af _ _))⟩
       case measure=>simp[intOf];omega
  ·obtain rfl:k=n:=by omega
   go_wp2;go_ret;have e2:=HR.out;rw[List.drop_eq_nil_of_le (by rw[HM.out.len];exact Nat.le_refl _)]at e2;exact⟨iM (by rw[<-e2];rfl),HS.out.2⟩
theorem LP [Ol] {ao:Option Addr} {n cap:Nat} {ps:List (Int×Int)} {w:World} (h:Ml w ao n cap ps) (hr:bA 0 ps=true):
  Calls Tryz.prog 172 #[.slice ao n cap] w (dI (.slice ao n cap) w):=by
 go_enter Tryz.func172,Tryz.ntmps172;go_wp2_with fail;refine(mU true h hr).mono ?_;rintro e w' ⟨rfl,hB⟩;go_wp2_with fail;go_ret;exact⟨rfl,hB⟩
theorem PE [Ol] {ao:Option Addr} {n cap:Nat} {ps:List (Int×Int)} {w:World} (h:Ml w ao n cap ps) (hr:bA 0 ps=false):
  Calls Tryz.prog 172 #[.slice ao n cap] w (dI (.slice none 0 0) w):=by
 go_enter Tryz.func172,Tryz.ntmps172;go_wp2_with fail;refine(mU false h hr).mono ?_;rintro e w' ⟨rfl,hB⟩;go_wp2_with fail;go_ret;exact⟨rfl,hB⟩
theorem LQ [Ol] {ao:Option Addr} {n cap:Nat} {ps:List (Int×Int)} {w:World} (h:Ml w ao n cap ps):
  Calls Tryz.prog 172 #[.slice ao n cap] w (YK w (orM ps)):=by
 cases hr:bA 0 ps with
 |true=>exact(LP h hr).mono fun e w' ⟨he,hB⟩=>⟨ao,n,cap,he,by rw[rz hr];exact h.below hB,hB⟩
 |false=>exact(PE h hr).mono fun e w' ⟨he,hB⟩=>⟨none,0,0,he,by rw[Pv hr];exact Ml.zero _,hB⟩
def rX (w:World) (b:Nat) (v:Value) (T:TypeId):Prop:=w.heap[b]? =some (.cells #[v] T (0,0))
theorem rX.lt {w:World} {b:Nat} {v:Value} {T:TypeId} (h:rX w b v T):b<w.heap.size:=lt_of_block h
theorem rX.new (w:World) (v:Value) (T:TypeId):rX (w.alloc (.cells #[v] T)) w.heap.size v T:=by
 show(w.heap.push _)[w.heap.size]? =_;rw[Array.getElem?_push_size]
theorem rX.cell {w:World} {b:Nat} {v:Value} {T:TypeId} (h:rX w b v T):w.cell? ⟨b,0,none⟩=some v:=by
 unfold rX at h;simp[World.cell?,h]
theorem rX.fz {w:World} {b:Nat} {v:Value} {T:TypeId} (h:rX w b v T):w.frozen? ⟨b,0,none⟩=false:=by
 unfold rX at h;simp[World.frozen?,h]
theorem rX.keep {w w':World} {b:Nat} {v:Value} {T:TypeId} (h:rX w b v T) (e:w'.heap[b]? =w.heap[b]?):rX w' b v T:=e.trans h
theorem rX.below {w w':World} {b:Nat} {v:Value} {T:TypeId} (h:rX w b v T) (hb:Below w.heap.size w w'):rX w' b v T:=h.keep (hb.block b h.lt)
theorem rX.set {w:World} {b:Nat} {v:Value} {T:TypeId} (h:rX w b v T) (u:Value):rX (w.setCell ⟨b,0,none⟩ u) b u T:=by
 unfold rX at h ⊢;simp[World.setCell,Array.getElem?_modify,h]
theorem rX.far {w:World} {b c:Nat} {v:Value} {T:TypeId} (h:rX w b v T) (hc:c≠b) (o:Nat) (u:Value):rX (w.setCell ⟨c,o,none⟩ u) b v T:=
 h.keep (Below.heap_setCell _ _ _ _ (fun e=>hc e.symm))
theorem Mo.far {B:Nat} {w:World} {ao:Option Addr} {n cap:Nat} {ps:List (Int×Int)} (h:Mo B w ao n cap ps) {b:Nat} {v:Value} {T:TypeId} (hc:rX w b v T) (hT:T≠72) (o:Nat) (u:Value):Mo B (w.setCell ⟨b,o,none⟩ u) ao n cap ps:=by
 refine h.keep fun a ha=>Below.heap_setCell _ _ _ _ fun e=>?_
 rcases h.parts with⟨h1,_⟩|⟨g,cur,h1,_,_,_,hh⟩
 ·rw[h1]at ha;cases ha
 ·rw[h1]at ha;cases ha;have e':g=b:=e;subst e';unfold rX at hc;rw[hc]at hh;cases hh;exact hT rfl
theorem rX.grown {B:Nat} {w w':World} {o:Obj} {ao:Option Addr} {n cap:Nat} {ps:List (Int×Int)} {b:Nat} {v:Value} {T:TypeId} (h:rX w b v T) (hM:Mo B w ao n cap ps) (hT:T≠72) (hG:(w.alloc o).grownBy w' (Value.slice ao n cap).ownBlock):rX w' b v T:=by
 refine(h.below (af w o)).keep (hG.block b (by have:=h.lt;simp;omega) fun e=>?_);rcases hM.parts with⟨rfl,_⟩|⟨g,cur,rfl,_,_,_,hh⟩
 ·cases e
 ·have e':b=g:=Option.some.inj e;subst e';unfold rX at h;rw[h]at hh;cases hh;exact hT rfl
structure JInv (w0:World) (c k J:Nat) (f:Int->Int->Int) (done:List (Int×Int×Int)) (w:World):Prop where
 m:∃ao cap,Mo w0.heap.size w ao (mW f done).length cap (mW f done)/\ rX w c (.slice ao (mW f done).length cap) 68
 fn:rX w k (.func (.func J) #[] #[]) 170
 below:Below w0.heap.size w0 w
 hc:w0.heap.size<=c
theorem JInv.stable {w0:World} {c k J:Nat} {f:Int->Int->Int} {done:List (Int×Int×Int)} {w w':World} (h:JInv w0 c k J f done w) (hb:Below w.heap.size w w'):JInv w0 c k J f done w':=by
 obtain⟨ao,cap,h1,h2⟩:=h.m;exact⟨⟨ao,cap,h1.below hb,h2.below hb⟩,h.fn.below hb,Below.steps h.below hb,h.hc⟩
section
variable {J:Nat} {f:Int->Int->Int} {a0 b0:Option Addr} {la ca lc cc:Nat} {xs ys:List (Int×Int)} {w:World}
end
section
variable {a0 b0:Option Addr} {la ca lc cc:Nat} {xs ys:List (Int×Int)} {w:World}
end
open Lib (hid)
def LU (x y:Int):Int:=if x<y then-1 else if y<x then 1 else 0
theorem Dk (x:Int) (w:World):Calls Tryz.prog 219 #[.int .i64 x] w (fun e w'=>e= .returned (.bool false)/\ w=w'):=by
 go_enter Tryz.func219,Tryz.ntmps219;go_wp2;go_ret;exact⟨iM (by simp),rfl⟩
theorem IB (x y z:Int) (w:World) (hz:LU x y=z):Calls Tryz.prog 194 #[.int .i64 x,.int .i64 y] w (fun e w'=>e= .returned (.int .i64 z)/\ w=w'):=by
 have HZ:=hid hz;clear hz;rcases Int.lt_trichotomy x y with g|g|g
 ·have f1:decide (x<y)=true:=decide_eq_true g;go_enter Tryz.func194,Tryz.ntmps194;go_wp2_with ((with_reducible refine(Dk _ _).mono ?_);rintro e w' ⟨rfl,rfl⟩);go_ret;exact⟨gN (by rw[<-HZ.out];unfold LU;rw[if_pos g]),rfl⟩
 ·subst g;go_enter Tryz.func194,Tryz.ntmps194;go_wp2_with ((with_reducible refine(Dk _ _).mono ?_);rintro e w' ⟨rfl,rfl⟩);go_ret;exact⟨gN (by rw[<-HZ.out];unfold LU;simp),rfl⟩
 ·have f1:decide (x<y)=false:=decide_eq_false (by omega);have f2:decide (y<x)=true:=decide_eq_true g;go_enter Tryz.func194,Tryz.ntmps194;go_wp2_with ((with_reducible refine(Dk _ _).mono ?_);rintro e w' ⟨rfl,rfl⟩);go_ret;exact⟨gN (by rw[<-HZ.out];unfold LU;rw[if_neg (by omega),if_pos g]),rfl⟩
structure Dl (w0:World) (o:Nat) (done:List (Int×Int×Int)) (w:World):Prop where
 iQ:rX w o (.int .i64 (mF 0 done)) 3
 below:Below w0.heap.size w0 w
 ho:w0.heap.size<=o
theorem Dl.stable {w0:World} {o:Nat} {done:List (Int×Int×Int)} {w w':World} (h:Dl w0 o done w) (hb:Below w.heap.size w w'):Dl w0 o done w':=
 ⟨h.iQ.below hb,Below.steps h.below hb,h.ho⟩
theorem LV {w0 w:World} {o:Nat} {done:List (Int×Int×Int)} (t:Int×Int×Int) (h:Dl w0 o done w):
  Calls Tryz.prog 193 #[.int .i64 t.1,.int .i64 t.2.1,.int .i64 t.2.2,.pointer (some ⟨o,0,none⟩)] w (fun e w'=>e= .returned (.tuple #[])/\ Dl w0 o (done++[t]) w'):=by
 obtain⟨v,x,y⟩:=t;have cc:=h.iQ.cell;have fc:=h.iQ.fz;have lc:=h.iQ.lt;have HI:=hid h;clear h;obtain⟨l,hl⟩:∃l,l=mF 0 done:=⟨_,rfl⟩;rw[<-hl]at cc;have HL:=hid hl;clear hl;by_cases g:x=y
 ·subst g;go_enter Tryz.func193,Tryz.ntmps193;go_wp2;go_end0;refine⟨rfl,⟨?_,HI.out.below,HI.out.ho⟩⟩;rw[pI];simpa[mF]using HI.out.iQ
 ·have g1:(x==y)=false:=by simpa using g
  have g2:(x !=y)=true:=by simpa using g
  have HG:=hid g;clear g;obtain⟨z,hz⟩:∃z,LU x y=z:=⟨_,rfl⟩;have HZ:=hid hz;clear hz;go_enter Tryz.func193,Tryz.ntmps193;go_wp2_with ((with_reducible refine(IB x y z _ HZ.out).mono ?_);rintro e w' ⟨rfl,rfl⟩);go_end0;refine⟨rfl,⟨?_,HI.out.below.setCell HI.out.ho _,HI.out.ho⟩⟩
  have e1:mF 0 (done++[(v,x,y)])=z:=by
   rw[pI,<-HZ.out];unfold LU;simp only[mF];have:=HG.out;by_cases h1:x<y
   ·rw[if_pos h1,if_pos h1]
   ·rw[if_neg h1,if_neg h1,if_pos (by omega),if_pos (by omega)]
  rw[e1];exact HI.out.iQ.set _
section
variable {a0 b0:Option Addr} {la ca lc cc:Nat} {xs ys:List (Int×Int)} {w:World}
def LB (xs ys:List (Int×Int)):Int×Int:=if bA 0 xs=true/\ bA 0 ys=true then(lX xs ys,0)else(0,2)
theorem Dm [Ol] (ha:Ml w a0 la ca xs) (hx:bA 0 xs=false):
  Calls Tryz.prog 144 #[.slice a0 la ca,.slice b0 lc cc] w (dI (.tuple #[.int .i64 0,.int .i64 2]) w):=by
 go_enter Tryz.func144,Tryz.ntmps144;go_wp2_with fail;refine(mU false ha hx).mono ?_;rintro e w1 ⟨rfl,hB⟩;go_wp2_with fail;go_ret2;exact⟨rfl,hB⟩
theorem Dn [Ol] (ha:Ml w a0 la ca xs) (hb:Ml w b0 lc cc ys) (hx:bA 0 xs=true) (hy:bA 0 ys=false):
  Calls Tryz.prog 144 #[.slice a0 la ca,.slice b0 lc cc] w (dI (.tuple #[.int .i64 0,.int .i64 2]) w):=by
 have yP:=hid hb;clear hb;go_enter Tryz.func144,Tryz.ntmps144;go_wp2_with fail;refine(mU true ha hx).mono ?_;rintro e w1 ⟨rfl,hB⟩;have HB:=hid hB;have HY:=hid (yP.out.below hB);clear hB ha hx yP;go_wp2_with fail;refine(mU false HY.out hy).mono ?_;rintro e w2 ⟨rfl,hB⟩;go_wp2_with fail;go_ret2;exact⟨rfl,Below.steps HB.out hB⟩
theorem Dp [Ol] (ha:Ml w a0 la ca xs) (hb:Ml w b0 lc cc ys) (hx:bA 0 xs=true) (hy:bA 0 ys=true) (z:Int) (hz:lX xs ys=z):
  Calls Tryz.prog 144 #[.slice a0 la ca,.slice b0 lc cc] w (dI (.tuple #[.int .i64 z,.int .i64 0]) w):=by
 have eg:∀args w,(callFunc 193 args).run Tryz.prog w= .ok (.enter 193 args) w:=enters_of Tryz.func193 (by kernel_rfl) rfl
 have hF:∀(w0:World) (o:Nat) done t rest W,tQ xs ys=done++t::rest->Dl w0 o done W->Calls Tryz.prog 193 (#[.int .i64 t.1,.int .i64 t.2.1,.int .i64 t.2.2]++ #[.pointer (some ⟨o,0,none⟩)]) W (fun e w'=>e= .returned (.tuple #[])/\ Dl w0 o (done++[t]) w'):=
  fun w0 o done t rest W _ h=>by exact LV t h
 have h0:∀W:World,Dl W W.heap.size [] (W.alloc (.cells #[.int .i64 0] 3)):=fun W=>⟨rX.new _ _ _,af _ _,Nat.le_refl _⟩
 have HF:=hid hF;have H0:=hid h0;have HX:=hid hx;have HY:=hid hy;have HA:=hid ha;have yP:=hid hb;have HZ:=hid hz;clear hx hy ha hb hz hF h0;go_enter Tryz.func144,Tryz.ntmps144;go_wp2_with fail;refine(mU true HA.out HX.out).mono ?_;rintro e w1 ⟨rfl,hB⟩;have HB1:=hid hB;have HA1:=hid (HA.out.below hB);have LA:=hid (yP.out.below hB);clear hB yP HA;go_wp2_with fail;refine(mU true LA.out HY.out).mono ?_;rintro e w2 ⟨rfl,hB⟩;have HB2:=hid (Below.steps HB1.out hB);have HA2:=hid (HA1.out.below hB);have TK:=hid (LA.out.below hB);clear hB HA1 LA HB1;go_wp2_with fail;refine(PD eg (Dl w2 w2.heap.size) (w0:=w2) HA2.out TK.out (fun _ _ _ h hb=>h.stable hb) (fun _ _ h=>h.below) (HF.out _ _) (H0.out _)).mono ?_;rintro e w3 ⟨rfl,hI⟩;have c3:=hI.iQ.cell;have HB3:=hid (Below.steps HB2.out hI.below);obtain⟨l,hl⟩:∃l,l=mF 0 (tQ xs ys):=⟨_,rfl⟩;rw[<-hl]at c3;have HL:=hid hl;clear hI hl HA2 TK HB2;go_wp2_with fail;go_ret2;refine⟨?_,HB3.out⟩;have e1:l=z:=by rw[HL.out,Iw];exact HZ.out
 rw[e1];rfl
theorem Fv [Ol] (ha:Ml w a0 la ca xs) (hb:Ml w b0 lc cc ys):
  Calls Tryz.prog 144 #[.slice a0 la ca,.slice b0 lc cc] w (dI (.tuple #[.int .i64 (LB xs ys).1,.int .i64 (LB xs ys).2]) w):=by
 unfold LB;cases hx:bA 0 xs with
 |false=>
  rw[if_neg (by simp)];exact Dm ha hx
 |true=>
  cases hy:bA 0 ys with
  |false=>
   rw[if_neg (by simp)];exact Dn ha hb hx hy
  |true=>
   rw[if_pos ⟨rfl,rfl⟩];exact Dp ha hb hx hy _ rfl
end
theorem FP:∀(ps:List (Int×Int)),ps≠[]->iC ps=(ps.getD (ps.length-1) (0,0)).1
 |[],h=>absurd rfl h
 |[p],_=>rfl
 |p::q::r,_=>by
  have ih:=FP (q::r) (by simp);simp only[iC]at ih ⊢;rw[if_neg (by simp)];rw[ih];simp
theorem vR [Ol] {ao:Option Addr} {n cap:Nat} {ps:List (Int×Int)} {w:World} (h:Ml w ao n cap ps) (z:Int) (hz:iC (orM ps)=z):
  Calls Tryz.prog 148 #[.slice ao n cap] w (dI (.int .i64 z) w):=by
 have HZ:=hid hz;have HM:=hid h;clear h hz;go_enter Tryz.func148,Tryz.ntmps148;go_wp2_with fail;refine(LQ HM.out).mono ?_;rintro e w1 ⟨mo,m,cm,rfl,hM,hB⟩;have hle:=hM.le;have hbig:=hM.big;obtain⟨qs,Wo⟩:∃qs,qs=orM ps:=⟨_,rfl⟩;rw[<-Wo]at HZ hM;have HQ:=hid hM;have HB:=hid hB;clear hM hB Wo HM;by_cases hm:m=0
 ·subst hm;have hq:=HQ.out.empty rfl;have HE:Hid (z=0):=by rw[Hid,<-HZ.out,hq];rfl
  clear hq HZ HQ;go_wp2;go_ret;exact⟨gN HE.out.symm,HB.out⟩
 ·obtain⟨m,rfl⟩:∃k,m=k+1:=⟨m-1,by omega⟩;obtain⟨b,off,rfl,hb,hc⟩:=HQ.out.at (by omega);obtain⟨c1,_⟩:=hc m (by omega);have hl:=HQ.out.len
  have HE:Hid (z=(qs.getD m (0,0)).1):=by
   rw[Hid,<-HZ.out,FP qs (by intro h;rw[h]at hl;simp at hl),hl];simp
  obtain⟨u,hu⟩:∃u,u=(qs.getD m (0,0)).1:=⟨_,rfl⟩;rw[<-hu]at c1 HE;have g1:((m+1:Nat):Int)-1=(m:Int):=by omega
  have g2:(((m+1:Nat):Int)==0)=false:=by simp;omega
  clear hl hu hc HZ HQ hm;go_wp2;go_ret;exact⟨gN HE.out.symm,HB.out⟩
theorem Ab:∀(ps:List (Int×Int)) (i:Nat) (p:Int×Int),((eP ps).set (i*2) (.int .i64 p.1)).set (i*2+1) (.int .i64 p.2)=eP (ps.set i p)
 |[],_,_=>rfl
 |q::r,0,p=>rfl
 |q::r,i+1,p=>by
  rw[show(i+1)*2=i*2+1+1 by omega];simp only[eP,List.set_cons_succ];rw[Ab r i p]
theorem Mo.set {B:Nat} {w:World} {g n cap:Nat} {ps:List (Int×Int)} (h:Mo B w (some ⟨g,0,none⟩) n cap ps) (i:Nat) (p:Int×Int) (h1:jL p.1) (h2:jL p.2):
  Mo B ((w.setCell ⟨g,i*2,none⟩ (.int .i64 p.1)).setCell ⟨g,i*2+1,none⟩ (.int .i64 p.2)) (some ⟨g,0,none⟩) n cap (ps.set i p):=by
 refine⟨?_,h.big,fun q hq=>?_⟩
 ·rw[<-Ab];exact((h.row.stored (i*2) _).1.stored (i*2+1) _).1
 ·rcases List.mem_or_eq_of_mem_set hq with hq|rfl
  ·exact h.wf q hq
  ·exact⟨h1,h2⟩
theorem Mo.cell [Ol] {B:Nat} {w:World} {g n cap:Nat} {ps:List (Int×Int)} (h:Mo B w (some ⟨g,0,none⟩) n cap ps) (t:Nat) (ht:t<n):
  w.cell? ⟨g,t*2,none⟩=some (.int .i64 (ps.getD t (0,0)).1)/\ w.cell? ⟨g,t*2+1,none⟩=some (.int .i64 (ps.getD t (0,0)).2):=by
 have:=h.ml.cells _ rfl t ht;rw[Addr.add_lit,Addr.add_lit,Nat.zero_add,Nat.zero_add]at this;exact this
theorem Mo.fz {B:Nat} {w:World} {g n cap:Nat} {ps:List (Int×Int)} (h:Mo B w (some ⟨g,0,none⟩) n cap ps) (j:Nat):w.frozen? ⟨g,j,none⟩=false:=h.row.frozenAt j
section
variable {G:Nat} {lb:Array Value} {v:Int}
end
end Go.Proofs.YtmenbpmciblnlaaGreatDoor
