/- MSide, MMayP, MJoin, MOne, MOps, MCmp, MDel -/
import Derived.Test.YthdhjckangekoaaGreatGM1
import Derived.Shelf.Abstract
import Derived.Deep.DeepMust
import Derived.Lib.SliceRun
import Derived.Laws.IdiomCopy
set_option maxHeartbeats 40000000
set_option maxRecDepth 100000
namespace Go.Proofs.YthdhjckangekoaaGreat
open Lib (hid)
open Go.RowKit
theorem Ml.h0 [Ol] {w:World} {b off n cap:Nat} {p1 p2:Int} {r:List (Int×Int)} (h:Ml w (some ⟨b,off,none⟩) (n+1) cap ((p1,p2)::r)):w.cell? ⟨b,off,none⟩=some (.int .i64 p1):=by
 have:=(h.cells _ rfl 0 (by omega)).1;rw[Addr.add_lit]at this;simpa using this
theorem Ml.h1 [Ol] {w:World} {b off n cap:Nat} {p1 p2:Int} {r:List (Int×Int)} (h:Ml w (some ⟨b,off,none⟩) (n+1) cap ((p1,p2)::r)):w.cell? ⟨b,off+1,none⟩=some (.int .i64 p2):=by
 have:=(h.cells _ rfl 0 (by omega)).2;rw[Addr.add_lit]at this;simpa using this
theorem Ml.cons [Ol] {w:World} {ao:Option Addr} {n cap:Nat} {ps:List (Int×Int)} (h:Ml w ao (n+1) cap ps):∃b off p1 p2 r,ao=some ⟨b,off,none⟩/\ ps=(p1,p2)::r:=by
 obtain⟨b,off,rfl,_⟩:=h.at (by omega);have hl:=h.len
 match ps,hl with
 |(p1,p2)::r,_=>exact⟨b,off,p1,p2,r,rfl,rfl⟩
def Hg:Value->Nat
 | .slice _ n _=>n
 | _=>0
def Vk (b off cap:Nat):Option Addr:=if cap=1 then some ⟨b,off,none⟩else some ⟨b,off+2,none⟩
theorem Ml.rest [Ol] {w:World} {b off n cap:Nat} {p:Int×Int} {r:List (Int×Int)} (h:Ml w (some ⟨b,off,none⟩) (n+1) cap (p::r)):Ml w (Vk b off cap) n (cap-1) r:=by
 unfold Vk;by_cases hc:cap=1
 ·obtain⟨h1,h2⟩:=OU h hc;rw[if_pos hc,h2,hc];exact h1
 ·rw[if_neg hc];exact RJ h
def JD [Ol] (w:World) (Inv:List (Int×Int×Int)->World->Prop) (a b:Value) (wr:World) (ts:List (Int×Int×Int)):Prop:=
 ∃(ao:Option Addr) (n cap:Nat) (bo:Option Addr) (m cb:Nat) (xs' ys':List (Int×Int)) (done:List (Int×Int×Int)),a= .slice ao n cap/\ b= .slice bo m cb/\
  Hid (Ml w ao n cap xs'/\ Ml w bo m cb ys')/\ Hid (ts=done++qd xs' ys')/\ Hid (Inv done wr)
theorem Et [Ol] {G:Nat} {lb:Array Value} (eg:∀args w,(callFunc G args).run Tryz.prog w= .ok (.enter G args) w) (Inv:List (Int×Int×Int)->World->Prop)
  {a0 b0:Option Addr} {la ca lc cc:Nat} {xs ys:List (Int×Int)} {w0 w:World} (ha:Ml w0 a0 la ca xs) (hb:Ml w0 b0 lc cc ys)
  (hS:∀done W W',Inv done W->Below W.heap.size W W'->Inv done W')
  (hB:∀done W,Inv done W->Below w0.heap.size w0 W)
  (hF:∀done t rest W,qd xs ys=done++t::rest->Inv done W->Calls Tryz.prog G (#[.int .i64 t.1,.int .i64 t.2.1,.int .i64 t.2.2]++lb) W (fun e w'=>e= .returned (.tuple #[])/\ Inv (done++[t]) w'))
  (h0:Inv [] w):
  Calls Tryz.prog 131 #[.slice a0 la ca,.slice b0 lc cc,.func (.func G) #[] lb] w (fun e w'=>e= .returned (.tuple #[])/\ Inv (qd xs ys) w'):=by
 have HF:=hid hF;have Yi:=hid hS;have HBw:=hid hB;obtain⟨ts,hts⟩:∃ts,ts=qd xs ys:=⟨_,rfl⟩;rw[<-hts]at HF ⊢;have HI0:=hid h0;have Gy:Hid (JD w0 Inv (.slice a0 la ca) (.slice b0 lc cc) w ts):=⟨_,_,_,_,_,_,_,_,[],rfl,rfl,⟨ha,hb⟩,hts,h0⟩;clear hF hS hB h0 ha hb hts;go_enter Tryz.func131,Tryz.ntmps131;go_wp2;go_loopw [0,1] (fun a b wr=>JD w0 Inv a b wr ts) (fun a b _=>Hg a+Hg b)
 case atStart=>exact Gy.out
 case round=>
  clear Gy;obtain⟨ao,n,cap,bo,m,cb,xs',ys',done,rfl,rfl,HM,HT,HI⟩:=hrel;have hn1:=HM.out.1.le;have hn2:=HM.out.1.big;have hm1:=HM.out.2.le;have hm2:=HM.out.2.big;by_cases hn:n<=0
  ·have fn:decide (0<n)=false:=decide_eq_false (by omega);have fn2:decide ((0:Int)<(n:Int))=false:=decide_eq_false (by omega);have HT:=hid (HT.out.trans (by rw[Jz (.inl (HM.out.1.empty (by omega)))]));go_wp2;go_loopw [68] (fun i wr=>∃(k:Nat) (done:List (Int×Int×Int)),k<=n/\ i= .int .i64 k/\ Hid (ts=done++((xs'.drop k).map (fun p=>(p.1,p.2,(0:Int)))++ys'.map (fun q=>(q.1,(0:Int),q.2))))/\ Hid (Inv done wr)) (fun i _=>n-(intOf i).toNat)
   case atStart=>exact⟨0,done,Nat.zero_le _,rfl,HT.out,HI.out⟩
   case round=>
    clear HT HI;obtain⟨k,done,hk,rfl,HT,HI⟩:=hrel;by_cases hkn:k<n
    ·exfalso;omega
    ·obtain rfl:k=n:=by omega
     have HT2:Hid (ts=done++ys'.map (fun q=>(q.1,(0:Int),q.2))):=HT.out.trans (by rw[List.drop_eq_nil_of_le (by rw[HM.out.1.len];exact Nat.le_refl _)];rfl);clear HT;go_wp2;go_loopw [81] (fun i wr=>∃(k:Nat) (done:List (Int×Int×Int)),k<=m/\ i= .int .i64 k/\ Hid (ts=done++(ys'.drop k).map (fun q=>(q.1,(0:Int),q.2)))/\ Hid (Inv done wr)) (fun i _=>m-(intOf i).toNat)
     case atStart=>exact⟨0,done,Nat.zero_le _,rfl,HT2.out,HI.out⟩
     case round=>
      clear HT2 HI;obtain⟨j,done,hj,rfl,HT,HI⟩:=hrel;by_cases hjm:j<m
      ·have HX:=hid (HM.out.2.below (HBw.out _ _ HI.out));obtain⟨b,off,rfl,hb,hc⟩:=HX.out.at (by omega);obtain⟨c1,c2⟩:=hc j hjm;have HT2:=hid (HT.out.trans (by rw[map_drop _ (by rw[HX.out.len];exact hjm)]));clear hc HT;obtain⟨p,hp⟩:∃p,p=ys'.getD j (0,0):=⟨_,rfl⟩;rw[<-hp]at c1 c2 HT2;clear hp HX;obtain⟨v,e⟩:=p;go_wp2_with (go_at_fn G;refine(HF.out done (v,0,e) _ _ HT2.out (Yi.out _ _ _ HI.out (af _ _))).mono ?_;rintro e w2 ⟨rfl,hI2⟩;have HI2:=hid hI2;clear hI2);go_roundw
       case rel=>exact⟨j+1,done++[(v,0,e)],by omega,by go_num,by rw[Hid,HT2.out];simp,HI2.out⟩
       case measure=>simp[intOf];omega
      ·obtain rfl:j=m:=by omega
       go_wp2;go_end0;refine⟨rfl,?_⟩;have e2:=HT.out;rw[List.drop_eq_nil_of_le (by rw[HM.out.2.len];exact Nat.le_refl _)]at e2;rw[e2];simpa using HI.out
  ·by_cases hm:m<=0
   ·have hn0:0<n:=by omega
    have fn:decide (0<m)=false:=decide_eq_false (by omega);have fn2:decide ((0:Int)<(m:Int))=false:=decide_eq_false (by omega);have HT:=hid (HT.out.trans (by rw[Jz (.inr (HM.out.2.empty (by omega)))]));go_wp2;go_loopw [68] (fun i wr=>∃(k:Nat) (done:List (Int×Int×Int)),k<=n/\ i= .int .i64 k/\ Hid (ts=done++((xs'.drop k).map (fun p=>(p.1,p.2,(0:Int)))++ys'.map (fun q=>(q.1,(0:Int),q.2))))/\ Hid (Inv done wr)) (fun i _=>n-(intOf i).toNat)
    case atStart=>exact⟨0,done,Nat.zero_le _,rfl,HT.out,HI.out⟩
    case round=>
     clear HT HI;obtain⟨k,done,hk,rfl,HT,HI⟩:=hrel;by_cases hkn:k<n
     ·have HX:=hid (HM.out.1.below (HBw.out _ _ HI.out));obtain⟨b,off,rfl,hb,hc⟩:=HX.out.at (by omega);obtain⟨c1,c2⟩:=hc k hkn;have HT2:=hid (HT.out.trans (by rw[map_drop _ (by rw[HX.out.len];exact hkn)]));clear hc HT;obtain⟨p,hp⟩:∃p,p=xs'.getD k (0,0):=⟨_,rfl⟩;rw[<-hp]at c1 c2 HT2;clear hp HX;obtain⟨v,e⟩:=p;go_wp2_with (go_at_fn G;refine(HF.out done (v,e,0) _ _ HT2.out (Yi.out _ _ _ HI.out (af _ _))).mono ?_;rintro e w2 ⟨rfl,hI2⟩;have HI2:=hid hI2;clear hI2);go_roundw
      case rel=>exact⟨k+1,done++[(v,e,0)],by omega,by go_num,by rw[Hid,HT2.out];simp,HI2.out⟩
      case measure=>simp[intOf];omega
     ·obtain rfl:k=n:=by omega
      have HT2:Hid (ts=done++ys'.map (fun q=>(q.1,(0:Int),q.2))):=HT.out.trans (by rw[List.drop_eq_nil_of_le (by rw[HM.out.1.len];exact Nat.le_refl _)];rfl);clear HT;go_wp2;go_loopw [81] (fun i wr=>∃(k:Nat) (done:List (Int×Int×Int)),k<=m/\ i= .int .i64 k/\ Hid (ts=done++(ys'.drop k).map (fun q=>(q.1,(0:Int),q.2)))/\ Hid (Inv done wr)) (fun i _=>m-(intOf i).toNat)
      case atStart=>exact⟨0,done,Nat.zero_le _,rfl,HT2.out,HI.out⟩
      case round=>
       clear HT2 HI;obtain⟨j,done,hj,rfl,HT,HI⟩:=hrel;by_cases hjm:j<m
       ·exfalso;omega
       ·obtain rfl:j=m:=by omega
        go_wp2;go_end0;refine⟨rfl,?_⟩;have e2:=HT.out;rw[List.drop_eq_nil_of_le (by rw[HM.out.2.len];exact Nat.le_refl _)]at e2;rw[e2];simpa using HI.out
   ·obtain⟨n,rfl⟩:∃k,n=k+1:=⟨n-1,by omega⟩;obtain⟨m,rfl⟩:∃k,m=k+1:=⟨m-1,by omega⟩;clear hn hm;obtain⟨b,off,p1,p2,r,rfl,rfl⟩:=HM.out.1.cons;obtain⟨b2,off2,q1,q2,s,rfl,rfl⟩:=HM.out.2.cons;have HS:=HM;go_upto_region 1 with(fail)
    have S0:=hid (Sx.start (w:=wr) (N:=[.ml (some ⟨b,off,none⟩) (n+1) cap ((p1,p2)::r),.ml (some ⟨b2,off2,none⟩) (m+1) cb ((q1,q2)::s)]) ⟨HS.out.1.below (HBw.out _ _ HI.out),HS.out.2.below (HBw.out _ _ HI.out),trivial⟩);go_cut [6,7]from 20 to 26 (fun sl0 sl1 w9=>∃(qb6:Nat) (qb7:Nat),sl0= .pointer (some ⟨qb6,0,none⟩)/\ sl1= .pointer (some ⟨qb7,0,none⟩)/\ Hid (Sx wr w9 [⟨qb7,[.int .i64 q1,.int .i64 q2]⟩,⟨qb6,[.int .i64 p1,.int .i64 p2]⟩] [.ml (some ⟨b,off,none⟩) (n+1) cap ((p1,p2)::r),.ml (some ⟨b2,off2,none⟩) (m+1) cb ((q1,q2)::s)]))
    case first=>
     have S1:=hid (S0.out.drew);clear S0;refine wp_region_held_drew (S:=fun w'=>w'.cell? ⟨b,off,none⟩=some (.int .i64 p1)/\ w'.cell? ⟨b,off+1,none⟩=some (.int .i64 p2)/\ w'.cell? ⟨b2,off2,none⟩=some (.int .i64 q1)/\ w'.cell? ⟨b2,off2+1,none⟩=some (.int .i64 q2)) (by kernel_rfl) (⟨S1.out.n.ml.h0,S1.out.n.ml.h1,S1.out.n.t.ml.h0,S1.out.n.t.ml.h1⟩) (fun hH=>?_);refine ak (fun w1 hW=>?_);rw[<-hW]at S1 hH;clear hW;refine aB 0 hH ?_;try simp only[ai]
     refine aB 1 hH ?_;try simp only[ai]
     refine aB 2 hH ?_;try simp only[ai]
     refine aB 3 hH ?_;try simp only[ai]
     refine aB 4 hH ?_;try simp only[ai]
     refine aB 5 hH ?_;try simp only[ai]
     refine wpAnyH_ready (rs:=[6,7]) (by kernel_rfl) (by simp) (dR rfl (fun K hK=>?_) (dR rfl (fun K hK=>?_) (AllReadyH.nil)))
     ·go_simp;have S2:=hid (S1.out.var (w1.heap.size) [.int .i64 0,.int .i64 0] 56 (by simp));clear S1;refine hK.out _ _ ⟨S2.out.n.ml.h0,S2.out.n.ml.h1,S2.out.n.t.ml.h0,S2.out.n.t.ml.h1⟩ (fun h2=>?_);clear hK K hH;have hH:=h2;clear h2
      try simp only[ai]
      refine ak (fun w2 hW=>?_);rw[<-hW]at S2 hH;clear hW;refine aj 7 rfl (by kernel_rfl) (fun K hK=>?_);go_simp;have S3:=hid (S2.out.var (w2.heap.size) [.int .i64 0,.int .i64 0] 56 (by simp));clear S2;refine hK.out _ _ ⟨S3.out.n.ml.h0,S3.out.n.ml.h1,S3.out.n.t.ml.h0,S3.out.n.t.ml.h1⟩ (fun h2=>?_);clear hK K hH;have hH:=h2;clear h2
      try simp only[ai]
      refine ak (fun w3 hW=>?_);rw[<-hW]at S3 hH;clear hW;refine aj 8 rfl (by kernel_rfl) (fun K hK=>?_);obtain⟨Hl,Ho⟩:=S3.out.b.t.c2;obtain⟨Hq,Hr⟩:=S3.out.b.t.f2;go_simp;clear Hl Ho Hq Hr;have S4:Hid (Sx wr _ [⟨(w2.heap.size),[.int .i64 0,.int .i64 0]⟩,⟨(w1.heap.size),[.int .i64 p1,.int .i64 p2]⟩] _):=hid (Sx.set [⟨(w2.heap.size),[.int .i64 0,.int .i64 0]⟩] [] (Sx.set [⟨(w2.heap.size),[.int .i64 0,.int .i64 0]⟩] [] S3.out 0 (.int .i64 p1)) 1 (.int .i64 p2));clear S3;refine hK.out _ _ ⟨S4.out.n.ml.h0,S4.out.n.ml.h1,S4.out.n.t.ml.h0,S4.out.n.t.ml.h1⟩ (fun h2=>?_);clear hK K hH;have hH:=h2;clear h2
      try simp only[ai]
      refine ak (fun w4 hW=>?_);rw[<-hW]at S4 hH;clear hW;refine aj 9 rfl (by kernel_rfl) (fun K hK=>?_);obtain⟨Ht,Hu⟩:=S4.out.b.c2;obtain⟨Hw,Hy⟩:=S4.out.b.f2;go_simp;clear Ht Hu Hw Hy;have S5:Hid (Sx wr _ [⟨(w2.heap.size),[.int .i64 q1,.int .i64 q2]⟩,⟨(w1.heap.size),[.int .i64 p1,.int .i64 p2]⟩] _):=hid (Sx.set [] [⟨(w1.heap.size),[.int .i64 p1,.int .i64 p2]⟩] (Sx.set [] [⟨(w1.heap.size),[.int .i64 p1,.int .i64 p2]⟩] S4.out 0 (.int .i64 q1)) 1 (.int .i64 q2));clear S4;refine hK.out _ _ ⟨S5.out.n.ml.h0,S5.out.n.ml.h1,S5.out.n.t.ml.h0,S5.out.n.t.ml.h1⟩ (fun h2=>?_);clear hK K hH;have hH:=h2;clear h2
      try simp only[ai]
      refine ak (fun w5 hW=>?_);rw[<-hW]at S5 hH;clear hW;refine wpAnyH_done (by kernel_rfl) ?_ _
      clear hH;go_wp2_with fail;go_meet
      case rel=>exact⟨_,_,rfl,rfl,S5.out⟩
     ·go_simp;have S2:=hid (S1.out.var (w1.heap.size) [.int .i64 0,.int .i64 0] 56 (by simp));clear S1;refine hK.out _ _ ⟨S2.out.n.ml.h0,S2.out.n.ml.h1,S2.out.n.t.ml.h0,S2.out.n.t.ml.h1⟩ (fun h2=>?_);clear hK K hH;have hH:=h2;clear h2
      try simp only[ai]
      refine ak (fun w2 hW=>?_);rw[<-hW]at S2 hH;clear hW;refine aj 6 rfl (by kernel_rfl) (fun K hK=>?_);go_simp;have S3:=hid (S2.out.var (w2.heap.size) [.int .i64 0,.int .i64 0] 56 (by simp));clear S2;refine hK.out _ _ ⟨S3.out.n.ml.h0,S3.out.n.ml.h1,S3.out.n.t.ml.h0,S3.out.n.t.ml.h1⟩ (fun h2=>?_);clear hK K hH;have hH:=h2;clear h2
      try simp only[ai]
      refine ak (fun w3 hW=>?_);rw[<-hW]at S3 hH;clear hW;refine aj 8 rfl (by kernel_rfl) (fun K hK=>?_);obtain⟨Hl,Ho⟩:=S3.out.b.c2;obtain⟨Hq,Hr⟩:=S3.out.b.f2;go_simp;clear Hl Ho Hq Hr;have S4:Hid (Sx wr _ [⟨(w2.heap.size),[.int .i64 p1,.int .i64 p2]⟩,⟨(w1.heap.size),[.int .i64 0,.int .i64 0]⟩] _):=hid (Sx.set [] [⟨(w1.heap.size),[.int .i64 0,.int .i64 0]⟩] (Sx.set [] [⟨(w1.heap.size),[.int .i64 0,.int .i64 0]⟩] S3.out 0 (.int .i64 p1)) 1 (.int .i64 p2));clear S3;refine hK.out _ _ ⟨S4.out.n.ml.h0,S4.out.n.ml.h1,S4.out.n.t.ml.h0,S4.out.n.t.ml.h1⟩ (fun h2=>?_);clear hK K hH;have hH:=h2;clear h2
      try simp only[ai]
      refine ak (fun w4 hW=>?_);rw[<-hW]at S4 hH;clear hW;refine aj 9 rfl (by kernel_rfl) (fun K hK=>?_);obtain⟨Ht,Hu⟩:=S4.out.b.t.c2;obtain⟨Hw,Hy⟩:=S4.out.b.t.f2;go_simp;clear Ht Hu Hw Hy;have S5:Hid (Sx wr _ [⟨(w2.heap.size),[.int .i64 p1,.int .i64 p2]⟩,⟨(w1.heap.size),[.int .i64 q1,.int .i64 q2]⟩] _):=hid (Sx.set [⟨(w2.heap.size),[.int .i64 p1,.int .i64 p2]⟩] [] (Sx.set [⟨(w2.heap.size),[.int .i64 p1,.int .i64 p2]⟩] [] S4.out 0 (.int .i64 q1)) 1 (.int .i64 q2));clear S4;refine hK.out _ _ ⟨S5.out.n.ml.h0,S5.out.n.ml.h1,S5.out.n.t.ml.h0,S5.out.n.t.ml.h1⟩ (fun h2=>?_);clear hK K hH;have hH:=h2;clear h2
      try simp only[ai]
      refine ak (fun w5 hW=>?_);rw[<-hW]at S5 hH;clear hW;refine wpAnyH_done (by kernel_rfl) ?_ _
      clear hH;go_wp2_with fail;go_meet
      case rel=>exact⟨_,_,rfl,rfl,S5.out.swap⟩
    case rest=>
    clear S0;obtain⟨qb6,qb7,rfl,rfl,S1⟩:=hcut;obtain⟨w6,hW⟩:∃w6,w6=wc:=⟨_,rfl⟩;rw[<-hW]at S1 ⊢;clear hW;obtain⟨al1,al2⟩:=S1.out.b.t.c2;obtain⟨al3,al4⟩:=S1.out.b.c2;rcases Int.lt_trichotomy p1 q1 with g|g|g
    ·have HT2:=hid (HT.out.trans (by rw[yu _ _ g]));have f1:decide (p1<q1)=true:=decide_eq_true g;go_wp2_with (go_at_fn G;(refine(HF.out done (p1,p2,0) _ _ HT2.out (Yi.out _ _ _ HI.out S1.out.h)).mono ?_);rintro e w2 ⟨rfl,hI2⟩;have HI2:=hid hI2;clear hI2);go_roundw
     case rel=>exact⟨_,n,cap-1,_,m+1,cb,r,(q1,q2)::s,done++[(p1,p2,0)],rfl,rfl,⟨HM.out.1.rest,HM.out.2⟩,by rw[Hid,HT2.out];simp,HI2.out⟩
     case measure=>simp[Hg];try omega
    ·have HT2:=hid (HT.out.trans (by rw[yx _ _ g]));subst g;go_wp2_with (go_at_fn G;(refine(HF.out done (p1,p2,q2) _ _ HT2.out (Yi.out _ _ _ HI.out S1.out.h)).mono ?_);rintro e w2 ⟨rfl,hI2⟩;have HI2:=hid hI2;clear hI2);go_quiet (fail);go_wp2;go_roundw
     case rel=>exact⟨_,n,cap-1,_,m,cb-1,r,s,done++[(p1,p2,q2)],rfl,rfl,⟨HM.out.1.rest,HM.out.2.rest⟩,by rw[Hid,HT2.out];simp,Yi.out _ _ _ HI2.out (_root_.Go.below_drewN (Below.refl _ _) _)⟩
     case measure=>simp[Hg];try omega
    ·have HT2:=hid (HT.out.trans (by rw[yw _ _ g]));have f1:decide (p1<q1)=false:=decide_eq_false (by omega);have f2:decide (q1<p1)=true:=decide_eq_true g;go_wp2_with (go_at_fn G;(refine(HF.out done (q1,0,q2) _ _ HT2.out (Yi.out _ _ _ HI.out S1.out.h)).mono ?_);rintro e w2 ⟨rfl,hI2⟩;have HI2:=hid hI2;clear hI2);go_roundw
     case rel=>exact⟨_,n+1,cap,_,m,cb-1,(p1,p2)::r,s,done++[(q1,0,q2)],rfl,rfl,⟨HM.out.1,HM.out.2.rest⟩,by rw[Hid,HT2.out];simp,HI2.out⟩
     case measure=>simp[Hg];try omega
open Lib (hid)
theorem gJ [Ol] (r:Bool) {ao:Option Addr} {n cap:Nat} {ps:List (Int×Int)} {w:World} (h:Ml w ao n cap ps) (hr:aJ 0 ps=r):
  Calls Tryz.prog 72 #[.slice ao n cap] w (bN (.bool r) w):=by
 have hle:=h.le;have hbig:=h.big;have HM:=hid h;clear h;go_enter Tryz.func72,Tryz.ntmps72;go_wp2;go_loopw [3,8] (fun o i wr=>∃k:Nat,∃lo:Int,k<=n/\ i= .int .i64 k/\ o= .int .i64 lo/\ Hid (lo=RB ps k/\ 0<=lo)/\ Hid (aJ lo (ps.drop k)=r)/\ Hid (Ml wr ao n cap ps/\ Below w.heap.size w wr)) (fun _ i _=>n-(intOf i).toNat)
 case atStart=>exact⟨0,0,Nat.zero_le _,rfl,rfl,⟨rfl,Int.le_refl 0⟩,by rw[Hid,List.drop_zero];exact hr,HM.out,Below.refl _ _⟩
 case round=>
  clear HM;obtain⟨k,lo,hk,rfl,rfl,HL,HR,HS⟩:=hrel;have HM:=hid HS.out.1;by_cases hkn:k<n
  ·obtain⟨b,off,rfl,hb,hc⟩:=HM.out.at (by omega);obtain⟨c1,c2⟩:=hc k hkn;have HR2:=hid ((Az ps k lo (by rw[HM.out.len];exact hkn)).symm.trans HR.out);clear HR hc;obtain⟨v,hv⟩:∃v,v=(ps.getD k (0,0)).1:=⟨_,rfl⟩;obtain⟨e,he⟩:∃v,v=(ps.getD k (0,0)).2:=⟨_,rfl⟩;rw[<-hv]at c1;rw[<-he]at c2;have HV:=hid hv;have HE:=hid he;clear hv he;by_cases g0:v<=lo
   ·have f0:decide (v<=lo)=true:=decide_eq_true (by omega);go_wp2;go_ret;exact⟨dH (by rw[<-HR2.out];unfold Dn;rw[<-HV.out,<-HE.out];have:=HL.out;simp;omega),(Below.steps HS.out.2 (af _ _))⟩
   ·have f0:decide (v<=lo)=false:=decide_eq_false (by omega);by_cases g1:200<v
    ·have f1:decide (200<v)=true:=decide_eq_true (by omega);go_wp2;go_ret;exact⟨dH (by rw[<-HR2.out];unfold Dn;rw[<-HV.out,<-HE.out];have:=HL.out;simp;omega),(Below.steps HS.out.2 (af _ _))⟩
    ·have f1:decide (200<v)=false:=decide_eq_false (by omega);by_cases g2:e<1
     ·have f2:decide (e<1)=true:=decide_eq_true (by omega);go_wp2;go_ret;exact⟨dH (by rw[<-HR2.out];unfold Dn;rw[<-HV.out,<-HE.out];have:=HL.out;simp;omega),(Below.steps HS.out.2 (af _ _))⟩
     ·have f2:decide (e<1)=false:=decide_eq_false (by omega);by_cases g3:10000<e
      ·have f3:decide (10000<e)=true:=decide_eq_true (by omega);go_wp2;go_ret;exact⟨dH (by rw[<-HR2.out];unfold Dn;rw[<-HV.out,<-HE.out];have:=HL.out;simp;omega),(Below.steps HS.out.2 (af _ _))⟩
      ·have f3:decide (10000<e)=false:=decide_eq_false (by omega);go_wp2;go_roundw
       case rel=>exact⟨k+1,v,by omega,by go_num,rfl,⟨HV.out,by have:=HL.out;omega⟩,by rw[Hid,<-HR2.out,Hz (show lo<_ by rw[<-HV.out];omega) (by rw[<-HV.out];omega) (by rw[<-HE.out];omega) (by rw[<-HE.out];omega),HV.out];rfl,HM.out.below (af _ _),(Below.steps HS.out.2 (af _ _))⟩
       case measure=>simp[intOf];omega
  ·obtain rfl:k=n:=by omega
   go_wp2;go_ret;have e2:=HR.out;rw[List.drop_eq_nil_of_le (by rw[HM.out.len];exact Nat.le_refl _)]at e2;exact⟨dH (by rw[<-e2];rfl),HS.out.2⟩
theorem K5 [Ol] {ao:Option Addr} {n cap:Nat} {ps:List (Int×Int)} {w:World} (h:Ml w ao n cap ps) (hr:aJ 0 ps=true):
  Calls Tryz.prog 113 #[.slice ao n cap] w (bN (.slice ao n cap) w):=by
 go_enter Tryz.func113,Tryz.ntmps113;go_wp2_with fail;refine(gJ true h hr).mono ?_;rintro e w' ⟨rfl,hB⟩;go_wp2_with fail;go_ret;exact⟨rfl,hB⟩
theorem OV [Ol] {ao:Option Addr} {n cap:Nat} {ps:List (Int×Int)} {w:World} (h:Ml w ao n cap ps) (hr:aJ 0 ps=false):
  Calls Tryz.prog 113 #[.slice ao n cap] w (bN (.slice none 0 0) w):=by
 go_enter Tryz.func113,Tryz.ntmps113;go_wp2_with fail;refine(gJ false h hr).mono ?_;rintro e w' ⟨rfl,hB⟩;go_wp2_with fail;go_ret;exact⟨rfl,hB⟩
theorem rD [Ol] {ao:Option Addr} {n cap:Nat} {ps:List (Int×Int)} {w:World} (h:Ml w ao n cap ps):
  Calls Tryz.prog 113 #[.slice ao n cap] w (Ec w (orM ps)):=by
 cases hr:aJ 0 ps with
 |true=>exact(K5 h hr).mono fun e w' ⟨he,hB⟩=>⟨ao,n,cap,he,by rw[rC hr];exact h.below hB,hB⟩
 |false=>exact(OV h hr).mono fun e w' ⟨he,hB⟩=>⟨none,0,0,he,by rw[OJ hr];exact Ml.zero _,hB⟩
open Lib (hid)
def iG (w:World) (b:Nat) (v:Value) (T:TypeId):Prop:=w.heap[b]? =some (.cells #[v] T (0,0))
theorem iG.lt {w:World} {b:Nat} {v:Value} {T:TypeId} (h:iG w b v T):b<w.heap.size:=lt_of_block h
theorem iG.new (w:World) (v:Value) (T:TypeId):iG (w.alloc (.cells #[v] T)) w.heap.size v T:=by
 show(w.heap.push _)[w.heap.size]? =_;rw[Array.getElem?_push_size]
theorem iG.cell {w:World} {b:Nat} {v:Value} {T:TypeId} (h:iG w b v T):w.cell? ⟨b,0,none⟩=some v:=by
 unfold iG at h;simp[World.cell?,h]
theorem iG.fz {w:World} {b:Nat} {v:Value} {T:TypeId} (h:iG w b v T):w.frozen? ⟨b,0,none⟩=false:=by
 unfold iG at h;simp[World.frozen?,h]
theorem iG.keep {w w':World} {b:Nat} {v:Value} {T:TypeId} (h:iG w b v T) (e:w'.heap[b]? =w.heap[b]?):iG w' b v T:=e.trans h
theorem iG.below {w w':World} {b:Nat} {v:Value} {T:TypeId} (h:iG w b v T) (hb:Below w.heap.size w w'):iG w' b v T:=h.keep (hb.block b h.lt)
theorem iG.set {w:World} {b:Nat} {v:Value} {T:TypeId} (h:iG w b v T) (u:Value):iG (w.setCell ⟨b,0,none⟩ u) b u T:=by
 unfold iG at h ⊢;simp[World.setCell,Array.getElem?_modify,h]
theorem iG.far {w:World} {b c:Nat} {v:Value} {T:TypeId} (h:iG w b v T) (hc:c≠b) (o:Nat) (u:Value):iG (w.setCell ⟨c,o,none⟩ u) b v T:=
 h.keep (Below.heap_setCell _ _ _ _ (fun e=>hc e.symm))
theorem Mo.far {B:Nat} {w:World} {ao:Option Addr} {n cap:Nat} {ps:List (Int×Int)} (h:Mo B w ao n cap ps) {b:Nat} {v:Value} {T:TypeId} (hc:iG w b v T) (hT:T≠56) (o:Nat) (u:Value):Mo B (w.setCell ⟨b,o,none⟩ u) ao n cap ps:=by
 refine h.keep fun a ha=>Below.heap_setCell _ _ _ _ fun e=>?_
 rcases h.parts with⟨h1,_⟩|⟨g,cur,h1,_,_,_,hh⟩
 ·rw[h1]at ha;cases ha
 ·rw[h1]at ha;cases ha;have e':g=b:=e;subst e';unfold iG at hc;rw[hc]at hh;cases hh;exact hT rfl
theorem iG.grown {B:Nat} {w w':World} {o:Obj} {ao:Option Addr} {n cap:Nat} {ps:List (Int×Int)} {b:Nat} {v:Value} {T:TypeId} (h:iG w b v T) (hM:Mo B w ao n cap ps) (hT:T≠56) (hG:(w.alloc o).grownBy w' (Value.slice ao n cap).ownBlock):iG w' b v T:=by
 refine(h.below (af w o)).keep (hG.block b (by have:=h.lt;simp;omega) fun e=>?_);rcases hM.parts with⟨rfl,_⟩|⟨g,cur,rfl,_,_,_,hh⟩
 ·cases e
 ·have e':b=g:=Option.some.inj e;subst e';unfold iG at h;rw[h]at hh;cases hh;exact hT rfl
structure JInv (w0:World) (c k J:Nat) (f:Int->Int->Int) (done:List (Int×Int×Int)) (w:World):Prop where
 m:∃ao cap,Mo w0.heap.size w ao (fH f done).length cap (fH f done)/\ iG w c (.slice ao (fH f done).length cap) 52
 fn:iG w k (.func (.func J) #[] #[]) 186
 below:Below w0.heap.size w0 w
 hc:w0.heap.size<=c
theorem JInv.stable {w0:World} {c k J:Nat} {f:Int->Int->Int} {done:List (Int×Int×Int)} {w w':World} (h:JInv w0 c k J f done w) (hb:Below w.heap.size w w'):JInv w0 c k J f done w':=by
 obtain⟨ao,cap,h1,h2⟩:=h.m;exact⟨⟨ao,cap,h1.below hb,h2.below hb⟩,h.fn.below hb,Below.steps h.below hb,h.hc⟩
def Yj (J:Nat) (f:Int->Int->Int):Prop:=∀(x y:Int) (w:World),(0<=x/\ x<=10000)->(0<=y/\ y<=10000)->Calls Tryz.prog J #[.int .i64 x,.int .i64 y] w (fun e w'=>e= .returned (.int .i64 (f x y))/\ w=w')
theorem Cs {J:Nat} {f:Int->Int->Int} (eJ:∀args w,(callFunc J args).run Tryz.prog w= .ok (.enter J args) w) (hJ:Yj J f) {w0 w:World} {c k:Nat} {done:List (Int×Int×Int)} {v x y:Int}
  (hv:dW v) (hf:dW (f x y)) (hx:0<=x/\ x<=10000) (hy:0<=y/\ y<=10000) (hn:done.length<=400) (h:JInv w0 c k J f done w):
  Calls Tryz.prog 170 #[.int .i64 v,.int .i64 x,.int .i64 y,.pointer (some ⟨k,0,none⟩),.pointer (some ⟨c,0,none⟩)] w (fun e w'=>e= .returned (.tuple #[])/\ JInv w0 c k J f (done++[(v,x,y)]) w'):=by
 obtain⟨i0,hi,hz0,hz1,hz2⟩:=info_parts Tryz.nD;obtain⟨ao,cap,hM,hC⟩:=h.m;have ck:=h.fn.cell;have cc:=hC.cell;have fc:=hC.fz;have lc:=hC.lt;have lk:=h.fn.lt;have hln:=AA f done;obtain⟨n,hnn⟩:∃n,(fH f done).length=n:=⟨_,rfl⟩;obtain⟨z,hz⟩:∃z,f x y=z:=⟨_,rfl⟩;have HJ:=hid (hJ x y w hx hy);rw[hz]at HJ hf;rw[hnn]at hM hC cc;have hn4:n<=400:=by omega
 have HI:=hid h;have HM:=hid hM;have HC:=hid hC;have HN:=hid hnn;have HZ:=hid hz;have HV:=hid hv;have HF:=hid hf;clear h hM hC hnn hz hJ hx hy hn hln hv hf;by_cases g:z=0
 ·subst g;go_enter Tryz.func170,Tryz.ntmps170;go_wp2_with (go_at_fn J;(refine HJ.out.mono ?_);rintro e w' ⟨rfl,rfl⟩);go_end0;exact⟨rfl,⟨by rw[wN _ HZ.out,HN.out];exact⟨ao,cap,HM.out,HC.out⟩,HI.out.fn,HI.out.below,HI.out.hc⟩⟩
 ·have g1:(z==0)=false:=by simpa using g
  have g2:(z !=0)=true:=by simpa using g
  have HG:=hid g;clear g;go_enter Tryz.func170,Tryz.ntmps170
  go_wp2_with (first
   |(go_at_fn J;(refine HJ.out.mono ?_);rintro e w' ⟨rfl,rfl⟩)
   |(at_builtin;refine tV w w0 rfl (.tmp 15) (.tmp 19) 52 rfl w0.heap.size i0 (.agg #[.int .i64 0,.int .i64 0]) Tryz.underlying52 hi hz0 hz1 hz2 rfl ao n cap (fH f done) rfl HM.out v z HV.out HF.out _ rfl HI.out.below HI.out.below.size (by omega) ?_;intro JE cap2 w2 hM2 hB2 hG2;have yC:=hid hM2;have HB2:=hid hB2;have Ct:=hid (HC.out.grown HM.out (by decide) hG2);have bI:=hid (HI.out.fn.grown HM.out (by decide) hG2);clear hM2 hB2 hG2 cc fc ck lc lk;have cc:=Ct.out.cell;have fc:=Ct.out.fz))
  go_end0;have e2:=HN.out;refine⟨rfl,⟨?_,bI.out.far ?_ _ _,HB2.out.setCell HI.out.hc _,HI.out.hc⟩⟩
  ·rw[G8 _ (by rw[HZ.out];exact HG.out),HZ.out];simp only[List.length_append,List.length_cons,List.length_nil,e2];exact⟨JE,cap2,yC.out.far Ct.out (by decide) _ _,Ct.out.set _⟩
  ·intro e;subst e;have h1:=Ct.out;have h2:=bI.out;unfold iG at h1 h2;rw[h1]at h2;cases h2
theorem yD [Ol] {J:Nat} {f:Int->Int->Int} (eJ:∀args w,(callFunc J args).run Tryz.prog w= .ok (.enter J args) w) (hJ:Yj J f) (hf:∀x y:Int,(0<=x/\ x<=10000)->(0<=y/\ y<=10000)->dW (f x y))
  {a0 b0:Option Addr} {la ca lc cc:Nat} {xs ys:List (Int×Int)} {w:World} (ha:Ml w a0 la ca xs) (hb:Ml w b0 lc cc ys) (hx:aJ 0 xs=true) (hy:aJ 0 ys=true):
  Calls Tryz.prog 145 #[.slice a0 la ca,.slice b0 lc cc,.func (.func J) #[] #[]] w (Ec w (joinL f xs ys)):=by
 have eg:∀args w,(callFunc 170 args).run Tryz.prog w= .ok (.enter 170 args) w:=enters_of Tryz.func170 (by kernel_rfl) rfl;have h1:=JB hx;have h2:=JB hy;have h3:=ha.len;have h4:=hb.len;have hla:la<=200:=by omega
 have hlc:lc<=200:=by omega
 have htl:=wZ _ xs ys (Nat.le_refl _)
 have hmem:∀t∈qd xs ys,dW t.1/\ (0<=t.2.1/\ t.2.1<=10000)/\ (0<=t.2.2/\ t.2.2<=10000):=
  xg (P:=dW) (Q:=fun z=>0<=z/\ z<=10000) (by omega) _ xs ys (Nat.le_refl _) (fun p hp=>⟨by have:=(rA hx (by omega) p hp).1;unfold dW;omega,(rA hx (by omega) p hp).2⟩) (fun p hp=>⟨by have:=(rA hy (by omega) p hp).1;unfold dW;omega,(rA hy (by omega) p hp).2⟩)
 have hF:∀(c k:Nat) done t rest W,qd xs ys=done++t::rest->JInv w c k J f done W->Calls Tryz.prog 170 (#[.int .i64 t.1,.int .i64 t.2.1,.int .i64 t.2.2]++ #[.pointer (some ⟨k,0,none⟩),.pointer (some ⟨c,0,none⟩)]) W (fun e w'=>e= .returned (.tuple #[])/\ JInv w c k J f (done++[t]) w'):=by
  intro c k done t rest W ht hI;have hm:=hmem t (by rw[ht];simp);have hl:done.length<=400:=by rw[ht]at htl;simp at htl;omega
  exact Cs eJ hJ hm.1 (hf _ _ hm.2.1 hm.2.2) hm.2.1 hm.2.2 hl hI
 have HF:=hid hF;have HA:=hid ha;have HB:=hid hb;clear hF hmem htl h1 h2 h3 h4 ha hb hx hy hf hJ eJ;obtain⟨i0,hi,hz0,hz1,hz2⟩:=info_parts Tryz.nD;go_enter Tryz.func145,Tryz.ntmps145;go_wp2_with (at_make;refine wpList_make_own _ rfl _ _ 52 rfl w.heap.size 56 i0 (.agg #[.int .i64 0,.int .i64 0]) 2 Tryz.underlying52 hi hz0 hz1 _ _ _ (la+lc) rfl rfl (by omega) ?b2 ?b3 (by simp) ?_)
 case b2=>rw[hz2];omega
 case b3=>unfold maxLen;omega
 intro w1 hO hG;have rE:Hid (Mo w.heap.size w1 _ 0 _ []):=hid ⟨hO,by omega,fun _ h=>by cases h⟩;have aT:Hid (iG w1 w.heap.size (.func (.func J) #[] #[]) 186):=hid ((iG.new w _ _).keep (hG.block w.heap.size (by simp) (by simp)));have HB1:=hid ((af w _).grown hG (by simp) (by intro k hk;cases hk));clear hO hG hi hz0 hz1 hz2;go_wp2_with fail;refine(Et eg (JInv w w1.heap.size w.heap.size J f) (w0:=w) HA.out HB.out (fun _ _ _ h hb=>h.stable hb) (fun _ _ h=>h.below) (HF.out _ _) ⟨⟨_,_,rE.out.below (af _ _),iG.new _ _ _⟩,aT.out.below (af _ _),Below.steps HB1.out (af _ _),HB1.out.size⟩).mono ?_;rintro e w3 ⟨rfl,hI⟩;obtain⟨ao,cap,hM,hC⟩:=hI.m;have HM:=hid hM;have HB3:=hid hI.below;have cc:=hC.cell;obtain⟨n,hn⟩:∃n,n=(fH f (qd xs ys)).length:=⟨_,rfl⟩;rw[<-hn]at HM cc;clear hM hC hI hn rE aT HF HA HB HB1;go_wp2_with fail;go_ret;exact⟨_,_,_,rfl,HM.out.ml,HB3.out⟩
open Lib (hid)
section
variable {J:Nat} {f:Int->Int->Int} {a0 b0:Option Addr} {la ca lc cc:Nat} {xs ys:List (Int×Int)} {w:World}
theorem zQ [Ol] (er:Int) (ha:Ml w a0 la ca xs) (hx:aJ 0 xs=false) (F:Value):
  Calls Tryz.prog 120 #[.int .i64 er,.slice a0 la ca,.slice b0 lc cc,F] w (pV w [] 2):=by
 go_enter Tryz.func120,Tryz.ntmps120;go_wp2_with fail;refine(gJ false ha hx).mono ?_;rintro e w1 ⟨rfl,hB⟩;go_wp2_with fail;go_ret2;exact⟨none,0,0,rfl,Ml.zero _,hB⟩
theorem zR [Ol] (er:Int) (ha:Ml w a0 la ca xs) (hb:Ml w b0 lc cc ys) (hx:aJ 0 xs=true) (hy:aJ 0 ys=false) (F:Value):
  Calls Tryz.prog 120 #[.int .i64 er,.slice a0 la ca,.slice b0 lc cc,F] w (pV w [] 2):=by
 have qb:=hid hb;clear hb;go_enter Tryz.func120,Tryz.ntmps120;go_wp2_with fail;refine(gJ true ha hx).mono ?_;rintro e w1 ⟨rfl,hB⟩;have HB:=hid hB;have HY:=hid (qb.out.below hB);clear hB ha hx qb;go_wp2_with fail;refine(gJ false HY.out hy).mono ?_;rintro e w2 ⟨rfl,hB⟩;go_wp2_with fail;go_ret2;exact⟨none,0,0,rfl,Ml.zero _,Below.steps HB.out hB⟩
theorem zS [Ol] (er:Int) (r:Bool) (eJ:∀args w,(callFunc J args).run Tryz.prog w= .ok (.enter J args) w) (hJ:Yj J f) (hf:∀x y:Int,(0<=x/\ x<=10000)->(0<=y/\ y<=10000)->dW (f x y))
  (ha:Ml w a0 la ca xs) (hb:Ml w b0 lc cc ys) (hx:aJ 0 xs=true) (hy:aJ 0 ys=true) (hr:aJ 0 (joinL f xs ys)=r) (qs:List (Int×Int)) (z:Int) (hq:qs=if r=true then joinL f xs ys else[]) (hz:z=if r=true then 0 else er):
  Calls Tryz.prog 120 #[.int .i64 er,.slice a0 la ca,.slice b0 lc cc,.func (.func J) #[] #[]] w (pV w qs z):=by
 have HQ:=hid hq;have HZ:=hid hz;clear hq hz;have HX:=hid hx;have HY:=hid hy;have HR:=hid hr;have HA:=hid ha;have qb:=hid hb;have EJ:=hid eJ;have HJ:=hid hJ;have HF:=hid hf;clear hx hy hr ha hb eJ hJ hf;go_enter Tryz.func120,Tryz.ntmps120;go_wp2_with fail;refine(gJ true HA.out HX.out).mono ?_;rintro e w1 ⟨rfl,hB⟩;have HB1:=hid hB;have HA1:=hid (HA.out.below hB);have Aw:=hid (qb.out.below hB);clear hB qb HA;go_wp2_with fail;refine(gJ true Aw.out HY.out).mono ?_;rintro e w2 ⟨rfl,hB⟩;have HB2:=hid (Below.steps HB1.out hB);have HA2:=hid (HA1.out.below hB);have Js:=hid (Aw.out.below hB);clear hB HA1 Aw HB1;go_wp2_with fail;refine(yD EJ.out HJ.out HF.out HA2.out Js.out HX.out HY.out).mono ?_;rintro e w3 ⟨mo,n,cap,rfl,hM,hB⟩;have HB3:=hid (Below.steps HB2.out hB);have HM:=hid hM;clear hB hM HA2 Js HB2;go_wp2_with fail;refine(gJ r HM.out HR.out).mono ?_;rintro e w4 ⟨rfl,hB⟩;have mW:=hid (Below.steps HB3.out hB);have HM4:=hid (HM.out.below hB);clear hB HM HB3;cases r
 ·go_wp2_with fail;go_ret2;exact⟨none,0,0,by rw[HZ.out];rfl,by rw[HQ.out];exact Ml.zero _,mW.out⟩
 ·go_wp2_with fail;go_ret2;exact⟨mo,n,cap,by rw[HZ.out];rfl,by rw[HQ.out];exact HM4.out,mW.out⟩
theorem Cu [Ol] (er:Int) (eJ:∀args w,(callFunc J args).run Tryz.prog w= .ok (.enter J args) w) (hJ:Yj J f) (hf:∀x y:Int,(0<=x/\ x<=10000)->(0<=y/\ y<=10000)->dW (f x y))
  (ha:Ml w a0 la ca xs) (hb:Ml w b0 lc cc ys):
  Calls Tryz.prog 120 #[.int .i64 er,.slice a0 la ca,.slice b0 lc cc,.func (.func J) #[] #[]] w (pV w (gD f er xs ys).1 (gD f er xs ys).2):=by
 unfold gD;cases hx:aJ 0 xs with
 |false=>
  rw[if_neg (by simp)];exact zQ er ha hx _
 |true=>
  cases hy:aJ 0 ys with
  |false=>
   rw[if_neg (by simp)];exact zR er ha hb hx hy _
  |true=>
   rw[if_pos ⟨rfl,rfl⟩];refine(zS er (aJ 0 (joinL f xs ys)) eJ hJ hf ha hb hx hy rfl _ _ rfl rfl).mono ?_;intro e w' h;cases hm:aJ 0 (joinL f xs ys)<;>simpa[hm]using h
end
theorem RL:Yj 121 (fun x y=>x+y):=by
 intro x y w hx hy;have h1:=hx.1;have h2:=hx.2;have h3:=hy.1;have h4:=hy.2;clear hx hy;go_enter Tryz.func121,Tryz.ntmps121;go_wp2;go_ret;exact⟨rfl,rfl⟩
theorem RN:Yj 146 (fun x y=>max x y):=by
 intro x y w hx hy;have h1:=hx.1;have h2:=hx.2;have h3:=hy.1;have h4:=hy.2;clear hx hy;go_enter Tryz.func146,Tryz.ntmps146;go_wp2
 all_goals (go_ret;exact⟨dZ (by omega),rfl⟩)
section
variable {a0 b0:Option Addr} {la ca lc cc:Nat} {xs ys:List (Int×Int)} {w:World}
theorem lu [Ol] (ha:Ml w a0 la ca xs) (hb:Ml w b0 lc cc ys):
  Calls Tryz.prog 88 #[.slice a0 la ca,.slice b0 lc cc] w (pV w (gD (fun x y=>x+y) 8 xs ys).1 (gD (fun x y=>x+y) 8 xs ys).2):=by
 go_enter Tryz.func88,Tryz.ntmps88;go_wp2_with fail;refine(Cu 8 (enters_of Tryz.func121 (by kernel_rfl) rfl) RL (fun x y hx hy=>by unfold dW;omega) ha hb).mono ?_;rintro e w' ⟨ao,n,cap,rfl,hM,hB⟩;have HM:=hid hM;have HB:=hid hB;clear hM hB ha hb;go_wp2_with fail;go_ret2;exact⟨_,_,_,rfl,HM.out,HB.out⟩
theorem AO [Ol] (ha:Ml w a0 la ca xs) (hb:Ml w b0 lc cc ys):
  Calls Tryz.prog 122 #[.slice a0 la ca,.slice b0 lc cc] w (Ec w (joinL (fun x y=>max x y) (orM xs) (orM ys))):=by
 have HY:=hid hb;clear hb;go_enter Tryz.func122,Tryz.ntmps122;go_wp2_with fail;refine(rD ha).mono ?_;rintro e w1 ⟨xo,n,cap,rfl,hM,hB⟩;have HX:=hid hM;have HB1:=hid hB;have Aw:=hid (HY.out.below hB);clear hM hB ha HY;go_wp2_with fail;refine(rD Aw.out).mono ?_;rintro e w2 ⟨yo,m,cb,rfl,hM,hB⟩;have Oz:=hid (HX.out.below hB);have Js:=hid hM;have HB2:=hid (Below.steps HB1.out hB);clear hM hB HX Aw HB1;go_wp2_with fail;refine(yD (enters_of Tryz.func146 (by kernel_rfl) rfl) RN (fun x y hx hy=>by unfold dW;omega) Oz.out Js.out (gZ _) (gZ _)).mono ?_;rintro e w3 ⟨mo,k,c,rfl,hM,hB⟩;have HM:=hid hM;have HB3:=hid (Below.steps HB2.out hB);clear hM hB Oz Js HB2;go_wp2_with fail;go_ret;exact⟨_,_,_,rfl,HM.out,HB3.out⟩
end
open Lib (hid)
def K6 (x y:Int):Int:=if x<y then-1 else if y<x then 1 else 0
theorem Cv (x:Int) (w:World):Calls Tryz.prog 156 #[.int .i64 x] w (fun e w'=>e= .returned (.bool false)/\ w=w'):=by
 go_enter Tryz.func156,Tryz.ntmps156;go_wp2;go_ret;exact⟨dH (by simp),rfl⟩
theorem H7 (x y z:Int) (w:World) (hz:K6 x y=z):Calls Tryz.prog 133 #[.int .i64 x,.int .i64 y] w (fun e w'=>e= .returned (.int .i64 z)/\ w=w'):=by
 have HZ:=hid hz;clear hz;rcases Int.lt_trichotomy x y with g|g|g
 ·have f1:decide (x<y)=true:=decide_eq_true g;go_enter Tryz.func133,Tryz.ntmps133;go_wp2_with ((with_reducible refine(Cv _ _).mono ?_);rintro e w' ⟨rfl,rfl⟩);go_ret;exact⟨dZ (by rw[<-HZ.out];unfold K6;rw[if_pos g]),rfl⟩
 ·subst g;go_enter Tryz.func133,Tryz.ntmps133;go_wp2_with ((with_reducible refine(Cv _ _).mono ?_);rintro e w' ⟨rfl,rfl⟩);go_ret;exact⟨dZ (by rw[<-HZ.out];unfold K6;simp),rfl⟩
 ·have f1:decide (x<y)=false:=decide_eq_false (by omega);have f2:decide (y<x)=true:=decide_eq_true g;go_enter Tryz.func133,Tryz.ntmps133;go_wp2_with ((with_reducible refine(Cv _ _).mono ?_);rintro e w' ⟨rfl,rfl⟩);go_ret;exact⟨dZ (by rw[<-HZ.out];unfold K6;rw[if_neg (by omega),if_pos g]),rfl⟩
structure Cw (w0:World) (o:Nat) (done:List (Int×Int×Int)) (w:World):Prop where
 iK:iG w o (.int .i64 (lN 0 done)) 3
 below:Below w0.heap.size w0 w
 ho:w0.heap.size<=o
theorem Cw.stable {w0:World} {o:Nat} {done:List (Int×Int×Int)} {w w':World} (h:Cw w0 o done w) (hb:Below w.heap.size w w'):Cw w0 o done w':=
 ⟨h.iK.below hb,Below.steps h.below hb,h.ho⟩
theorem K7 {w0 w:World} {o:Nat} {done:List (Int×Int×Int)} (t:Int×Int×Int) (h:Cw w0 o done w):
  Calls Tryz.prog 132 #[.int .i64 t.1,.int .i64 t.2.1,.int .i64 t.2.2,.pointer (some ⟨o,0,none⟩)] w (fun e w'=>e= .returned (.tuple #[])/\ Cw w0 o (done++[t]) w'):=by
 obtain⟨v,x,y⟩:=t;have cc:=h.iK.cell;have fc:=h.iK.fz;have lc:=h.iK.lt;have HI:=hid h;clear h;obtain⟨l,hl⟩:∃l,l=lN 0 done:=⟨_,rfl⟩;rw[<-hl]at cc;have HL:=hid hl;clear hl;by_cases g:x=y
 ·subst g;go_enter Tryz.func132,Tryz.ntmps132;go_wp2;go_end0;refine⟨rfl,⟨?_,HI.out.below,HI.out.ho⟩⟩;rw[oZ];simpa[lN]using HI.out.iK
 ·have g1:(x==y)=false:=by simpa using g
  have g2:(x !=y)=true:=by simpa using g
  have HG:=hid g;clear g;obtain⟨z,hz⟩:∃z,K6 x y=z:=⟨_,rfl⟩;have HZ:=hid hz;clear hz;go_enter Tryz.func132,Tryz.ntmps132;go_wp2_with ((with_reducible refine(H7 x y z _ HZ.out).mono ?_);rintro e w' ⟨rfl,rfl⟩);go_end0;refine⟨rfl,⟨?_,HI.out.below.setCell HI.out.ho _,HI.out.ho⟩⟩
  have e1:lN 0 (done++[(v,x,y)])=z:=by
   rw[oZ,<-HZ.out];unfold K6;simp only[lN];have:=HG.out;by_cases h1:x<y
   ·rw[if_pos h1,if_pos h1]
   ·rw[if_neg h1,if_neg h1,if_pos (by omega),if_pos (by omega)]
  rw[e1];exact HI.out.iK.set _
section
variable {a0 b0:Option Addr} {la ca lc cc:Nat} {xs ys:List (Int×Int)} {w:World}
def KO (xs ys:List (Int×Int)):Int×Int:=if aJ 0 xs=true/\ aJ 0 ys=true then(gN xs ys,0)else(0,2)
theorem Cy [Ol] (ha:Ml w a0 la ca xs) (hx:aJ 0 xs=false):
  Calls Tryz.prog 105 #[.slice a0 la ca,.slice b0 lc cc] w (bN (.tuple #[.int .i64 0,.int .i64 2]) w):=by
 go_enter Tryz.func105,Tryz.ntmps105;go_wp2_with fail;refine(gJ false ha hx).mono ?_;rintro e w1 ⟨rfl,hB⟩;go_wp2_with fail;go_ret2;exact⟨rfl,hB⟩
theorem Cz [Ol] (ha:Ml w a0 la ca xs) (hb:Ml w b0 lc cc ys) (hx:aJ 0 xs=true) (hy:aJ 0 ys=false):
  Calls Tryz.prog 105 #[.slice a0 la ca,.slice b0 lc cc] w (bN (.tuple #[.int .i64 0,.int .i64 2]) w):=by
 have qb:=hid hb;clear hb;go_enter Tryz.func105,Tryz.ntmps105;go_wp2_with fail;refine(gJ true ha hx).mono ?_;rintro e w1 ⟨rfl,hB⟩;have HB:=hid hB;have HY:=hid (qb.out.below hB);clear hB ha hx qb;go_wp2_with fail;refine(gJ false HY.out hy).mono ?_;rintro e w2 ⟨rfl,hB⟩;go_wp2_with fail;go_ret2;exact⟨rfl,Below.steps HB.out hB⟩
theorem CB [Ol] (ha:Ml w a0 la ca xs) (hb:Ml w b0 lc cc ys) (hx:aJ 0 xs=true) (hy:aJ 0 ys=true) (z:Int) (hz:gN xs ys=z):
  Calls Tryz.prog 105 #[.slice a0 la ca,.slice b0 lc cc] w (bN (.tuple #[.int .i64 z,.int .i64 0]) w):=by
 have eg:∀args w,(callFunc 132 args).run Tryz.prog w= .ok (.enter 132 args) w:=enters_of Tryz.func132 (by kernel_rfl) rfl
 have hF:∀(w0:World) (o:Nat) done t rest W,qd xs ys=done++t::rest->Cw w0 o done W->Calls Tryz.prog 132 (#[.int .i64 t.1,.int .i64 t.2.1,.int .i64 t.2.2]++ #[.pointer (some ⟨o,0,none⟩)]) W (fun e w'=>e= .returned (.tuple #[])/\ Cw w0 o (done++[t]) w'):=
  fun w0 o done t rest W _ h=>by exact K7 t h
 have h0:∀W:World,Cw W W.heap.size [] (W.alloc (.cells #[.int .i64 0] 3)):=fun W=>⟨iG.new _ _ _,af _ _,Nat.le_refl _⟩
 have HF:=hid hF;have H0:=hid h0;have HX:=hid hx;have HY:=hid hy;have HA:=hid ha;have qb:=hid hb;have HZ:=hid hz;clear hx hy ha hb hz hF h0;go_enter Tryz.func105,Tryz.ntmps105;go_wp2_with fail;refine(gJ true HA.out HX.out).mono ?_;rintro e w1 ⟨rfl,hB⟩;have HB1:=hid hB;have HA1:=hid (HA.out.below hB);have Aw:=hid (qb.out.below hB);clear hB qb HA;go_wp2_with fail;refine(gJ true Aw.out HY.out).mono ?_;rintro e w2 ⟨rfl,hB⟩;have HB2:=hid (Below.steps HB1.out hB);have HA2:=hid (HA1.out.below hB);have Js:=hid (Aw.out.below hB);clear hB HA1 Aw HB1;go_wp2_with fail;refine(Et eg (Cw w2 w2.heap.size) (w0:=w2) HA2.out Js.out (fun _ _ _ h hb=>h.stable hb) (fun _ _ h=>h.below) (HF.out _ _) (H0.out _)).mono ?_;rintro e w3 ⟨rfl,hI⟩;have c3:=hI.iK.cell;have HB3:=hid (Below.steps HB2.out hI.below);obtain⟨l,hl⟩:∃l,l=lN 0 (qd xs ys):=⟨_,rfl⟩;rw[<-hl]at c3;have HL:=hid hl;clear hI hl HA2 Js HB2;go_wp2_with fail;go_ret2;refine⟨?_,HB3.out⟩;have e1:l=z:=by rw[HL.out,G9];exact HZ.out
 rw[e1];rfl
theorem Ed [Ol] (ha:Ml w a0 la ca xs) (hb:Ml w b0 lc cc ys):
  Calls Tryz.prog 105 #[.slice a0 la ca,.slice b0 lc cc] w (bN (.tuple #[.int .i64 (KO xs ys).1,.int .i64 (KO xs ys).2]) w):=by
 unfold KO;cases hx:aJ 0 xs with
 |false=>
  rw[if_neg (by simp)];exact Cy ha hx
 |true=>
  cases hy:aJ 0 ys with
  |false=>
   rw[if_neg (by simp)];exact Cz ha hb hx hy
  |true=>
   rw[if_pos ⟨rfl,rfl⟩];exact CB ha hb hx hy _ rfl
end
theorem K8 (ps:List (Int×Int)) (k:Nat) (v:Int) (h:k<ps.length):av (ps.drop k) v=if (ps.getD k (0,0)).1=v then(ps.getD k (0,0)).2 else av (ps.drop (k+1)) v:=by
 rw[List.drop_eq_getElem_cons h];simp only[av,List.getD,List.getElem?_eq_getElem h,Option.getD_some]
theorem o5 [Ol] {ao:Option Addr} {n cap:Nat} {ps:List (Int×Int)} {w:World} (h:Ml w ao n cap ps) (v z:Int) (hz:jv ps v=z):
  Calls Tryz.prog 80 #[.slice ao n cap,.int .i64 v] w (bN (.int .i64 z) w):=by
 have HZ:Hid (av (orM ps) v=z):=hz;have HM:=hid h;clear h hz;go_enter Tryz.func80,Tryz.ntmps80;go_wp2_with fail;refine(rD HM.out).mono ?_;rintro e w1 ⟨mo,m,cm,rfl,hM,hB⟩;have hle:=hM.le;have hbig:=hM.big;obtain⟨qs,Yk⟩:∃qs,qs=orM ps:=⟨_,rfl⟩;rw[<-Yk]at HZ hM;have HQ:=hid hM;have HB:=hid hB;clear hM hB Yk HM;go_wp2;go_loopw [10] (fun i wr=>∃k:Nat,k<=m/\ i= .int .i64 k/\ Hid (av (qs.drop k) v=z)/\ Hid (Ml wr mo m cm qs/\ Below w.heap.size w wr)) (fun i _=>m-(intOf i).toNat)
 case atStart=>exact⟨0,Nat.zero_le _,rfl,by rw[Hid,List.drop_zero];exact HZ.out,HQ.out,HB.out⟩
 case round=>
  clear HQ HB HZ;obtain⟨k,hk,rfl,HZ,HS⟩:=hrel;by_cases hkm:k<m
  ·obtain⟨b,off,rfl,hb,hc⟩:=HS.out.1.at (by omega);obtain⟨c1,c2⟩:=hc k hkm;have HZ2:=hid ((K8 qs k v (by rw[HS.out.1.len];exact hkm)).symm.trans HZ.out);clear hc HZ;obtain⟨p,hp⟩:∃p,p=qs.getD k (0,0):=⟨_,rfl⟩;rw[<-hp]at c1 c2 HZ2;clear hp;obtain⟨u,x⟩:=p;by_cases g:u=v
   ·subst g;go_wp2;go_ret;exact⟨dZ (by have:=HZ2.out;simpa using this),Below.steps HS.out.2 (af _ _)⟩
   ·have g1:(u==v)=false:=by simpa using g
    have HG:=hid g;clear g;go_wp2;go_roundw
    case rel=>exact⟨k+1,by omega,by go_num,by have:=HZ2.out;rw[if_neg HG.out]at this;exact this,HS.out.1.below (af _ _),Below.steps HS.out.2 (af _ _)⟩
    case measure=>simp[intOf];omega
  ·obtain rfl:k=m:=by omega
   go_wp2;go_ret;have e2:=HZ.out;rw[List.drop_eq_nil_of_le (by rw[HS.out.1.len];exact Nat.le_refl _)]at e2;exact⟨dZ (by simpa[av]using e2),HS.out.2⟩
open Lib (hid)
theorem qF (g:Nat) (T:TypeId):∀(vs:List Value) (w:World) (o:Nat),(∃cur fr,w.heap[g]? =some (.cells cur T fr))->∃cur fr,(w.setCells g o vs).heap[g]? =some (.cells cur T fr)
 |[],_,_,h=>h
 |v::r,w,o,h=>qF g T r (w.setCell ⟨g,o,none⟩ v) (o+1) (by
  obtain⟨cur,fr,h⟩:=h;simp[World.setCell,Array.getElem?_modify,h])
theorem yE:∀(ps:List (Int×Int)) (i:Nat) (p:Int×Int),((dQ ps).set (i*2) (.int .i64 p.1)).set (i*2+1) (.int .i64 p.2)=dQ (ps.set i p)
 |[],_,_=>rfl
 |q::r,0,p=>rfl
 |q::r,i+1,p=>by
  rw[show(i+1)*2=i*2+1+1 by omega];simp only[dQ,List.set_cons_succ];rw[yE r i p]
theorem Mo.set {B:Nat} {w:World} {g n cap:Nat} {ps:List (Int×Int)} (h:Mo B w (some ⟨g,0,none⟩) n cap ps) (i:Nat) (p:Int×Int) (h1:dW p.1) (h2:dW p.2):
  Mo B ((w.setCell ⟨g,i*2,none⟩ (.int .i64 p.1)).setCell ⟨g,i*2+1,none⟩ (.int .i64 p.2)) (some ⟨g,0,none⟩) n cap (ps.set i p):=by
 refine⟨?_,h.big,fun q hq=>?_⟩
 ·rw[<-yE];exact((h.row.stored (i*2) _).1.stored (i*2+1) _).1
 ·rcases List.mem_or_eq_of_mem_set hq with hq|rfl
  ·exact h.wf q hq
  ·exact⟨h1,h2⟩
theorem below_setCells {B:Nat} {a:World} {g:Nat} (hg:B<=g):∀(vs:List Value) (o:Nat) (w:World),Below B a w->Below B a (w.setCells g o vs)
 |[],_,_,h=>h
 |v::r,o,_,h=>below_setCells hg r (o+1) _ (h.setCell (p:=⟨g,o,none⟩) hg v)
theorem Mo.cell [Ol] {B:Nat} {w:World} {g n cap:Nat} {ps:List (Int×Int)} (h:Mo B w (some ⟨g,0,none⟩) n cap ps) (t:Nat) (ht:t<n):
  w.cell? ⟨g,t*2,none⟩=some (.int .i64 (ps.getD t (0,0)).1)/\ w.cell? ⟨g,t*2+1,none⟩=some (.int .i64 (ps.getD t (0,0)).2):=by
 have:=h.ml.cells _ rfl t ht;rw[Addr.add_lit,Addr.add_lit,Nat.zero_add,Nat.zero_add]at this;exact this
theorem Mo.fz {B:Nat} {w:World} {g n cap:Nat} {ps:List (Int×Int)} (h:Mo B w (some ⟨g,0,none⟩) n cap ps) (j:Nat):w.frozen? ⟨g,j,none⟩=false:=h.row.frozenAt j
theorem H8 (w:World) (ty:TypeId) (b o n c:Nat) (hn:0<n) (hc:∀j,j<n*2->(w.cell? ⟨b,o+j,none⟩).isSome=true) (hf:∀j,j<n*2->w.frozen? ⟨b,o+j,none⟩=false) (hz:∀w,(zeroValue 56).run Tryz.prog w= .ok (.agg #[.int .i64 0,.int .i64 0]) w):
  ∃zs:List Value,zs.length=n*2/\ (Builtin.clear_ #[52] ty #[.slice (some ⟨b,o,none⟩) n c]).run Tryz.prog w= .ok (.tuple #[]) (w.setCells b o zs):=by
 have hlen:(Builtin.zeroCells (Value.agg #[.int .i64 0,.int .i64 0]).cells n).toList.length=n*2:=by simp[Builtin.zeroCells,Value.cells]
 have hone:∀v∈(Builtin.zeroCells (Value.agg #[.int .i64 0,.int .i64 0]).cells n).toList,v.oneCell'=true:=by
  intro v hv;simp only[Builtin.zeroCells,Array.toList_map,List.mem_map,Value.cells]at hv;obtain⟨i,_,rfl⟩:=hv;have:i%2=0∨i%2=1:=by omega
  rcases this with h|h<;>simp[h]<;>rfl
 have hst:=run_storeCells_cells (P:=Tryz.prog) b o (Builtin.zeroCells (Value.agg #[.int .i64 0,.int .i64 0]).cells n).toList 0 w (by rw[hlen];simpa using hc) (by rw[hlen];simpa using hf) hone;simp only[Nat.add_zero]at hst;refine⟨_,hlen,?_⟩;obtain⟨m,rfl⟩:∃m,n=m+1:=⟨n-1,by omega⟩;simp[Builtin.clear_,run_underlying Tryz.underlying52,hz,hst]
theorem zero_pow:∀w,(zeroValue 56).run Tryz.prog w= .ok (.agg #[.int .i64 0,.int .i64 0]) w:=by
 obtain⟨i,hi,hz,_,_⟩:=info_parts Tryz.nD;intro w;simp[zeroValue,typeInfo,hi,hz]
theorem AP [Ol] {ao:Option Addr} {n cap:Nat} {ps:List (Int×Int)} {w:World} (h:Ml w ao n cap ps):
  Calls Tryz.prog 112 #[.slice ao n cap] w (fun e w'=>∃mo m cm,e= .returned (.slice mo m cm)/\ Mo w.heap.size w' mo m cm ps/\ Below w.heap.size w w'):=by
 have q1:∀(w:World) (a:Option Addr) (n c n' c':Nat),(binOp .eql 52 (.slice a n c) (.slice none n' c')).run Tryz.prog w= .ok (.bool a.isNone) w:=fun w a n c n' c'=>Lib.run_eql_slice_nil w _ _ a n c n' c' Tryz.underlying52
 obtain⟨i0,hi,hz0,hz1,hz2⟩:=info_parts Tryz.nD;cases ao with
 |none=>
  have h1:=h.nil rfl;have h2:=h.le;obtain rfl:n=0:=by omega
  have hp:=h.empty rfl;have HP:Hid (ps=[]):=hp;clear h h1 h2 hp;go_enter Tryz.func112,Tryz.ntmps112;go_wp2;go_ret;exact⟨none,0,0,rfl,by rw[HP.out];exact Mo.nil _ _,Below.refl _ _⟩
 |some ad=>
  have HS:=hid h;clear h;go_enter Tryz.func112,Tryz.ntmps112;go_wp2_with (at_builtin;refine Eu w w rfl (.tmp 5) (.tmp 6) 52 rfl w.heap.size i0 (.agg #[.int .i64 0,.int .i64 0]) Tryz.underlying52 hi hz0 hz1 hz2 rfl rfl _ _ _ _ rfl HS.out (Below.refl _ _) (Nat.le_refl _) ?_;intro mo cm w1 hM hB _;have HM:=hid hM;have HB:=hid hB;clear hM hB HS hi hz0 hz1 hz2);go_ret;exact⟨_,_,_,rfl,HM.out,HB.out⟩
theorem K9 (a b v:Int) (r:Bool) {x:Nat} {w:World} (hx:iG w x (.int .i64 v) 3) (hr:(a==v)=r):
  Calls Tryz.prog 165 #[.agg #[.int .i64 a,.int .i64 b],.pointer (some ⟨x,0,none⟩)] w (bN (.bool r) w):=by
 have cx:=hx.cell;have lx:=hx.lt;clear hx;go_enter Tryz.func165,Tryz.ntmps165;go_wp2;go_ret;exact⟨dH (by first|exact hr|simp),af _ _⟩
section
variable {G:Nat} {lb:Array Value} {v:Int}
def IsV (G:Nat) (lb:Array Value) (v:Int) (S:World->Prop):Prop:=∀(a b:Int) (w:World),S w->Calls Tryz.prog G (#[.agg #[.int .i64 a,.int .i64 b]]++lb) w (bN (.bool (a==v)) w)
theorem Ev [Ol] (eg:∀args w,(callFunc G args).run Tryz.prog w= .ok (.enter G args) w) {S:World->Prop} (hS:∀w w',S w->Below w.heap.size w w'->S w') (hV:IsV G lb v S)
  {ao:Option Addr} {n cap:Nat} {ps:List (Int×Int)} {w:World} (h:Ml w ao n cap ps) (h0:S w):
  Calls Tryz.prog 178 #[.slice ao n cap,.func (.func G) #[] lb] w (fun e w'=>∃z:Int,e= .returned (.int .i64 z)/\ Below w.heap.size w w'/\
   ((z= -1/\∀t,t<n->(ps.getD t (0,0)).1≠v)∨ ∃k:Nat,z=k/\ k<n/\ (ps.getD k (0,0)).1=v/\∀t,t<k->(ps.getD t (0,0)).1≠v)):=by
 have hle:=h.le;have hbig:=h.big;have HM:=hid h;have HS:=hid hS;have HV:=hid hV;have H0:=hid h0;clear h hS hV h0;go_enter Tryz.func178,Tryz.ntmps178;go_wp2;go_loopw [8] (fun i wr=>∃k:Nat,k<=n/\ i= .int .i64 k/\ Hid (∀t,t<k->(ps.getD t (0,0)).1≠v)/\ Hid (Ml wr ao n cap ps/\ S wr/\ Below w.heap.size w wr)) (fun i _=>n-(intOf i).toNat)
 case atStart=>exact⟨0,Nat.zero_le _,rfl,fun t ht=>by omega,HM.out,H0.out,Below.refl _ _⟩
 case round=>
  clear HM H0;obtain⟨k,hk,rfl,HT,HW⟩:=hrel;by_cases hkn:k<n
  ·obtain⟨b,off,rfl,hb,hc⟩:=HW.out.1.at (by omega);obtain⟨c1,c2⟩:=hc k hkn;clear hc;obtain⟨p,hp⟩:∃p,p=ps.getD k (0,0):=⟨_,rfl⟩;rw[<-hp]at c1 c2;have HP:=hid hp;clear hp;obtain⟨a,x⟩:=p;have hcall:=HV.out a x _ HW.out.2.1;cases hq:(a==v)with
   |true=>
    rw[hq]at hcall;have HC:=hid hcall;have HQ:=hid hq;clear hcall hq;go_wp2_with (go_at_fn G;refine HC.out.mono ?_;rintro e w2 ⟨rfl,hB⟩;have HB2:=hid hB;clear hB);go_ret;exact⟨k,rfl,Below.steps HW.out.2.2 HB2.out,.inr ⟨k,rfl,hkn,by rw[<-HP.out];simpa using HQ.out,HT.out⟩⟩
   |false=>
    rw[hq]at hcall;have HC:=hid hcall;have HQ:=hid hq;clear hcall hq;go_wp2_with (go_at_fn G;refine HC.out.mono ?_;rintro e w2 ⟨rfl,hB⟩;have HB2:=hid hB;clear hB);go_roundw
    case rel=>
     refine⟨k+1,by omega,by go_num,fun t ht=>?_,HW.out.1.below HB2.out,HS.out _ _ HW.out.2.1 HB2.out,Below.steps HW.out.2.2 HB2.out⟩;by_cases htk:t<k
     ·exact HT.out t htk
     ·obtain rfl:t=k:=by omega
      rw[<-HP.out];simpa using HQ.out
    case measure=>simp[intOf];omega
  ·obtain rfl:k=n:=by omega
   go_wp2;go_ret;exact⟨-1,rfl,HW.out.2.2,.inl ⟨rfl,HT.out⟩⟩
theorem CF [Ol] (eg:∀args w,(callFunc G args).run Tryz.prog w= .ok (.enter G args) w) {S:World->Prop} (hS:∀w w',S w->Below w.heap.size w w'->S w')
  (hS2:∀(B:Nat) (w:World) (g n cap:Nat) (ps:List (Int×Int)) (i:Nat) (p:Int×Int),S w->Mo B w (some ⟨g,0,none⟩) n cap ps->S ((w.setCell ⟨g,i*2,none⟩ (.int .i64 p.1)).setCell ⟨g,i*2+1,none⟩ (.int .i64 p.2))) (hV:IsV G lb v S)
  {ao:Option Addr} {n cap:Nat} {ps:List (Int×Int)} {w0 w:World} (h:Mo w0.heap.size w ao n cap ps) (h0:S w) (hb:Below w0.heap.size w0 w):
  Calls Tryz.prog 164 #[.slice ao n cap,.func (.func G) #[] lb] w (fun e w'=>∃mo m cm,e= .returned (.slice mo m cm)/\ Ml w' mo m cm (eF v ps)/\ Below w0.heap.size w0 w'):=by
 have ZO:=h.ml;have hle:=ZO.le;have hbig:=ZO.big;have HI:=hid (Ev eg hS hV ZO h0);have HM:=hid h;have HS:=hid hS;have HS2:=hid hS2;have HV:=hid hV;have H0:=hid h0;have HB:=hid hb;clear h hS hS2 hV h0 hb ZO;go_enter Tryz.func164,Tryz.ntmps164;go_wp2_with fail;refine HI.out.mono ?_;rintro e w1 ⟨z,rfl,hB,hz⟩;have rE:=hid (HM.out.below hB);have H1:=hid (HS.out _ _ H0.out hB);have HB1:=hid (Below.steps HB.out hB);have HZ:=hid hz;clear HI HM H0 HB hB hz;rcases HZ.out with⟨rfl,hz⟩|⟨k,rfl,hk,hkv,hkl⟩
 ·have HO:Hid (eF v ps=ps):=Es (by rw[rE.out.len];exact hz);clear HZ hz;go_wp2;go_ret;exact⟨_,_,_,rfl,by rw[HO.out];exact rE.out.ml,HB1.out⟩
 ·have f0:((k:Int)== -1)=false:=beq_eq_false_iff_ne.2 (by omega);have hl:=rE.out.len
  have HT:Hid (ps.take k=eF v (ps.take (k+1))/\ ps.drop (k+1)=ps.drop (k+1)):=⟨by
   rw[tQ (by omega) hkv,Es];intro t ht;have htk:t<k:=by simp at ht;omega
   have:=hkl t htk;simpa[List.getD,List.getElem?_take,htk]using this,rfl⟩
  have wU:Hid (ps.length=n):=hl;clear HZ hkv hkl hl;rcases rE.out.parts with⟨_,hn0,_⟩|⟨g,cur,rfl,hg,hgl,_,_⟩
  ·exfalso;omega
  ·go_wp2;go_loopw [5,6,7] (fun i j _ wr=>∃(a b:Nat) (zs:List (Int×Int)),i= .int .i64 a/\ j= .int .i64 b/\ a<b/\ b<=n/\ Hid (zs.take a=eF v (ps.take b)/\ zs.drop b=ps.drop b)/\ Hid (Mo w0.heap.size wr (some ⟨g,0,none⟩) n cap zs)/\ Hid (S wr/\ Below w0.heap.size w0 wr)) (fun _ j _ _=>n-(intOf j).toNat)
   case atStart=>exact⟨k,k+1,ps,rfl,by go_num,by omega,by omega,⟨HT.out.1,rfl⟩,rE.out,H1.out,HB1.out⟩
   case round=>
    clear rE H1 HB1 HT hgl;obtain⟨a,b,zs,rfl,rfl,hab,hbn,HT,HM,HW⟩:=hrel;have hgl:=HM.out.ml.at (by omega);obtain⟨_,_,hge,hgl,_⟩:=hgl;cases hge;by_cases hlt:b<n
    ·obtain⟨c1,c2⟩:=HM.out.cell b hlt;obtain⟨e1,e2⟩:=OL (by rw[HM.out.len];exact hlt) (by have:=HM.out.len;have h3:=congrArg List.length HT.out.2;simp at h3;omega) HT.out.2;obtain⟨p,hp⟩:∃p,p=zs.getD b (0,0):=⟨_,rfl⟩;rw[<-hp]at c1 c2 e1;have HE:=hid (And.intro e1 e2);have HP:Hid (dW p.1/\ dW p.2):=by rw[hp];exact HM.out.wf _ (Ml.Ew (by rw[HM.out.len];exact hlt))
     have ni:Hid (b<ps.length):=by
      have:=HM.out.len;have h3:=congrArg List.length HT.out.2;simp at h3;show b<ps.length;omega
     clear hp e1 e2;obtain⟨u,x⟩:=p;have hcall:=HV.out u x _ (HS.out _ _ HW.out.1 (af wr (.cells #[.int .i64 u,.int .i64 x] 56)));cases hq:(u==v)with
     |true=>
      rw[hq]at hcall;have HC:=hid hcall;have HQ:=hid hq;clear hcall hq;go_wp2_with (go_at_fn G;refine HC.out.mono ?_;rintro e w2 ⟨rfl,hB⟩;have HB2:=hid hB;clear hB);go_roundw
      case rel=>
       refine⟨a,b+1,zs,rfl,by go_num,by omega,by omega,⟨?_,HE.out.2⟩,HM.out.below (aA HB2.out),HS.out _ _ HW.out.1 (aA HB2.out),Below.steps HW.out.2 (aA HB2.out)⟩;rw[tQ ni.out (by rw[<-HE.out.1];simpa using HQ.out)];exact HT.out.1
      case measure=>simp[intOf];omega
     |false=>
      rw[hq]at hcall;have HC:=hid hcall;have HQ:=hid hq;clear hcall hq;go_wp2_with (go_at_fn G;refine HC.out.mono ?_;rintro e w2 ⟨rfl,hB⟩;have HB2:=hid hB;have yC:=hid (HM.out.below (aA hB));obtain⟨d1,d2⟩:=yC.out.cell a (by omega);have d3:=yC.out.fz (a*2);have d4:=yC.out.fz (a*2+1);have d5:=hB.cell (p:=⟨wr.heap.size,0,none⟩) (by simp);have d6:=hB.cell (p:=⟨wr.heap.size,1,none⟩) (by simp);simp at d5 d6;clear hB);go_roundw
      case rel=>
       refine⟨a+1,b+1,zs.set a (u,x),by go_num,by go_num,by omega,by omega,⟨?_,?_⟩,yC.out.set a (u,x) HP.out.1 HP.out.2,HS2.out _ _ _ _ _ _ a (u,x) (HS.out _ _ HW.out.1 (aA HB2.out)) yC.out,?_⟩
       ·rw[zP ni.out (by rw[<-HE.out.1];simpa using HQ.out),take_set (by rw[HM.out.len];omega),HT.out.1,<-HE.out.1]
       ·rw[drop_set (by omega)];exact HE.out.2
       ·exact((Below.steps HW.out.2 (aA HB2.out)).setCell hg _).setCell hg _
      case measure=>simp[intOf];omega
    ·obtain rfl:b=n:=by omega
     have hc0:∀j,j<(b-a)*2->(wr.cell? ⟨g,a*2+j,none⟩).isSome=true:=by
      intro j hj;have h1:=HM.out.cell (a+j/2) (by omega);rcases(show j=j/2*2∨j=j/2*2+1 by omega)with e|e
      ·rw[show a*2+j=(a+j/2)*2 by omega,h1.1];rfl
      ·rw[show a*2+j=(a+j/2)*2+1 by omega,h1.2];rfl
     have hcl:∃W:World,(∀ty,(Builtin.clear_ #[52] ty #[.slice (some ⟨g,a*2,none⟩) (b-a) (cap-a)]).run Tryz.prog wr= .ok (.tuple #[]) W)/\ Below w0.heap.size w0 W/\ Ml W (some ⟨g,0,none⟩) a cap (zs.take a):=by
      obtain⟨qs,hq1,hq2⟩:=H8 wr 0 g (a*2) (b-a) (cap-a) (by omega) hc0 (fun j _=>HM.out.fz _) zero_pow;refine⟨_,fun ty=>hq2,below_setCells hg qs _ _ HW.out.2,?_⟩;refine Ml.of_cells (by rw[List.length_take,HM.out.len];omega) (by omega) (by omega) (fun q hq=>HM.out.wf q (List.mem_of_mem_take hq)) (fun _=>?_) fun t ht=>?_
      ·obtain⟨cur,fr,hcf⟩:=qF g 56 qs wr (a*2) (by rcases HM.out.parts with⟨h,_⟩|⟨g2,cur,h,_,_,_,hcur⟩<;>cases h;exact⟨cur,_,hcur⟩);exact Kp.mk hcf (by decide)
      have h1:=HM.out.cell t (by omega);rw[Nat.zero_add,World.cell?_setCells_out _ _ _ _ _ (fun _ _=>Or.inl (by show t*2<a*2;omega)),World.cell?_setCells_out _ _ _ _ _ (fun _ _=>Or.inl (by show t*2+1<a*2;omega))];simpa[List.getD,List.getElem?_take,ht]using h1
     obtain⟨W,hcl,hBW,hMW⟩:=hcl
     have HR:Hid (Ml W (some ⟨g,0,none⟩) a cap (eF v ps)):=by
      have h1:zs.take a=eF v ps:=HT.out.1.trans (by rw[List.take_of_length_le (by rw[wU.out];exact Nat.le_refl _)]);rw[Hid,<-h1];exact hMW
     have xk:=hid hBW;clear hc0 hBW hMW;go_wp2;go_ret;exact⟨_,_,_,rfl,HR.out,xk.out⟩
end
theorem Ey [Ol] {ao:Option Addr} {n cap:Nat} {ps:List (Int×Int)} {w:World} (h:Ml w ao n cap ps) (v:Int):
  Calls Tryz.prog 141 #[.slice ao n cap,.int .i64 v] w (Ec w (eF v (orM ps))):=by
 have eg:∀args w,(callFunc 165 args).run Tryz.prog w= .ok (.enter 165 args) w:=enters_of Tryz.func165 (by kernel_rfl) rfl;have hV:∀x:Nat,IsV 165 #[.pointer (some ⟨x,0,none⟩)] v (fun W=>iG W x (.int .i64 v) 3):=fun x a b W hW=>by exact K9 a b v _ hW rfl
 have hS2:∀(x B:Nat) (w:World) (g n cap:Nat) (ps:List (Int×Int)) (i:Nat) (p:Int×Int),iG w x (.int .i64 v) 3->Mo B w (some ⟨g,0,none⟩) n cap ps->iG ((w.setCell ⟨g,i*2,none⟩ (.int .i64 p.1)).setCell ⟨g,i*2+1,none⟩ (.int .i64 p.2)) x (.int .i64 v) 3:=by
  intro x B w g n cap ps i p h1 h2
  have hne:g≠x:=by
   intro e;subst e;rcases h2.parts with⟨hn,_⟩|⟨g',cur,hg,_,_,_,hh⟩
   ·cases hn
   ·cases hg;unfold iG at h1;rw[h1]at hh;cases hh
  exact(h1.far hne _ _).far hne _ _
 have HV:=hid hV;have HS2:=hid hS2;have HM:=hid (h.below (af w (.cells #[.int .i64 v] 3)));have HX:=hid (iG.new w (.int .i64 v) 3);clear h hV hS2;go_enter Tryz.func141,Tryz.ntmps141;go_wp2_with fail;refine(rD HM.out).mono ?_;rintro e w1 ⟨mo,m,cm,rfl,hM,hB⟩;have rE:=hid hM;have OB:=hid (HX.out.below hB);have HB1:=hid (aA hB);clear hM hB HM HX;go_wp2_with fail;refine(AP rE.out).mono ?_;rintro e w2 ⟨no,l,cl,rfl,hM,hB⟩;have yC:=hid (hM.mono HB1.out.size);have Oz:=hid (OB.out.below hB);have HB2:=hid (Below.steps HB1.out hB);clear hM hB rE OB HB1;go_wp2_with fail;refine(CF eg (fun _ _ h hb=>h.below hb) (HS2.out _) (HV.out _) yC.out Oz.out HB2.out).mono ?_;rintro e w3 ⟨oo,k,ck,rfl,hM,hB⟩;have HM3:=hid hM;have HB3:=hid hB;clear hM hB yC Oz HB2;go_wp2_with fail;go_ret;exact⟨_,_,_,rfl,HM3.out,HB3.out⟩
end Go.Proofs.YthdhjckangekoaaGreat
