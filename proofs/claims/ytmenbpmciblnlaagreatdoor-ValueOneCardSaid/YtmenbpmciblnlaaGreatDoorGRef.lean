/- Same, RTrim, RTimes, RBy, RSmall, ROf, RLimbs, RCmp, RAdd, RSub, RMul, RDiv -/
import Derived.Test.YtmenbpmciblnlaaGreatDoorGMem
import Derived.Deep.QuietTactic
import Derived.BigQuiet
import Derived.Deep.RegionHeld3
import Derived.Deep.DeepMust
import Derived.Laws.AppendOwnNone
set_option maxHeartbeats 40000000
set_option maxRecDepth 100000
/- The contract of porismref01.Same. -/
namespace Go.Proofs.YtmenbpmciblnlaaGreatDoor
open Go.RowKit
def pV (xs ys:List Nat):Bool:=decide (xs=ys)
theorem M6 (a0 b0:Option Addr) (la ca lb cb:Nat) (w:World) (h:la≠lb):
  Calls Tryz.prog 103 #[.slice a0 la ca,.slice b0 lb cb] w (kz (.bool false) w):=by
 have hne:(((la:Nat):Int) !=((lb:Nat):Int))=true:=by simp;omega
 have hne2:(la !=lb)=true:=by simp;omega
 go_enter Tryz.func103,Tryz.ntmps103;go_wp2;go_ret;exact⟨rfl,0,rfl⟩
theorem ME (a0 b0:Option Addr) (la ca lb cb:Nat) (xs ys:List Nat) (w:World) (ha:Sl w a0 la ca xs) (hb:Sl w b0 lb cb ys):
  Calls Tryz.prog 103 #[.slice a0 la ca,.slice b0 lb cb] w (kz (.bool (pV xs ys)) w):=by
 by_cases hl:la=lb
 ·subst hl;have b1:=ha.big;have b2:=hb.big;have l1:=ha.le;have l2:=hb.le;have hne:(((la:Nat):Int) !=((la:Nat):Int))=false:=by simp
  go_enter Tryz.func103,Tryz.ntmps103;go_wp2;go_loopw [5] (fun i wr=>∃k:Nat,k<=la/\ i= .int .i64 k/\ Hid (xs.take k=ys.take k)/\∃q,wr=w.drewN q) (fun i _=>la-(intOf i).toNat)
  case atStart=>exact⟨0,Nat.zero_le _,rfl,rfl,0,rfl⟩
  case round=>
   obtain⟨k,hk,rfl,heq,q,rfl⟩:=hrel;by_cases hkn:k<la
   ·obtain⟨b,off,rfl,_,hca⟩:=ha.at (by omega);obtain⟨b',off',rfl,_,hcb⟩:=hb.at (by omega);have ha1:=hca k hkn;have hb1:=hcb k hkn;obtain⟨x,hx⟩:∃x,x=xs.getD k 0:=⟨_,rfl⟩;obtain⟨y,hy⟩:∃y,y=ys.getD k 0:=⟨_,rfl⟩;rw[<-hx]at ha1;rw[<-hy]at hb1;have HX:=Lib.hid hx;have HY:=Lib.hid hy;clear hx hy hca hcb;by_cases hxy:x=y
    ·subst hxy;have e1:(((x:Nat):Int) !=((x:Nat):Int))=false:=by simp
     go_wp2;go_quiet (fail);go_wp2;go_roundw
     case rel=>
      refine⟨k+1,by omega,by go_num,?_,_,rfl⟩;show _=_;rw[bZ xs k (by rw[ha.len];exact hkn),bZ ys k (by rw[hb.len];exact hkn),heq.out,<-HX.out,<-HY.out]
     case measure=>simp[intOf];omega
    ·have e1:(((x:Nat):Int) !=((y:Nat):Int))=true:=by simp;omega
     have e2:(x !=y)=true:=by simp;omega
     have H:Hid (pV xs ys=false):=by
      show _=_;unfold pV;rw[decide_eq_false_iff_not];intro e;apply hxy;rw[HX.out,HY.out,e]
     go_wp2;go_quiet (fail);go_wp2;go_ret;exact⟨by rw[H.out];rfl,_,World.drewN_drewN _ _ _⟩
   ·obtain rfl:k=la:=by omega
    have H:Hid (pV xs ys=true):=by
     show _=_;unfold pV;rw[decide_eq_true_eq];have:=heq.out;rwa[dh _ _ ha.len,dh _ _ hb.len]at this
    go_wp2;go_ret;exact⟨by rw[H.out];rfl,_,rfl⟩
 ·have:pV xs ys=false:=by
   unfold pV;rw[decide_eq_false_iff_not];intro e;apply hl;rw[<-ha.len,<-hb.len,e]
  rw[this];exact M6 _ _ _ _ _ _ _ hl
end Go.Proofs.YtmenbpmciblnlaaGreatDoor
/- The contract of porismref01.trim. -/
namespace Go.Proofs.YtmenbpmciblnlaaGreatDoor.Dg
open Go.RowKit
theorem nR [Ol] (B:Nat) (ao:Option Addr) (n cap:Nat) (xs:List Nat) (w:World) (h:Own B w ao n cap xs):
  Calls Tryz.prog 155 #[.slice ao n cap] w (uz B w (limbs (val xs))):=by
 have hs:=h.sl;have hle:=hs.le;have hbig:=hs.big;have HT:Hid (xs.take n=xs):=dh xs n hs.len;have HO:=Lib.hid h;have Xt:Hid (bG xs=limbs (val xs)):=bX xs h.wf;clear h;go_enter Tryz.func155,Tryz.ntmps155;go_wp2;go_loop [0] (fun d=>∃k:Nat,k<=n/\ d= .slice ao k cap/\ Hid (nl (xs.take k)=nl xs)) (fun d=>match d with| .slice _ k _=>k| _=>0)
 case atStart=>exact⟨n,Nat.le_refl _,rfl,by rw[Hid,HT.out]⟩
 case round=>
  obtain⟨k,hk,rfl,hnl⟩:=hrel;by_cases hk0:k=0
  ·subst hk0
   have H0:Hid (Own B w ao 0 cap (limbs (val xs))):=by
    have h1:=HO.out.uD 0 (Nat.zero_le _);have h2:=hnl.out;rw[List.take_zero]at h1 h2;rw[Hid,<-Xt.out,cK,<-h2];exact h1
   go_wp2;go_ret;exact⟨_,_,_,rfl,H0.out,rfl⟩
  ·obtain⟨b,off,rfl,hb,hc⟩:=hs.at (by omega);obtain⟨j,rfl⟩:∃j,k=j+1:=⟨k-1,by omega⟩;have hlen:=hs.len;have hcell:=hc j (by omega);clear hc hlen;obtain⟨x,hx⟩:∃x,x=xs.getD j 0:=⟨_,rfl⟩;rw[<-hx]at hcell;have HX:Hid (x=xs.getD j 0):=hx;clear hx;by_cases hz:x=0
   ·subst hz
    have H1:Hid (nl (xs.take j)=nl xs):=by
     rw[Hid,<-hnl.out,kV xs j (by have:=hs.len;omega) HX.out.symm]
    clear hnl;go_wp2;go_round
    case rel=>exact⟨j,by omega,rfl,H1⟩
    case measure=>simp
   ·have hb0:(((x:Nat):Int)==0)=false:=by simp;omega
    have H1:Hid (Own B w (some ⟨b,off,none⟩) (j+1) cap (limbs (val xs))):=by
     have h1:=HO.out.uD (j+1) hk;rw[Hid,<-Xt.out,cK,<-hnl.out,wJ xs j (by have:=hs.len;omega) (by rw[<-HX.out];exact hz)];exact h1
    clear hnl hz;go_wp2;go_ret;exact⟨_,_,_,rfl,H1.out,rfl⟩
end Go.Proofs.YtmenbpmciblnlaaGreatDoor.Dg
/- The contract of porismref01.times. -/
namespace Go.Proofs.YtmenbpmciblnlaaGreatDoor.Dg
open Go.RowKit
end Go.Proofs.YtmenbpmciblnlaaGreatDoor.Dg
/- The contract of porismref01.by. -/
namespace Go.Proofs.YtmenbpmciblnlaaGreatDoor.Dg
open Lib (hid)
open Go.RowKit
def Tn (B:Nat) (ao:Option Addr) (n cap:Nat) (w:World) (X:List Nat) (N j r:Nat) (wr:World):Prop:=
 ∃zs,Own B wr ao n cap zs/\ Below B w wr/\ val (zs.drop j)*N+r=val (X.drop j)/\ r<N
def Tp (w:World) (ys:List Nat) (r:Nat) (e:Ending) (w':World):Prop:=
 ∃ao n cap,e= .returned (.tuple #[.slice ao n cap,.int .i64 ((r:Nat):Int)])/\ Own w.heap.size w' ao n cap ys/\ Below w.heap.size w w'
theorem Uo [Ol] (ao:Option Addr) (n cap:Nat) (xs:List Nat) (N:Nat) (w:World) (ha:Sl w ao n cap xs) (hN:1<=N) (ZN:N<=65536):
  Calls Tryz.prog 157 #[.slice ao n cap,.int .i64 (N:Int)] w (Tp w (limbs (val xs/N)) (val xs%N)):=by
 have hle:=ha.le;have hbig:=ha.big;obtain⟨i0,hi,hz0,hz1,hz2⟩:=info_parts Tryz.nS;go_enter Tryz.func157,Tryz.ntmps157;go_wp2_with (at_make;refine wpList_make_full _ rfl _ _ 43 rfl w.heap.size 3 i0 (.int .i64 0) 1 Tryz.jZ hi hz0 hz1 _ _ _ _ n rfl rfl rfl rfl ?b2 ?b3 (Nat.le_refl _) ?_)
 case b2=>rw[hz2];omega
 case b3=>unfold maxLen;omega
 intro w1 hown1 hgrow1;rw[yJ]at hown1;have hb1:Below w.heap.size w w1:=(Below.refl _ _).grown hgrow1 (Nat.le_refl _) (fun k h=>by cases h)
 have nT:Own w.heap.size w1 (some ⟨w.heap.size,0,none⟩) n n (List.replicate n 0):=
  ⟨hown1,hbig,fun x hx=>by rw[(List.mem_replicate.1 hx).2];omega⟩
 clear hown1 hgrow1
 have hI1:Tn w.heap.size (some ⟨w.heap.size,0,none⟩) n n w xs N n 0 w1:=by
  refine⟨_,nT,hb1,?_,by omega⟩;rw[List.drop_eq_nil_of_le (by simp),List.drop_eq_nil_of_le (by rw[ha.len];exact Nat.le_refl _),dQ,Nat.zero_mul]
 clear nT hb1;go_wp2_with fail;go_loopw [7,8] (fun r i wr=>∃j rr:Nat,j<=n/\ i= .int .i64 ((j:Int)-1)/\ r= .int .i64 ((rr:Nat):Int)/\ Tn w.heap.size (some ⟨w.heap.size,0,none⟩) n n w xs N j rr wr) (fun _ i _=>(intOf i+1).toNat)
 case atStart=>exact⟨n,0,Nat.le_refl _,rfl,rfl,hI1⟩
 case round=>
  clear hI1;obtain⟨j,rr,hj,rfl,rfl,zs,hO,hB,hV,hr⟩:=hrel;by_cases hj0:j=0
  ·subst hj0;simp only[List.drop_zero]at hV
   have hq:val zs=val xs/N/\ rr=val xs%N:=by
    have h1:val xs=rr+N*val zs:=by rw[<-hV,Nat.mul_comm];omega
    rw[h1];exact⟨by rw[Nat.add_mul_div_left _ _ (by omega),Nat.div_eq_of_lt hr,Nat.zero_add],by rw[Nat.add_mul_mod_self_left,Nat.mod_eq_of_lt hr]⟩
   have hcut:=nR _ _ _ _ _ _ hO;rw[hq.1]at hcut;have mI:=hid hcut;have HR:=hid hq.2;clear hV hcut hq;go_wp2_with fail;refine mI.out.mono fun e w' h=>?_
   obtain⟨M7,kk,cap2,rfl,h3,rfl⟩:=h;go_wp2_with fail;go_ret2;exact⟨_,_,_,by rw[<-HR.out];rfl,h3,hB⟩
  ·obtain⟨i,rfl⟩:∃i,j=i+1:=⟨j-1,by omega⟩;have ei:((i+1:Nat):Int)-1=(i:Int):=by omega
   rw[ei];have EI:=hid ei;clear ei;obtain⟨b,off,rfl,hbb,hcell⟩:=ha.at (by omega);have hdc:wr.cell? ⟨b,off+i,none⟩=some (.int .i64 (xs.getD i 0:Nat)):=(hB.cell (by exact hbb)).trans (hcell i (by omega));have hdl:=ha.getD_lt i;have hzc:=hO.cell i (by omega);have xJ:=hO.frozen i;have hdrop:=iL xs i (by rw[ha.len];omega);obtain⟨d,hd⟩:∃d,d=xs.getD i 0:=⟨_,rfl⟩;rw[<-hd]at hdc hdl hdrop;obtain⟨z,hz⟩:∃z,z=zs.getD i 0:=⟨_,rfl⟩;rw[<-hz]at hzc;have hq:(rr*10+d)/N<10:=by rw[Nat.div_lt_iff_lt_mul (by omega)];omega
   have hst:val ((zs.set i ((rr*10+d)/N)).drop i)*N+(rr*10+d)%N=val (xs.drop i):=by
    rw[iL _ i (by rw[List.length_set,hO.len];omega),fI,if_pos ⟨rfl,by rw[hO.len];omega⟩,List.drop_set_of_lt (by omega),hdrop,<-hV,Nat.add_mul];have h:=Nat.mod_add_div (rr*10+d) N;rw[Nat.mul_comm N]at h;have h2:10*val (zs.drop (i+1))*N=10*(val (zs.drop (i+1))*N):=Nat.mul_assoc _ _ _;omega
   have HQ:=hid hq;have HST:=hid hst;have HRN:=hid hr;have hrl:rr<=65536:=by omega
   clear hd hz hV hdrop hcell hq hst hr hj0;go_wp2;go_roundw
   case rel=>exact⟨i,(rr*10+d)%N,by omega,by go_num,by go_num,_,by have:=hO.set i _ HQ.out;simpa using this,hB.setCell (Nat.le_refl _) _,HST.out,Nat.mod_lt _ (by omega)⟩
   case measure=>simp[intOf]
end Go.Proofs.YtmenbpmciblnlaaGreatDoor.Dg
/- The contract of porismref01.Small. -/
namespace Go.Proofs.YtmenbpmciblnlaaGreatDoor.Dg
open Go.RowKit
theorem jG (n:Nat) (w:World) (hn:Hid (n<=18446744073709551615)):
  Calls Tryz.prog 99 #[.int .u64 (n:Int)] w (iq w (limbs n)):=by
 obtain⟨i0,hi,hz0,hz1,hz2⟩:=info_parts Tryz.nS;have HLEN:Hid ((limbs n).length<=20):=gZ (QH hn.out);have HN:=Lib.hid hn.out;clear hn;go_enter Tryz.func99,Tryz.ntmps99;go_wp2;go_loopw [0,3] (fun c o wr=>∃(cc L:Nat) (ao:Option Addr) (cap:Nat) (zs:List Nat),cc<=n/\ c= .int .u64 ((cc:Nat):Int)/\ o= .slice ao L cap/\ Own w.heap.size wr ao L cap zs/\ Below w.heap.size w wr/\ Hid (zs++limbs cc=limbs n)) (fun c _ _=>(intOf c).toNat)
 case atStart=>exact⟨n,0,none,0,[],Nat.le_refl _,rfl,rfl,Own.nil _ _,Below.refl _ _,rfl⟩
 case round=>
  obtain⟨cc,L,ao,cap,zs,hcn,rfl,rfl,hO,hB,hV⟩:=hrel;have hsz:=hB.size;by_cases hc0:0<cc
  ·have hL:L+1<=20:=by
    have h1:=congrArg List.length hV.out;have h2:=HLEN.out;rw[List.length_append,gF hc0,List.length_cons,hO.len]at h1;omega
   have HST:Hid ((zs++[cc%10])++limbs (cc/10)=limbs n):=by
    rw[Hid,<-hV.out,gF hc0];simp
   have HW:Hid (IntKind.u64.wrap (((cc:Nat):Int)/10)=((cc/10:Nat):Int)):=by
    rw[Hid,show((cc:Nat):Int)/10=((cc/10:Nat):Int)from by omega,wrap_u64 _ (by have:=HN.out;omega)]
   clear hV;go_wp2_with (at_builtin;refine eH wr w rfl (.tmp 6) (.tmp 10) 43 rfl w.heap.size 3 i0 (.int .i64 0) 8 Tryz.jZ hi hz0 hz1 hz2 rfl _ _ _ _ rfl hO.row _ rfl 3 rfl hB hsz (by unfold maxLen;omega) (by omega) ?_;intro xK kW w1 hown1 hB1 _);go_roundw
   case rel=>exact⟨cc/10,L+1,xK,kW,_,by omega,by rw[HW.out],rfl,Own.push (cc%10) hown1 (by go_num) (Nat.mod_lt _ (by omega)) hO.wf (by omega),hB1,HST⟩
   case measure=>rw[HW.out];simp[intOf];omega
  ·obtain rfl:cc=0:=by omega
   have HE:Hid (zs=limbs n):=by rw[Hid,<-hV.out,gT,List.append_nil]
   clear hV;go_wp2;go_ret;exact⟨_,_,_,rfl,by rw[<-HE.out];exact hO,hB⟩
end Go.Proofs.YtmenbpmciblnlaaGreatDoor.Dg
/- The contract of porismref01.Of. -/
namespace Go.Proofs.YtmenbpmciblnlaaGreatDoor.Dg
open Go.RowKit
end Go.Proofs.YtmenbpmciblnlaaGreatDoor.Dg
/- The contract of the method Limbs of porismref01.D. -/
namespace Go.Proofs.YtmenbpmciblnlaaGreatDoor.Dg
open Go.RowKit
theorem Tq [Ol] (ao:Option Addr) (n cap:Nat) (v:Nat) (w:World) (ha:Sl w ao n cap (limbs v)):
  Calls Tryz.prog 157 #[.slice ao n cap,.int .i64 65536] w (Tp w (limbs (v/65536)) (v%65536)):=by
 have:=Uo ao n cap (limbs v) 65536 w ha (by omega) (by omega);rw[au]at this;exact this
theorem AY [Ol] (ao:Option Addr) (n cap:Nat) (v0:Nat) (w:World) (ha:Sl w ao n cap (limbs v0)):
  Calls Tryz.prog 105 #[.slice ao n cap] w (Go.Proofs.YtmenbpmciblnlaaGreatDoor.iq w (Go.Proofs.YtmenbpmciblnlaaGreatDoor.limbs v0)):=by
 obtain⟨i0,hi,hz0,hz1,hz2⟩:=info_parts Tryz.gJ;have hbig:=ha.big;go_enter Tryz.func105,Tryz.ntmps105;go_wp2;go_loopw [0,3,4,5] (fun d o _ _ wr=>∃(v L cap':Nat) (iB:Option Addr) (M Uq:Nat) (ZO:Option Addr) (zs:List Nat),d= .slice iB L cap'/\ o= .slice ZO M Uq/\ M+L<=n/\ Sl wr iB L cap' (limbs v)/\ Go.Proofs.YtmenbpmciblnlaaGreatDoor.Own w.heap.size wr ZO M Uq zs/\ Below w.heap.size w wr/\ Hid (zs++Go.Proofs.YtmenbpmciblnlaaGreatDoor.limbs v=Go.Proofs.YtmenbpmciblnlaaGreatDoor.limbs v0)) (fun d _ _ _ _=>match d with| .slice _ k _=>k| _=>0)
 case atStart=>exact⟨v0,n,cap,ao,0,0,none,[],rfl,rfl,by omega,ha,Go.Proofs.YtmenbpmciblnlaaGreatDoor.Own.nil _ _,Below.refl _ _,rfl⟩
 case round=>
  obtain⟨v,L,cap',iB,M,Uq,ZO,zs,rfl,rfl,hML,hS,hO,hB,hV⟩:=hrel;have HLV:=Lib.hid (QI hS.len);by_cases hL:0<L
  ·have hv:0<v:=HLV.out.1 hL
   have HST:Hid ((zs++[v%4294967296])++Go.Proofs.YtmenbpmciblnlaaGreatDoor.limbs (v/4294967296)=Go.Proofs.YtmenbpmciblnlaaGreatDoor.limbs v0):=by
    rw[Hid,<-hV.out,Go.Proofs.YtmenbpmciblnlaaGreatDoor.gF hv];simp
   have HSH:Hid ((limbs (v/4294967296)).length<L):=by rw[<-hS.len];exact Al hv
   clear hv hV;go_wp2_with fail;refine(Tq _ _ _ v _ hS).mono ?_;rintro e w1 ⟨xK,n1,kW,rfl,nT,hB1⟩;have ZP:=hO.below hB1;have hBa:Below w.heap.size w w1:=Go.Proofs.YtmenbpmciblnlaaGreatDoor.Below.steps hB hB1;clear hO hB hS;have hlo:v%65536<65536:=Nat.mod_lt _ (by omega);obtain⟨lo,Ur⟩:∃lo,lo=v%65536:=⟨_,rfl⟩;rw[<-Ur]at hlo ⊢;have HLO:=Lib.hid Ur;clear Ur;go_wp2_with fail;refine(Tq _ _ _ (v/65536) _ nT.sl).mono ?_;rintro e w2 ⟨M7,n2,cap2,rfl,hO2,hB2⟩;have hOb:=ZP.below hB2;have hBb:Below w.heap.size w w2:=Go.Proofs.YtmenbpmciblnlaaGreatDoor.Below.steps hBa hB2;have hsz:=hBb.size;have hS2:=hO2.sl;have HAP:=Lib.hid (J3 ZP hO2);have e2:v/65536/65536=v/4294967296:=by omega
   rw[e2]at hS2;have hn2:n2<L:=by rw[<-hS2.len];exact HSH.out
   clear ZP hBa nT hB1 hB2 hO2 e2;have hhi:v/65536%65536<65536:=Nat.mod_lt _ (by omega);obtain⟨hg,Us⟩:∃hg,hg=v/65536%65536:=⟨_,rfl⟩;rw[<-Us]at hhi ⊢;have HX:Hid (hg*65536+lo=v%4294967296):=by rw[Hid,Us,HLO.out];omega
   clear Us;go_wp2_with (at_builtin;refine eH w2 w rfl (.tmp 19) (.tmp 26) 27 rfl w.heap.size 192 i0 (.int .u32 0) 4 Tryz.underlying27 hi hz0 hz1 hz2 rfl _ _ _ _ rfl hOb.row _ rfl 192 rfl hBb hsz (by unfold maxLen;omega) (by omega) ?_;intro Tt vL w3 hown3 hB3 hg3);go_roundw
   case rel=>exact⟨v/4294967296,n2,cap2,M7,M+1,vL,Tt,_,rfl,rfl,by omega,hS2.grown hg3 HAP.out,Gv (hg*65536+lo) hown3 (by go_num) (by omega) hOb.wf (by omega),hB3,by rw[HX.out];exact HST⟩
   case measure=>simp;omega
  ·obtain rfl:L=0:=by omega
   have HE:Hid (zs=Go.Proofs.YtmenbpmciblnlaaGreatDoor.limbs v0):=by
    have:v=0:=by
     rcases Nat.eq_zero_or_pos v with h|h
     ·exact h
     ·exact absurd (HLV.out.2 h) (by omega)
    subst this;rw[Hid,<-hV.out,Go.Proofs.YtmenbpmciblnlaaGreatDoor.gT,List.append_nil]
   clear hV;go_wp2;go_ret;exact⟨_,_,_,rfl,by rw[<-HE.out];exact hO,hB⟩
end Go.Proofs.YtmenbpmciblnlaaGreatDoor.Dg
/- The contract of porismref01.Cmp. -/
namespace Go.Proofs.YtmenbpmciblnlaaGreatDoor.Dg
open Lib (hid)
open Go.RowKit
theorem vM {a n:Nat} (h:(limbs a).length=n):nl (limbs a)=n:=by rw[fH,h]
theorem oU [Ol] (a0 b0:Option Addr) (la ca lb cb a b:Nat) (w:World) (ha:Sl w a0 la ca (limbs a)) (hb:Sl w b0 lb cb (limbs b)) (hne:la≠lb):
  Calls Tryz.prog 152 #[.slice a0 la ca,.slice b0 lb cb] w (Go.Proofs.YtmenbpmciblnlaaGreatDoor.dI (.int .i64 (fP a b)) w):=by
 have hcl:=yK ha.wf hb.wf (by rw[vM ha.len,vM hb.len];exact hne);rw[vM ha.len,vM hb.len,au,au]at hcl;have b1:=ha.big;have b2:=hb.big;have hne1:(((la:Nat):Int) !=((lb:Nat):Int))=true:=by simp;omega
 have hne2:(la !=lb)=true:=by simp;omega
 by_cases hlt:la<lb
 ·have H:Hid (fP a b= -1):=by rw[Hid,hcl,if_neg (by omega)]
  clear hcl;go_enter Tryz.func152,Tryz.ntmps152;go_wp2;go_ret;exact⟨by rw[H.out];rfl,Below.refl _ _⟩
 ·have H:Hid (fP a b=1):=by rw[Hid,hcl,if_pos (by omega)]
  have hd:decide (la<lb)=false:=by simp;omega
  clear hcl;go_enter Tryz.func152,Tryz.ntmps152;go_wp2;go_ret;exact⟨by rw[H.out];rfl,Below.refl _ _⟩
theorem Cm [Ol] (a0 b0:Option Addr) (la ca lb cb a b:Nat) (w:World) (ha:Sl w a0 la ca (limbs a)) (hb:Sl w b0 lb cb (limbs b)):
  Calls Tryz.prog 152 #[.slice a0 la ca,.slice b0 lb cb] w (Go.Proofs.YtmenbpmciblnlaaGreatDoor.dI (.int .i64 (fP a b)) w):=by
 by_cases hne:la≠lb
 ·exact oU _ _ _ _ _ _ _ _ _ ha hb hne
 obtain rfl:la=lb:=by omega
 clear hne;have b1:=ha.big;have HN1:=hid (vM ha.len);have HN2:=hid (vM hb.len);have hne:(((la:Nat):Int) !=((la:Nat):Int))=false:=by simp
 go_enter Tryz.func152,Tryz.ntmps152;go_wp2;go_loopw [5] (fun i wr=>∃j:Nat,j<=la/\ i= .int .i64 ((j:Int)-1)/\ Hid (∀t,j<=t->t<la->(limbs a).getD t 0=(limbs b).getD t 0)/\∃q,wr=w.drewN q) (fun i _=>(intOf i+1).toNat)
 case atStart=>exact⟨la,Nat.le_refl _,rfl,fun t h1 h2=>by omega,0,rfl⟩
 case round=>
  obtain⟨j,hj,rfl,heq,q,rfl⟩:=hrel;by_cases hj0:j=0
  ·subst hj0
   have H:Hid (fP a b=0):=by
    have:=yL la HN1.out HN2.out (fun i hi=>heq.out i (Nat.zero_le _) hi);rw[au,au]at this;exact this
   go_wp2;go_ret;exact⟨by rw[H.out];rfl,below_drewN _ _ _⟩
  ·obtain⟨i,rfl⟩:∃i,j=i+1:=⟨j-1,by omega⟩;have ei:((i+1:Nat):Int)-1=(i:Int):=by omega
   rw[ei];clear ei;obtain⟨p,off,rfl,_,hca⟩:=ha.at (by omega);obtain⟨p',off',rfl,_,hcb⟩:=hb.at (by omega);have ha1:=hca i (by omega);have hb1:=hcb i (by omega);have HW:=hid ha.wf;have HW2:=hid hb.wf;obtain⟨x,hx⟩:∃x,x=(limbs a).getD i 0:=⟨_,rfl⟩;obtain⟨y,hy⟩:∃y,y=(limbs b).getD i 0:=⟨_,rfl⟩;rw[<-hx]at ha1;rw[<-hy]at hb1;have HX:=hid hx;have HY:=hid hy;have hin:((i:Nat):Int)<((la:Nat):Int):=by omega
   clear hx hy hca hcb hj0
   have HAT:Hid (x≠y->fP a b=if y<x then 1 else-1):=by
    intro hxy;have:=Gw HW.out HW2.out la i HN1.out HN2.out (by omega) (fun t h1 h2=>heq.out t (by omega) h2) (by rw[<-HX.out,<-HY.out];exact hxy);rw[au,au,<-HX.out,<-HY.out]at this;exact this
   by_cases hxy:x<y
   ·have H:Hid (fP a b= -1):=by rw[Hid,HAT.out (by omega),if_neg (by omega)]
    have e1:decide (x<y)=true:=by simp;omega
    go_wp2;go_quiet (fail);go_wp2;go_ret;exact⟨by rw[H.out];rfl,(below_drewN _ _ _).trans (below_drewN _ _ _)⟩
   ·have e1:decide (x<y)=false:=by simp;omega
    by_cases hyx:y<x
    ·have H:Hid (fP a b=1):=by rw[Hid,HAT.out (by omega),if_pos (by omega)]
     have e2:decide (y<x)=true:=by simp;omega
     go_wp2;go_quiet (fail);go_wp2;go_quiet (fail);go_wp2;go_ret;exact⟨by rw[H.out];rfl,by first|exact below_drewN _ _ _|exact(below_drewN _ _ _).trans (below_drewN _ _ _)|exact((below_drewN _ _ _).trans (below_drewN _ _ _)).trans (below_drewN _ _ _)⟩
    ·have e2:decide (y<x)=false:=by simp;omega
     have hE:Hid (∀t,i<=t->t<la->(limbs a).getD t 0=(limbs b).getD t 0):=by
      intro t h1 h2;by_cases h3:t=i
      ·subst h3;rw[<-HX.out,<-HY.out];omega
      ·exact heq.out t (by omega) h2
     clear heq;go_wp2;go_quiet (fail);go_wp2;go_quiet (fail);go_wp2;go_roundw
     case rel=>exact⟨i,by omega,by go_num,hE,_,by first|rfl|(rw[World.drewN_drewN])|(rw[World.drewN_drewN,World.drewN_drewN])⟩
     case measure=>simp[intOf]
theorem oV [Ol] (c:Int) (a0 b0:Option Addr) (la ca lb cb a b:Nat) (w:World) (ha:Sl w a0 la ca (limbs a)) (hb:Sl w b0 lb cb (limbs b)) (hc:Hid (fP a b=c)):
  Calls Tryz.prog 152 #[.slice a0 la ca,.slice b0 lb cb] w (Go.Proofs.YtmenbpmciblnlaaGreatDoor.dI (.int .i64 c) w):=by
 rw[<-hc.out];exact Cm a0 b0 la ca lb cb a b w ha hb
end Go.Proofs.YtmenbpmciblnlaaGreatDoor.Dg
/- The contract of porismref01.Add. -/
namespace Go.Proofs.YtmenbpmciblnlaaGreatDoor.Dg
open Lib (hid)
open Go.RowKit
theorem uE {zs:List Nat} {k c S T x y:Nat} (hl:zs.length=k) (h:val zs+10^k*c=S+T):
  val (zs++[(c+x+y)%10])+10^(k+1)*((c+x+y)/10)=(S+10^k*x)+(T+10^k*y):=by
 rw[val_append,bq,dQ,hl,Nat.pow_succ]
 have e:10^k*((c+x+y)%10+10*0)+10^k*10*((c+x+y)/10)=10^k*c+10^k*x+10^k*y:=by
  rw[Nat.mul_assoc,<-Nat.mul_add,<-Nat.mul_add,<-Nat.mul_add]
  congr 1
  omega
 omega
def mY (B:Nat) (w:World) (ao:Option Addr) (k cap:Nat) (S c:Nat) (wr:World):Prop:=
 ∃zs,Own B wr ao k cap zs/\ Below B w wr/\ val zs+10^k*c=S
theorem qY [Ol] (a0 b0:Option Addr) (la ca lb cb:Nat) (xs ys:List Nat) (w:World) (ha:Sl w a0 la ca xs) (hb:Sl w b0 lb cb ys) (hra:la<=4398046511104) (hrb:lb<=4398046511104):
  Calls Tryz.prog 100 #[.slice a0 la ca,.slice b0 lb cb] w (iq w (limbs (val xs+val ys))):=by
 obtain⟨i0,hi,hz0,hz1,hz2⟩:=info_parts Tryz.nS;go_enter Tryz.func100,Tryz.ntmps100;go_wp2;go_loopw [5,6,7] (fun o c i wr=>∃(k cc:Nat) (iB:Option Addr) (cap':Nat),k<=la+lb+1/\ cc<=1/\ i= .int .i64 ((k:Nat):Int)/\ c= .int .i64 ((cc:Nat):Int)/\ o= .slice iB k cap'/\ mY w.heap.size w iB k cap' (val (xs.take k)+val (ys.take k)) cc wr) (fun _ _ i _=>la+lb+1-(intOf i).toNat)
 case atStart=>exact⟨0,0,none,0,Nat.zero_le _,Nat.zero_le _,rfl,rfl,rfl,[],Own.nil _ _,Below.refl _ _,by simp[val]⟩
 case round=>
  obtain⟨k,cc,iB,cap',hk,hcc,rfl,rfl,rfl,zs,hO,hB,hV⟩:=hrel;have hsz:=hB.size;by_cases hka:k<la
  ·by_cases hkb:k<lb
   ·skip
    obtain⟨pa,Am,rfl,hpa,hca⟩:=ha.at (by omega);have hxc:wr.cell? ⟨pa,Am+k,none⟩=some (.int .i64 (xs.getD k 0:Nat)):=(hB.cell (by exact hpa)).trans (hca k (by omega));have hxl:=ha.getD_lt k;obtain⟨pb,Gx,rfl,hpb,hcb⟩:=hb.at (by omega);have Gy:wr.cell? ⟨pb,Gx+k,none⟩=some (.int .i64 (ys.getD k 0:Nat)):=(hB.cell (by exact hpb)).trans (hcb k (by omega));have hyl:=hb.getD_lt k;have hstep:=uE (x:=xs.getD k 0) (y:=ys.getD k 0) hO.len hV;rw[dX xs k,dX ys k]at hstep;obtain⟨x,hx⟩:∃x,x=xs.getD k 0:=⟨_,rfl⟩;rw[<-hx]at hxc hxl hstep;clear hx hca;obtain⟨y,hy⟩:∃y,y=ys.getD k 0:=⟨_,rfl⟩;rw[<-hy]at Gy hyl hstep;clear hy hcb;have HST:=hid hstep;clear hV hstep;go_wp2_with (at_builtin;refine eH wr w rfl (.tmp 44) (.tmp 47) 43 rfl w.heap.size 3 i0 (.int .i64 0) 8 Tryz.jZ hi hz0 hz1 hz2 rfl _ _ _ _ rfl hO.row _ rfl 3 rfl hB hsz (by unfold maxLen;omega) (by omega) ?_;intro xK kW w1 hown1 hB1 _);go_roundw
    case rel=>exact⟨k+1,(cc+x+y)/10,xK,kW,by omega,by omega,by go_num,by go_num,rfl,_,Own.push ((cc+x+y)%10) hown1 (by go_num) (Nat.mod_lt _ (by omega)) hO.wf (by omega),hB1,HST.out⟩
    case measure=>simp[intOf];omega
   ·skip
    obtain⟨pa,Am,rfl,hpa,hca⟩:=ha.at (by omega);have hxc:wr.cell? ⟨pa,Am+k,none⟩=some (.int .i64 (xs.getD k 0:Nat)):=(hB.cell (by exact hpa)).trans (hca k (by omega));have hxl:=ha.getD_lt k;have db:decide (k<lb)=false:=by simp;omega
    have hy0:ys.getD k 0=0:=nU ys k (by rw[hb.len];omega);have hstep:=uE (x:=xs.getD k 0) (y:=ys.getD k 0) hO.len hV;rw[dX xs k,dX ys k]at hstep;obtain⟨x,hx⟩:∃x,x=xs.getD k 0:=⟨_,rfl⟩;rw[<-hx]at hxc hxl hstep;clear hx hca;rw[hy0]at hstep;have HST:=hid hstep;clear hV hstep;go_wp2_with (at_builtin;refine eH wr w rfl (.tmp 44) (.tmp 47) 43 rfl w.heap.size 3 i0 (.int .i64 0) 8 Tryz.jZ hi hz0 hz1 hz2 rfl _ _ _ _ rfl hO.row _ rfl 3 rfl hB hsz (by unfold maxLen;omega) (by omega) ?_;intro xK kW w1 hown1 hB1 _);go_roundw
    case rel=>exact⟨k+1,(cc+x+0)/10,xK,kW,by omega,by omega,by go_num,by go_num,rfl,_,Own.push ((cc+x+0)%10) hown1 (by go_num) (Nat.mod_lt _ (by omega)) hO.wf (by omega),hB1,HST.out⟩
    case measure=>simp[intOf];omega
  ·have da:decide (k<la)=false:=by simp;omega
   by_cases hkb:k<lb
   ·skip
    have hx0:xs.getD k 0=0:=nU xs k (by rw[ha.len];omega);obtain⟨pb,Gx,rfl,hpb,hcb⟩:=hb.at (by omega);have Gy:wr.cell? ⟨pb,Gx+k,none⟩=some (.int .i64 (ys.getD k 0:Nat)):=(hB.cell (by exact hpb)).trans (hcb k (by omega));have hyl:=hb.getD_lt k;have hstep:=uE (x:=xs.getD k 0) (y:=ys.getD k 0) hO.len hV;rw[dX xs k,dX ys k]at hstep;rw[hx0]at hstep;obtain⟨y,hy⟩:∃y,y=ys.getD k 0:=⟨_,rfl⟩;rw[<-hy]at Gy hyl hstep;clear hy hcb;have HST:=hid hstep;clear hV hstep;go_wp2_with (at_builtin;refine eH wr w rfl (.tmp 44) (.tmp 47) 43 rfl w.heap.size 3 i0 (.int .i64 0) 8 Tryz.jZ hi hz0 hz1 hz2 rfl _ _ _ _ rfl hO.row _ rfl 3 rfl hB hsz (by unfold maxLen;omega) (by omega) ?_;intro xK kW w1 hown1 hB1 _);go_roundw
    case rel=>exact⟨k+1,(cc+0+y)/10,xK,kW,by omega,by omega,by go_num,by go_num,rfl,_,Own.push ((cc+0+y)%10) hown1 (by go_num) (Nat.mod_lt _ (by omega)) hO.wf (by omega),hB1,HST.out⟩
    case measure=>simp[intOf];omega
   ·have db:decide (k<lb)=false:=by simp;omega
    have hS:Hid (val zs+10^k*cc=val xs+val ys):=by
     rw[List.take_of_length_le (by rw[ha.len];omega),List.take_of_length_le (by rw[hb.len];omega)]at hV;exact hV
    by_cases hc0:0<cc
    ·have hk2:k<=la+lb:=by
      rcases Nat.lt_or_ge (la+lb) k with h|h
      ·obtain rfl:k=la+lb+1:=by omega
       obtain rfl:cc=1:=by omega
       have h1:=eu xs ha.wf;have h2:=eu ys hb.wf;rw[ha.len]at h1;rw[hb.len]at h2;have h3:10^la<=10^(la+lb):=Nat.pow_le_pow_right (by omega) (by omega);have h4:10^lb<=10^(la+lb):=Nat.pow_le_pow_right (by omega) (by omega);have h5:=hS.out;rw[Nat.pow_succ]at h5;omega
      ·exact h
     have hx0:xs.getD k 0=0:=nU xs k (by rw[ha.len];omega);have hy0:ys.getD k 0=0:=nU ys k (by rw[hb.len];omega);have hstep:=uE (x:=xs.getD k 0) (y:=ys.getD k 0) hO.len hV;rw[dX xs k,dX ys k]at hstep;rw[hx0]at hstep;rw[hy0]at hstep;have HST:=hid hstep;clear hV hstep;go_wp2_with (at_builtin;refine eH wr w rfl (.tmp 44) (.tmp 47) 43 rfl w.heap.size 3 i0 (.int .i64 0) 8 Tryz.jZ hi hz0 hz1 hz2 rfl _ _ _ _ rfl hO.row _ rfl 3 rfl hB hsz (by unfold maxLen;omega) (by omega) ?_;intro xK kW w1 hown1 hB1 _);go_roundw
     case rel=>exact⟨k+1,(cc+0+0)/10,xK,kW,by omega,by omega,by go_num,by go_num,rfl,_,Own.push ((cc+0+0)%10) hown1 (by go_num) (Nat.mod_lt _ (by omega)) hO.wf (by omega),hB1,HST.out⟩
     case measure=>simp[intOf];omega
    ·have hd:decide (0<cc)=false:=by simp;omega
     have hcut:=nR _ _ _ _ _ _ hO
     have ht:val zs=val xs+val ys:=by
      have:=hS.out;obtain rfl:cc=0:=by omega
      omega
     rw[ht]at hcut;have mI:=hid hcut;clear ht hV hcut;go_wp2_with fail;refine mI.out.mono fun e w' h=>?_
     obtain⟨M7,kk,cap2,rfl,h3,rfl⟩:=h;go_wp2_with fail;go_ret;exact⟨_,_,_,rfl,h3,hB⟩
end Go.Proofs.YtmenbpmciblnlaaGreatDoor.Dg
/- The contract of porismref01.Sub. -/
namespace Go.Proofs.YtmenbpmciblnlaaGreatDoor.Dg
open Lib (hid)
open Go.RowKit
theorem M8 {zs:List Nat} {k c S T u y:Nat} (hl:zs.length=k) (hu:u<10) (hy:y<10) (hc:c<=1) (h:val zs+T=S+10^k*c):
  val (zs++[jc u y c])+(T+10^k*y)=(S+10^k*u)+10^(k+1)*jm u y c:=by
 rw[val_append,bq,dQ,hl,Nat.pow_succ,Nat.mul_zero,Nat.add_zero]
 have e:10^k*jc u y c+10^k*y+10^k*c=10^k*u+10^k*10*jm u y c:=by
  rw[Nat.mul_assoc,<-Nat.mul_add,<-Nat.mul_add,<-Nat.mul_add]
  congr 1
  unfold jc jm;split<;>omega
 omega
theorem oW {a b:Nat} (h:b<=a):(limbs b).length<=(limbs a).length:=by
 rcases Nat.lt_or_ge (limbs a).length (limbs b).length with h1|h1
 ·have h2:=gK (xs:=limbs a) (ys:=limbs b) (dR a) (by rw[fH,fH];exact h1);rw[au,au]at h2;omega
 ·exact h1
def vN (B:Nat) (w:World) (ao:Option Addr) (k cap:Nat) (S T c:Nat) (wr:World):Prop:=
 ∃zs,Own B wr ao k cap zs/\ Below B w wr/\ val zs+T=S+10^k*c
theorem kX [Ol] (a0 b0:Option Addr) (la ca lb cb a b:Nat) (w:World) (ha:Sl w a0 la ca (limbs a)) (hb:Sl w b0 lb cb (limbs b)) (hge:b<=a) (hra:la<=4398046511104):
  Calls Tryz.prog 153 #[.slice a0 la ca,.slice b0 lb cb] w (iq w (limbs (a-b))):=by
 obtain⟨i0,hi,hz0,hz1,hz2⟩:=info_parts Tryz.nS;have hlb:lb<=la:=by rw[<-ha.len,<-hb.len];exact oW hge
 have xB:=hid hge;clear hge;obtain⟨xs,hxs⟩:∃xs,xs=limbs a:=⟨_,rfl⟩;obtain⟨ys,hys⟩:∃ys,ys=limbs b:=⟨_,rfl⟩;have HXV:Hid (val xs=a):=by rw[Hid,hxs,au]
 have YT:Hid (val ys=b):=by rw[Hid,hys,au]
 rw[<-hxs]at ha;rw[<-hys]at hb;clear hxs hys;go_enter Tryz.func153,Tryz.ntmps153;go_wp2;go_loopw [5,6,7,8] (fun o c i _ wr=>∃(k cc:Nat) (iB:Option Addr) (cap':Nat),k<=la/\ cc<=1/\ i= .int .i64 ((k:Nat):Int)/\ c= .int .i64 ((cc:Nat):Int)/\ o= .slice iB k cap'/\ vN w.heap.size w iB k cap' (val (xs.take k)) (val (ys.take k)) cc wr) (fun _ _ i _ _=>la-(intOf i).toNat)
 case atStart=>exact⟨0,0,none,0,Nat.zero_le _,Nat.zero_le _,rfl,rfl,rfl,[],Own.nil _ _,Below.refl _ _,by simp[val]⟩
 case round=>
  obtain⟨k,cc,iB,cap',hk,hcc,rfl,rfl,rfl,zs,hO,hB,hV⟩:=hrel;have hsz:=hB.size;by_cases hka:k<la
  ·obtain⟨pa,Am,rfl,hpa,hca⟩:=ha.at (by omega);have hxc:wr.cell? ⟨pa,Am+k,none⟩=some (.int .i64 (xs.getD k 0:Nat)):=(hB.cell (by exact hpa)).trans (hca k (by omega));have hxl:=ha.getD_lt k;have hyl:=hb.getD_lt k;have hstep:=M8 (u:=xs.getD k 0) (y:=ys.getD k 0) hO.len hxl hyl hcc hV;rw[dX xs k,dX ys k]at hstep;obtain⟨u,hu⟩:∃u,u=xs.getD k 0:=⟨_,rfl⟩;rw[<-hu]at hxc hxl hstep;clear hu hca;by_cases hkb:k<lb
   ·obtain⟨pb,Gx,rfl,hpb,hcb⟩:=hb.at (by omega);have Gy:wr.cell? ⟨pb,Gx+k,none⟩=some (.int .i64 (ys.getD k 0:Nat)):=(hB.cell (by exact hpb)).trans (hcb k (by omega));obtain⟨y,hy⟩:∃y,y=ys.getD k 0:=⟨_,rfl⟩;rw[<-hy]at Gy hyl hstep;clear hy hcb;by_cases hn:u<y+cc
    ·skip
     have hneg:u<y+cc:=by omega
     have hD:jc u y cc=u+10-y-cc:=by unfold jc;omega
     have hB1:jm u y cc=1:=by unfold jm;rw[if_pos hneg]
     rw[hD,hB1]at hstep;have HST:=hid hstep;clear hV hstep hD hB1;go_wp2_with (at_builtin;refine eH wr w rfl (.tmp 35) (.tmp 37) 43 rfl w.heap.size 3 i0 (.int .i64 0) 8 Tryz.jZ hi hz0 hz1 hz2 rfl _ _ _ _ rfl hO.row _ rfl 3 rfl hB hsz (by unfold maxLen;omega) (by omega) ?_;intro xK kW w1 hown1 hB2 _);go_roundw
     case rel=>exact⟨k+1,1,xK,kW,by omega,by omega,by go_num,by go_num,rfl,_,Own.push (u+10-y-cc) hown1 (by go_num) (by omega) hO.wf (by omega),hB2,HST.out⟩
     case measure=>simp[intOf];omega
    ·skip
     have hneg:y+cc<=u:=by omega
     have hD:jc u y cc=u-y-cc:=by unfold jc;omega
     have hB1:jm u y cc=0:=by unfold jm;rw[if_neg (by omega)]
     rw[hD,hB1]at hstep;have HST:=hid hstep;clear hV hstep hD hB1;go_wp2_with (at_builtin;refine eH wr w rfl (.tmp 35) (.tmp 37) 43 rfl w.heap.size 3 i0 (.int .i64 0) 8 Tryz.jZ hi hz0 hz1 hz2 rfl _ _ _ _ rfl hO.row _ rfl 3 rfl hB hsz (by unfold maxLen;omega) (by omega) ?_;intro xK kW w1 hown1 hB2 _);go_roundw
     case rel=>exact⟨k+1,0,xK,kW,by omega,by omega,by go_num,by go_num,rfl,_,Own.push (u-y-cc) hown1 (by go_num) (by omega) hO.wf (by omega),hB2,HST.out⟩
     case measure=>simp[intOf];omega
   ·have hy0:ys.getD k 0=0:=nU ys k (by rw[hb.len];omega);rw[hy0]at hstep;clear hy0 hyl;by_cases hn:u<0+cc
    ·skip
     have hneg:u<0+cc:=by omega
     have hD:jc u 0 cc=u+10-0-cc:=by unfold jc;omega
     have hB1:jm u 0 cc=1:=by unfold jm;rw[if_pos hneg]
     rw[hD,hB1]at hstep;have HST:=hid hstep;clear hV hstep hD hB1;go_wp2_with (at_builtin;refine eH wr w rfl (.tmp 35) (.tmp 37) 43 rfl w.heap.size 3 i0 (.int .i64 0) 8 Tryz.jZ hi hz0 hz1 hz2 rfl _ _ _ _ rfl hO.row _ rfl 3 rfl hB hsz (by unfold maxLen;omega) (by omega) ?_;intro xK kW w1 hown1 hB2 _);go_roundw
     case rel=>exact⟨k+1,1,xK,kW,by omega,by omega,by go_num,by go_num,rfl,_,Own.push (u+10-0-cc) hown1 (by go_num) (by omega) hO.wf (by omega),hB2,HST.out⟩
     case measure=>simp[intOf];omega
    ·skip
     have hneg:0+cc<=u:=by omega
     have hD:jc u 0 cc=u-0-cc:=by unfold jc;omega
     have hB1:jm u 0 cc=0:=by unfold jm;rw[if_neg (by omega)]
     rw[hD,hB1]at hstep;have HST:=hid hstep;clear hV hstep hD hB1;go_wp2_with (at_builtin;refine eH wr w rfl (.tmp 35) (.tmp 37) 43 rfl w.heap.size 3 i0 (.int .i64 0) 8 Tryz.jZ hi hz0 hz1 hz2 rfl _ _ _ _ rfl hO.row _ rfl 3 rfl hB hsz (by unfold maxLen;omega) (by omega) ?_;intro xK kW w1 hown1 hB2 _);go_roundw
     case rel=>exact⟨k+1,0,xK,kW,by omega,by omega,by go_num,by go_num,rfl,_,Own.push (u-0-cc) hown1 (by go_num) (by omega) hO.wf (by omega),hB2,HST.out⟩
     case measure=>simp[intOf];omega
  ·obtain rfl:k=la:=by omega
   have hS:val zs+b=a+10^k*cc:=by
    rw[dh xs k ha.len,List.take_of_length_le (by rw[hb.len];exact hlb),HXV.out,YT.out]at hV;exact hV
   have hcut:=nR _ _ _ _ _ _ hO
   have ht:val zs=a-b:=by
    have h1:=eu zs hO.wf;rw[hO.len]at h1;have h2:=xB.out;rcases Nat.eq_zero_or_pos cc with h3|h3
    ·subst h3;omega
    ·obtain rfl:cc=1:=by omega
     omega
   rw[ht]at hcut;have mI:=hid hcut;clear ht hV hS hcut;go_wp2_with fail;refine mI.out.mono fun e w' h=>?_
   obtain⟨M7,kk,cap2,rfl,h3,rfl⟩:=h;go_wp2_with fail;go_ret;exact⟨_,_,_,rfl,h3,hB⟩
end Go.Proofs.YtmenbpmciblnlaaGreatDoor.Dg
/- The contract of porismref01.Mul. -/
namespace Go.Proofs.YtmenbpmciblnlaaGreatDoor.Dg
open Go.RowKit
theorem Ej {zs:List Nat} {p c S m:Nat} (hp:p<zs.length) (h:val zs+10^p*c=S):
  val (zs.set p ((c+zs.getD p 0+m)%10))+10^(p+1)*((c+zs.getD p 0+m)/10)=S+10^p*m:=by
 have h1:=jB zs p ((c+zs.getD p 0+m)%10) hp;generalize zs.getD p 0=u at*
 have h2:10^p*((c+u+m)%10)+10^(p+1)*((c+u+m)/10)=10^p*u+10^p*c+10^p*m:=by
  rw[Nat.pow_succ,Nat.mul_assoc,<-Nat.mul_add,<-Nat.mul_add,<-Nat.mul_add]
  congr 1
  omega
 omega
def yM (B g n:Nat) (w:World) (S p c:Nat) (wr:World):Prop:=
 ∃zs,Own B wr (some ⟨g,0,none⟩) n n zs/\ Below B w wr/\ val zs+10^p*c=S
theorem QJ (X Y i k x y:Nat):X+10^i*x*Y+10^(i+k)*(x*y)=X+10^i*x*(Y+10^k*y):=by
 rw[Nat.pow_add,Nat.mul_add]
 have:10^i*10^k*(x*y)=10^i*x*(10^k*y):=by
  simp only[Nat.mul_assoc,Nat.mul_left_comm,Nat.mul_comm]
 omega
theorem QK {X:Nat} {xs:List Nat} {i Y:Nat} (h:X=val (xs.take i)*Y):X+10^i*xs.getD i 0*Y=val (xs.take (i+1))*Y:=by
 rw[h,<-dX xs i,Nat.add_mul]
theorem El {xs:List Nat} (hw:Wf xs) (i:Nat):val (xs.take i)<10^i:=by
 have h:=eu _ (hw.take i);refine Nat.lt_of_lt_of_le h (Nat.pow_le_pow_right (by omega) ?_);rw[List.length_take];omega
theorem qZ [Ol] (a0 b0:Option Addr) (la ca lb cb:Nat) (xs ys:List Nat) (w:World) (ha:Sl w a0 la ca xs) (hb:Sl w b0 lb cb ys) (hra:la<=1000000) (hrb:lb<=1000000):
  Calls Tryz.prog 156 #[.slice a0 la ca,.slice b0 lb cb] w (iq w (limbs (val xs*val ys))):=by
 obtain⟨i0,hi,hz0,hz1,hz2⟩:=info_parts Tryz.nS;have Xu:Hid (val ys<10^lb):=by have:=eu ys hb.wf;rwa[hb.len]at this
 have YU:Hid (∀i,val (xs.take i)<10^i):=fun i=>El ha.wf i
 have ZQ:Hid (∀k,lb<=k->val (ys.take k)=val ys):=fun k hk=>by rw[List.take_of_length_le (by rw[hb.len];exact hk)]
 go_enter Tryz.func156,Tryz.ntmps156;go_wp2_with (at_make;refine wpList_make_full _ rfl _ _ 43 rfl w.heap.size 3 i0 (.int .i64 0) 1 Tryz.jZ hi hz0 hz1 _ _ _ _ (la+lb+1) rfl rfl (by omega) (by omega) ?b2 ?b3 (Nat.le_refl _) ?_)
 case b2=>rw[hz2];omega
 case b3=>unfold maxLen;omega
 intro w1 hown1 hgrow1;rw[yJ]at hown1;have hb1:Below w.heap.size w w1:=(Below.refl _ _).grown hgrow1 (Nat.le_refl _) (fun k h=>by cases h)
 have nT:Own w.heap.size w1 (some ⟨w.heap.size,0,none⟩) (la+lb+1) (la+lb+1) (List.replicate (la+lb+1) 0):=
  ⟨hown1,by omega,fun x hx=>by rw[(List.mem_replicate.1 hx).2];omega⟩
 clear hown1 hgrow1;have hI1:yM w.heap.size w.heap.size (la+lb+1) w (val (xs.take 0)*val ys) 0 0 w1:=⟨_,nT,hb1,by rw[gU];simp[val]⟩;clear nT hb1;go_wp2_with fail;go_loopw [6] (fun i wr=>∃k:Nat,k<=la/\ i= .int .i64 ((k:Nat):Int)/\ yM w.heap.size w.heap.size (la+lb+1) w (val (xs.take k)*val ys) 0 0 wr) (fun i _=>la-(intOf i).toNat)
 case atStart=>exact⟨0,Nat.zero_le _,rfl,hI1⟩
 case round=>
  clear hI1;obtain⟨i,ad2,rfl,hI⟩:=hrel;obtain⟨wo,rfl⟩:∃wo:World,wo=wr:=⟨_,rfl⟩;by_cases hin:i<la
  ·obtain⟨S0,hS0⟩:∃S0,S0=val (xs.take i)*val ys:=⟨_,rfl⟩;rw[<-hS0]at hI;have DC:=Lib.hid hS0;have Xv:Hid (S0+10^i*xs.getD i 0*val ys=val (xs.take (i+1))*val ys):=QK hS0
   have Xw:Hid (val (xs.take (i+1))*val ys<10^(i+1+lb)):=by
    rw[Hid,Nat.pow_add];have h1:=YU.out (i+1);have h2:=Xu.out;rcases Nat.eq_zero_or_pos (val ys)with h3|h3
    ·rw[h3,Nat.mul_zero];exact Nat.mul_pos (Nat.pow_pos (by omega)) (Nat.pow_pos (by omega))
    ·exact Nat.lt_of_lt_of_le (Nat.mul_lt_mul_of_pos_right h1 h3) (Nat.mul_le_mul_left _ (by omega))
   clear hS0;obtain⟨pa,Am,rfl,hpa,hca⟩:=ha.at (by omega);have HCA:Hid (w.cell? ⟨pa,Am+i,none⟩=some (.int .i64 (xs.getD i 0:Nat))):=hca i (by omega);have hxl:=ha.getD_lt i;obtain⟨x,hx⟩:∃x,x=xs.getD i 0:=⟨_,rfl⟩;rw[<-hx]at HCA hxl Xv;clear hx hca
   have hI2:yM w.heap.size w.heap.size (la+lb+1) w (S0+10^i*x*val (ys.take 0)) (i+0) 0 wo:=by
    obtain⟨zs,h1,h2,h3⟩:=hI;exact⟨zs,h1,h2,by simp[val]at h3 ⊢;exact h3⟩
   clear hI;go_wp2_with fail;go_loopw [7,8] (fun c kk wr=>∃k cc:Nat,k<=lb+1/\ cc<=9/\ kk= .int .i64 ((k:Nat):Int)/\ c= .int .i64 ((cc:Nat):Int)/\ yM w.heap.size w.heap.size (la+lb+1) w (S0+10^i*x*val (ys.take k)) (i+k) cc wr) (fun _ kk _=>lb+1-(intOf kk).toNat)
   case atStart=>exact⟨0,0,Nat.zero_le _,Nat.zero_le _,rfl,rfl,hI2⟩
   case round=>
    clear hI2;obtain⟨k,cc,hk,hcc,rfl,rfl,zs,hO,hB,hV⟩:=hrel;have hac:wr.cell? ⟨pa,Am+i,none⟩=some (.int .i64 ((x:Nat):Int)):=(hB.cell (by exact hpa)).trans HCA.out;by_cases hkb:k<lb
    ·obtain⟨pb,Gx,rfl,hpb,hcb⟩:=hb.at (by omega);have hbc:wr.cell? ⟨pb,Gx+k,none⟩=some (.int .i64 (ys.getD k 0:Nat)):=(hB.cell (by exact hpb)).trans (hcb k (by omega));have hyl:=hb.getD_lt k;have hzc:=hO.cell (i+k) (by omega);have xJ:=hO.frozen (i+k);have hzl:=hO.getD_lt (i+k);have hstep:=Ej (m:=x*ys.getD k 0) (by rw[hO.len];omega) hV;rw[QJ,dX ys k]at hstep;obtain⟨y,hy⟩:∃y,y=ys.getD k 0:=⟨_,rfl⟩;obtain⟨z,hz⟩:∃z,z=zs.getD (i+k) 0:=⟨_,rfl⟩;rw[<-hy]at hbc hyl hstep;rw[<-hz]at hzc hzl hstep;have hml:x*y<=81:=Nat.mul_le_mul (show x<=9 by omega) (show y<=9 by omega);obtain⟨m,hm⟩:∃m,m=x*y:=⟨_,rfl⟩;have hmI:((x:Nat):Int)*((y:Nat):Int)=((m:Nat):Int):=by rw[hm,Int.natCast_mul]
     rw[<-hm]at hstep hml;have HST:=Lib.hid hstep;clear hy hz hm hV hstep hcb;have hii:((i:Nat):Int)<((la:Nat):Int):=by omega
     have hkk:((k:Nat):Int)<((lb:Nat):Int):=by omega
     go_wp2_with fail;have hw1:IntKind.i64.wrap ((m:Nat):Int)=((m:Nat):Int):=wrap_i64 _ (by omega);have hw2:IntKind.i64.wrap (((cc:Nat):Int)+((z:Nat):Int)+((m:Nat):Int))=((cc:Nat):Int)+((z:Nat):Int)+((m:Nat):Int):=IntWalk.i64_in _ (by omega);go_quiet (fail);clear hw1 hw2;go_wp2_with fail;go_roundw
     case rel=>exact⟨k+1,(cc+z+m)/10,by omega,by omega,by go_num,by go_num,_,by have:=(hO.drewN nq).set (i+k) ((cc+z+m)%10) (Nat.mod_lt _ (by omega));simpa using this,(hB.trans (below_drewN _ _ nq)).setCell (Nat.le_refl _) _,by rw[<-Nat.add_assoc];exact HST.out⟩
     case measure=>simp[intOf];omega
    ·have hkd:decide (k<lb)=false:=by simp;omega
     have hS2:val zs+10^(i+k)*cc=val (xs.take (i+1))*val ys:=by
      rw[ZQ.out k (by omega),Xv.out]at hV;exact hV
     by_cases hc0:0<cc
     ·have hik:k<=lb:=by
       rcases Nat.lt_or_ge lb k with h|h
       ·obtain rfl:k=lb+1:=by omega
        have h1:=Xw.out;have h2:10^(i+(lb+1))*1<=10^(i+(lb+1))*cc:=Nat.mul_le_mul_left _ hc0;rw[show i+1+lb=i+(lb+1)from by omega]at h1;omega
       ·exact h
      have hzc:=hO.cell (i+k) (by omega);have xJ:=hO.frozen (i+k);have hzl:=hO.getD_lt (i+k);have hstep:=Ej (m:=0) (by rw[hO.len];omega) hV;rw[Nat.mul_zero,Nat.add_zero,ZQ.out k (by omega),<-ZQ.out (k+1) (by omega)]at hstep;obtain⟨z,hz⟩:∃z,z=zs.getD (i+k) 0:=⟨_,rfl⟩;rw[<-hz]at hzc hzl hstep;have HST:=Lib.hid hstep;clear hz hV hstep hS2;go_wp2_with fail;go_roundw
      case rel=>exact⟨k+1,(cc+z+0)/10,by omega,by omega,by go_num,by go_num,_,by have:=hO.set (i+k) ((cc+z+0)%10) (Nat.mod_lt _ (by omega));simpa using this,hB.setCell (Nat.le_refl _) _,by rw[<-Nat.add_assoc];exact HST.out⟩
      case measure=>simp[intOf];omega
     ·have hcd:decide (0<cc)=false:=by simp;omega
      have Ao:yM w.heap.size w.heap.size (la+lb+1) w (val (xs.take (i+1))*val ys) 0 0 wr:=by
       refine⟨zs,hO,hB,?_⟩;obtain rfl:cc=0:=by omega
       simpa using hS2
      clear hV hS2;go_wp2_with fail;go_roundw
      case rel=>exact⟨i+1,by omega,by go_num,Ao⟩
      case measure=>simp[intOf];omega
  ·obtain rfl:i=la:=by omega
   obtain⟨zs,hO,hB,hV⟩:=hI;have hcut:=nR _ _ _ _ _ _ hO
   have ht:val zs=val xs*val ys:=by
    rw[dh xs i ha.len]at hV;simpa using hV
   rw[ht]at hcut;have mI:=Lib.hid hcut;clear ht hV hcut;go_wp2_with fail;refine mI.out.mono fun e w' h=>?_
   obtain⟨M7,kk,cap2,rfl,h3,rfl⟩:=h;go_wp2_with fail;go_ret;exact⟨_,_,_,rfl,h3,hB⟩
end Go.Proofs.YtmenbpmciblnlaaGreatDoor.Dg
/- The contract of porismref01.DivMod. -/
namespace Go.Proofs.YtmenbpmciblnlaaGreatDoor.Dg
open Lib (hid)
open Go.RowKit
theorem Em [Ol] {P:Program} (wa w0:World) {ops:Array Oper} {rest:List Oper} {o:Oper} {a:Act} {Q:Exit->Act->World->Prop}
  (hg:o.guard=none) (s x:Operand) (t:TypeId) (hop:o.op=Op.call { callee:=Callee.builtin Builtin.append,args:= #[s,x],argTypes:= #[t,t] })
  (B:Nat) (i:TypeInfo) (z:Value) (h1:P.underlying t=some (.slice 3)) (h2:P.info? 3=some i) (h3:i.zero=some z) (h4:i.size=1) (h5:i.bytes=8) (h6:z.cells.size=1)
  (J4:Option Addr) (ns caps:Nat) (zs:List Nat) (hs:a.eval s= .slice J4 ns caps) (hO:Own B wa J4 ns caps zs) (ao:Option Addr) (n cap:Nat) (xs:List Nat) (hx:a.eval x= .slice ao n cap) (hS:Sl wa ao n cap xs)
  (hb:Below B w0 wa) (hB:B<=wa.heap.size) (hroom:ns+n<=17592186044416)
  (hK:∀iB cap' w',Own B w' iB (ns+n) cap' (zs++xs)->Below B w0 w'->wpList P ops Q rest (a.put o.dst (.slice iB (ns+n) cap')) w'):
  wpList P ops Q (o::rest) a wa:=by
 cases ao with
 |none=>
  have hn:n=0:=by have:=hS.nil rfl;have:=hS.le;omega
  have hc:cap=0:=hS.nil rfl;subst hn;subst hc;have hxs:xs=[]:=List.eq_nil_of_length_eq_zero hS.len;subst hxs;refine wpList_plain hg fun K hK'=>?_
  have hrun:=run_append_owned_none (P:=P) wa B t o.type 3 i 1 h1 h2 _ ns (cellsOf zs) hO.row;unfold Oper.wp;simp[execOp,hop,resolve,invoke,builtin,hs,hx,hrun,Result.andThen];exact hK' _ _ (by simpa using hK J4 caps wa (by simpa using hO) hb)
 |some ad=>
  refine wpList_append_own _ hg s x t hop B 3 i z 1 8 h1 h2 h3 h4 h5 h6 (by decide) _ ns (cellsOf zs) hs hO.row ad n cap (cellsOf xs) hx (by rw[aU,hS.len,Nat.mul_one]) ?_ (iD xs) (by unfold maxLen;omega) (by omega) hB ?_
  ·intro j u hj;have hjl:j<n:=by have:=(List.getElem?_eq_some_iff.1 hj).1;rwa[aU,hS.len]at this
   rw[hS.cells ad rfl j hjl,<-hj,gL xs j (by rw[hS.len];exact hjl)]
  ·intro v' w' hown' hgrow _
   have hsh:∃iB cap',v'= .slice iB (ns+n) cap':=by
    rcases hown'.2 with⟨hv,h0⟩|⟨g,cap,cur,hv,_⟩
    ·exact⟨none,0,by rw[hv,h0]⟩
    ·exact⟨_,_,hv⟩
   obtain⟨iB,cap',rfl⟩:=hsh;refine hK iB cap' w' ⟨by rw[fQ];exact hown',hroom,fun y hy=>?_⟩ (hb.grown hgrow hB fun k hk=>(hO.row.lt k hk).1);rcases List.mem_append.1 hy with hy|hy
   ·exact hO.wf y hy
   ·exact hS.wf y hy
def VR (g i:Nat) (w:World):Nat:=match w.cell? ⟨g,i,none⟩with|some v=>(intOf v).toNat|none=>0
theorem M9 {g i z:Nat} {w:World} (h:w.cell? ⟨g,i,none⟩=some (.int .i64 ((z:Nat):Int))):VR g i w=z:=by
 unfold VR;rw[h];simp[intOf]
def Xx [Ol] (w:World) (q r:Nat) (e:Ending) (w':World):Prop:=
 ∃ao n cap iB n' cap',e= .returned (.tuple #[.slice ao n cap,.slice iB n' cap'])/\ Sl w' ao n cap (limbs q)/\ Sl w' iB n' cap' (limbs r)/\ Below w.heap.size w w'
structure qg [Ol] (g la:Nat) (w:World) (X:List Nat) (Bv j:Nat) (ao:Option Addr) (L cap:Nat) (R:Nat) (zs:List Nat) (wr:World):Prop where
 own:Own w.heap.size wr (some ⟨g,0,none⟩) la la zs
 rest:Sl wr ao L cap (limbs R)
 far:∀ad,ao=some ad->ad.block≠g
 below:Below w.heap.size w wr
theorem J5 {q Bv R d R':Nat} (h:q*Bv+R'=d+10*R) (hR:R<Bv) (hd:d<10) (hge:Bv<=R'):q+1<10:=by
 rcases Nat.lt_or_ge (q+1) 10 with h1|h1
 ·exact h1
 ·have h2:10*Bv<=(q+1)*Bv:=Nat.mul_le_mul_right _ h1;rw[Nat.add_mul]at h2;omega
theorem QL {q V R R' d Bv X Y:Nat} (h1:q*Bv+R'=d+10*R) (h2:V*Bv+R=X) (h3:Y=d+10*X):(q+10*V)*Bv+R'=Y:=by
 rw[h3,<-h2,Nat.add_mul,Nat.mul_add,Nat.mul_assoc];omega
theorem qg.step [Ol] {g la:Nat} {w:World} {X:List Nat} {Bv j:Nat} {ao:Option Addr} {L cap R:Nat} {zs:List Nat} {wr w':World} (h:qg g la w X Bv j ao L cap R zs wr) (hb:Below wr.heap.size wr w'):qg g la w X Bv j ao L cap R zs w':=
 ⟨h.own.below hb,h.rest.below hb,h.far,Go.Proofs.YtmenbpmciblnlaaGreatDoor.Below.steps h.below hb⟩
theorem lS [Ol] (a0 b0:Option Addr) (la ca lb cb:Nat) (xs:List Nat) (Bv:Nat) (w:World) (ha:Sl w a0 la ca xs) (hb:Sl w b0 lb cb (limbs Bv)) (hBv:0<Bv) (hra:la<=1000000) (hrb:lb<=1000000):
  Calls Tryz.prog 104 #[.slice a0 la ca,.slice b0 lb cb] w (Xx w (val xs/Bv) (val xs%Bv)):=by
 obtain⟨i0,hi,hz0,hz1,hz2⟩:=info_parts Tryz.nS;have hbl:=hb.len;have Xy:Hid (Bv<10^lb):=by have:=eu (limbs Bv) hb.wf;rwa[au,hb.len]at this
 clear hbl;go_enter Tryz.func104,Tryz.ntmps104;go_wp2_with (at_make;refine wpList_make_full _ rfl _ _ 43 rfl w.heap.size 3 i0 (.int .i64 0) 1 Tryz.jZ hi hz0 hz1 _ _ _ _ la rfl rfl rfl rfl ?b2 ?b3 (Nat.le_refl _) ?_)
 case b2=>rw[hz2];omega
 case b3=>unfold maxLen;omega
 intro w1 hown1 hgrow1;rw[yJ]at hown1;have hb1:Below w.heap.size w w1:=(Below.refl _ _).grown hgrow1 (Nat.le_refl _) (fun k h=>by cases h)
 have nT:Own w.heap.size w1 (some ⟨w.heap.size,0,none⟩) la la (List.replicate la 0):=
  ⟨hown1,by omega,fun x hx=>by rw[(List.mem_replicate.1 hx).2];omega⟩
 clear hown1 hgrow1;have HI1:Hid (qg w.heap.size la w xs Bv la none 0 0 0 (List.replicate la 0) w1):=⟨nT,by rw[gT];exact Sl.none _,(fun _ h=>by cases h),hb1⟩
 have AR:Hid (val ((List.replicate la 0).drop la)*Bv+0=val (xs.drop la)):=by
  show _=_;rw[List.drop_eq_nil_of_le (by simp),List.drop_eq_nil_of_le (by rw[ha.len];exact Nat.le_refl _),dQ,Nat.zero_mul]
 clear nT hb1;go_wp2_with fail;go_loopw [7,8] (fun r i wr=>∃(j R L:Nat) (ao:Option Addr) (cap:Nat) (zs:List Nat),j<=la/\ i= .int .i64 ((j:Int)-1)/\ r= .slice ao L cap/\ L<=lb/\ R<Bv/\ qg w.heap.size la w xs Bv j ao L cap R zs wr/\ Hid (∀t,t<j->zs.getD t 0=0)/\ Hid (val (zs.drop j)*Bv+R=val (xs.drop j))) (fun _ i _=>(intOf i+1).toNat)
 case atStart=>exact⟨la,0,0,none,0,_,Nat.le_refl _,rfl,rfl,Nat.zero_le _,hBv,HI1.out,fun t _=>dN _ _,AR⟩
 case round=>
  clear HI1 AR;obtain⟨j,R,L,ao,cap,zs,hj,rfl,rfl,hL,hR,hI,HZ,hV⟩:=hrel;obtain⟨wo,rfl⟩:∃wo:World,wo=wr:=⟨_,rfl⟩;by_cases hj0:j=0
  ·subst hj0;have hcut:=nR _ _ _ _ _ _ hI.own
   have hq:val zs=val xs/Bv/\ R=val xs%Bv:=by
    have h0:=hV.out;simp only[List.drop_zero]at h0;have h1:val xs=R+Bv*val zs:=by rw[<-h0,Nat.mul_comm];omega
    rw[h1];exact⟨by rw[Nat.add_mul_div_left _ _ hBv,Nat.div_eq_of_lt hR,Nat.zero_add],by rw[Nat.add_mul_mod_self_left,Nat.mod_eq_of_lt hR]⟩
   rw[hq.1]at hcut;have mI:=hid hcut;have HR:Hid (Sl wo ao L cap (limbs (val xs%Bv))):=by rw[Hid,<-hq.2];exact hI.rest
   have HB:=hid hI.below;clear hV hcut hq hI hR;go_wp2_with fail;refine mI.out.mono fun e w' h=>?_
   obtain⟨M7,kk,cap2,rfl,h3,rfl⟩:=h;go_wp2_with fail;go_ret2;exact⟨_,_,_,_,_,_,rfl,h3.sl,HR.out,HB.out⟩
  ·obtain⟨i,rfl⟩:∃i,j=i+1:=⟨j-1,by omega⟩;have ei:((i+1:Nat):Int)-1=(i:Int):=by omega
   rw[ei];clear ei;obtain⟨pa,Am,rfl,hpa,hca⟩:=ha.at (by omega);have hac:wo.cell? ⟨pa,Am+i,none⟩=some (.int .i64 (xs.getD i 0:Nat)):=(hI.below.cell (by exact hpa)).trans (hca i (by omega));have hdl:=ha.getD_lt i;have hdrop:=iL xs i (by rw[ha.len];omega);obtain⟨d,hd⟩:∃d,d=xs.getD i 0:=⟨_,rfl⟩;rw[<-hd]at hac hdl hdrop;have HDR:=hid hdrop;have VS:=Own.lit wo [d] (by intro x hx;simp at hx;omega) (by simp);have HO0:Hid (Own wo.heap.size (wo.alloc (.cells #[.int .i64 ((d:Nat):Int)] 3)) (some ⟨wo.heap.size,0,none⟩) 1 1 [d]):=VS;have DC:Hid (Sl (wo.alloc (.cells #[.int .i64 ((d:Nat):Int)] 3)) ao L cap (limbs R)):=hI.rest.below ((Below.refl _ _).alloc (Nat.le_refl _) _);have HB0:Hid (Below wo.heap.size wo (wo.alloc (.cells #[.int .i64 ((d:Nat):Int)] 3))):=(Below.refl _ _).alloc (Nat.le_refl _) _;have HI:=hid hI;clear hd hca hdrop VS hI hj0;go_wp2_with (at_builtin;refine Em _ wo rfl (.tmp 23) (.tmp 24) 43 rfl wo.heap.size i0 (.int .i64 0) Tryz.jZ hi hz0 hz1 hz2 rfl _ _ _ _ rfl HO0.out _ _ _ _ rfl DC.out HB0.out (by simp) (by omega) ?_;intro xK kW w2 hO2 hB2);have hcut:=nR _ _ _ _ _ _ hO2
   have hv1:val ([d]++limbs R)=d+10*R:=by
    rw[List.singleton_append,bq,au]
   rw[hv1]at hcut;have hl1:(limbs (d+10*R)).length<=lb+1:=gZ (by have:=Xy.out;rw[Nat.pow_succ];omega);have Na:=hid hl1;have mI:=hid hcut;clear hcut hv1 hl1 hO2 HO0 DC HB0;go_wp2_with fail;refine mI.out.mono fun e w' h=>?_
   obtain⟨M7,n2,cap2,rfl,hO3,rfl⟩:=h;have hn2:n2<=lb+1:=by rw[<-hO3.len];exact Na.out
   have hI2:qg w.heap.size la w xs Bv i M7 n2 cap2 (d+10*R) zs w2:=
    ⟨HI.out.own.below hB2,hO3.sl,I5 hO3 (by have:=HI.out.own.parts;rcases this with⟨h,_⟩|⟨g,h,_,h2,_⟩<;>first|(simp at h;omega)|cases h),Go.Proofs.YtmenbpmciblnlaaGreatDoor.Below.steps HI.out.below hB2⟩
   have HI2:=hid hI2;have HQ0:Hid (zs.getD i 0*Bv+(d+10*R)=d+10*R):=by rw[Hid,HZ.out i (by omega),Nat.zero_mul,Nat.zero_add]
   have HZ2:Hid (∀t,t<i->zs.getD t 0=0):=fun t ht=>HZ.out t (by omega)
   clear mI Na hO3 hI2 hB2;go_wp2_with fail;go_loopw [7] (fun r wr=>∃(R' L':Nat) (iB:Option Addr) (cap':Nat) (zs':List Nat),r= .slice iB L' cap'/\ L'<=lb+1/\ qg w.heap.size la w xs Bv i iB L' cap' R' zs' wr/\ Hid (∀t,t<i->zs'.getD t 0=0)/\ Hid (val (zs'.drop (i+1))=val (zs.drop (i+1)))/\ Hid (zs'.getD i 0*Bv+R'=d+10*R)) (fun _ wr=>10-VR w.heap.size i wr)
   case atStart=>exact⟨_,n2,M7,cap2,zs,rfl,hn2,HI2.out,HZ2,rfl,HQ0⟩
   case round=>
    clear HI2 HQ0 HZ2 hn2 HI;obtain⟨R',L',iB,cap',zs',rfl,hL',hI',HZ',HDP,HQ⟩:=hrel;by_cases hlt:R'<Bv
    ·have HC:Hid (fP R' Bv= -1):=by rw[Hid];unfold fP;rw[if_pos hlt]
     have hL2:(limbs R').length<=lb:=gZ (by have:=Xy.out;omega);have hL3:L'<=lb:=by rw[<-hI'.rest.len];exact hL2
     have Mf:Hid (val (zs'.drop i)*Bv+R'=val (xs.drop i)):=by
      rw[Hid,iL zs' i (by rw[hI'.own.len];omega)];exact QL HQ.out (by rw[HDP.out];exact hV.out) HDR.out
     have hbS:=hb.below hI'.below;clear hL2;go_wp2_with fail;refine(oV (-1) _ _ _ _ _ _ _ _ _ hI'.rest hbS HC).mono ?_;rintro e w3 ⟨rfl,hB3⟩;have Ao:=hI'.step hB3;clear hI' hbS hB3;go_wp2_with fail;go_roundw
     case rel=>exact⟨i,R',L',iB,cap',zs',by omega,by go_num,rfl,hL3,hlt,Ao,HZ',Mf⟩
     case measure=>simp[intOf]
    ·obtain⟨c,hc⟩:∃c,c=fP R' Bv:=⟨_,rfl⟩;have hc0:0<=c:=by rw[hc];unfold fP;rw[if_neg hlt];split<;>omega
     have HC:Hid (fP R' Bv=c):=hc.symm;have hbS:=hb.below hI'.below;have hqd:=J5 HQ.out hR hdl (by omega);obtain⟨z,hz⟩:∃z,z=zs'.getD i 0:=⟨_,rfl⟩;rw[<-hz]at hqd HQ;have Tv:=hid hz;have xB:Hid (Bv<=R'):=by rw[Hid];omega
     have HM:Hid (VR w.heap.size i wr=z):=M9 (by rw[hz];exact hI'.own.cell i (by omega))
     have hsl:(limbs (R'-Bv)).length<=lb+1:=by
      have h1:=oW (show R'-Bv<=R' by omega);rw[hI'.rest.len]at h1;omega
     have HSL:=hid hsl;clear hc hz hlt hsl;go_wp2_with fail;refine(oV c _ _ _ _ _ _ _ _ _ hI'.rest hbS HC).mono ?_;rintro e w3 ⟨rfl,hB3⟩;have Ao:=hI'.step hB3;have Xz:=hbS.below hB3;clear hI' hbS hB3;go_wp2_with fail;refine(kX _ _ _ _ _ _ R' Bv _ Ao.rest Xz xB.out (by omega)).mono ?_;rintro e w4 ⟨ao4,n4,cap4,rfl,hO4,hB4⟩;have hn4:n4<=lb+1:=by rw[<-hO4.len];exact HSL.out
     have VT:=Ao.own.below hB4;have Xi:=Go.Proofs.YtmenbpmciblnlaaGreatDoor.Below.steps Ao.below hB4;have XA:=hid (I5 hO4 (g:=w.heap.size) (by have:=Ao.own.parts;rcases this with⟨h,_⟩|⟨g,h,_,h2,_⟩<;>first|(simp at h;omega)|cases h));have hS4:=hO4.sl;clear Ao Xz hO4 hB4 HSL;have hzc:=VT.cell i (by omega);rw[<-Tv.out]at hzc;have xJ:=VT.frozen i
     have hI5:Hid (qg w.heap.size la w xs Bv i ao4 n4 cap4 (R'-Bv) (zs'.set i (z+1)) (w4.setCell ⟨w.heap.size,i,none⟩ (.int .i64 (((z+1:Nat)):Int)))):=
      ⟨VT.set i (z+1) hqd,hS4.J6 XA.out _,XA.out,Xi.setCell (Nat.le_refl _) _⟩
     have Ut:Hid ((w4.setCell ⟨w.heap.size,i,none⟩ (.int .i64 (((z+1:Nat)):Int))).cell? ⟨w.heap.size,i,none⟩=some (.int .i64 (((z+1:Nat)):Int))):=by
      have:=hI5.out.own.cell i (by omega);rw[fI,if_pos ⟨rfl,by rw[VT.len];omega⟩]at this;exact this
     have Qc:Hid (∀t,t<i->(zs'.set i (z+1)).getD t 0=0):=by
      intro t ht;rw[fI,if_neg (by omega)];exact HZ'.out t ht
     have HD5:Hid (val ((zs'.set i (z+1)).drop (i+1))=val (zs.drop (i+1))):=by rw[Hid,List.drop_set_of_lt (by omega)];exact HDP.out
     have Uu:Hid ((zs'.set i (z+1)).getD i 0*Bv+(R'-Bv)=d+10*R):=by
      rw[Hid,fI,if_pos ⟨rfl,by rw[VT.len];omega⟩,Nat.add_mul,Nat.one_mul,<-HQ.out];have:=xB.out;omega
     clear VT Xi hS4;go_wp2_with fail;go_roundw
     case rel=>
      refine⟨R'-Bv,n4,ao4,cap4,_,rfl,hn4,?_,Qc,HD5,Uu⟩;simpa using hI5.out
     case measure=>
      have e1:=M9 Ut.out;have e2:=HM.out;show 10-VR w.heap.size i _<10-VR w.heap.size i wr;rw[e2];have e3:((z:Nat):Int)+1=((z+1:Nat):Int):=by omega
      rw[e3,e1];omega
end Go.Proofs.YtmenbpmciblnlaaGreatDoor.Dg
