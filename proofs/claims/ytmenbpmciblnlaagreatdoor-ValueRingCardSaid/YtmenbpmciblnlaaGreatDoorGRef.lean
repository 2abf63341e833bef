import Derived.Test.YtmenbpmciblnlaaGreatDoorGMem
import Derived.BigQuiet
import Derived.Deep.RegionHeld3
import Derived.Laws.AppendOwnNone
set_option maxHeartbeats 0
set_option maxRecDepth 100000
open Go renaming World->ah5
open Go.Lib renaming hid->ah6
open Go.RowKit renaming Below->ah7
open Go.RowKit.Below renaming refl->ah8
open Go.Value renaming slice->ah9
open Go.World renaming drewN_drewN->ai0
open List renaming append_nil->ai6,drop_eq_nil_of_le->ai3,drop_set_of_lt->ai5,drop_zero->ai4,mem_replicate->ai2,replicate->ai1,take_of_length_le->ai7
open Nat renaming add_assoc->al2,add_mul->aj3,add_mul_div_left->ak0,add_mul_mod_self_left->ak3,add_zero->aj7,div_eq_of_lt->ak1,eq_zero_or_pos->ak5,le_refl->ai9,lt_of_lt_of_le->ak9,lt_or_ge->ak6,mod_eq_of_lt->ak4,mod_lt->aj5,mul_add->aj2,mul_assoc->aj1,mul_comm->aj9,mul_le_mul->aj4,mul_le_mul_left->al1,mul_zero->aj6,pow_add->ak8,pow_le_pow_right->ak7,pow_pos->al0,pow_succ->aj0,zero_add->ak2,zero_le->ai8,zero_mul->aj8
namespace Go.Proofs.YtmenbpmciblnlaaGreatDoor
open Go.RowKit
def oH (xs ys:List Nat):Bool:=decide (xs=ys)
theorem Pj (a0 b0:Z') (la ca lb cb:Nat) (w:ah5) (h:la≠lb):
  Calls Tryz.prog 103 #[ah9 a0 la ca,ah9 b0 lb cb] w (jF (.bool false) w):=by
 have hne:(((la:Nat):Int) !=((lb:Nat):Int))=true:=by simp;omega
 have hne2:(la !=lb)=true:=by simp;omega
 go_enter Tryz.func103,Tryz.ntmps103;go_wp2;go_ret;exact⟨rfl,0,rfl⟩
theorem OI (a0 b0:Z') (la ca lb cb:Nat) (xs ys:List Nat) (w:ah5) (ha:Sl w a0 la ca xs) (hb:Sl w b0 lb cb ys):
  Calls Tryz.prog 103 #[ah9 a0 la ca,ah9 b0 lb cb] w (jF (.bool (oH xs ys)) w):=by
 by_cases hl:la=lb
 ·subst hl;have b1:=ha.big;have b2:=hb.big;have l1:=ha.le;have l2:=hb.le;have hne:(((la:Nat):Int) !=((la:Nat):Int))=false:=by simp
  go_enter Tryz.func103,Tryz.ntmps103;go_wp2;go_loopw [5] (λi wr=>∃k:Nat,k<=la/\ i= .int .i64 k/\ Hid (xs.take k=ys.take k)/\∃q,wr=w.drewN q) (λi _=>la-(intOf i).toNat)
  case atStart=>exact⟨0,ai8 _,rfl,rfl,0,rfl⟩
  case round=>
   obtain⟨k,hk,rfl,heq,q,rfl⟩:=hrel;by_cases hkn:k<la
   ·obtain⟨b,off,rfl,_,hca⟩:=ha.at (by omega);obtain⟨b',off',rfl,_,hcb⟩:=hb.at (by omega);have ha1:=hca k hkn;have hb1:=hcb k hkn;obtain⟨x,hx⟩:∃x,x=xs.getD k 0:=⟨_,rfl⟩;obtain⟨y,hy⟩:∃y,y=ys.getD k 0:=⟨_,rfl⟩;rw[<-hx]at ha1;rw[<-hy]at hb1;have HX:=ah6 hx;have HY:=ah6 hy;clear hx hy hca hcb;by_cases hxy:x=y
    ·subst hxy;have e1:(((x:Nat):Int) !=((x:Nat):Int))=false:=by simp
     go_wp2;go_quiet (fail);go_wp2;go_roundw
     case rel=>
      refine⟨k+1,by omega,by go_num,?_,_,rfl⟩;show _=_;rw[cv xs k (by rw[ha.len];exact hkn),cv ys k (by rw[hb.len];exact hkn),heq.o,<-HX.o,<-HY.o]
     case measure=>simp[intOf];omega
    ·have e1:(((x:Nat):Int) !=((y:Nat):Int))=true:=by simp;omega
     have e2:(x !=y)=true:=by simp;omega
     have H:Hid (oH xs ys=false):=by
      show _=_;unfold oH;rw[decide_eq_false_iff_not];intro e;apply hxy;rw[HX.o,HY.o,e]
     go_wp2;go_quiet (fail);go_wp2;go_ret;exact⟨by rw[H.o];rfl,_,ai0 _ _ _⟩
   ·obtain rfl:k=la:=by omega
    have H:Hid (oH xs ys=true):=by
     show _=_;unfold oH;rw[decide_eq_true_eq];have:=heq.o;rwa[cE _ _ ha.len,cE _ _ hb.len]at this
    go_wp2;go_ret;exact⟨by rw[H.o];rfl,_,rfl⟩
 ·have:oH xs ys=false:=by
   unfold oH;rw[decide_eq_false_iff_not];intro e;apply hl;rw[<-ha.len,<-hb.len,e]
  rw[this];exact Pj _ _ _ _ _ _ _ hl
end Go.Proofs.YtmenbpmciblnlaaGreatDoor
namespace Go.Proofs.YtmenbpmciblnlaaGreatDoor.Dg
open Go.RowKit
theorem lv [Ol] (B:Nat) (ao:Z') (n ae:Nat) (xs:List Nat) (w:ah5) (h:bX B w ao n ae xs):
  Calls Tryz.prog 155 #[ah9 ao n ae] w (C8 B w (aq (au xs))):=by
 have hs:=h.sl;have hle:=hs.le;have hbig:=hs.big;have HT:Hid (xs.take n=xs):=cE xs n hs.len;have HO:=ah6 h;have ZL:Hid (bE xs=aq (au xs)):=cq xs h.wf;clear h;go_enter Tryz.func155,Tryz.ntmps155;go_wp2;go_loop [0] (λd=>∃k:Nat,k<=n/\ d=ah9 ao k ae/\ Hid (nl (xs.take k)=nl xs)) (λd=>match d with|ah9 _ k _=>k| _=>0)
 case atStart=>exact⟨n,ai9 _,rfl,by rw[Hid,HT.o]⟩
 case round=>
  obtain⟨k,hk,rfl,hnl⟩:=hrel;by_cases hk0:k=0
  ·subst hk0
   have H0:Hid (bX B w ao 0 ae (aq (au xs))):=by
    have h1:=HO.o.sx 0 (ai8 _);have h2:=hnl.o;rw[List.take_zero]at h1 h2;rw[Hid,<-ZL.o,cF,<-h2];exact h1
   go_wp2;go_ret;exact⟨_,_,_,rfl,H0.o,rfl⟩
  ·obtain⟨b,off,rfl,hb,hc⟩:=hs.at (by omega);obtain⟨j,rfl⟩:∃j,k=j+1:=⟨k-1,by omega⟩;have hlen:=hs.len;have hcell:=hc j (by omega);clear hc hlen;obtain⟨x,hx⟩:∃x,x=xs.getD j 0:=⟨_,rfl⟩;rw[<-hx]at hcell;have HX:Hid (x=xs.getD j 0):=hx;clear hx;by_cases hz:x=0
   ·subst hz
    have H1:Hid (nl (xs.take j)=nl xs):=by
     rw[Hid,<-hnl.o,km xs j (by have:=hs.len;omega) HX.o.symm]
    clear hnl;go_wp2;go_round
    case rel=>exact⟨j,by omega,rfl,H1⟩
    case measure=>simp
   ·have hb0:(((x:Nat):Int)==0)=false:=by simp;omega
    have H1:Hid (bX B w (some ⟨b,off,none⟩) (j+1) ae (aq (au xs))):=by
     have h1:=HO.o.sx (j+1) hk;rw[Hid,<-ZL.o,cF,<-hnl.o,uK xs j (by have:=hs.len;omega) (by rw[<-HX.o];exact hz)];exact h1
    clear hnl hz;go_wp2;go_ret;exact⟨_,_,_,rfl,H1.o,rfl⟩
end Go.Proofs.YtmenbpmciblnlaaGreatDoor.Dg
namespace Go.Proofs.YtmenbpmciblnlaaGreatDoor.Dg
open Go.RowKit
def xQ (B:Nat) (w:ah5) (ao:Option Addr) (k ae:Nat) (S c:Nat) (wr:ah5):Prop:=
 ∃zs,bX B wr ao k ae zs/\ ah7 B w wr/\ au zs+10^k*c=S
theorem xR {zs:List Nat} {k c S N d:Nat} (hl:zs.length=k) (h:au zs+10^k*c=S):
  au (zs++[(c+d*N)%10])+10^(k+1)*((c+d*N)/10)=S+10^k*d*N:=by
 rw[bW,bu,di,hl,aj0]
 have e:10^k*((c+d*N)%10+10*0)+10^k*10*((c+d*N)/10)=10^k*c+10^k*d*N:=by
  rw[aj1,<-aj2,aj1,<-aj2]
  congr 1
  omega
 omega
theorem BW (xs:List Nat) (k N more:Nat) (hk:k<xs.length):au (xs.take k)*N+more+10^k*xs.getD k 0*N=au (xs.take (k+1))*N+more:=by
 rw[bC xs k hk,aj3];omega
theorem tI [Ol] (ao:Z') (n ae:Nat) (xs:List Nat) (N more:Nat) (w:ah5) (ha:Sl w ao n ae xs) (hN:N<=65536) (hm:more<=65536) (hroom:n<=8796093022208):
  Calls Tryz.prog 154 #[ah9 ao n ae,.int .i64 (N:Int),.int .i64 (more:Int)] w (fW w (aq (au xs*N+more))):=by
 have hle:=ha.le;obtain⟨i0,hi,hz0,hz1,hz2⟩:=info_parts Tryz.kY;go_enter Tryz.func154,Tryz.ntmps154;go_wp2;go_loopw [7,8,9] (λo c i wr=>∃k cc eP cap',k<=n/\ cc<=65536/\ i= .int .i64 ((k:Nat):Int)/\ c= .int .i64 ((cc:Nat):Int)/\ o=ah9 eP k cap'/\ xQ w.heap.size w eP k cap' (au (xs.take k)*N+more) cc wr) (λ_ _ i _=>n-(intOf i).toNat)
 case atStart=>exact⟨0,more,none,0,ai8 _,hm,rfl,rfl,rfl,[],bX.nil _ _,ah8 _ _,by simp[au]⟩
 case round=>
  obtain⟨k,cc,eP,cap',hk,hcc,rfl,rfl,rfl,zs,hO,hB,hV⟩:=hrel;have hsz:=hB.size;by_cases hkn:k<n
  ·obtain⟨b,off,rfl,hbb,hcell⟩:=ha.at (by omega);have hdc:wr.cell? ⟨b,off+k,none⟩=some (.int .i64 (xs.getD k 0:Nat)):=(hB.cell (by exact hbb)).trans (hcell k hkn);have hdl:=ha.bJ k;have hstep:=xR (N:=N) (d:=xs.getD k 0) hO.len hV;rw[BW xs k N more (by rw[ha.len];exact hkn)]at hstep;obtain⟨d,hd⟩:∃d,d=xs.getD k 0:=⟨_,rfl⟩;rw[<-hd]at hdc hdl hstep;have hmul:d*N<=9*65536:=aj4 (by omega) hN;obtain⟨dn,hdn⟩:∃dn,dn=d*N:=⟨_,rfl⟩;have ah2:((d:Nat):Int)*((N:Nat):Int)=((dn:Nat):Int):=by rw[hdn,Int.natCast_mul]
   rw[<-hdn]at hstep hmul;have HST:=ah6 hstep;clear hd hV hstep hcell hdn;go_wp2_with (at_builtin;refine dt wr w rfl (.tmp 25) (.tmp 28) 43 rfl w.heap.size 3 i0 (.int .i64 0) 8 Tryz.iF hi hz0 hz1 hz2 rfl _ _ _ _ rfl hO.row _ rfl 3 rfl hB hsz (by unfold maxLen;omega) (by omega) ?_;intro sZ jn w1 hown1 hB1 _);go_roundw
   case rel=>
    refine⟨k+1,(cc+dn)/10,sZ,jn,by omega,by omega,by go_num,by go_num,rfl,_,bX.push ((cc+dn)%10) hown1 (by go_num) (aj5 _ (by omega)) hO.wf (by omega),hB1,HST.o⟩
   case measure=>simp[intOf];omega
  ·obtain rfl:k=n:=by omega
   have hV2:au zs+10^k*cc=au xs*N+more:=by
    have e:xs.take k=xs:=cE xs k ha.len;rwa[e]at hV
   have hI:∃L,L+cc<=k+65536/\ xQ w.heap.size w eP L cap' (au xs*N+more) cc wr/\ L=k:=⟨k,by omega,⟨zs,hO,hB,hV2⟩,rfl⟩;clear hV hV2 hO hB hsz;go_wp2;go_loopw [7,8] (λo c wr=>∃L cc eP cap',L+cc<=k+65536/\ c= .int .i64 ((cc:Nat):Int)/\ o=ah9 eP L cap'/\ xQ w.heap.size w eP L cap' (au xs*N+more) cc wr) (λ_ c _=>(intOf c).toNat)
   case atStart=>
    obtain⟨L,h1,h2,rfl⟩:=hI;exact⟨L,cc,eP,cap',h1,rfl,rfl,h2⟩
   case round=>
    clear hI;obtain⟨L,cc,eP,cap',hL,rfl,rfl,zs,hO,hB,hV⟩:=hrel;have hsz:=hB.size;by_cases hc0:0<cc
    ·have hstep:=xR (N:=0) (d:=0) hO.len hV;simp only[aj6,aj7]at hstep;have HST:=ah6 hstep;clear hV hstep;go_wp2_with (at_builtin;refine dt wr w rfl (.tmp 34) (.tmp 37) 43 rfl w.heap.size 3 i0 (.int .i64 0) 8 Tryz.iF hi hz0 hz1 hz2 rfl _ _ _ _ rfl hO.row _ rfl 3 rfl hB hsz (by unfold maxLen;omega) (by omega) ?_;intro sZ jn w1 hown1 hB1 _);go_roundw
     case rel=>
      refine⟨L+1,cc/10,sZ,jn,by omega,by go_num,rfl,_,bX.push (cc%10) hown1 (by go_num) (aj5 _ (by omega)) hO.wf (by omega),hB1,HST.o⟩
     case measure=>simp[intOf];omega
    ·have hcut:=lv _ _ _ _ _ _ hO
     have ht:au zs=au xs*N+more:=by
      obtain rfl:cc=0:=by omega
      omega
     rw[ht]at hcut;have ko:=ah6 hcut;clear ht hV hcut;go_wp2_with fail;refine ko.o.mono λe w' h=>?_
     obtain⟨Gu,kk,cap2,rfl,h3,rfl⟩:=h;go_wp2_with fail;go_ret;exact⟨_,_,_,rfl,h3,hB⟩
end Go.Proofs.YtmenbpmciblnlaaGreatDoor.Dg
namespace Go.Proofs.YtmenbpmciblnlaaGreatDoor.Dg
open Lib (hid)
open Go.RowKit
def TG (B:Nat) (ao:Option Addr) (n ae:Nat) (w:ah5) (X:List Nat) (N j r:Nat) (wr:ah5):Prop:=
 ∃zs,bX B wr ao n ae zs/\ ah7 B w wr/\ au (zs.drop j)*N+r=au (X.drop j)/\ r<N
def TH (w:ah5) (ys:List Nat) (r:Nat) (e:Ending) (w':ah5):Prop:=
 ∃ao n ae,e= .returned (.tuple #[ah9 ao n ae,.int .i64 ((r:Nat):Int)])/\ bX w.heap.size w' ao n ae ys/\ ah7 w.heap.size w w'
theorem VW [Ol] (ao:Z') (n ae:Nat) (xs:List Nat) (N:Nat) (w:ah5) (ha:Sl w ao n ae xs) (hN:1<=N) (WO:N<=65536):
  Calls Tryz.prog 157 #[ah9 ao n ae,.int .i64 (N:Int)] w (TH w (aq (au xs/N)) (au xs%N)):=by
 have hle:=ha.le;have hbig:=ha.big;obtain⟨i0,hi,hz0,hz1,hz2⟩:=info_parts Tryz.kY;go_enter Tryz.func157,Tryz.ntmps157;go_wp2_with (at_make;refine wpList_make_full _ rfl _ _ 43 rfl w.heap.size 3 i0 (.int .i64 0) 1 Tryz.iF hi hz0 hz1 _ _ _ _ n rfl rfl rfl rfl ?b2 ?b3 (ai9 _) ?_)
 case b2=>rw[hz2];omega
 case b3=>unfold maxLen;omega
 intro w1 hown1 hgrow1;rw[wX]at hown1;have hb1:ah7 w.heap.size w w1:=(ah8 _ _).grown hgrow1 (ai9 _) (λk h=>by cases h)
 have mK:bX w.heap.size w1 (some ⟨w.heap.size,0,none⟩) n n (ai1 n 0):=
  ⟨hown1,hbig,λx hx=>by rw[(ai2.1 hx).2];omega⟩
 clear hown1 hgrow1
 have hI1:TG w.heap.size (some ⟨w.heap.size,0,none⟩) n n w xs N n 0 w1:=by
  refine⟨_,mK,hb1,?_,by omega⟩;rw[ai3 (by simp),ai3 (by rw[ha.len];exact ai9 _),di,aj8]
 clear mK hb1;go_wp2_with fail;go_loopw [7,8] (λr i wr=>∃j rr:Nat,j<=n/\ i= .int .i64 ((j:Int)-1)/\ r= .int .i64 ((rr:Nat):Int)/\ TG w.heap.size (some ⟨w.heap.size,0,none⟩) n n w xs N j rr wr) (λ_ i _=>(intOf i+1).toNat)
 case atStart=>exact⟨n,0,ai9 _,rfl,rfl,hI1⟩
 case round=>
  clear hI1;obtain⟨j,rr,hj,rfl,rfl,zs,hO,hB,hV,hr⟩:=hrel;by_cases hj0:j=0
  ·subst hj0;simp only[ai4]at hV
   have hq:au zs=au xs/N/\ rr=au xs%N:=by
    have h1:au xs=rr+N*au zs:=by rw[<-hV,aj9];omega
    rw[h1];exact⟨by rw[ak0 _ _ (by omega),ak1 hr,ak2],by rw[ak3,ak4 hr]⟩
   have hcut:=lv _ _ _ _ _ _ hO;rw[hq.1]at hcut;have ko:=hid hcut;have HR:=hid hq.2;clear hV hcut hq;go_wp2_with fail;refine ko.o.mono λe w' h=>?_
   obtain⟨Gu,kk,cap2,rfl,h3,rfl⟩:=h;go_wp2_with fail;go_ret2;exact⟨_,_,_,by rw[<-HR.o];rfl,h3,hB⟩
  ·obtain⟨i,rfl⟩:∃i,j=i+1:=⟨j-1,by omega⟩;have ei:((i+1:Nat):Int)-1=(i:Int):=by omega
   rw[ei];have EI:=hid ei;clear ei;obtain⟨b,off,rfl,hbb,hcell⟩:=ha.at (by omega);have hdc:wr.cell? ⟨b,off+i,none⟩=some (.int .i64 (xs.getD i 0:Nat)):=(hB.cell (by exact hbb)).trans (hcell i (by omega));have hdl:=ha.bJ i;have hzc:=hO.cell i (by omega);have vy:=hO.frozen i;have hdrop:=gw xs i (by rw[ha.len];omega);obtain⟨d,hd⟩:∃d,d=xs.getD i 0:=⟨_,rfl⟩;rw[<-hd]at hdc hdl hdrop;obtain⟨z,hz⟩:∃z,z=zs.getD i 0:=⟨_,rfl⟩;rw[<-hz]at hzc;have hq:(rr*10+d)/N<10:=by rw[Nat.div_lt_iff_lt_mul (by omega)];omega
   have hst:au ((zs.set i ((rr*10+d)/N)).drop i)*N+(rr*10+d)%N=au (xs.drop i):=by
    rw[gw _ i (by rw[List.length_set,hO.len];omega),eH,if_pos ⟨rfl,by rw[hO.len];omega⟩,ai5 (by omega),hdrop,<-hV,aj3];have h:=Nat.mod_add_div (rr*10+d) N;rw[aj9 N]at h;have h2:10*au (zs.drop (i+1))*N=10*(au (zs.drop (i+1))*N):=aj1 _ _ _;omega
   have HQ:=hid hq;have HST:=hid hst;have HRN:=hid hr;have hrl:rr<=65536:=by omega
   clear hd hz hV hdrop hcell hq hst hr hj0;go_wp2;go_roundw
   case rel=>exact⟨i,(rr*10+d)%N,by omega,by go_num,by go_num,_,by have:=hO.set i _ HQ.o;simpa using this,hB.setCell (ai9 _) _,HST.o,aj5 _ (by omega)⟩
   case measure=>simp[intOf]
end Go.Proofs.YtmenbpmciblnlaaGreatDoor.Dg
namespace Go.Proofs.YtmenbpmciblnlaaGreatDoor.Dg
open Go.RowKit
theorem iK (n:Nat) (w:ah5) (hn:Hid (n<=18446744073709551615)):
  Calls Tryz.prog 99 #[.int .u64 (n:Int)] w (fW w (aq n)):=by
 obtain⟨i0,hi,hz0,hz1,hz2⟩:=info_parts Tryz.kY;have HLEN:Hid ((aq n).length<=20):=fR (Rn hn.o);have HN:=ah6 hn.o;clear hn;go_enter Tryz.func99,Tryz.ntmps99;go_wp2;go_loopw [0,3] (λc o wr=>∃(cc L:Nat) (ao:Option Addr) (ae:Nat) (zs:List Nat),cc<=n/\ c= .int .u64 ((cc:Nat):Int)/\ o=ah9 ao L ae/\ bX w.heap.size wr ao L ae zs/\ ah7 w.heap.size w wr/\ Hid (zs++aq cc=aq n)) (λc _ _=>(intOf c).toNat)
 case atStart=>exact⟨n,0,none,0,[],ai9 _,rfl,rfl,bX.nil _ _,ah8 _ _,rfl⟩
 case round=>
  obtain⟨cc,L,ao,ae,zs,hcn,rfl,rfl,hO,hB,hV⟩:=hrel;have hsz:=hB.size;by_cases hc0:0<cc
  ·have hL:L+1<=20:=by
    have h1:=congrArg List.length hV.o;have h2:=HLEN.o;rw[List.length_append,fj hc0,List.length_cons,hO.len]at h1;omega
   have HST:Hid ((zs++[cc%10])++aq (cc/10)=aq n):=by
    rw[Hid,<-hV.o,fj hc0];simp
   have HW:Hid (IntKind.u64.wrap (((cc:Nat):Int)/10)=((cc/10:Nat):Int)):=by
    rw[Hid,show((cc:Nat):Int)/10=((cc/10:Nat):Int)from by omega,pN _ (by have:=HN.o;omega)]
   clear hV;go_wp2_with (at_builtin;refine dt wr w rfl (.tmp 6) (.tmp 10) 43 rfl w.heap.size 3 i0 (.int .i64 0) 8 Tryz.iF hi hz0 hz1 hz2 rfl _ _ _ _ rfl hO.row _ rfl 3 rfl hB hsz (by unfold maxLen;omega) (by omega) ?_;intro sZ jn w1 hown1 hB1 _);go_roundw
   case rel=>exact⟨cc/10,L+1,sZ,jn,_,by omega,by rw[HW.o],rfl,bX.push (cc%10) hown1 (by go_num) (aj5 _ (by omega)) hO.wf (by omega),hB1,HST⟩
   case measure=>rw[HW.o];simp[intOf];omega
  ·obtain rfl:cc=0:=by omega
   have HE:Hid (zs=aq n):=by rw[Hid,<-hV.o,fE,ai6]
   clear hV;go_wp2;go_ret;exact⟨_,_,_,rfl,by rw[<-HE.o];exact hO,hB⟩
end Go.Proofs.YtmenbpmciblnlaaGreatDoor.Dg
namespace Go.Proofs.YtmenbpmciblnlaaGreatDoor.Dg
open Go.RowKit
end Go.Proofs.YtmenbpmciblnlaaGreatDoor.Dg
namespace Go.Proofs.YtmenbpmciblnlaaGreatDoor.Dg
open Go.RowKit
theorem TI [Ol] (ao:Z') (n ae:Nat) (v:Nat) (w:ah5) (ha:Sl w ao n ae (aq v)):
  Calls Tryz.prog 157 #[ah9 ao n ae,.int .i64 65536] w (TH w (aq (v/65536)) (v%65536)):=by
 have:=VW ao n ae (aq v) 65536 w ha (by omega) (by omega);rw[av]at this;exact this
theorem zM [Ol] (ao:Z') (n ae:Nat) (v0:Nat) (w:ah5) (ha:Sl w ao n ae (aq v0)):
  Calls Tryz.prog 105 #[ah9 ao n ae] w (Go.Proofs.YtmenbpmciblnlaaGreatDoor.fW w (Go.Proofs.YtmenbpmciblnlaaGreatDoor.aq v0)):=by
 obtain⟨i0,hi,hz0,hz1,hz2⟩:=info_parts Tryz.fx;have hbig:=ha.big;go_enter Tryz.func105,Tryz.ntmps105;go_wp2;go_loopw [0,3,4,5] (λd o _ _ wr=>∃(v L cap':Nat) (eP:Option Addr) (M VX:Nat) (aoo:Option Addr) (zs:List Nat),d=ah9 eP L cap'/\ o=ah9 aoo M VX/\ M+L<=n/\ Sl wr eP L cap' (aq v)/\ Go.Proofs.YtmenbpmciblnlaaGreatDoor.bX w.heap.size wr aoo M VX zs/\ ah7 w.heap.size w wr/\ Hid (zs++Go.Proofs.YtmenbpmciblnlaaGreatDoor.aq v=Go.Proofs.YtmenbpmciblnlaaGreatDoor.aq v0)) (λd _ _ _ _=>match d with|ah9 _ k _=>k| _=>0)
 case atStart=>exact⟨v0,n,ae,ao,0,0,none,[],rfl,rfl,by omega,ha,Go.Proofs.YtmenbpmciblnlaaGreatDoor.bX.nil _ _,ah8 _ _,rfl⟩
 case round=>
  obtain⟨v,L,cap',eP,M,VX,aoo,zs,rfl,rfl,hML,hS,hO,hB,hV⟩:=hrel;have HLV:=ah6 (Ro hS.len);by_cases hL:0<L
  ·have hv:0<v:=HLV.o.1 hL
   have HST:Hid ((zs++[v%4294967296])++Go.Proofs.YtmenbpmciblnlaaGreatDoor.aq (v/4294967296)=Go.Proofs.YtmenbpmciblnlaaGreatDoor.aq v0):=by
    rw[Hid,<-hV.o,Go.Proofs.YtmenbpmciblnlaaGreatDoor.fj hv];simp
   have HSH:Hid ((aq (v/4294967296)).length<L):=by rw[<-hS.len];exact yD hv
   clear hv hV;go_wp2_with fail;refine(TI _ _ _ v _ hS).mono ?_;rintro e w1 ⟨sZ,n1,jn,rfl,mK,hB1⟩;have hOa:=hO.below hB1;have hBa:ah7 w.heap.size w w1:=Go.Proofs.YtmenbpmciblnlaaGreatDoor.Below.ar hB hB1;clear hO hB hS;have hlo:v%65536<65536:=aj5 _ (by omega);obtain⟨lo,VY⟩:∃lo,lo=v%65536:=⟨_,rfl⟩;rw[<-VY]at hlo ⊢;have HLO:=ah6 VY;clear VY;go_wp2_with fail;refine(TI _ _ _ (v/65536) _ mK.sl).mono ?_;rintro e w2 ⟨Gu,n2,cap2,rfl,hO2,hB2⟩;have hOb:=hOa.below hB2;have hBb:ah7 w.heap.size w w2:=Go.Proofs.YtmenbpmciblnlaaGreatDoor.Below.ar hBa hB2;have hsz:=hBb.size;have hS2:=hO2.sl;have ZA:=ah6 (Kn hOa hO2);have e2:v/65536/65536=v/4294967296:=by omega
   rw[e2]at hS2;have hn2:n2<L:=by rw[<-hS2.len];exact HSH.o
   clear hOa hBa mK hB1 hB2 hO2 e2;have hhi:v/65536%65536<65536:=aj5 _ (by omega);obtain⟨hg,VZ⟩:∃hg,hg=v/65536%65536:=⟨_,rfl⟩;rw[<-VZ]at hhi ⊢;have HX:Hid (hg*65536+lo=v%4294967296):=by rw[Hid,VZ,HLO.o];omega
   clear VZ;go_wp2_with (at_builtin;refine dt w2 w rfl (.tmp 19) (.tmp 26) 27 rfl w.heap.size 192 i0 (.int .u32 0) 4 Tryz.underlying27 hi hz0 hz1 hz2 rfl _ _ _ _ rfl hOb.row _ rfl 192 rfl hBb hsz (by unfold maxLen;omega) (by omega) ?_;intro Tk oX w3 hown3 hB3 hg3);go_roundw
   case rel=>exact⟨v/4294967296,n2,cap2,Gu,M+1,oX,Tk,_,rfl,rfl,by omega,hS2.grown hg3 ZA.o,FZ (hg*65536+lo) hown3 (by go_num) (by omega) hOb.wf (by omega),hB3,by rw[HX.o];exact HST⟩
   case measure=>simp;omega
  ·obtain rfl:L=0:=by omega
   have HE:Hid (zs=Go.Proofs.YtmenbpmciblnlaaGreatDoor.aq v0):=by
    have:v=0:=by
     rcases ak5 v with h|h
     ·exact h
     ·exact absurd (HLV.o.2 h) (by omega)
    subst this;rw[Hid,<-hV.o,Go.Proofs.YtmenbpmciblnlaaGreatDoor.fE,ai6]
   clear hV;go_wp2;go_ret;exact⟨_,_,_,rfl,by rw[<-HE.o];exact hO,hB⟩
end Go.Proofs.YtmenbpmciblnlaaGreatDoor.Dg
namespace Go.Proofs.YtmenbpmciblnlaaGreatDoor.Dg
open Lib (hid)
open Go.RowKit
theorem uf {a n:Nat} (h:(aq a).length=n):nl (aq a)=n:=by rw[eI,h]
theorem nX [Ol] (a0 b0:Z') (la ca lb cb a b:Nat) (w:ah5) (ha:Sl w a0 la ca (aq a)) (hb:Sl w b0 lb cb (aq b)) (hne:la≠lb):
  Calls Tryz.prog 152 #[ah9 a0 la ca,ah9 b0 lb cb] w (Go.Proofs.YtmenbpmciblnlaaGreatDoor.cr (.int .i64 (eT a b)) w):=by
 have hcl:=xA ha.wf hb.wf (by rw[uf ha.len,uf hb.len];exact hne);rw[uf ha.len,uf hb.len,av,av]at hcl;have b1:=ha.big;have b2:=hb.big;have hne1:(((la:Nat):Int) !=((lb:Nat):Int))=true:=by simp;omega
 have hne2:(la !=lb)=true:=by simp;omega
 by_cases hlt:la<lb
 ·have H:Hid (eT a b= -1):=by rw[Hid,hcl,if_neg (by omega)]
  clear hcl;go_enter Tryz.func152,Tryz.ntmps152;go_wp2;go_ret;exact⟨by rw[H.o];rfl,ah8 _ _⟩
 ·have H:Hid (eT a b=1):=by rw[Hid,hcl,if_pos (by omega)]
  have hd:decide (la<lb)=false:=by simp;omega
  clear hcl;go_enter Tryz.func152,Tryz.ntmps152;go_wp2;go_ret;exact⟨by rw[H.o];rfl,ah8 _ _⟩
theorem BX [Ol] (a0 b0:Z') (la ca lb cb a b:Nat) (w:ah5) (ha:Sl w a0 la ca (aq a)) (hb:Sl w b0 lb cb (aq b)):
  Calls Tryz.prog 152 #[ah9 a0 la ca,ah9 b0 lb cb] w (Go.Proofs.YtmenbpmciblnlaaGreatDoor.cr (.int .i64 (eT a b)) w):=by
 by_cases hne:la≠lb
 ·exact nX _ _ _ _ _ _ _ _ _ ha hb hne
 obtain rfl:la=lb:=by omega
 clear hne;have b1:=ha.big;have HN1:=hid (uf ha.len);have HN2:=hid (uf hb.len);have hne:(((la:Nat):Int) !=((la:Nat):Int))=false:=by simp
 go_enter Tryz.func152,Tryz.ntmps152;go_wp2;go_loopw [5] (λi wr=>∃j:Nat,j<=la/\ i= .int .i64 ((j:Int)-1)/\ Hid (∀t,j<=t->t<la->(aq a).getD t 0=(aq b).getD t 0)/\∃q,wr=w.drewN q) (λi _=>(intOf i+1).toNat)
 case atStart=>exact⟨la,ai9 _,rfl,λt h1 h2=>by omega,0,rfl⟩
 case round=>
  obtain⟨j,hj,rfl,heq,q,rfl⟩:=hrel;by_cases hj0:j=0
  ·subst hj0
   have H:Hid (eT a b=0):=by
    have:=xB la HN1.o HN2.o (λi hi=>heq.o i (ai8 _) hi);rw[av,av]at this;exact this
   go_wp2;go_ret;exact⟨by rw[H.o];rfl,below_drewN _ _ _⟩
  ·obtain⟨i,rfl⟩:∃i,j=i+1:=⟨j-1,by omega⟩;have ei:((i+1:Nat):Int)-1=(i:Int):=by omega
   rw[ei];clear ei;obtain⟨p,off,rfl,_,hca⟩:=ha.at (by omega);obtain⟨p',off',rfl,_,hcb⟩:=hb.at (by omega);have ha1:=hca i (by omega);have hb1:=hcb i (by omega);have HW:=hid ha.wf;have HW2:=hid hb.wf;obtain⟨x,hx⟩:∃x,x=(aq a).getD i 0:=⟨_,rfl⟩;obtain⟨y,hy⟩:∃y,y=(aq b).getD i 0:=⟨_,rfl⟩;rw[<-hx]at ha1;rw[<-hy]at hb1;have HX:=hid hx;have HY:=hid hy;have hin:((i:Nat):Int)<((la:Nat):Int):=by omega
   clear hx hy hca hcb hj0
   have HAT:Hid (x≠y->eT a b=if y<x then 1 else-1):=by
    intro hxy;have:=GR HW.o HW2.o la i HN1.o HN2.o (by omega) (λt h1 h2=>heq.o t (by omega) h2) (by rw[<-HX.o,<-HY.o];exact hxy);rw[av,av,<-HX.o,<-HY.o]at this;exact this
   by_cases hxy:x<y
   ·have H:Hid (eT a b= -1):=by rw[Hid,HAT.o (by omega),if_neg (by omega)]
    have e1:decide (x<y)=true:=by simp;omega
    go_wp2;go_quiet (fail);go_wp2;go_ret;exact⟨by rw[H.o];rfl,(below_drewN _ _ _).trans (below_drewN _ _ _)⟩
   ·have e1:decide (x<y)=false:=by simp;omega
    by_cases hyx:y<x
    ·have H:Hid (eT a b=1):=by rw[Hid,HAT.o (by omega),if_pos (by omega)]
     have e2:decide (y<x)=true:=by simp;omega
     go_wp2;go_quiet (fail);go_wp2;go_quiet (fail);go_wp2;go_ret;exact⟨by rw[H.o];rfl,by first|exact below_drewN _ _ _|exact(below_drewN _ _ _).trans (below_drewN _ _ _)|exact((below_drewN _ _ _).trans (below_drewN _ _ _)).trans (below_drewN _ _ _)⟩
    ·have e2:decide (y<x)=false:=by simp;omega
     have hE:Hid (∀t,i<=t->t<la->(aq a).getD t 0=(aq b).getD t 0):=by
      intro t h1 h2;by_cases h3:t=i
      ·subst h3;rw[<-HX.o,<-HY.o];omega
      ·exact heq.o t (by omega) h2
     clear heq;go_wp2;go_quiet (fail);go_wp2;go_quiet (fail);go_wp2;go_roundw
     case rel=>exact⟨i,by omega,by go_num,hE,_,by first|rfl|(rw[ai0])|(rw[ai0,ai0])⟩
     case measure=>simp[intOf]
theorem nH [Ol] (c:Int) (a0 b0:Z') (la ca lb cb a b:Nat) (w:ah5) (ha:Sl w a0 la ca (aq a)) (hb:Sl w b0 lb cb (aq b)) (hc:Hid (eT a b=c)):
  Calls Tryz.prog 152 #[ah9 a0 la ca,ah9 b0 lb cb] w (Go.Proofs.YtmenbpmciblnlaaGreatDoor.cr (.int .i64 c) w):=by
 rw[<-hc.o];exact BX a0 b0 la ca lb cb a b w ha hb
end Go.Proofs.YtmenbpmciblnlaaGreatDoor.Dg
namespace Go.Proofs.YtmenbpmciblnlaaGreatDoor.Dg
open Lib (hid)
open Go.RowKit
theorem sU {zs:List Nat} {k c S T x y:Nat} (hl:zs.length=k) (h:au zs+10^k*c=S+T):
  au (zs++[(c+x+y)%10])+10^(k+1)*((c+x+y)/10)=(S+10^k*x)+(T+10^k*y):=by
 rw[bW,bu,di,hl,aj0]
 have e:10^k*((c+x+y)%10+10*0)+10^k*10*((c+x+y)/10)=10^k*c+10^k*x+10^k*y:=by
  rw[aj1,<-aj2,<-aj2,<-aj2]
  congr 1
  omega
 omega
def lX (B:Nat) (w:ah5) (ao:Option Addr) (k ae:Nat) (S c:Nat) (wr:ah5):Prop:=
 ∃zs,bX B wr ao k ae zs/\ ah7 B w wr/\ au zs+10^k*c=S
theorem pX [Ol] (a0 b0:Z') (la ca lb cb:Nat) (xs ys:List Nat) (w:ah5) (ha:Sl w a0 la ca xs) (hb:Sl w b0 lb cb ys) (hra:la<=4398046511104) (hrb:lb<=4398046511104):
  Calls Tryz.prog 100 #[ah9 a0 la ca,ah9 b0 lb cb] w (fW w (aq (au xs+au ys))):=by
 obtain⟨i0,hi,hz0,hz1,hz2⟩:=info_parts Tryz.kY;go_enter Tryz.func100,Tryz.ntmps100;go_wp2;go_loopw [5,6,7] (λo c i wr=>∃(k cc:Nat) (eP:Option Addr) (cap':Nat),k<=la+lb+1/\ cc<=1/\ i= .int .i64 ((k:Nat):Int)/\ c= .int .i64 ((cc:Nat):Int)/\ o=ah9 eP k cap'/\ lX w.heap.size w eP k cap' (au (xs.take k)+au (ys.take k)) cc wr) (λ_ _ i _=>la+lb+1-(intOf i).toNat)
 case atStart=>exact⟨0,0,none,0,ai8 _,ai8 _,rfl,rfl,rfl,[],bX.nil _ _,ah8 _ _,by simp[au]⟩
 case round=>
  obtain⟨k,cc,eP,cap',hk,hcc,rfl,rfl,rfl,zs,hO,hB,hV⟩:=hrel;have hsz:=hB.size;by_cases hka:k<la
  ·by_cases hkb:k<lb
   ·skip
    obtain⟨pa,yN,rfl,hpa,hca⟩:=ha.at (by omega);have hxc:wr.cell? ⟨pa,yN+k,none⟩=some (.int .i64 (xs.getD k 0:Nat)):=(hB.cell (by exact hpa)).trans (hca k (by omega));have hxl:=ha.bJ k;obtain⟨pb,Hb,rfl,hpb,hcb⟩:=hb.at (by omega);have GX:wr.cell? ⟨pb,Hb+k,none⟩=some (.int .i64 (ys.getD k 0:Nat)):=(hB.cell (by exact hpb)).trans (hcb k (by omega));have hyl:=hb.bJ k;have hstep:=sU (x:=xs.getD k 0) (y:=ys.getD k 0) hO.len hV;rw[dA xs k,dA ys k]at hstep;obtain⟨x,hx⟩:∃x,x=xs.getD k 0:=⟨_,rfl⟩;rw[<-hx]at hxc hxl hstep;clear hx hca;obtain⟨y,hy⟩:∃y,y=ys.getD k 0:=⟨_,rfl⟩;rw[<-hy]at GX hyl hstep;clear hy hcb;have HST:=hid hstep;clear hV hstep;go_wp2_with (at_builtin;refine dt wr w rfl (.tmp 44) (.tmp 47) 43 rfl w.heap.size 3 i0 (.int .i64 0) 8 Tryz.iF hi hz0 hz1 hz2 rfl _ _ _ _ rfl hO.row _ rfl 3 rfl hB hsz (by unfold maxLen;omega) (by omega) ?_;intro sZ jn w1 hown1 hB1 _);go_roundw
    case rel=>exact⟨k+1,(cc+x+y)/10,sZ,jn,by omega,by omega,by go_num,by go_num,rfl,_,bX.push ((cc+x+y)%10) hown1 (by go_num) (aj5 _ (by omega)) hO.wf (by omega),hB1,HST.o⟩
    case measure=>simp[intOf];omega
   ·skip
    obtain⟨pa,yN,rfl,hpa,hca⟩:=ha.at (by omega);have hxc:wr.cell? ⟨pa,yN+k,none⟩=some (.int .i64 (xs.getD k 0:Nat)):=(hB.cell (by exact hpa)).trans (hca k (by omega));have hxl:=ha.bJ k;have db:decide (k<lb)=false:=by simp;omega
    have hy0:ys.getD k 0=0:=mQ ys k (by rw[hb.len];omega);have hstep:=sU (x:=xs.getD k 0) (y:=ys.getD k 0) hO.len hV;rw[dA xs k,dA ys k]at hstep;obtain⟨x,hx⟩:∃x,x=xs.getD k 0:=⟨_,rfl⟩;rw[<-hx]at hxc hxl hstep;clear hx hca;rw[hy0]at hstep;have HST:=hid hstep;clear hV hstep;go_wp2_with (at_builtin;refine dt wr w rfl (.tmp 44) (.tmp 47) 43 rfl w.heap.size 3 i0 (.int .i64 0) 8 Tryz.iF hi hz0 hz1 hz2 rfl _ _ _ _ rfl hO.row _ rfl 3 rfl hB hsz (by unfold maxLen;omega) (by omega) ?_;intro sZ jn w1 hown1 hB1 _);go_roundw
    case rel=>exact⟨k+1,(cc+x+0)/10,sZ,jn,by omega,by omega,by go_num,by go_num,rfl,_,bX.push ((cc+x+0)%10) hown1 (by go_num) (aj5 _ (by omega)) hO.wf (by omega),hB1,HST.o⟩
    case measure=>simp[intOf];omega
  ·have da:decide (k<la)=false:=by simp;omega
   by_cases hkb:k<lb
   ·skip
    have hx0:xs.getD k 0=0:=mQ xs k (by rw[ha.len];omega);obtain⟨pb,Hb,rfl,hpb,hcb⟩:=hb.at (by omega);have GX:wr.cell? ⟨pb,Hb+k,none⟩=some (.int .i64 (ys.getD k 0:Nat)):=(hB.cell (by exact hpb)).trans (hcb k (by omega));have hyl:=hb.bJ k;have hstep:=sU (x:=xs.getD k 0) (y:=ys.getD k 0) hO.len hV;rw[dA xs k,dA ys k]at hstep;rw[hx0]at hstep;obtain⟨y,hy⟩:∃y,y=ys.getD k 0:=⟨_,rfl⟩;rw[<-hy]at GX hyl hstep;clear hy hcb;have HST:=hid hstep;clear hV hstep;go_wp2_with (at_builtin;refine dt wr w rfl (.tmp 44) (.tmp 47) 43 rfl w.heap.size 3 i0 (.int .i64 0) 8 Tryz.iF hi hz0 hz1 hz2 rfl _ _ _ _ rfl hO.row _ rfl 3 rfl hB hsz (by unfold maxLen;omega) (by omega) ?_;intro sZ jn w1 hown1 hB1 _);go_roundw
    case rel=>exact⟨k+1,(cc+0+y)/10,sZ,jn,by omega,by omega,by go_num,by go_num,rfl,_,bX.push ((cc+0+y)%10) hown1 (by go_num) (aj5 _ (by omega)) hO.wf (by omega),hB1,HST.o⟩
    case measure=>simp[intOf];omega
   ·have db:decide (k<lb)=false:=by simp;omega
    have hS:Hid (au zs+10^k*cc=au xs+au ys):=by
     rw[ai7 (by rw[ha.len];omega),ai7 (by rw[hb.len];omega)]at hV;exact hV
    by_cases hc0:0<cc
    ·have hk2:k<=la+lb:=by
      rcases ak6 (la+lb) k with h|h
      ·obtain rfl:k=la+lb+1:=by omega
       obtain rfl:cc=1:=by omega
       have h1:=dG xs ha.wf;have h2:=dG ys hb.wf;rw[ha.len]at h1;rw[hb.len]at h2;have h3:10^la<=10^(la+lb):=ak7 (by omega) (by omega);have h4:10^lb<=10^(la+lb):=ak7 (by omega) (by omega);have h5:=hS.o;rw[aj0]at h5;omega
      ·exact h
     have hx0:xs.getD k 0=0:=mQ xs k (by rw[ha.len];omega);have hy0:ys.getD k 0=0:=mQ ys k (by rw[hb.len];omega);have hstep:=sU (x:=xs.getD k 0) (y:=ys.getD k 0) hO.len hV;rw[dA xs k,dA ys k]at hstep;rw[hx0]at hstep;rw[hy0]at hstep;have HST:=hid hstep;clear hV hstep;go_wp2_with (at_builtin;refine dt wr w rfl (.tmp 44) (.tmp 47) 43 rfl w.heap.size 3 i0 (.int .i64 0) 8 Tryz.iF hi hz0 hz1 hz2 rfl _ _ _ _ rfl hO.row _ rfl 3 rfl hB hsz (by unfold maxLen;omega) (by omega) ?_;intro sZ jn w1 hown1 hB1 _);go_roundw
     case rel=>exact⟨k+1,(cc+0+0)/10,sZ,jn,by omega,by omega,by go_num,by go_num,rfl,_,bX.push ((cc+0+0)%10) hown1 (by go_num) (aj5 _ (by omega)) hO.wf (by omega),hB1,HST.o⟩
     case measure=>simp[intOf];omega
    ·have hd:decide (0<cc)=false:=by simp;omega
     have hcut:=lv _ _ _ _ _ _ hO
     have ht:au zs=au xs+au ys:=by
      have:=hS.o;obtain rfl:cc=0:=by omega
      omega
     rw[ht]at hcut;have ko:=hid hcut;clear ht hV hcut;go_wp2_with fail;refine ko.o.mono λe w' h=>?_
     obtain⟨Gu,kk,cap2,rfl,h3,rfl⟩:=h;go_wp2_with fail;go_ret;exact⟨_,_,_,rfl,h3,hB⟩
end Go.Proofs.YtmenbpmciblnlaaGreatDoor.Dg
namespace Go.Proofs.YtmenbpmciblnlaaGreatDoor.Dg
open Lib (hid)
open Go.RowKit
theorem Pk {zs:List Nat} {k c S T u y:Nat} (hl:zs.length=k) (hu:u<10) (hy:y<10) (hc:c<=1) (h:au zs+T=S+10^k*c):
  au (zs++[ig u y c])+(T+10^k*y)=(S+10^k*u)+10^(k+1)*im u y c:=by
 rw[bW,bu,di,hl,aj0,aj6,aj7]
 have e:10^k*ig u y c+10^k*y+10^k*c=10^k*u+10^k*10*im u y c:=by
  rw[aj1,<-aj2,<-aj2,<-aj2]
  congr 1
  unfold ig im;split<;>omega
 omega
theorem nI {a b:Nat} (h:b<=a):(aq b).length<=(aq a).length:=by
 rcases ak6 (aq a).length (aq b).length with h1|h1
 ·have h2:=fC (xs:=aq a) (ys:=aq b) (dv a) (by rw[eI,eI];exact h1);rw[av,av]at h2;omega
 ·exact h1
def ug (B:Nat) (w:ah5) (ao:Option Addr) (k ae:Nat) (S T c:Nat) (wr:ah5):Prop:=
 ∃zs,bX B wr ao k ae zs/\ ah7 B w wr/\ au zs+T=S+10^k*c
theorem kg [Ol] (a0 b0:Z') (la ca lb cb a b:Nat) (w:ah5) (ha:Sl w a0 la ca (aq a)) (hb:Sl w b0 lb cb (aq b)) (hge:b<=a) (hra:la<=4398046511104):
  Calls Tryz.prog 153 #[ah9 a0 la ca,ah9 b0 lb cb] w (fW w (aq (a-b))):=by
 obtain⟨i0,hi,hz0,hz1,hz2⟩:=info_parts Tryz.kY;have hlb:lb<=la:=by rw[<-ha.len,<-hb.len];exact nI hge
 have uX:=hid hge;clear hge;obtain⟨xs,hxs⟩:∃xs,xs=aq a:=⟨_,rfl⟩;obtain⟨ys,hys⟩:∃ys,ys=aq b:=⟨_,rfl⟩;have HXV:Hid (au xs=a):=by rw[Hid,hxs,av]
 have HYV:Hid (au ys=b):=by rw[Hid,hys,av]
 rw[<-hxs]at ha;rw[<-hys]at hb;clear hxs hys;go_enter Tryz.func153,Tryz.ntmps153;go_wp2;go_loopw [5,6,7,8] (λo c i _ wr=>∃(k cc:Nat) (eP:Option Addr) (cap':Nat),k<=la/\ cc<=1/\ i= .int .i64 ((k:Nat):Int)/\ c= .int .i64 ((cc:Nat):Int)/\ o=ah9 eP k cap'/\ ug w.heap.size w eP k cap' (au (xs.take k)) (au (ys.take k)) cc wr) (λ_ _ i _ _=>la-(intOf i).toNat)
 case atStart=>exact⟨0,0,none,0,ai8 _,ai8 _,rfl,rfl,rfl,[],bX.nil _ _,ah8 _ _,by simp[au]⟩
 case round=>
  obtain⟨k,cc,eP,cap',hk,hcc,rfl,rfl,rfl,zs,hO,hB,hV⟩:=hrel;have hsz:=hB.size;by_cases hka:k<la
  ·obtain⟨pa,yN,rfl,hpa,hca⟩:=ha.at (by omega);have hxc:wr.cell? ⟨pa,yN+k,none⟩=some (.int .i64 (xs.getD k 0:Nat)):=(hB.cell (by exact hpa)).trans (hca k (by omega));have hxl:=ha.bJ k;have hyl:=hb.bJ k;have hstep:=Pk (u:=xs.getD k 0) (y:=ys.getD k 0) hO.len hxl hyl hcc hV;rw[dA xs k,dA ys k]at hstep;obtain⟨u,hu⟩:∃u,u=xs.getD k 0:=⟨_,rfl⟩;rw[<-hu]at hxc hxl hstep;clear hu hca;by_cases hkb:k<lb
   ·obtain⟨pb,Hb,rfl,hpb,hcb⟩:=hb.at (by omega);have GX:wr.cell? ⟨pb,Hb+k,none⟩=some (.int .i64 (ys.getD k 0:Nat)):=(hB.cell (by exact hpb)).trans (hcb k (by omega));obtain⟨y,hy⟩:∃y,y=ys.getD k 0:=⟨_,rfl⟩;rw[<-hy]at GX hyl hstep;clear hy hcb;by_cases hn:u<y+cc
    ·skip
     have hneg:u<y+cc:=by omega
     have hD:ig u y cc=u+10-y-cc:=by unfold ig;omega
     have hB1:im u y cc=1:=by unfold im;rw[if_pos hneg]
     rw[hD,hB1]at hstep;have HST:=hid hstep;clear hV hstep hD hB1;go_wp2_with (at_builtin;refine dt wr w rfl (.tmp 35) (.tmp 37) 43 rfl w.heap.size 3 i0 (.int .i64 0) 8 Tryz.iF hi hz0 hz1 hz2 rfl _ _ _ _ rfl hO.row _ rfl 3 rfl hB hsz (by unfold maxLen;omega) (by omega) ?_;intro sZ jn w1 hown1 hB2 _);go_roundw
     case rel=>exact⟨k+1,1,sZ,jn,by omega,by omega,by go_num,by go_num,rfl,_,bX.push (u+10-y-cc) hown1 (by go_num) (by omega) hO.wf (by omega),hB2,HST.o⟩
     case measure=>simp[intOf];omega
    ·skip
     have hneg:y+cc<=u:=by omega
     have hD:ig u y cc=u-y-cc:=by unfold ig;omega
     have hB1:im u y cc=0:=by unfold im;rw[if_neg (by omega)]
     rw[hD,hB1]at hstep;have HST:=hid hstep;clear hV hstep hD hB1;go_wp2_with (at_builtin;refine dt wr w rfl (.tmp 35) (.tmp 37) 43 rfl w.heap.size 3 i0 (.int .i64 0) 8 Tryz.iF hi hz0 hz1 hz2 rfl _ _ _ _ rfl hO.row _ rfl 3 rfl hB hsz (by unfold maxLen;omega) (by omega) ?_;intro sZ jn w1 hown1 hB2 _);go_roundw
     case rel=>exact⟨k+1,0,sZ,jn,by omega,by omega,by go_num,by go_num,rfl,_,bX.push (u-y-cc) hown1 (by go_num) (by omega) hO.wf (by omega),hB2,HST.o⟩
     case measure=>simp[intOf];omega
   ·have hy0:ys.getD k 0=0:=mQ ys k (by rw[hb.len];omega);rw[hy0]at hstep;clear hy0 hyl;by_cases hn:u<0+cc
    ·skip
     have hneg:u<0+cc:=by omega
     have hD:ig u 0 cc=u+10-0-cc:=by unfold ig;omega
     have hB1:im u 0 cc=1:=by unfold im;rw[if_pos hneg]
     rw[hD,hB1]at hstep;have HST:=hid hstep;clear hV hstep hD hB1;go_wp2_with (at_builtin;refine dt wr w rfl (.tmp 35) (.tmp 37) 43 rfl w.heap.size 3 i0 (.int .i64 0) 8 Tryz.iF hi hz0 hz1 hz2 rfl _ _ _ _ rfl hO.row _ rfl 3 rfl hB hsz (by unfold maxLen;omega) (by omega) ?_;intro sZ jn w1 hown1 hB2 _);go_roundw
     case rel=>exact⟨k+1,1,sZ,jn,by omega,by omega,by go_num,by go_num,rfl,_,bX.push (u+10-0-cc) hown1 (by go_num) (by omega) hO.wf (by omega),hB2,HST.o⟩
     case measure=>simp[intOf];omega
    ·skip
     have hneg:0+cc<=u:=by omega
     have hD:ig u 0 cc=u-0-cc:=by unfold ig;omega
     have hB1:im u 0 cc=0:=by unfold im;rw[if_neg (by omega)]
     rw[hD,hB1]at hstep;have HST:=hid hstep;clear hV hstep hD hB1;go_wp2_with (at_builtin;refine dt wr w rfl (.tmp 35) (.tmp 37) 43 rfl w.heap.size 3 i0 (.int .i64 0) 8 Tryz.iF hi hz0 hz1 hz2 rfl _ _ _ _ rfl hO.row _ rfl 3 rfl hB hsz (by unfold maxLen;omega) (by omega) ?_;intro sZ jn w1 hown1 hB2 _);go_roundw
     case rel=>exact⟨k+1,0,sZ,jn,by omega,by omega,by go_num,by go_num,rfl,_,bX.push (u-0-cc) hown1 (by go_num) (by omega) hO.wf (by omega),hB2,HST.o⟩
     case measure=>simp[intOf];omega
  ·obtain rfl:k=la:=by omega
   have hS:au zs+b=a+10^k*cc:=by
    rw[cE xs k ha.len,ai7 (by rw[hb.len];exact hlb),HXV.o,HYV.o]at hV;exact hV
   have hcut:=lv _ _ _ _ _ _ hO
   have ht:au zs=a-b:=by
    have h1:=dG zs hO.wf;rw[hO.len]at h1;have h2:=uX.o;rcases ak5 cc with h3|h3
    ·subst h3;omega
    ·obtain rfl:cc=1:=by omega
     omega
   rw[ht]at hcut;have ko:=hid hcut;clear ht hV hS hcut;go_wp2_with fail;refine ko.o.mono λe w' h=>?_
   obtain⟨Gu,kk,cap2,rfl,h3,rfl⟩:=h;go_wp2_with fail;go_ret;exact⟨_,_,_,rfl,h3,hB⟩
end Go.Proofs.YtmenbpmciblnlaaGreatDoor.Dg
namespace Go.Proofs.YtmenbpmciblnlaaGreatDoor.Dg
open Go.RowKit
theorem Ew {zs:List Nat} {p c S m:Nat} (hp:p<zs.length) (h:au zs+10^p*c=S):
  au (zs.set p ((c+zs.getD p 0+m)%10))+10^(p+1)*((c+zs.getD p 0+m)/10)=S+10^p*m:=by
 have h1:=iA zs p ((c+zs.getD p 0+m)%10) hp;generalize zs.getD p 0=u at*
 have h2:10^p*((c+u+m)%10)+10^(p+1)*((c+u+m)/10)=10^p*u+10^p*c+10^p*m:=by
  rw[aj0,aj1,<-aj2,<-aj2,<-aj2]
  congr 1
  omega
 omega
def xS (B g n:Nat) (w:ah5) (S p c:Nat) (wr:ah5):Prop:=
 ∃zs,bX B wr (some ⟨g,0,none⟩) n n zs/\ ah7 B w wr/\ au zs+10^p*c=S
theorem SA (X Y i k x y:Nat):X+10^i*x*Y+10^(i+k)*(x*y)=X+10^i*x*(Y+10^k*y):=by
 rw[ak8,aj2]
 have:10^i*10^k*(x*y)=10^i*x*(10^k*y):=by
  simp only[aj1,Nat.mul_left_comm,aj9]
 omega
theorem SB {X:Nat} {xs:List Nat} {i Y:Nat} (h:X=au (xs.take i)*Y):X+10^i*xs.getD i 0*Y=au (xs.take (i+1))*Y:=by
 rw[h,<-dA xs i,aj3]
theorem Ex {xs:List Nat} (hw:Wf xs) (i:Nat):au (xs.take i)<10^i:=by
 have h:=dG _ (hw.take i);refine ak9 h (ak7 (by omega) ?_);rw[List.length_take];omega
theorem ql [Ol] (a0 b0:Z') (la ca lb cb:Nat) (xs ys:List Nat) (w:ah5) (ha:Sl w a0 la ca xs) (hb:Sl w b0 lb cb ys) (hra:la<=1000000) (hrb:lb<=1000000):
  Calls Tryz.prog 156 #[ah9 a0 la ca,ah9 b0 lb cb] w (fW w (aq (au xs*au ys))):=by
 obtain⟨i0,hi,hz0,hz1,hz2⟩:=info_parts Tryz.kY;have Zm:Hid (au ys<10^lb):=by have:=dG ys hb.wf;rwa[hb.len]at this
 have HXL:Hid (∀i,au (xs.take i)<10^i):=λi=>Ex ha.wf i
 have HYT:Hid (∀k,lb<=k->au (ys.take k)=au ys):=λk hk=>by rw[ai7 (by rw[hb.len];exact hk)]
 go_enter Tryz.func156,Tryz.ntmps156;go_wp2_with (at_make;refine wpList_make_full _ rfl _ _ 43 rfl w.heap.size 3 i0 (.int .i64 0) 1 Tryz.iF hi hz0 hz1 _ _ _ _ (la+lb+1) rfl rfl (by omega) (by omega) ?b2 ?b3 (ai9 _) ?_)
 case b2=>rw[hz2];omega
 case b3=>unfold maxLen;omega
 intro w1 hown1 hgrow1;rw[wX]at hown1;have hb1:ah7 w.heap.size w w1:=(ah8 _ _).grown hgrow1 (ai9 _) (λk h=>by cases h)
 have mK:bX w.heap.size w1 (some ⟨w.heap.size,0,none⟩) (la+lb+1) (la+lb+1) (ai1 (la+lb+1) 0):=
  ⟨hown1,by omega,λx hx=>by rw[(ai2.1 hx).2];omega⟩
 clear hown1 hgrow1;have hI1:xS w.heap.size w.heap.size (la+lb+1) w (au (xs.take 0)*au ys) 0 0 w1:=⟨_,mK,hb1,by rw[fG];simp[au]⟩;clear mK hb1;go_wp2_with fail;go_loopw [6] (λi wr=>∃k:Nat,k<=la/\ i= .int .i64 ((k:Nat):Int)/\ xS w.heap.size w.heap.size (la+lb+1) w (au (xs.take k)*au ys) 0 0 wr) (λi _=>la-(intOf i).toNat)
 case atStart=>exact⟨0,ai8 _,rfl,hI1⟩
 case round=>
  clear hI1;obtain⟨i,ah3,rfl,hI⟩:=hrel;obtain⟨wo,rfl⟩:∃wo:ah5,wo=wr:=⟨_,rfl⟩;by_cases hin:i<la
  ·obtain⟨S0,hS0⟩:∃S0,S0=au (xs.take i)*au ys:=⟨_,rfl⟩;rw[<-hS0]at hI;have vp:=ah6 hS0;have ZM:Hid (S0+10^i*xs.getD i 0*au ys=au (xs.take (i+1))*au ys):=SB hS0
   have ZN:Hid (au (xs.take (i+1))*au ys<10^(i+1+lb)):=by
    rw[Hid,ak8];have h1:=HXL.o (i+1);have h2:=Zm.o;rcases ak5 (au ys)with h3|h3
    ·rw[h3,aj6];exact Nat.mul_pos (al0 (by omega)) (al0 (by omega))
    ·exact ak9 (Nat.mul_lt_mul_of_pos_right h1 h3) (al1 _ (by omega))
   clear hS0;obtain⟨pa,yN,rfl,hpa,hca⟩:=ha.at (by omega);have HCA:Hid (w.cell? ⟨pa,yN+i,none⟩=some (.int .i64 (xs.getD i 0:Nat))):=hca i (by omega);have hxl:=ha.bJ i;obtain⟨x,hx⟩:∃x,x=xs.getD i 0:=⟨_,rfl⟩;rw[<-hx]at HCA hxl ZM;clear hx hca
   have hI2:xS w.heap.size w.heap.size (la+lb+1) w (S0+10^i*x*au (ys.take 0)) (i+0) 0 wo:=by
    obtain⟨zs,h1,h2,h3⟩:=hI;exact⟨zs,h1,h2,by simp[au]at h3 ⊢;exact h3⟩
   clear hI;go_wp2_with fail;go_loopw [7,8] (λc kk wr=>∃k cc:Nat,k<=lb+1/\ cc<=9/\ kk= .int .i64 ((k:Nat):Int)/\ c= .int .i64 ((cc:Nat):Int)/\ xS w.heap.size w.heap.size (la+lb+1) w (S0+10^i*x*au (ys.take k)) (i+k) cc wr) (λ_ kk _=>lb+1-(intOf kk).toNat)
   case atStart=>exact⟨0,0,ai8 _,ai8 _,rfl,rfl,hI2⟩
   case round=>
    clear hI2;obtain⟨k,cc,hk,hcc,rfl,rfl,zs,hO,hB,hV⟩:=hrel;have hac:wr.cell? ⟨pa,yN+i,none⟩=some (.int .i64 ((x:Nat):Int)):=(hB.cell (by exact hpa)).trans HCA.o;by_cases hkb:k<lb
    ·obtain⟨pb,Hb,rfl,hpb,hcb⟩:=hb.at (by omega);have hbc:wr.cell? ⟨pb,Hb+k,none⟩=some (.int .i64 (ys.getD k 0:Nat)):=(hB.cell (by exact hpb)).trans (hcb k (by omega));have hyl:=hb.bJ k;have hzc:=hO.cell (i+k) (by omega);have vy:=hO.frozen (i+k);have hzl:=hO.bJ (i+k);have hstep:=Ew (m:=x*ys.getD k 0) (by rw[hO.len];omega) hV;rw[SA,dA ys k]at hstep;obtain⟨y,hy⟩:∃y,y=ys.getD k 0:=⟨_,rfl⟩;obtain⟨z,hz⟩:∃z,z=zs.getD (i+k) 0:=⟨_,rfl⟩;rw[<-hy]at hbc hyl hstep;rw[<-hz]at hzc hzl hstep;have hml:x*y<=81:=aj4 (show x<=9 by omega) (show y<=9 by omega);obtain⟨m,hm⟩:∃m,m=x*y:=⟨_,rfl⟩;have hmI:((x:Nat):Int)*((y:Nat):Int)=((m:Nat):Int):=by rw[hm,Int.natCast_mul]
     rw[<-hm]at hstep hml;have HST:=ah6 hstep;clear hy hz hm hV hstep hcb;have hii:((i:Nat):Int)<((la:Nat):Int):=by omega
     have hkk:((k:Nat):Int)<((lb:Nat):Int):=by omega
     go_wp2_with fail;have hw1:IntKind.i64.wrap ((m:Nat):Int)=((m:Nat):Int):=wrap_i64 _ (by omega);have hw2:IntKind.i64.wrap (((cc:Nat):Int)+((z:Nat):Int)+((m:Nat):Int))=((cc:Nat):Int)+((z:Nat):Int)+((m:Nat):Int):=IntWalk.i64_in _ (by omega);go_quiet (fail);clear hw1 hw2;go_wp2_with fail;go_roundw
     case rel=>exact⟨k+1,(cc+z+m)/10,by omega,by omega,by go_num,by go_num,_,by have:=(hO.drewN nq).set (i+k) ((cc+z+m)%10) (aj5 _ (by omega));simpa using this,(hB.trans (below_drewN _ _ nq)).setCell (ai9 _) _,by rw[<-al2];exact HST.o⟩
     case measure=>simp[intOf];omega
    ·have hkd:decide (k<lb)=false:=by simp;omega
     have hS2:au zs+10^(i+k)*cc=au (xs.take (i+1))*au ys:=by
      rw[HYT.o k (by omega),ZM.o]at hV;exact hV
     by_cases hc0:0<cc
     ·have hik:k<=lb:=by
       rcases ak6 lb k with h|h
       ·obtain rfl:k=lb+1:=by omega
        have h1:=ZN.o;have h2:10^(i+(lb+1))*1<=10^(i+(lb+1))*cc:=al1 _ hc0;rw[show i+1+lb=i+(lb+1)from by omega]at h1;omega
       ·exact h
      have hzc:=hO.cell (i+k) (by omega);have vy:=hO.frozen (i+k);have hzl:=hO.bJ (i+k);have hstep:=Ew (m:=0) (by rw[hO.len];omega) hV;rw[aj6,aj7,HYT.o k (by omega),<-HYT.o (k+1) (by omega)]at hstep;obtain⟨z,hz⟩:∃z,z=zs.getD (i+k) 0:=⟨_,rfl⟩;rw[<-hz]at hzc hzl hstep;have HST:=ah6 hstep;clear hz hV hstep hS2;go_wp2_with fail;go_roundw
      case rel=>exact⟨k+1,(cc+z+0)/10,by omega,by omega,by go_num,by go_num,_,by have:=hO.set (i+k) ((cc+z+0)%10) (aj5 _ (by omega));simpa using this,hB.setCell (ai9 _) _,by rw[<-al2];exact HST.o⟩
      case measure=>simp[intOf];omega
     ·have hcd:decide (0<cc)=false:=by simp;omega
      have yK:xS w.heap.size w.heap.size (la+lb+1) w (au (xs.take (i+1))*au ys) 0 0 wr:=by
       refine⟨zs,hO,hB,?_⟩;obtain rfl:cc=0:=by omega
       simpa using hS2
      clear hV hS2;go_wp2_with fail;go_roundw
      case rel=>exact⟨i+1,by omega,by go_num,yK⟩
      case measure=>simp[intOf];omega
  ·obtain rfl:i=la:=by omega
   obtain⟨zs,hO,hB,hV⟩:=hI;have hcut:=lv _ _ _ _ _ _ hO
   have ht:au zs=au xs*au ys:=by
    rw[cE xs i ha.len]at hV;simpa using hV
   rw[ht]at hcut;have ko:=ah6 hcut;clear ht hV hcut;go_wp2_with fail;refine ko.o.mono λe w' h=>?_
   obtain⟨Gu,kk,cap2,rfl,h3,rfl⟩:=h;go_wp2_with fail;go_ret;exact⟨_,_,_,rfl,h3,hB⟩
end Go.Proofs.YtmenbpmciblnlaaGreatDoor.Dg
namespace Go.Proofs.YtmenbpmciblnlaaGreatDoor.Dg
open Lib (hid)
open Go.RowKit
theorem Ey [Ol] {P:Program} (wa w0:ah5) {ops:Array Oper} {rest:List Oper} {o:Oper} {a:Act} {Q:Exit->Act->ah5->Prop}
  (hg:o.guard=none) (s x:Operand) (t:TypeId) (hop:o.op=Op.call { callee:=Callee.builtin Builtin.append,args:= #[s,x],argTypes:= #[t,t] })
  (B:Nat) (i:TypeInfo) (z:Value) (h1:P.underlying t=some (.slice 3)) (h2:P.info? 3=some i) (h3:i.zero=some z) (h4:i.size=1) (h5:i.bytes=8) (h6:z.cells.size=1)
  (JH:Option Addr) (ns caps:Nat) (zs:List Nat) (hs:a.eval s=ah9 JH ns caps) (hO:bX B wa JH ns caps zs) (ao:Option Addr) (n ae:Nat) (xs:List Nat) (hx:a.eval x=ah9 ao n ae) (hS:Sl wa ao n ae xs)
  (hb:ah7 B w0 wa) (hB:B<=wa.heap.size) (hroom:ns+n<=17592186044416)
  (hK:∀eP cap' w',bX B w' eP (ns+n) cap' (zs++xs)->ah7 B w0 w'->wpList P ops Q rest (a.put o.dst (ah9 eP (ns+n) cap')) w'):
  wpList P ops Q (o::rest) a wa:=by
 cases ao with
 |none=>
  have hn:n=0:=by have:=hS.nil rfl;have:=hS.le;omega
  have hc:ae=0:=hS.nil rfl;subst hn;subst hc;have hxs:xs=[]:=List.eq_nil_of_length_eq_zero hS.len;subst hxs;refine wpList_plain hg λK hK'=>?_
  have hrun:=run_append_owned_none (P:=P) wa B t o.type 3 i 1 h1 h2 _ ns (cellsOf zs) hO.row;unfold Oper.wp;simp[execOp,hop,resolve,invoke,builtin,hs,hx,hrun,Result.andThen];exact hK' _ _ (by simpa using hK JH caps wa (by simpa using hO) hb)
 |some ad=>
  refine wpList_append_own _ hg s x t hop B 3 i z 1 8 h1 h2 h3 h4 h5 h6 (by decide) _ ns (cellsOf zs) hs hO.row ad n ae (cellsOf xs) hx (by rw[bq,hS.len,Nat.mul_one]) ?_ (fY xs) (by unfold maxLen;omega) (by omega) hB ?_
  ·intro j u hj;have hjl:j<n:=by have:=(List.getElem?_eq_some_iff.1 hj).1;rwa[bq,hS.len]at this
   rw[hS.cells ad rfl j hjl,<-hj,fA xs j (by rw[hS.len];exact hjl)]
  ·intro v' w' hown' hgrow _
   have hsh:∃eP cap',v'=ah9 eP (ns+n) cap':=by
    rcases hown'.2 with⟨hv,h0⟩|⟨g,ae,cur,hv,_⟩
    ·exact⟨none,0,by rw[hv,h0]⟩
    ·exact⟨_,_,hv⟩
   obtain⟨eP,cap',rfl⟩:=hsh;refine hK eP cap' w' ⟨by rw[eW];exact hown',hroom,λy hy=>?_⟩ (hb.grown hgrow hB λk hk=>(hO.row.lt k hk).1);rcases List.mem_append.1 hy with hy|hy
   ·exact hO.wf y hy
   ·exact hS.wf y hy
def WX (g i:Nat) (w:ah5):Nat:=match w.cell? ⟨g,i,none⟩with|some v=>(intOf v).toNat|none=>0
theorem Pm {g i z:Nat} {w:ah5} (h:w.cell? ⟨g,i,none⟩=some (.int .i64 ((z:Nat):Int))):WX g i w=z:=by
 unfold WX;rw[h];simp[intOf]
def ZO [Ol] (w:ah5) (q r:Nat) (e:Ending) (w':ah5):Prop:=
 ∃ao n ae eP n' cap',e= .returned (.tuple #[ah9 ao n ae,ah9 eP n' cap'])/\ Sl w' ao n ae (aq q)/\ Sl w' eP n' cap' (aq r)/\ ah7 w.heap.size w w'
structure pM [Ol] (g la:Nat) (w:ah5) (X:List Nat) (Bv j:Nat) (ao:Option Addr) (L ae:Nat) (R:Nat) (zs:List Nat) (wr:ah5):Prop where
 own:bX w.heap.size wr (some ⟨g,0,none⟩) la la zs
 rest:Sl wr ao L ae (aq R)
 dy:∀ad,ao=some ad->ad.block≠g
 below:ah7 w.heap.size w wr
theorem Lz {q Bv R d R':Nat} (h:q*Bv+R'=d+10*R) (hR:R<Bv) (hd:d<10) (hge:Bv<=R'):q+1<10:=by
 rcases ak6 (q+1) 10 with h1|h1
 ·exact h1
 ·have h2:10*Bv<=(q+1)*Bv:=Nat.mul_le_mul_right _ h1;rw[aj3]at h2;omega
theorem SC {q V R R' d Bv X Y:Nat} (h1:q*Bv+R'=d+10*R) (h2:V*Bv+R=X) (h3:Y=d+10*X):(q+10*V)*Bv+R'=Y:=by
 rw[h3,<-h2,aj3,aj2,aj1];omega
theorem pM.step [Ol] {g la:Nat} {w:ah5} {X:List Nat} {Bv j:Nat} {ao:Z'} {L ae R:Nat} {zs:List Nat} {wr w':ah5} (h:pM g la w X Bv j ao L ae R zs wr) (hb:ah7 wr.heap.size wr w'):pM g la w X Bv j ao L ae R zs w':=
 ⟨h.own.below hb,h.rest.below hb,h.dy,Go.Proofs.YtmenbpmciblnlaaGreatDoor.Below.ar h.below hb⟩
theorem kT [Ol] (a0 b0:Z') (la ca lb cb:Nat) (xs:List Nat) (Bv:Nat) (w:ah5) (ha:Sl w a0 la ca xs) (hb:Sl w b0 lb cb (aq Bv)) (hBv:0<Bv) (hra:la<=1000000) (hrb:lb<=1000000):
  Calls Tryz.prog 104 #[ah9 a0 la ca,ah9 b0 lb cb] w (ZO w (au xs/Bv) (au xs%Bv)):=by
 obtain⟨i0,hi,hz0,hz1,hz2⟩:=info_parts Tryz.kY;have hbl:=hb.len;have Ze:Hid (Bv<10^lb):=by have:=dG (aq Bv) hb.wf;rwa[av,hb.len]at this
 clear hbl;go_enter Tryz.func104,Tryz.ntmps104;go_wp2_with (at_make;refine wpList_make_full _ rfl _ _ 43 rfl w.heap.size 3 i0 (.int .i64 0) 1 Tryz.iF hi hz0 hz1 _ _ _ _ la rfl rfl rfl rfl ?b2 ?b3 (ai9 _) ?_)
 case b2=>rw[hz2];omega
 case b3=>unfold maxLen;omega
 intro w1 hown1 hgrow1;rw[wX]at hown1;have hb1:ah7 w.heap.size w w1:=(ah8 _ _).grown hgrow1 (ai9 _) (λk h=>by cases h)
 have mK:bX w.heap.size w1 (some ⟨w.heap.size,0,none⟩) la la (ai1 la 0):=
  ⟨hown1,by omega,λx hx=>by rw[(ai2.1 hx).2];omega⟩
 clear hown1 hgrow1;have HI1:Hid (pM w.heap.size la w xs Bv la none 0 0 0 (ai1 la 0) w1):=⟨mK,by rw[fE];exact Sl.none _,(λ_ h=>by cases h),hb1⟩
 have vv:Hid (au ((ai1 la 0).drop la)*Bv+0=au (xs.drop la)):=by
  show _=_;rw[ai3 (by simp),ai3 (by rw[ha.len];exact ai9 _),di,aj8]
 clear mK hb1;go_wp2_with fail;go_loopw [7,8] (λr i wr=>∃(j R L:Nat) (ao:Option Addr) (ae:Nat) (zs:List Nat),j<=la/\ i= .int .i64 ((j:Int)-1)/\ r=ah9 ao L ae/\ L<=lb/\ R<Bv/\ pM w.heap.size la w xs Bv j ao L ae R zs wr/\ Hid (∀t,t<j->zs.getD t 0=0)/\ Hid (au (zs.drop j)*Bv+R=au (xs.drop j))) (λ_ i _=>(intOf i+1).toNat)
 case atStart=>exact⟨la,0,0,none,0,_,ai9 _,rfl,rfl,ai8 _,hBv,HI1.o,λt _=>dp _ _,vv⟩
 case round=>
  clear HI1 vv;obtain⟨j,R,L,ao,ae,zs,hj,rfl,rfl,hL,hR,hI,HZ,hV⟩:=hrel;obtain⟨wo,rfl⟩:∃wo:ah5,wo=wr:=⟨_,rfl⟩;by_cases hj0:j=0
  ·subst hj0;have hcut:=lv _ _ _ _ _ _ hI.own
   have hq:au zs=au xs/Bv/\ R=au xs%Bv:=by
    have h0:=hV.o;simp only[ai4]at h0;have h1:au xs=R+Bv*au zs:=by rw[<-h0,aj9];omega
    rw[h1];exact⟨by rw[ak0 _ _ hBv,ak1 hR,ak2],by rw[ak3,ak4 hR]⟩
   rw[hq.1]at hcut;have ko:=hid hcut;have HR:Hid (Sl wo ao L ae (aq (au xs%Bv))):=by rw[Hid,<-hq.2];exact hI.rest
   have HB:=hid hI.below;clear hV hcut hq hI hR;go_wp2_with fail;refine ko.o.mono λe w' h=>?_
   obtain⟨Gu,kk,cap2,rfl,h3,rfl⟩:=h;go_wp2_with fail;go_ret2;exact⟨_,_,_,_,_,_,rfl,h3.sl,HR.o,HB.o⟩
  ·obtain⟨i,rfl⟩:∃i,j=i+1:=⟨j-1,by omega⟩;have ei:((i+1:Nat):Int)-1=(i:Int):=by omega
   rw[ei];clear ei;obtain⟨pa,yN,rfl,hpa,hca⟩:=ha.at (by omega);have hac:wo.cell? ⟨pa,yN+i,none⟩=some (.int .i64 (xs.getD i 0:Nat)):=(hI.below.cell (by exact hpa)).trans (hca i (by omega));have hdl:=ha.bJ i;have hdrop:=gw xs i (by rw[ha.len];omega);obtain⟨d,hd⟩:∃d,d=xs.getD i 0:=⟨_,rfl⟩;rw[<-hd]at hac hdl hdrop;have HDR:=hid hdrop;have WY:=bX.lit wo [d] (by intro x hx;simp at hx;omega) (by simp);have HO0:Hid (bX wo.heap.size (wo.alloc (.cells #[.int .i64 ((d:Nat):Int)] 3)) (some ⟨wo.heap.size,0,none⟩) 1 1 [d]):=WY;have vp:Hid (Sl (wo.alloc (.cells #[.int .i64 ((d:Nat):Int)] 3)) ao L ae (aq R)):=hI.rest.below ((ah8 _ _).alloc (ai9 _) _);have HB0:Hid (ah7 wo.heap.size wo (wo.alloc (.cells #[.int .i64 ((d:Nat):Int)] 3))):=(ah8 _ _).alloc (ai9 _) _;have HI:=hid hI;clear hd hca hdrop WY hI hj0;go_wp2_with (at_builtin;refine Ey _ wo rfl (.tmp 23) (.tmp 24) 43 rfl wo.heap.size i0 (.int .i64 0) Tryz.iF hi hz0 hz1 hz2 rfl _ _ _ _ rfl HO0.o _ _ _ _ rfl vp.o HB0.o (by simp) (by omega) ?_;intro sZ jn w2 hO2 hB2);have hcut:=lv _ _ _ _ _ _ hO2
   have hv1:au ([d]++aq R)=d+10*R:=by
    rw[List.singleton_append,bu,av]
   rw[hv1]at hcut;have hl1:(aq (d+10*R)).length<=lb+1:=fR (by have:=Ze.o;rw[aj0];omega);have Ok:=hid hl1;have ko:=hid hcut;clear hcut hv1 hl1 hO2 HO0 vp HB0;go_wp2_with fail;refine ko.o.mono λe w' h=>?_
   obtain⟨Gu,n2,cap2,rfl,hO3,rfl⟩:=h;have hn2:n2<=lb+1:=by rw[<-hO3.len];exact Ok.o
   have hI2:pM w.heap.size la w xs Bv i Gu n2 cap2 (d+10*R) zs w2:=
    ⟨HI.o.own.below hB2,hO3.sl,IE hO3 (by have:=HI.o.own.parts;rcases this with⟨h,_⟩|⟨g,h,_,h2,_⟩<;>first|(simp at h;omega)|cases h),Go.Proofs.YtmenbpmciblnlaaGreatDoor.Below.ar HI.o.below hB2⟩
   have HI2:=hid hI2;have HQ0:Hid (zs.getD i 0*Bv+(d+10*R)=d+10*R):=by rw[Hid,HZ.o i (by omega),aj8,ak2]
   have HZ2:Hid (∀t,t<i->zs.getD t 0=0):=λt ht=>HZ.o t (by omega)
   clear ko Ok hO3 hI2 hB2;go_wp2_with fail;go_loopw [7] (λr wr=>∃(R' L':Nat) (eP:Option Addr) (cap':Nat) (zs':List Nat),r=ah9 eP L' cap'/\ L'<=lb+1/\ pM w.heap.size la w xs Bv i eP L' cap' R' zs' wr/\ Hid (∀t,t<i->zs'.getD t 0=0)/\ Hid (au (zs'.drop (i+1))=au (zs.drop (i+1)))/\ Hid (zs'.getD i 0*Bv+R'=d+10*R)) (λ_ wr=>10-WX w.heap.size i wr)
   case atStart=>exact⟨_,n2,Gu,cap2,zs,rfl,hn2,HI2.o,HZ2,rfl,HQ0⟩
   case round=>
    clear HI2 HQ0 HZ2 hn2 HI;obtain⟨R',L',eP,cap',zs',rfl,hL',hI',HZ',HDP,HQ⟩:=hrel;by_cases hlt:R'<Bv
    ·have HC:Hid (eT R' Bv= -1):=by rw[Hid];unfold eT;rw[if_pos hlt]
     have hL2:(aq R').length<=lb:=fR (by have:=Ze.o;omega);have hL3:L'<=lb:=by rw[<-hI'.rest.len];exact hL2
     have LN:Hid (au (zs'.drop i)*Bv+R'=au (xs.drop i)):=by
      rw[Hid,gw zs' i (by rw[hI'.own.len];omega)];exact SC HQ.o (by rw[HDP.o];exact hV.o) HDR.o
     have hbS:=hb.below hI'.below;clear hL2;go_wp2_with fail;refine(nH (-1) _ _ _ _ _ _ _ _ _ hI'.rest hbS HC).mono ?_;rintro e w3 ⟨rfl,hB3⟩;have yK:=hI'.step hB3;clear hI' hbS hB3;go_wp2_with fail;go_roundw
     case rel=>exact⟨i,R',L',eP,cap',zs',by omega,by go_num,rfl,hL3,hlt,yK,HZ',LN⟩
     case measure=>simp[intOf]
    ·obtain⟨c,hc⟩:∃c,c=eT R' Bv:=⟨_,rfl⟩;have hc0:0<=c:=by rw[hc];unfold eT;rw[if_neg hlt];split<;>omega
     have HC:Hid (eT R' Bv=c):=hc.symm;have hbS:=hb.below hI'.below;have hqd:=Lz HQ.o hR hdl (by omega);obtain⟨z,hz⟩:∃z,z=zs'.getD i 0:=⟨_,rfl⟩;rw[<-hz]at hqd HQ;have SZ:=hid hz;have uX:Hid (Bv<=R'):=by rw[Hid];omega
     have HM:Hid (WX w.heap.size i wr=z):=Pm (by rw[hz];exact hI'.own.cell i (by omega))
     have hsl:(aq (R'-Bv)).length<=lb+1:=by
      have h1:=nI (show R'-Bv<=R' by omega);rw[hI'.rest.len]at h1;omega
     have LP:=hid hsl;clear hc hz hlt hsl;go_wp2_with fail;refine(nH c _ _ _ _ _ _ _ _ _ hI'.rest hbS HC).mono ?_;rintro e w3 ⟨rfl,hB3⟩;have yK:=hI'.step hB3;have ZP:=hbS.below hB3;clear hI' hbS hB3;go_wp2_with fail;refine(kg _ _ _ _ _ _ R' Bv _ yK.rest ZP uX.o (by omega)).mono ?_;rintro e w4 ⟨ao4,n4,cap4,rfl,hO4,hB4⟩;have hn4:n4<=lb+1:=by rw[<-hO4.len];exact LP.o
     have WZ:=yK.own.below hB4;have Yt:=Go.Proofs.YtmenbpmciblnlaaGreatDoor.Below.ar yK.below hB4;have ZQ:=hid (IE hO4 (g:=w.heap.size) (by have:=yK.own.parts;rcases this with⟨h,_⟩|⟨g,h,_,h2,_⟩<;>first|(simp at h;omega)|cases h));have hS4:=hO4.sl;clear yK ZP hO4 hB4 LP;have hzc:=WZ.cell i (by omega);rw[<-SZ.o]at hzc;have vy:=WZ.frozen i
     have hI5:Hid (pM w.heap.size la w xs Bv i ao4 n4 cap4 (R'-Bv) (zs'.set i (z+1)) (w4.setCell ⟨w.heap.size,i,none⟩ (.int .i64 (((z+1:Nat)):Int)))):=
      ⟨WZ.set i (z+1) hqd,hS4.Ko ZQ.o _,ZQ.o,Yt.setCell (ai9 _) _⟩
     have V8:Hid ((w4.setCell ⟨w.heap.size,i,none⟩ (.int .i64 (((z+1:Nat)):Int))).cell? ⟨w.heap.size,i,none⟩=some (.int .i64 (((z+1:Nat)):Int))):=by
      have:=hI5.o.own.cell i (by omega);rw[eH,if_pos ⟨rfl,by rw[WZ.len];omega⟩]at this;exact this
     have PK:Hid (∀t,t<i->(zs'.set i (z+1)).getD t 0=0):=by
      intro t ht;rw[eH,if_neg (by omega)];exact HZ'.o t ht
     have HD5:Hid (au ((zs'.set i (z+1)).drop (i+1))=au (zs.drop (i+1))):=by rw[Hid,ai5 (by omega)];exact HDP.o
     have PT:Hid ((zs'.set i (z+1)).getD i 0*Bv+(R'-Bv)=d+10*R):=by
      rw[Hid,eH,if_pos ⟨rfl,by rw[WZ.len];omega⟩,aj3,Nat.one_mul,<-HQ.o];have:=uX.o;omega
     clear WZ Yt hS4;go_wp2_with fail;go_roundw
     case rel=>
      refine⟨R'-Bv,n4,ao4,cap4,_,rfl,hn4,?_,PK,HD5,PT⟩;simpa using hI5.o
     case measure=>
      have e1:=Pm V8.o;have e2:=HM.o;show 10-WX w.heap.size i _<10-WX w.heap.size i wr;rw[e2];have e3:((z:Nat):Int)+1=((z+1:Nat):Int):=by omega
      rw[e3,e1];omega
end Go.Proofs.YtmenbpmciblnlaaGreatDoor.Dg
