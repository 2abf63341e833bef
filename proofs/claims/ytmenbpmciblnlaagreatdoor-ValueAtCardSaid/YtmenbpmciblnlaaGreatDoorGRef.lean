/- Same, RTrim, RTimes, RBy, RSmall, ROf, RLimbs, RCmp, RAdd, RSub, RMul, RDiv -/
import Derived.Test.YtmenbpmciblnlaaGreatDoorGMem
import Derived.BigQuiet
import Derived.Deep.RegionHeld3
import Derived.Laws.AppendOwnNone
set_option maxHeartbeats 0
set_option maxRecDepth 100000
open Go.Lib renaming hid->a0a
open Go.RowKit.Below renaming refl->a0b
open Go.Value renaming slice->a0c
open Go.World renaming drewN_drewN->a0d
open List renaming append_nil->a0j,drop_eq_nil_of_le->a0g,drop_set_of_lt->a0i,drop_zero->a0h,mem_replicate->a0f,replicate->a0e,take_of_length_le->a0k
open Nat renaming add_assoc->a0J,add_mul->a0q,add_mul_div_left->a0x,add_mul_mod_self_left->a0A,add_zero->a0u,div_eq_of_lt->a0y,eq_zero_or_pos->a0D,le_refl->a0m,lt_of_lt_of_le->a0C,lt_or_ge->a0E,mod_eq_of_lt->a0B,mod_lt->a0s,mul_add->a0p,mul_assoc->a0o,mul_comm->a0w,mul_le_mul->a0r,mul_le_mul_left->a0I,mul_zero->a0t,pow_add->a0G,pow_le_pow_right->a0F,pow_pos->a0H,pow_succ->a0n,zero_add->a0z,zero_le->a0l,zero_mul->a0v
/- The contract of porismref01.Same. -/
namespace Go.Proofs.YtmenbpmciblnlaaGreatDoor
open Go.RowKit
def qO (xs ys:List Nat):Bool:=decide (xs=ys)
theorem TI (a0 b0:Option Addr) (la ca lb cb:Nat) (w:World) (h:la≠lb):
  Calls Tryz.prog 103 #[a0c a0 la ca,a0c b0 lb cb] w (lM (.bool false) w):=by
 have hne:(((la:Nat):Int) !=((lb:Nat):Int))=true:=by simp;omega
 have hne2:(la !=lb)=true:=by simp;omega
 go_enter Tryz.func103,Tryz.ntmps103;go_wp2;go_ret;exact⟨rfl,0,rfl⟩
theorem Tm (a0 b0:Option Addr) (la ca lb cb:Nat) (xs ys:List Nat) (w:World) (ha:Sl w a0 la ca xs) (hb:Sl w b0 lb cb ys):
  Calls Tryz.prog 103 #[a0c a0 la ca,a0c b0 lb cb] w (lM (.bool (qO xs ys)) w):=by
 by_cases hl:la=lb
 ·subst hl;have b1:=ha.big;have b2:=hb.big;have l1:=ha.le;have l2:=hb.le;have hne:(((la:Nat):Int) !=((la:Nat):Int))=false:=by simp
  go_enter Tryz.func103,Tryz.ntmps103;go_wp2;go_loopw [5] (λi wr=>∃k:Nat,k<=la/\ i= .int .i64 k/\ Hid (xs.take k=ys.take k)/\∃q,wr=w.drewN q) (λi _=>la-(intOf i).toNat)
  case atStart=>exact⟨0,a0l _,rfl,rfl,0,rfl⟩
  case round=>
   obtain⟨k,hk,rfl,heq,q,rfl⟩:=hrel;by_cases hkn:k<la
   ·obtain⟨b,off,rfl,_,hca⟩:=ha.at (by omega);obtain⟨b',off',rfl,_,hcb⟩:=hb.at (by omega);have ha1:=hca k hkn;have hb1:=hcb k hkn;obtain⟨x,hx⟩:∃x,x=xs.getD k 0:=⟨_,rfl⟩;obtain⟨y,hy⟩:∃y,y=ys.getD k 0:=⟨_,rfl⟩;rw[<-hx]at ha1;rw[<-hy]at hb1;have HX:=a0a hx;have HY:=a0a hy;clear hx hy hca hcb;by_cases hxy:x=y
    ·subst hxy;have e1:(((x:Nat):Int) !=((x:Nat):Int))=false:=by simp
     go_wp2;go_quiet (fail);go_wp2;go_roundw
     case rel=>
      refine⟨k+1,by omega,by go_num,?_,_,rfl⟩;show _=_;rw[dw xs k (by rw[ha.len];exact hkn),dw ys k (by rw[hb.len];exact hkn),heq.out,<-HX.out,<-HY.out]
     case measure=>simp[intOf];omega
    ·have e1:(((x:Nat):Int) !=((y:Nat):Int))=true:=by simp;omega
     have e2:(x !=y)=true:=by simp;omega
     have H:Hid (qO xs ys=false):=by
      show _=_;unfold qO;rw[decide_eq_false_iff_not];intro e;apply hxy;rw[HX.out,HY.out,e]
     go_wp2;go_quiet (fail);go_wp2;go_ret;exact⟨by rw[H.out];rfl,_,a0d _ _ _⟩
   ·obtain rfl:k=la:=by omega
    have H:Hid (qO xs ys=true):=by
     show _=_;unfold qO;rw[decide_eq_true_eq];have:=heq.out;rwa[dz _ _ ha.len,dz _ _ hb.len]at this
    go_wp2;go_ret;exact⟨by rw[H.out];rfl,_,rfl⟩
 ·have:qO xs ys=false:=by
   unfold qO;rw[decide_eq_false_iff_not];intro e;apply hl;rw[<-ha.len,<-hb.len,e]
  rw[this];exact TI _ _ _ _ _ _ _ hl
end Go.Proofs.YtmenbpmciblnlaaGreatDoor
/- The contract of porismref01.trim. -/
namespace Go.Proofs.YtmenbpmciblnlaaGreatDoor.Dg
open Go.RowKit
theorem nQ [Ol] (B:Nat) (ao:Option Addr) (n cap:Nat) (xs:List Nat) (w:World) (h:Own B w ao n cap xs):
  Calls Tryz.prog 155 #[a0c ao n cap] w (wE B w (limbs (val xs))):=by
 have hs:=h.sl;have hle:=hs.le;have hbig:=hs.big;have HT:Hid (xs.take n=xs):=dz xs n hs.len;have HO:=a0a h;have ag9:Hid (bG xs=limbs (val xs)):=di xs h.wf;clear h;go_enter Tryz.func155,Tryz.ntmps155;go_wp2;go_loop [0] (λd=>∃k:Nat,k<=n/\ d=a0c ao k cap/\ Hid (nl (xs.take k)=nl xs)) (λd=>match d with|a0c _ k _=>k| _=>0)
 case atStart=>exact⟨n,a0m _,rfl,by rw[Hid,HT.out]⟩
 case round=>
  obtain⟨k,hk,rfl,hnl⟩:=hrel;by_cases hk0:k=0
  ·subst hk0
   have H0:Hid (Own B w ao 0 cap (limbs (val xs))):=by
    have h1:=HO.out.wH 0 (a0l _);have h2:=hnl.out;rw[List.take_zero]at h1 h2;rw[Hid,<-ag9.out,dA,<-h2];exact h1
   go_wp2;go_ret;exact⟨_,_,_,rfl,H0.out,rfl⟩
  ·obtain⟨b,off,rfl,hb,hc⟩:=hs.at (by omega);obtain⟨j,rfl⟩:∃j,k=j+1:=⟨k-1,by omega⟩;have hlen:=hs.len;have hcell:=hc j (by omega);clear hc hlen;obtain⟨x,hx⟩:∃x,x=xs.getD j 0:=⟨_,rfl⟩;rw[<-hx]at hcell;have HX:Hid (x=xs.getD j 0):=hx;clear hx;by_cases hz:x=0
   ·subst hz
    have H1:Hid (nl (xs.take j)=nl xs):=by
     rw[Hid,<-hnl.out,mI xs j (by have:=hs.len;omega) HX.out.symm]
    clear hnl;go_wp2;go_round
    case rel=>exact⟨j,by omega,rfl,H1⟩
    case measure=>simp
   ·have hb0:(((x:Nat):Int)==0)=false:=by simp;omega
    have H1:Hid (Own B w (some ⟨b,off,none⟩) (j+1) cap (limbs (val xs))):=by
     have h1:=HO.out.wH (j+1) hk;rw[Hid,<-ag9.out,dA,<-hnl.out,yU xs j (by have:=hs.len;omega) (by rw[<-HX.out];exact hz)];exact h1
    clear hnl hz;go_wp2;go_ret;exact⟨_,_,_,rfl,H1.out,rfl⟩
end Go.Proofs.YtmenbpmciblnlaaGreatDoor.Dg
/- The contract of porismref01.times. -/
namespace Go.Proofs.YtmenbpmciblnlaaGreatDoor.Dg
open Go.RowKit
def BU (B:Nat) (w:World) (ao:Option Addr) (k cap:Nat) (S c:Nat) (wr:World):Prop:=
 ∃zs,Own B wr ao k cap zs/\ Below B w wr/\ val zs+10^k*c=S
theorem BV {zs:List Nat} {k c S N d:Nat} (hl:zs.length=k) (h:val zs+10^k*c=S):
  val (zs++[(c+d*N)%10])+10^(k+1)*((c+d*N)/10)=S+10^k*d*N:=by
 rw[val_append,bB,dY,hl,a0n]
 have e:10^k*((c+d*N)%10+10*0)+10^k*10*((c+d*N)/10)=10^k*c+10^k*d*N:=by
  rw[a0o,<-a0p,a0o,<-a0p]
  congr 1
  omega
 omega
theorem FR (xs:List Nat) (k N more:Nat) (hk:k<xs.length):val (xs.take k)*N+more+10^k*xs.getD k 0*N=val (xs.take (k+1))*N+more:=by
 rw[bE xs k hk,a0q];omega
theorem DX [Ol] (ao:Option Addr) (n cap:Nat) (xs:List Nat) (N more:Nat) (w:World) (ha:Sl w ao n cap xs) (hN:N<=65536) (hm:more<=65536) (hroom:n<=8796093022208):
  Calls Tryz.prog 154 #[a0c ao n cap,.int .i64 (N:Int),.int .i64 (more:Int)] w (gP w (limbs (val xs*N+more))):=by
 have hle:=ha.le;obtain⟨i0,hi,hz0,hz1,hz2⟩:=info_parts Tryz.nK;go_enter Tryz.func154,Tryz.ntmps154;go_wp2;go_loopw [7,8,9] (λo c i wr=>∃k cc gu cap',k<=n/\ cc<=65536/\ i= .int .i64 ((k:Nat):Int)/\ c= .int .i64 ((cc:Nat):Int)/\ o=a0c gu k cap'/\ BU w.heap.size w gu k cap' (val (xs.take k)*N+more) cc wr) (λ_ _ i _=>n-(intOf i).toNat)
 case atStart=>exact⟨0,more,none,0,a0l _,hm,rfl,rfl,rfl,[],Own.nil _ _,a0b _ _,by simp[val]⟩
 case round=>
  obtain⟨k,cc,gu,cap',hk,hcc,rfl,rfl,rfl,zs,hO,hB,hV⟩:=hrel;have hsz:=hB.size;by_cases hkn:k<n
  ·obtain⟨b,off,rfl,hbb,hcell⟩:=ha.at (by omega);have hdc:wr.cell? ⟨b,off+k,none⟩=some (.int .i64 (xs.getD k 0:Nat)):=(hB.cell (by exact hbb)).trans (hcell k hkn);have hdl:=ha.getD_lt k;have hstep:=BV (N:=N) (d:=xs.getD k 0) hO.len hV;rw[FR xs k N more (by rw[ha.len];exact hkn)]at hstep;obtain⟨d,hd⟩:∃d,d=xs.getD k 0:=⟨_,rfl⟩;rw[<-hd]at hdc hdl hstep;have hmul:d*N<=9*65536:=a0r (by omega) hN;obtain⟨dn,hdn⟩:∃dn,dn=d*N:=⟨_,rfl⟩;have am7:((d:Nat):Int)*((N:Nat):Int)=((dn:Nat):Int):=by rw[hdn,Int.natCast_mul]
   rw[<-hdn]at hstep hmul;have HST:=a0a hstep;clear hd hV hstep hcell hdn;go_wp2_with (at_builtin;refine eD wr w rfl (.tmp 25) (.tmp 28) 43 rfl w.heap.size 3 i0 (.int .i64 0) 8 Tryz.j6 hi hz0 hz1 hz2 rfl _ _ _ _ rfl hO.row _ rfl 3 rfl hB hsz (by unfold maxLen;omega) (by omega) ?_;intro vH kC w1 hown1 hB1 _);go_roundw
   case rel=>
    refine⟨k+1,(cc+dn)/10,vH,kC,by omega,by omega,by go_num,by go_num,rfl,_,Own.push ((cc+dn)%10) hown1 (by go_num) (a0s _ (by omega)) hO.wf (by omega),hB1,HST.out⟩
   case measure=>simp[intOf];omega
  ·obtain rfl:k=n:=by omega
   have hV2:val zs+10^k*cc=val xs*N+more:=by
    have e:xs.take k=xs:=dz xs k ha.len;rwa[e]at hV
   have hI:∃L,L+cc<=k+65536/\ BU w.heap.size w gu L cap' (val xs*N+more) cc wr/\ L=k:=⟨k,by omega,⟨zs,hO,hB,hV2⟩,rfl⟩;clear hV hV2 hO hB hsz;go_wp2;go_loopw [7,8] (λo c wr=>∃L cc gu cap',L+cc<=k+65536/\ c= .int .i64 ((cc:Nat):Int)/\ o=a0c gu L cap'/\ BU w.heap.size w gu L cap' (val xs*N+more) cc wr) (λ_ c _=>(intOf c).toNat)
   case atStart=>
    obtain⟨L,h1,h2,rfl⟩:=hI;exact⟨L,cc,gu,cap',h1,rfl,rfl,h2⟩
   case round=>
    clear hI;obtain⟨L,cc,gu,cap',hL,rfl,rfl,zs,hO,hB,hV⟩:=hrel;have hsz:=hB.size;by_cases hc0:0<cc
    ·have hstep:=BV (N:=0) (d:=0) hO.len hV;simp only[a0t,a0u]at hstep;have HST:=a0a hstep;clear hV hstep;go_wp2_with (at_builtin;refine eD wr w rfl (.tmp 34) (.tmp 37) 43 rfl w.heap.size 3 i0 (.int .i64 0) 8 Tryz.j6 hi hz0 hz1 hz2 rfl _ _ _ _ rfl hO.row _ rfl 3 rfl hB hsz (by unfold maxLen;omega) (by omega) ?_;intro vH kC w1 hown1 hB1 _);go_roundw
     case rel=>
      refine⟨L+1,cc/10,vH,kC,by omega,by go_num,rfl,_,Own.push (cc%10) hown1 (by go_num) (a0s _ (by omega)) hO.wf (by omega),hB1,HST.out⟩
     case measure=>simp[intOf];omega
    ·have hcut:=nQ _ _ _ _ _ _ hO
     have ht:val zs=val xs*N+more:=by
      obtain rfl:cc=0:=by omega
      omega
     rw[ht]at hcut;have mJ:=a0a hcut;clear ht hV hcut;go_wp2_with fail;refine mJ.out.mono λe w' h=>?_
     obtain⟨Il,kk,cap2,rfl,h3,rfl⟩:=h;go_wp2_with fail;go_ret;exact⟨_,_,_,rfl,h3,hB⟩
theorem I9 [Ol] (ao:Option Addr) (n cap:Nat) (xs:List Nat) (N more:Nat) (Ni mi:Int) (w:World) (ha:Sl w ao n cap xs) (hNi:Ni=(N:Int)) (U9:mi=(more:Int)) (hN:N<=65536) (hm:more<=65536) (hroom:n<=8796093022208):
  Calls Tryz.prog 154 #[a0c ao n cap,.int .i64 Ni,.int .i64 mi] w (gP w (limbs (val xs*N+more))):=by
 subst hNi;subst U9;exact DX ao n cap xs N more w ha hN hm hroom
end Go.Proofs.YtmenbpmciblnlaaGreatDoor.Dg
/- The contract of porismref01.by. -/
namespace Go.Proofs.YtmenbpmciblnlaaGreatDoor.Dg
open Lib (hid)
open Go.RowKit
def Xr (B:Nat) (ao:Option Addr) (n cap:Nat) (w:World) (X:List Nat) (N j r:Nat) (wr:World):Prop:=
 ∃zs,Own B wr ao n cap zs/\ Below B w wr/\ val (zs.drop j)*N+r=val (X.drop j)/\ r<N
def Xt (w:World) (ys:List Nat) (r:Nat) (e:Ending) (w':World):Prop:=
 ∃ao n cap,e= .returned (.tuple #[a0c ao n cap,.int .i64 ((r:Nat):Int)])/\ Own w.heap.size w' ao n cap ys/\ Below w.heap.size w w'
theorem Zt [Ol] (ao:Option Addr) (n cap:Nat) (xs:List Nat) (N:Nat) (w:World) (ha:Sl w ao n cap xs) (hN:1<=N) (hN2:N<=65536):
  Calls Tryz.prog 157 #[a0c ao n cap,.int .i64 (N:Int)] w (Xt w (limbs (val xs/N)) (val xs%N)):=by
 have hle:=ha.le;have hbig:=ha.big;obtain⟨i0,hi,hz0,hz1,hz2⟩:=info_parts Tryz.nK;go_enter Tryz.func157,Tryz.ntmps157;go_wp2_with (at_make;refine wpList_make_full _ rfl _ _ 43 rfl w.heap.size 3 i0 (.int .i64 0) 1 Tryz.j6 hi hz0 hz1 _ _ _ _ n rfl rfl rfl rfl ?b2 ?b3 (a0m _) ?_)
 case b2=>rw[hz2];omega
 case b3=>unfold maxLen;omega
 intro w1 hown1 hgrow1;rw[Bb]at hown1;have hb1:Below w.heap.size w w1:=(a0b _ _).grown hgrow1 (a0m _) (λk h=>by cases h)
 have oq:Own w.heap.size w1 (some ⟨w.heap.size,0,none⟩) n n (a0e n 0):=
  ⟨hown1,hbig,λx hx=>by rw[(a0f.1 hx).2];omega⟩
 clear hown1 hgrow1
 have hI1:Xr w.heap.size (some ⟨w.heap.size,0,none⟩) n n w xs N n 0 w1:=by
  refine⟨_,oq,hb1,?_,by omega⟩;rw[a0g (by simp),a0g (by rw[ha.len];exact a0m _),dY,a0v]
 clear oq hb1;go_wp2_with fail;go_loopw [7,8] (λr i wr=>∃j rr:Nat,j<=n/\ i= .int .i64 ((j:Int)-1)/\ r= .int .i64 ((rr:Nat):Int)/\ Xr w.heap.size (some ⟨w.heap.size,0,none⟩) n n w xs N j rr wr) (λ_ i _=>(intOf i+1).toNat)
 case atStart=>exact⟨n,0,a0m _,rfl,rfl,hI1⟩
 case round=>
  clear hI1;obtain⟨j,rr,hj,rfl,rfl,zs,hO,hB,hV,hr⟩:=hrel;by_cases hj0:j=0
  ·subst hj0;simp only[a0h]at hV
   have hq:val zs=val xs/N/\ rr=val xs%N:=by
    have h1:val xs=rr+N*val zs:=by rw[<-hV,a0w];omega
    rw[h1];exact⟨by rw[a0x _ _ (by omega),a0y hr,a0z],by rw[a0A,a0B hr]⟩
   have hcut:=nQ _ _ _ _ _ _ hO;rw[hq.1]at hcut;have mJ:=hid hcut;have HR:=hid hq.2;clear hV hcut hq;go_wp2_with fail;refine mJ.out.mono λe w' h=>?_
   obtain⟨Il,kk,cap2,rfl,h3,rfl⟩:=h;go_wp2_with fail;go_ret2;exact⟨_,_,_,by rw[<-HR.out];rfl,h3,hB⟩
  ·obtain⟨i,rfl⟩:∃i,j=i+1:=⟨j-1,by omega⟩;have ei:((i+1:Nat):Int)-1=(i:Int):=by omega
   rw[ei];have EI:=hid ei;clear ei;obtain⟨b,off,rfl,hbb,hcell⟩:=ha.at (by omega);have hdc:wr.cell? ⟨b,off+i,none⟩=some (.int .i64 (xs.getD i 0:Nat)):=(hB.cell (by exact hbb)).trans (hcell i (by omega));have hdl:=ha.getD_lt i;have hzc:=hO.cell i (by omega);have zH:=hO.frozen i;have hdrop:=iL xs i (by rw[ha.len];omega);obtain⟨d,hd⟩:∃d,d=xs.getD i 0:=⟨_,rfl⟩;rw[<-hd]at hdc hdl hdrop;obtain⟨z,hz⟩:∃z,z=zs.getD i 0:=⟨_,rfl⟩;rw[<-hz]at hzc;have hq:(rr*10+d)/N<10:=by rw[Nat.div_lt_iff_lt_mul (by omega)];omega
   have hst:val ((zs.set i ((rr*10+d)/N)).drop i)*N+(rr*10+d)%N=val (xs.drop i):=by
    rw[iL _ i (by rw[List.length_set,hO.len];omega),fP,if_pos ⟨rfl,by rw[hO.len];omega⟩,a0i (by omega),hdrop,<-hV,a0q];have h:=Nat.mod_add_div (rr*10+d) N;rw[a0w N]at h;have h2:10*val (zs.drop (i+1))*N=10*(val (zs.drop (i+1))*N):=a0o _ _ _;omega
   have HQ:=hid hq;have HST:=hid hst;have HRN:=hid hr;have hrl:rr<=65536:=by omega
   clear hd hz hV hdrop hcell hq hst hr hj0;go_wp2;go_roundw
   case rel=>exact⟨i,(rr*10+d)%N,by omega,by go_num,by go_num,_,by have:=hO.set i _ HQ.out;simpa using this,hB.setCell (a0m _) _,HST.out,a0s _ (by omega)⟩
   case measure=>simp[intOf]
end Go.Proofs.YtmenbpmciblnlaaGreatDoor.Dg
/- The contract of porismref01.Small. -/
namespace Go.Proofs.YtmenbpmciblnlaaGreatDoor.Dg
open Go.RowKit
theorem ku (n:Nat) (w:World) (hn:Hid (n<=18446744073709551615)):
  Calls Tryz.prog 99 #[.int .u64 (n:Int)] w (gP w (limbs n)):=by
 obtain⟨i0,hi,hz0,hz1,hz2⟩:=info_parts Tryz.nK;have HLEN:Hid ((limbs n).length<=20):=gD (Vn hn.out);have HN:=a0a hn.out;clear hn;go_enter Tryz.func99,Tryz.ntmps99;go_wp2;go_loopw [0,3] (λc o wr=>∃(cc L:Nat) (ao:Option Addr) (cap:Nat) (zs:List Nat),cc<=n/\ c= .int .u64 ((cc:Nat):Int)/\ o=a0c ao L cap/\ Own w.heap.size wr ao L cap zs/\ Below w.heap.size w wr/\ Hid (zs++limbs cc=limbs n)) (λc _ _=>(intOf c).toNat)
 case atStart=>exact⟨n,0,none,0,[],a0m _,rfl,rfl,Own.nil _ _,a0b _ _,rfl⟩
 case round=>
  obtain⟨cc,L,ao,cap,zs,hcn,rfl,rfl,hO,hB,hV⟩:=hrel;have hsz:=hB.size;by_cases hc0:0<cc
  ·have hL:L+1<=20:=by
    have h1:=congrArg List.length hV.out;have h2:=HLEN.out;rw[List.length_append,gT hc0,List.length_cons,hO.len]at h1;omega
   have HST:Hid ((zs++[cc%10])++limbs (cc/10)=limbs n):=by
    rw[Hid,<-hV.out,gT hc0];simp
   have HW:Hid (IntKind.u64.wrap (((cc:Nat):Int)/10)=((cc/10:Nat):Int)):=by
    rw[Hid,show((cc:Nat):Int)/10=((cc/10:Nat):Int)from by omega,wrap_u64 _ (by have:=HN.out;omega)]
   clear hV;go_wp2_with (at_builtin;refine eD wr w rfl (.tmp 6) (.tmp 10) 43 rfl w.heap.size 3 i0 (.int .i64 0) 8 Tryz.j6 hi hz0 hz1 hz2 rfl _ _ _ _ rfl hO.row _ rfl 3 rfl hB hsz (by unfold maxLen;omega) (by omega) ?_;intro vH kC w1 hown1 hB1 _);go_roundw
   case rel=>exact⟨cc/10,L+1,vH,kC,_,by omega,by rw[HW.out],rfl,Own.push (cc%10) hown1 (by go_num) (a0s _ (by omega)) hO.wf (by omega),hB1,HST⟩
   case measure=>rw[HW.out];simp[intOf];omega
  ·obtain rfl:cc=0:=by omega
   have HE:Hid (zs=limbs n):=by rw[Hid,<-hV.out,iy,a0j]
   clear hV;go_wp2;go_ret;exact⟨_,_,_,rfl,by rw[<-HE.out];exact hO,hB⟩
end Go.Proofs.YtmenbpmciblnlaaGreatDoor.Dg
/- The contract of porismref01.Of. -/
namespace Go.Proofs.YtmenbpmciblnlaaGreatDoor.Dg
open Go.RowKit
def ah0 (B:Nat) (w:World) (xs:List Nat) (ao:Option Addr) (L cap j:Nat) (wr:World):Prop:=
 Own B wr ao L cap (limbs (Go.Proofs.YtmenbpmciblnlaaGreatDoor.val (xs.drop j)))/\ Below B w wr
theorem RZ [Ol] (ao:Option Addr) (n cap:Nat) (xs:List Nat) (w:World) (ha:Go.Proofs.YtmenbpmciblnlaaGreatDoor.Sl w ao n cap xs) (hroom:n<=1000000):
  Calls Tryz.prog 98 #[a0c ao n cap] w (gP w (limbs (Go.Proofs.YtmenbpmciblnlaaGreatDoor.val xs))):=by
 have hle:=ha.le;go_enter Tryz.func98,Tryz.ntmps98;go_wp2;go_loopw [3,4] (λd i wr=>∃(j L:Nat) (gu:Option Addr) (cap':Nat),j<=n/\ i= .int .i64 ((j:Int)-1)/\ d=a0c gu L cap'/\ ah0 w.heap.size w xs gu L cap' j wr) (λ_ i _=>(intOf i+1).toNat)
 case atStart=>exact⟨n,0,none,0,a0m _,rfl,rfl,by rw[a0g (by rw[ha.len];exact a0m _)];exact Own.nil _ _,a0b _ _⟩
 case round=>
  obtain⟨j,L,gu,cap',hj,rfl,rfl,hO,hB⟩:=hrel;by_cases hj0:j=0
  ·subst hj0;rw[a0h]at hO;go_wp2;go_ret;exact⟨_,_,_,rfl,hO,hB⟩
  ·obtain⟨i,rfl⟩:∃i,j=i+1:=⟨j-1,by omega⟩;have ei:((i+1:Nat):Int)-1=(i:Int):=by omega
   rw[ei];clear ei;obtain⟨b,off,rfl,hbb,hcell⟩:=ha.at (by omega);have hxc:wr.cell? ⟨b,off+i,none⟩=some (.int .u32 (xs.getD i 0:Nat)):=(hB.cell (by exact hbb)).trans (hcell i (by omega));have hxl:=ha.getD_lt i;have hdrop:=Go.Proofs.YtmenbpmciblnlaaGreatDoor.iL xs i (by rw[ha.len];omega);have hL:L<=10*(n-(i+1)):=by rw[<-hO.len];exact zf ha.wf _ _ ha.len
   have hlt2:=Vo ha.wf i n ha.len;obtain⟨x,hx⟩:∃x,x=xs.getD i 0:=⟨_,rfl⟩;rw[<-hx]at hxc hxl hdrop;obtain⟨v,hv⟩:∃v,v=Go.Proofs.YtmenbpmciblnlaaGreatDoor.val (xs.drop (i+1)):=⟨_,rfl⟩;rw[<-hv]at hO hdrop;rw[hdrop]at hlt2;have HM:Hid ((limbs (v*65536+x/65536)).length<=10*(n-i)):=gD (by omega);have HD:=a0a hdrop;clear hx hv hcell hj0 hdrop hlt2;have hin:((i:Nat):Int)<((n:Nat):Int):=by omega
   have hi0:(0:Int)<=((i:Nat):Int):=by omega
   have hbr:b<wr.heap.size:=by have:=hB.size;omega
   have hs0:=hO.sl;have H65:Hid ((65536:Int)=((65536:Nat):Int)):=rfl
   have HW1:Hid (IntKind.i64.wrap (IntKind.u32.wrap (((x:Nat):Int)/65536))=((x/65536:Nat):Int)):=by
    rw[Hid,show((x:Nat):Int)/65536=((x/65536:Nat):Int)from by omega,wrap_u32 _ (by omega),wrap_i64 _ (by omega)]
   have HW2:Hid (IntKind.i64.wrap (((x:Nat):Int).tmod 65536)=((x%65536:Nat):Int)):=by
    rw[Hid,Int.tmod_eq_emod_of_nonneg (by omega),show((x:Nat):Int)%65536=((x%65536:Nat):Int)from by omega,wrap_i64 _ (by omega)]
   go_wp2
   go_region_held3 (λw'=>w'.cell? ⟨b,off+i,none⟩=some (.int .u32 ((x:Nat):Int)))
    (first|go_keep|(exact(hB1.cell (by simpa using hbr)).trans hxc)|(exact(hB2.cell (by exact ak5)).trans ((hB1.cell (by simpa using hbr)).trans hxc)))
    (first
     |(go_at_call_of 154 (a0c gu L cap');go_must (with_reducible refine(I9 gu L cap' _ 65536 (x/65536) _ _ _ hO.drew.sl H65.out HW1.out (by omega) (by omega) (by omega)).mono ?_);rintro e w1 ⟨vH,n1,kC,rfl,oq,hB1⟩;have hn1:n1<=10*(n-i):=(by rw[<-oq.len,au];exact HM.out);have ak5:b<w1.heap.size:=(a0C (by simpa using hbr) hB1.size))
     |(go_at_call 154;go_must (with_reducible refine(I9 vH n1 kC _ 65536 (x%65536) _ _ _ oq.sl H65.out HW2.out (by omega) (by omega) (by omega)).mono ?_);rintro e w2 ⟨Il,n2,cap2,rfl,hO2,hB2⟩))
   have hBa:Below w.heap.size w w1:=hB.drew.trans (hB1.mono (by have:=hB.size;simpa using this));have hBb:Below w.heap.size w w2:=hBa.trans (hB2.mono hBa.size)
   have hO3:Own w.heap.size w2 Il n2 cap2 (limbs (Go.Proofs.YtmenbpmciblnlaaGreatDoor.val (xs.drop i))):=by
    have e:val (limbs (val (limbs v)*65536+x/65536))*65536+x%65536=Go.Proofs.YtmenbpmciblnlaaGreatDoor.val (xs.drop i):=by
     rw[au,au,HD.out];omega
    rw[e]at hO2;exact hO2.mono hBa.size
   go_wp2;go_roundw
   case rel=>exact⟨i,n2,Il,cap2,by omega,by go_num,rfl,hO3,hBb⟩
   case measure=>simp[intOf]
end Go.Proofs.YtmenbpmciblnlaaGreatDoor.Dg
/- The contract of the method Limbs of porismref01.D. -/
namespace Go.Proofs.YtmenbpmciblnlaaGreatDoor.Dg
open Go.RowKit
theorem Xu [Ol] (ao:Option Addr) (n cap:Nat) (v:Nat) (w:World) (ha:Sl w ao n cap (limbs v)):
  Calls Tryz.prog 157 #[a0c ao n cap,.int .i64 65536] w (Xt w (limbs (v/65536)) (v%65536)):=by
 have:=Zt ao n cap (limbs v) 65536 w ha (by omega) (by omega);rw[au]at this;exact this
theorem DV [Ol] (ao:Option Addr) (n cap:Nat) (v0:Nat) (w:World) (ha:Sl w ao n cap (limbs v0)):
  Calls Tryz.prog 105 #[a0c ao n cap] w (Go.Proofs.YtmenbpmciblnlaaGreatDoor.gP w (Go.Proofs.YtmenbpmciblnlaaGreatDoor.limbs v0)):=by
 obtain⟨i0,hi,hz0,hz1,hz2⟩:=info_parts Tryz.gV;have hbig:=ha.big;go_enter Tryz.func105,Tryz.ntmps105;go_wp2;go_loopw [0,3,4,5] (λd o _ _ wr=>∃(v L cap':Nat) (gu:Option Addr) (M Zu:Nat) (aoo:Option Addr) (zs:List Nat),d=a0c gu L cap'/\ o=a0c aoo M Zu/\ M+L<=n/\ Sl wr gu L cap' (limbs v)/\ Go.Proofs.YtmenbpmciblnlaaGreatDoor.Own w.heap.size wr aoo M Zu zs/\ Below w.heap.size w wr/\ Hid (zs++Go.Proofs.YtmenbpmciblnlaaGreatDoor.limbs v=Go.Proofs.YtmenbpmciblnlaaGreatDoor.limbs v0)) (λd _ _ _ _=>match d with|a0c _ k _=>k| _=>0)
 case atStart=>exact⟨v0,n,cap,ao,0,0,none,[],rfl,rfl,by omega,ha,Go.Proofs.YtmenbpmciblnlaaGreatDoor.Own.nil _ _,a0b _ _,rfl⟩
 case round=>
  obtain⟨v,L,cap',gu,M,Zu,aoo,zs,rfl,rfl,hML,hS,hO,hB,hV⟩:=hrel;have HLV:=a0a (Vp hS.len);by_cases hL:0<L
  ·have hv:0<v:=HLV.out.1 hL
   have HST:Hid ((zs++[v%4294967296])++Go.Proofs.YtmenbpmciblnlaaGreatDoor.limbs (v/4294967296)=Go.Proofs.YtmenbpmciblnlaaGreatDoor.limbs v0):=by
    rw[Hid,<-hV.out,Go.Proofs.YtmenbpmciblnlaaGreatDoor.gT hv];simp
   have HSH:Hid ((limbs (v/4294967296)).length<L):=by rw[<-hS.len];exact Cz hv
   clear hv hV;go_wp2_with fail;refine(Xu _ _ _ v _ hS).mono ?_;rintro e w1 ⟨vH,n1,kC,rfl,oq,hB1⟩;have hOa:=hO.below hB1;have hBa:Below w.heap.size w w1:=Go.Proofs.YtmenbpmciblnlaaGreatDoor.Below.steps hB hB1;clear hO hB hS;have hlo:v%65536<65536:=a0s _ (by omega);obtain⟨lo,Zv⟩:∃lo,lo=v%65536:=⟨_,rfl⟩;rw[<-Zv]at hlo ⊢;have HLO:=a0a Zv;clear Zv;go_wp2_with fail;refine(Xu _ _ _ (v/65536) _ oq.sl).mono ?_;rintro e w2 ⟨Il,n2,cap2,rfl,hO2,hB2⟩;have hOb:=hOa.below hB2;have hBb:Below w.heap.size w w2:=Go.Proofs.YtmenbpmciblnlaaGreatDoor.Below.steps hBa hB2;have hsz:=hBb.size;have hS2:=hO2.sl;have HAP:=a0a (Ob hOa hO2);have e2:v/65536/65536=v/4294967296:=by omega
   rw[e2]at hS2;have hn2:n2<L:=by rw[<-hS2.len];exact HSH.out
   clear hOa hBa oq hB1 hB2 hO2 e2;have hhi:v/65536%65536<65536:=a0s _ (by omega);obtain⟨hg,Zw⟩:∃hg,hg=v/65536%65536:=⟨_,rfl⟩;rw[<-Zw]at hhi ⊢;have HX:Hid (hg*65536+lo=v%4294967296):=by rw[Hid,Zw,HLO.out];omega
   clear Zw;go_wp2_with (at_builtin;refine eD w2 w rfl (.tmp 19) (.tmp 26) 27 rfl w.heap.size 192 i0 (.int .u32 0) 4 Tryz.underlying27 hi hz0 hz1 hz2 rfl _ _ _ _ rfl hOb.row _ rfl 192 rfl hBb hsz (by unfold maxLen;omega) (by omega) ?_;intro Xb xR w3 hown3 hB3 hg3);go_roundw
   case rel=>exact⟨v/4294967296,n2,cap2,Il,M+1,xR,Xb,_,rfl,rfl,by omega,hS2.grown hg3 HAP.out,Kc (hg*65536+lo) hown3 (by go_num) (by omega) hOb.wf (by omega),hB3,by rw[HX.out];exact HST⟩
   case measure=>simp;omega
  ·obtain rfl:L=0:=by omega
   have HE:Hid (zs=Go.Proofs.YtmenbpmciblnlaaGreatDoor.limbs v0):=by
    have:v=0:=by
     rcases a0D v with h|h
     ·exact h
     ·exact absurd (HLV.out.2 h) (by omega)
    subst this;rw[Hid,<-hV.out,Go.Proofs.YtmenbpmciblnlaaGreatDoor.iy,a0j]
   clear hV;go_wp2;go_ret;exact⟨_,_,_,rfl,by rw[<-HE.out];exact hO,hB⟩
end Go.Proofs.YtmenbpmciblnlaaGreatDoor.Dg
/- The contract of porismref01.Cmp. -/
namespace Go.Proofs.YtmenbpmciblnlaaGreatDoor.Dg
open Lib (hid)
open Go.RowKit
theorem xZ {a n:Nat} (h:(limbs a).length=n):nl (limbs a)=n:=by rw[fQ,h]
theorem qM [Ol] (a0 b0:Option Addr) (la ca lb cb a b:Nat) (w:World) (ha:Sl w a0 la ca (limbs a)) (hb:Sl w b0 lb cb (limbs b)) (hne:la≠lb):
  Calls Tryz.prog 152 #[a0c a0 la ca,a0c b0 lb cb] w (Go.Proofs.YtmenbpmciblnlaaGreatDoor.cu (.int .i64 (gG a b)) w):=by
 have hcl:=BJ ha.wf hb.wf (by rw[xZ ha.len,xZ hb.len];exact hne);rw[xZ ha.len,xZ hb.len,au,au]at hcl;have b1:=ha.big;have b2:=hb.big;have hne1:(((la:Nat):Int) !=((lb:Nat):Int))=true:=by simp;omega
 have hne2:(la !=lb)=true:=by simp;omega
 by_cases hlt:la<lb
 ·have H:Hid (gG a b= -1):=by rw[Hid,hcl,if_neg (by omega)]
  clear hcl;go_enter Tryz.func152,Tryz.ntmps152;go_wp2;go_ret;exact⟨by rw[H.out];rfl,a0b _ _⟩
 ·have H:Hid (gG a b=1):=by rw[Hid,hcl,if_pos (by omega)]
  have hd:decide (la<lb)=false:=by simp;omega
  clear hcl;go_enter Tryz.func152,Tryz.ntmps152;go_wp2;go_ret;exact⟨by rw[H.out];rfl,a0b _ _⟩
theorem FT [Ol] (a0 b0:Option Addr) (la ca lb cb a b:Nat) (w:World) (ha:Sl w a0 la ca (limbs a)) (hb:Sl w b0 lb cb (limbs b)):
  Calls Tryz.prog 152 #[a0c a0 la ca,a0c b0 lb cb] w (Go.Proofs.YtmenbpmciblnlaaGreatDoor.cu (.int .i64 (gG a b)) w):=by
 by_cases hne:la≠lb
 ·exact qM _ _ _ _ _ _ _ _ _ ha hb hne
 obtain rfl:la=lb:=by omega
 clear hne;have b1:=ha.big;have HN1:=hid (xZ ha.len);have ZH:=hid (xZ hb.len);have hne:(((la:Nat):Int) !=((la:Nat):Int))=false:=by simp
 go_enter Tryz.func152,Tryz.ntmps152;go_wp2;go_loopw [5] (λi wr=>∃j:Nat,j<=la/\ i= .int .i64 ((j:Int)-1)/\ Hid (∀t,j<=t->t<la->(limbs a).getD t 0=(limbs b).getD t 0)/\∃q,wr=w.drewN q) (λi _=>(intOf i+1).toNat)
 case atStart=>exact⟨la,a0m _,rfl,λt h1 h2=>by omega,0,rfl⟩
 case round=>
  obtain⟨j,hj,rfl,heq,q,rfl⟩:=hrel;by_cases hj0:j=0
  ·subst hj0
   have H:Hid (gG a b=0):=by
    have:=BK la HN1.out ZH.out (λi hi=>heq.out i (a0l _) hi);rw[au,au]at this;exact this
   go_wp2;go_ret;exact⟨by rw[H.out];rfl,below_drewN _ _ _⟩
  ·obtain⟨i,rfl⟩:∃i,j=i+1:=⟨j-1,by omega⟩;have ei:((i+1:Nat):Int)-1=(i:Int):=by omega
   rw[ei];clear ei;obtain⟨p,off,rfl,_,hca⟩:=ha.at (by omega);obtain⟨p',off',rfl,_,hcb⟩:=hb.at (by omega);have ha1:=hca i (by omega);have hb1:=hcb i (by omega);have HW:=hid ha.wf;have HW2:=hid hb.wf;obtain⟨x,hx⟩:∃x,x=(limbs a).getD i 0:=⟨_,rfl⟩;obtain⟨y,hy⟩:∃y,y=(limbs b).getD i 0:=⟨_,rfl⟩;rw[<-hx]at ha1;rw[<-hy]at hb1;have HX:=hid hx;have HY:=hid hy;have hin:((i:Nat):Int)<((la:Nat):Int):=by omega
   clear hx hy hca hcb hj0
   have HAT:Hid (x≠y->gG a b=if y<x then 1 else-1):=by
    intro hxy;have:=KV HW.out HW2.out la i HN1.out ZH.out (by omega) (λt h1 h2=>heq.out t (by omega) h2) (by rw[<-HX.out,<-HY.out];exact hxy);rw[au,au,<-HX.out,<-HY.out]at this;exact this
   by_cases hxy:x<y
   ·have H:Hid (gG a b= -1):=by rw[Hid,HAT.out (by omega),if_neg (by omega)]
    have e1:decide (x<y)=true:=by simp;omega
    go_wp2;go_quiet (fail);go_wp2;go_ret;exact⟨by rw[H.out];rfl,(below_drewN _ _ _).trans (below_drewN _ _ _)⟩
   ·have e1:decide (x<y)=false:=by simp;omega
    by_cases hyx:y<x
    ·have H:Hid (gG a b=1):=by rw[Hid,HAT.out (by omega),if_pos (by omega)]
     have e2:decide (y<x)=true:=by simp;omega
     go_wp2;go_quiet (fail);go_wp2;go_quiet (fail);go_wp2;go_ret;exact⟨by rw[H.out];rfl,by first|exact below_drewN _ _ _|exact(below_drewN _ _ _).trans (below_drewN _ _ _)|exact((below_drewN _ _ _).trans (below_drewN _ _ _)).trans (below_drewN _ _ _)⟩
    ·have e2:decide (y<x)=false:=by simp;omega
     have hE:Hid (∀t,i<=t->t<la->(limbs a).getD t 0=(limbs b).getD t 0):=by
      intro t h1 h2;by_cases h3:t=i
      ·subst h3;rw[<-HX.out,<-HY.out];omega
      ·exact heq.out t (by omega) h2
     clear heq;go_wp2;go_quiet (fail);go_wp2;go_quiet (fail);go_wp2;go_roundw
     case rel=>exact⟨i,by omega,by go_num,hE,_,by first|rfl|(rw[a0d])|(rw[a0d,a0d])⟩
     case measure=>simp[intOf]
theorem qC [Ol] (c:Int) (a0 b0:Option Addr) (la ca lb cb a b:Nat) (w:World) (ha:Sl w a0 la ca (limbs a)) (hb:Sl w b0 lb cb (limbs b)) (hc:Hid (gG a b=c)):
  Calls Tryz.prog 152 #[a0c a0 la ca,a0c b0 lb cb] w (Go.Proofs.YtmenbpmciblnlaaGreatDoor.cu (.int .i64 c) w):=by
 rw[<-hc.out];exact FT a0 b0 la ca lb cb a b w ha hb
end Go.Proofs.YtmenbpmciblnlaaGreatDoor.Dg
/- The contract of porismref01.Add. -/
namespace Go.Proofs.YtmenbpmciblnlaaGreatDoor.Dg
open Lib (hid)
open Go.RowKit
theorem wZ {zs:List Nat} {k c S T x y:Nat} (hl:zs.length=k) (h:val zs+10^k*c=S+T):
  val (zs++[(c+x+y)%10])+10^(k+1)*((c+x+y)/10)=(S+10^k*x)+(T+10^k*y):=by
 rw[val_append,bB,dY,hl,a0n]
 have e:10^k*((c+x+y)%10+10*0)+10^k*10*((c+x+y)/10)=10^k*c+10^k*x+10^k*y:=by
  rw[a0o,<-a0p,<-a0p,<-a0p]
  congr 1
  omega
 omega
def oO (B:Nat) (w:World) (ao:Option Addr) (k cap:Nat) (S c:Nat) (wr:World):Prop:=
 ∃zs,Own B wr ao k cap zs/\ Below B w wr/\ val zs+10^k*c=S
theorem tK [Ol] (a0 b0:Option Addr) (la ca lb cb:Nat) (xs ys:List Nat) (w:World) (ha:Sl w a0 la ca xs) (hb:Sl w b0 lb cb ys) (hra:la<=4398046511104) (hrb:lb<=4398046511104):
  Calls Tryz.prog 100 #[a0c a0 la ca,a0c b0 lb cb] w (gP w (limbs (val xs+val ys))):=by
 obtain⟨i0,hi,hz0,hz1,hz2⟩:=info_parts Tryz.nK;go_enter Tryz.func100,Tryz.ntmps100;go_wp2;go_loopw [5,6,7] (λo c i wr=>∃(k cc:Nat) (gu:Option Addr) (cap':Nat),k<=la+lb+1/\ cc<=1/\ i= .int .i64 ((k:Nat):Int)/\ c= .int .i64 ((cc:Nat):Int)/\ o=a0c gu k cap'/\ oO w.heap.size w gu k cap' (val (xs.take k)+val (ys.take k)) cc wr) (λ_ _ i _=>la+lb+1-(intOf i).toNat)
 case atStart=>exact⟨0,0,none,0,a0l _,a0l _,rfl,rfl,rfl,[],Own.nil _ _,a0b _ _,by simp[val]⟩
 case round=>
  obtain⟨k,cc,gu,cap',hk,hcc,rfl,rfl,rfl,zs,hO,hB,hV⟩:=hrel;have hsz:=hB.size;by_cases hka:k<la
  ·by_cases hkb:k<lb
   ·skip
    obtain⟨pa,CQ,rfl,hpa,hca⟩:=ha.at (by omega);have hxc:wr.cell? ⟨pa,CQ+k,none⟩=some (.int .i64 (xs.getD k 0:Nat)):=(hB.cell (by exact hpa)).trans (hca k (by omega));have hxl:=ha.getD_lt k;obtain⟨pb,K5,rfl,hpb,hcb⟩:=hb.at (by omega);have KY:wr.cell? ⟨pb,K5+k,none⟩=some (.int .i64 (ys.getD k 0:Nat)):=(hB.cell (by exact hpb)).trans (hcb k (by omega));have hyl:=hb.getD_lt k;have hstep:=wZ (x:=xs.getD k 0) (y:=ys.getD k 0) hO.len hV;rw[eH xs k,eH ys k]at hstep;obtain⟨x,hx⟩:∃x,x=xs.getD k 0:=⟨_,rfl⟩;rw[<-hx]at hxc hxl hstep;clear hx hca;obtain⟨y,hy⟩:∃y,y=ys.getD k 0:=⟨_,rfl⟩;rw[<-hy]at KY hyl hstep;clear hy hcb;have HST:=hid hstep;clear hV hstep;go_wp2_with (at_builtin;refine eD wr w rfl (.tmp 44) (.tmp 47) 43 rfl w.heap.size 3 i0 (.int .i64 0) 8 Tryz.j6 hi hz0 hz1 hz2 rfl _ _ _ _ rfl hO.row _ rfl 3 rfl hB hsz (by unfold maxLen;omega) (by omega) ?_;intro vH kC w1 hown1 hB1 _);go_roundw
    case rel=>exact⟨k+1,(cc+x+y)/10,vH,kC,by omega,by omega,by go_num,by go_num,rfl,_,Own.push ((cc+x+y)%10) hown1 (by go_num) (a0s _ (by omega)) hO.wf (by omega),hB1,HST.out⟩
    case measure=>simp[intOf];omega
   ·skip
    obtain⟨pa,CQ,rfl,hpa,hca⟩:=ha.at (by omega);have hxc:wr.cell? ⟨pa,CQ+k,none⟩=some (.int .i64 (xs.getD k 0:Nat)):=(hB.cell (by exact hpa)).trans (hca k (by omega));have hxl:=ha.getD_lt k;have db:decide (k<lb)=false:=by simp;omega
    have hy0:ys.getD k 0=0:=pU ys k (by rw[hb.len];omega);have hstep:=wZ (x:=xs.getD k 0) (y:=ys.getD k 0) hO.len hV;rw[eH xs k,eH ys k]at hstep;obtain⟨x,hx⟩:∃x,x=xs.getD k 0:=⟨_,rfl⟩;rw[<-hx]at hxc hxl hstep;clear hx hca;rw[hy0]at hstep;have HST:=hid hstep;clear hV hstep;go_wp2_with (at_builtin;refine eD wr w rfl (.tmp 44) (.tmp 47) 43 rfl w.heap.size 3 i0 (.int .i64 0) 8 Tryz.j6 hi hz0 hz1 hz2 rfl _ _ _ _ rfl hO.row _ rfl 3 rfl hB hsz (by unfold maxLen;omega) (by omega) ?_;intro vH kC w1 hown1 hB1 _);go_roundw
    case rel=>exact⟨k+1,(cc+x+0)/10,vH,kC,by omega,by omega,by go_num,by go_num,rfl,_,Own.push ((cc+x+0)%10) hown1 (by go_num) (a0s _ (by omega)) hO.wf (by omega),hB1,HST.out⟩
    case measure=>simp[intOf];omega
  ·have da:decide (k<la)=false:=by simp;omega
   by_cases hkb:k<lb
   ·skip
    have hx0:xs.getD k 0=0:=pU xs k (by rw[ha.len];omega);obtain⟨pb,K5,rfl,hpb,hcb⟩:=hb.at (by omega);have KY:wr.cell? ⟨pb,K5+k,none⟩=some (.int .i64 (ys.getD k 0:Nat)):=(hB.cell (by exact hpb)).trans (hcb k (by omega));have hyl:=hb.getD_lt k;have hstep:=wZ (x:=xs.getD k 0) (y:=ys.getD k 0) hO.len hV;rw[eH xs k,eH ys k]at hstep;rw[hx0]at hstep;obtain⟨y,hy⟩:∃y,y=ys.getD k 0:=⟨_,rfl⟩;rw[<-hy]at KY hyl hstep;clear hy hcb;have HST:=hid hstep;clear hV hstep;go_wp2_with (at_builtin;refine eD wr w rfl (.tmp 44) (.tmp 47) 43 rfl w.heap.size 3 i0 (.int .i64 0) 8 Tryz.j6 hi hz0 hz1 hz2 rfl _ _ _ _ rfl hO.row _ rfl 3 rfl hB hsz (by unfold maxLen;omega) (by omega) ?_;intro vH kC w1 hown1 hB1 _);go_roundw
    case rel=>exact⟨k+1,(cc+0+y)/10,vH,kC,by omega,by omega,by go_num,by go_num,rfl,_,Own.push ((cc+0+y)%10) hown1 (by go_num) (a0s _ (by omega)) hO.wf (by omega),hB1,HST.out⟩
    case measure=>simp[intOf];omega
   ·have db:decide (k<lb)=false:=by simp;omega
    have hS:Hid (val zs+10^k*cc=val xs+val ys):=by
     rw[a0k (by rw[ha.len];omega),a0k (by rw[hb.len];omega)]at hV;exact hV
    by_cases hc0:0<cc
    ·have hk2:k<=la+lb:=by
      rcases a0E (la+lb) k with h|h
      ·obtain rfl:k=la+lb+1:=by omega
       obtain rfl:cc=1:=by omega
       have h1:=eG xs ha.wf;have h2:=eG ys hb.wf;rw[ha.len]at h1;rw[hb.len]at h2;have h3:10^la<=10^(la+lb):=a0F (by omega) (by omega);have h4:10^lb<=10^(la+lb):=a0F (by omega) (by omega);have h5:=hS.out;rw[a0n]at h5;omega
      ·exact h
     have hx0:xs.getD k 0=0:=pU xs k (by rw[ha.len];omega);have hy0:ys.getD k 0=0:=pU ys k (by rw[hb.len];omega);have hstep:=wZ (x:=xs.getD k 0) (y:=ys.getD k 0) hO.len hV;rw[eH xs k,eH ys k]at hstep;rw[hx0]at hstep;rw[hy0]at hstep;have HST:=hid hstep;clear hV hstep;go_wp2_with (at_builtin;refine eD wr w rfl (.tmp 44) (.tmp 47) 43 rfl w.heap.size 3 i0 (.int .i64 0) 8 Tryz.j6 hi hz0 hz1 hz2 rfl _ _ _ _ rfl hO.row _ rfl 3 rfl hB hsz (by unfold maxLen;omega) (by omega) ?_;intro vH kC w1 hown1 hB1 _);go_roundw
     case rel=>exact⟨k+1,(cc+0+0)/10,vH,kC,by omega,by omega,by go_num,by go_num,rfl,_,Own.push ((cc+0+0)%10) hown1 (by go_num) (a0s _ (by omega)) hO.wf (by omega),hB1,HST.out⟩
     case measure=>simp[intOf];omega
    ·have hd:decide (0<cc)=false:=by simp;omega
     have hcut:=nQ _ _ _ _ _ _ hO
     have ht:val zs=val xs+val ys:=by
      have:=hS.out;obtain rfl:cc=0:=by omega
      omega
     rw[ht]at hcut;have mJ:=hid hcut;clear ht hV hcut;go_wp2_with fail;refine mJ.out.mono λe w' h=>?_
     obtain⟨Il,kk,cap2,rfl,h3,rfl⟩:=h;go_wp2_with fail;go_ret;exact⟨_,_,_,rfl,h3,hB⟩
end Go.Proofs.YtmenbpmciblnlaaGreatDoor.Dg
/- The contract of porismref01.Sub. -/
namespace Go.Proofs.YtmenbpmciblnlaaGreatDoor.Dg
open Lib (hid)
open Go.RowKit
theorem TJ {zs:List Nat} {k c S T u y:Nat} (hl:zs.length=k) (hu:u<10) (hy:y<10) (hc:c<=1) (h:val zs+T=S+10^k*c):
  val (zs++[jG u y c])+(T+10^k*y)=(S+10^k*u)+10^(k+1)*jM u y c:=by
 rw[val_append,bB,dY,hl,a0n,a0t,a0u]
 have e:10^k*jG u y c+10^k*y+10^k*c=10^k*u+10^k*10*jM u y c:=by
  rw[a0o,<-a0p,<-a0p,<-a0p]
  congr 1
  unfold jG jM;split<;>omega
 omega
theorem qD {a b:Nat} (h:b<=a):(limbs b).length<=(limbs a).length:=by
 rcases a0E (limbs a).length (limbs b).length with h1|h1
 ·have h2:=gZ (xs:=limbs a) (ys:=limbs b) (eF a) (by rw[fQ,fQ];exact h1);rw[au,au]at h2;omega
 ·exact h1
def x9 (B:Nat) (w:World) (ao:Option Addr) (k cap:Nat) (S T c:Nat) (wr:World):Prop:=
 ∃zs,Own B wr ao k cap zs/\ Below B w wr/\ val zs+T=S+10^k*c
theorem mD [Ol] (a0 b0:Option Addr) (la ca lb cb a b:Nat) (w:World) (ha:Sl w a0 la ca (limbs a)) (hb:Sl w b0 lb cb (limbs b)) (hge:b<=a) (hra:la<=4398046511104):
  Calls Tryz.prog 153 #[a0c a0 la ca,a0c b0 lb cb] w (gP w (limbs (a-b))):=by
 obtain⟨i0,hi,hz0,hz1,hz2⟩:=info_parts Tryz.nK;have hlb:lb<=la:=by rw[<-ha.len,<-hb.len];exact qD hge
 have ze:=hid hge;clear hge;obtain⟨xs,hxs⟩:∃xs,xs=limbs a:=⟨_,rfl⟩;obtain⟨ys,hys⟩:∃ys,ys=limbs b:=⟨_,rfl⟩;have HXV:Hid (val xs=a):=by rw[Hid,hxs,au]
 have HYV:Hid (val ys=b):=by rw[Hid,hys,au]
 rw[<-hxs]at ha;rw[<-hys]at hb;clear hxs hys;go_enter Tryz.func153,Tryz.ntmps153;go_wp2;go_loopw [5,6,7,8] (λo c i _ wr=>∃(k cc:Nat) (gu:Option Addr) (cap':Nat),k<=la/\ cc<=1/\ i= .int .i64 ((k:Nat):Int)/\ c= .int .i64 ((cc:Nat):Int)/\ o=a0c gu k cap'/\ x9 w.heap.size w gu k cap' (val (xs.take k)) (val (ys.take k)) cc wr) (λ_ _ i _ _=>la-(intOf i).toNat)
 case atStart=>exact⟨0,0,none,0,a0l _,a0l _,rfl,rfl,rfl,[],Own.nil _ _,a0b _ _,by simp[val]⟩
 case round=>
  obtain⟨k,cc,gu,cap',hk,hcc,rfl,rfl,rfl,zs,hO,hB,hV⟩:=hrel;have hsz:=hB.size;by_cases hka:k<la
  ·obtain⟨pa,CQ,rfl,hpa,hca⟩:=ha.at (by omega);have hxc:wr.cell? ⟨pa,CQ+k,none⟩=some (.int .i64 (xs.getD k 0:Nat)):=(hB.cell (by exact hpa)).trans (hca k (by omega));have hxl:=ha.getD_lt k;have hyl:=hb.getD_lt k;have hstep:=TJ (u:=xs.getD k 0) (y:=ys.getD k 0) hO.len hxl hyl hcc hV;rw[eH xs k,eH ys k]at hstep;obtain⟨u,hu⟩:∃u,u=xs.getD k 0:=⟨_,rfl⟩;rw[<-hu]at hxc hxl hstep;clear hu hca;by_cases hkb:k<lb
   ·obtain⟨pb,K5,rfl,hpb,hcb⟩:=hb.at (by omega);have KY:wr.cell? ⟨pb,K5+k,none⟩=some (.int .i64 (ys.getD k 0:Nat)):=(hB.cell (by exact hpb)).trans (hcb k (by omega));obtain⟨y,hy⟩:∃y,y=ys.getD k 0:=⟨_,rfl⟩;rw[<-hy]at KY hyl hstep;clear hy hcb;by_cases hn:u<y+cc
    ·skip
     have hneg:u<y+cc:=by omega
     have hD:jG u y cc=u+10-y-cc:=by unfold jG;omega
     have hB1:jM u y cc=1:=by unfold jM;rw[if_pos hneg]
     rw[hD,hB1]at hstep;have HST:=hid hstep;clear hV hstep hD hB1;go_wp2_with (at_builtin;refine eD wr w rfl (.tmp 35) (.tmp 37) 43 rfl w.heap.size 3 i0 (.int .i64 0) 8 Tryz.j6 hi hz0 hz1 hz2 rfl _ _ _ _ rfl hO.row _ rfl 3 rfl hB hsz (by unfold maxLen;omega) (by omega) ?_;intro vH kC w1 hown1 hB2 _);go_roundw
     case rel=>exact⟨k+1,1,vH,kC,by omega,by omega,by go_num,by go_num,rfl,_,Own.push (u+10-y-cc) hown1 (by go_num) (by omega) hO.wf (by omega),hB2,HST.out⟩
     case measure=>simp[intOf];omega
    ·skip
     have hneg:y+cc<=u:=by omega
     have hD:jG u y cc=u-y-cc:=by unfold jG;omega
     have hB1:jM u y cc=0:=by unfold jM;rw[if_neg (by omega)]
     rw[hD,hB1]at hstep;have HST:=hid hstep;clear hV hstep hD hB1;go_wp2_with (at_builtin;refine eD wr w rfl (.tmp 35) (.tmp 37) 43 rfl w.heap.size 3 i0 (.int .i64 0) 8 Tryz.j6 hi hz0 hz1 hz2 rfl _ _ _ _ rfl hO.row _ rfl 3 rfl hB hsz (by unfold maxLen;omega) (by omega) ?_;intro vH kC w1 hown1 hB2 _);go_roundw
     case rel=>exact⟨k+1,0,vH,kC,by omega,by omega,by go_num,by go_num,rfl,_,Own.push (u-y-cc) hown1 (by go_num) (by omega) hO.wf (by omega),hB2,HST.out⟩
     case measure=>simp[intOf];omega
   ·have hy0:ys.getD k 0=0:=pU ys k (by rw[hb.len];omega);rw[hy0]at hstep;clear hy0 hyl;by_cases hn:u<0+cc
    ·skip
     have hneg:u<0+cc:=by omega
     have hD:jG u 0 cc=u+10-0-cc:=by unfold jG;omega
     have hB1:jM u 0 cc=1:=by unfold jM;rw[if_pos hneg]
     rw[hD,hB1]at hstep;have HST:=hid hstep;clear hV hstep hD hB1;go_wp2_with (at_builtin;refine eD wr w rfl (.tmp 35) (.tmp 37) 43 rfl w.heap.size 3 i0 (.int .i64 0) 8 Tryz.j6 hi hz0 hz1 hz2 rfl _ _ _ _ rfl hO.row _ rfl 3 rfl hB hsz (by unfold maxLen;omega) (by omega) ?_;intro vH kC w1 hown1 hB2 _);go_roundw
     case rel=>exact⟨k+1,1,vH,kC,by omega,by omega,by go_num,by go_num,rfl,_,Own.push (u+10-0-cc) hown1 (by go_num) (by omega) hO.wf (by omega),hB2,HST.out⟩
     case measure=>simp[intOf];omega
    ·skip
     have hneg:0+cc<=u:=by omega
     have hD:jG u 0 cc=u-0-cc:=by unfold jG;omega
     have hB1:jM u 0 cc=0:=by unfold jM;rw[if_neg (by omega)]
     rw[hD,hB1]at hstep;have HST:=hid hstep;clear hV hstep hD hB1;go_wp2_with (at_builtin;refine eD wr w rfl (.tmp 35) (.tmp 37) 43 rfl w.heap.size 3 i0 (.int .i64 0) 8 Tryz.j6 hi hz0 hz1 hz2 rfl _ _ _ _ rfl hO.row _ rfl 3 rfl hB hsz (by unfold maxLen;omega) (by omega) ?_;intro vH kC w1 hown1 hB2 _);go_roundw
     case rel=>exact⟨k+1,0,vH,kC,by omega,by omega,by go_num,by go_num,rfl,_,Own.push (u-0-cc) hown1 (by go_num) (by omega) hO.wf (by omega),hB2,HST.out⟩
     case measure=>simp[intOf];omega
  ·obtain rfl:k=la:=by omega
   have hS:val zs+b=a+10^k*cc:=by
    rw[dz xs k ha.len,a0k (by rw[hb.len];exact hlb),HXV.out,HYV.out]at hV;exact hV
   have hcut:=nQ _ _ _ _ _ _ hO
   have ht:val zs=a-b:=by
    have h1:=eG zs hO.wf;rw[hO.len]at h1;have h2:=ze.out;rcases a0D cc with h3|h3
    ·subst h3;omega
    ·obtain rfl:cc=1:=by omega
     omega
   rw[ht]at hcut;have mJ:=hid hcut;clear ht hV hS hcut;go_wp2_with fail;refine mJ.out.mono λe w' h=>?_
   obtain⟨Il,kk,cap2,rfl,h3,rfl⟩:=h;go_wp2_with fail;go_ret;exact⟨_,_,_,rfl,h3,hB⟩
end Go.Proofs.YtmenbpmciblnlaaGreatDoor.Dg
/- The contract of porismref01.Mul. -/
namespace Go.Proofs.YtmenbpmciblnlaaGreatDoor.Dg
open Go.RowKit
theorem Ja {zs:List Nat} {p c S m:Nat} (hp:p<zs.length) (h:val zs+10^p*c=S):
  val (zs.set p ((c+zs.getD p 0+m)%10))+10^(p+1)*((c+zs.getD p 0+m)/10)=S+10^p*m:=by
 have h1:=jW zs p ((c+zs.getD p 0+m)%10) hp;generalize zs.getD p 0=u at*
 have h2:10^p*((c+u+m)%10)+10^(p+1)*((c+u+m)/10)=10^p*u+10^p*c+10^p*m:=by
  rw[a0n,a0o,<-a0p,<-a0p,<-a0p]
  congr 1
  omega
 omega
def BX (B g n:Nat) (w:World) (S p c:Nat) (wr:World):Prop:=
 ∃zs,Own B wr (some ⟨g,0,none⟩) n n zs/\ Below B w wr/\ val zs+10^p*c=S
theorem Wp (X Y i k x y:Nat):X+10^i*x*Y+10^(i+k)*(x*y)=X+10^i*x*(Y+10^k*y):=by
 rw[a0G,a0p]
 have:10^i*10^k*(x*y)=10^i*x*(10^k*y):=by
  simp only[a0o,Nat.mul_left_comm,a0w]
 omega
theorem Wq {X:Nat} {xs:List Nat} {i Y:Nat} (h:X=val (xs.take i)*Y):X+10^i*xs.getD i 0*Y=val (xs.take (i+1))*Y:=by
 rw[h,<-eH xs i,a0q]
theorem Jb {xs:List Nat} (hw:Wf xs) (i:Nat):val (xs.take i)<10^i:=by
 have h:=eG _ (hw.take i);refine a0C h (a0F (by omega) ?_);rw[List.length_take];omega
theorem tY [Ol] (a0 b0:Option Addr) (la ca lb cb:Nat) (xs ys:List Nat) (w:World) (ha:Sl w a0 la ca xs) (hb:Sl w b0 lb cb ys) (hra:la<=1000000) (hrb:lb<=1000000):
  Calls Tryz.prog 156 #[a0c a0 la ca,a0c b0 lb cb] w (gP w (limbs (val xs*val ys))):=by
 obtain⟨i0,hi,hz0,hz1,hz2⟩:=info_parts Tryz.nK;have HYL:Hid (val ys<10^lb):=by have:=eG ys hb.wf;rwa[hb.len]at this
 have HXL:Hid (∀i,val (xs.take i)<10^i):=λi=>Jb ha.wf i
 have HYT:Hid (∀k,lb<=k->val (ys.take k)=val ys):=λk hk=>by rw[a0k (by rw[hb.len];exact hk)]
 go_enter Tryz.func156,Tryz.ntmps156;go_wp2_with (at_make;refine wpList_make_full _ rfl _ _ 43 rfl w.heap.size 3 i0 (.int .i64 0) 1 Tryz.j6 hi hz0 hz1 _ _ _ _ (la+lb+1) rfl rfl (by omega) (by omega) ?b2 ?b3 (a0m _) ?_)
 case b2=>rw[hz2];omega
 case b3=>unfold maxLen;omega
 intro w1 hown1 hgrow1;rw[Bb]at hown1;have hb1:Below w.heap.size w w1:=(a0b _ _).grown hgrow1 (a0m _) (λk h=>by cases h)
 have oq:Own w.heap.size w1 (some ⟨w.heap.size,0,none⟩) (la+lb+1) (la+lb+1) (a0e (la+lb+1) 0):=
  ⟨hown1,by omega,λx hx=>by rw[(a0f.1 hx).2];omega⟩
 clear hown1 hgrow1;have hI1:BX w.heap.size w.heap.size (la+lb+1) w (val (xs.take 0)*val ys) 0 0 w1:=⟨_,oq,hb1,by rw[iA];simp[val]⟩;clear oq hb1;go_wp2_with fail;go_loopw [6] (λi wr=>∃k:Nat,k<=la/\ i= .int .i64 ((k:Nat):Int)/\ BX w.heap.size w.heap.size (la+lb+1) w (val (xs.take k)*val ys) 0 0 wr) (λi _=>la-(intOf i).toNat)
 case atStart=>exact⟨0,a0l _,rfl,hI1⟩
 case round=>
  clear hI1;obtain⟨i,am8,rfl,hI⟩:=hrel;obtain⟨wo,rfl⟩:∃wo:World,wo=wr:=⟨_,rfl⟩;by_cases hin:i<la
  ·obtain⟨S0,hS0⟩:∃S0,S0=val (xs.take i)*val ys:=⟨_,rfl⟩;rw[<-hS0]at hI;have Ci:=a0a hS0;have ah1:Hid (S0+10^i*xs.getD i 0*val ys=val (xs.take (i+1))*val ys):=Wq hS0
   have ah2:Hid (val (xs.take (i+1))*val ys<10^(i+1+lb)):=by
    rw[Hid,a0G];have h1:=HXL.out (i+1);have h2:=HYL.out;rcases a0D (val ys)with h3|h3
    ·rw[h3,a0t];exact Nat.mul_pos (a0H (by omega)) (a0H (by omega))
    ·exact a0C (Nat.mul_lt_mul_of_pos_right h1 h3) (a0I _ (by omega))
   clear hS0;obtain⟨pa,CQ,rfl,hpa,hca⟩:=ha.at (by omega);have XR:Hid (w.cell? ⟨pa,CQ+i,none⟩=some (.int .i64 (xs.getD i 0:Nat))):=hca i (by omega);have hxl:=ha.getD_lt i;obtain⟨x,hx⟩:∃x,x=xs.getD i 0:=⟨_,rfl⟩;rw[<-hx]at XR hxl ah1;clear hx hca
   have hI2:BX w.heap.size w.heap.size (la+lb+1) w (S0+10^i*x*val (ys.take 0)) (i+0) 0 wo:=by
    obtain⟨zs,h1,h2,h3⟩:=hI;exact⟨zs,h1,h2,by simp[val]at h3 ⊢;exact h3⟩
   clear hI;go_wp2_with fail;go_loopw [7,8] (λc kk wr=>∃k cc:Nat,k<=lb+1/\ cc<=9/\ kk= .int .i64 ((k:Nat):Int)/\ c= .int .i64 ((cc:Nat):Int)/\ BX w.heap.size w.heap.size (la+lb+1) w (S0+10^i*x*val (ys.take k)) (i+k) cc wr) (λ_ kk _=>lb+1-(intOf kk).toNat)
   case atStart=>exact⟨0,0,a0l _,a0l _,rfl,rfl,hI2⟩
   case round=>
    clear hI2;obtain⟨k,cc,hk,hcc,rfl,rfl,zs,hO,hB,hV⟩:=hrel;have hac:wr.cell? ⟨pa,CQ+i,none⟩=some (.int .i64 ((x:Nat):Int)):=(hB.cell (by exact hpa)).trans XR.out;by_cases hkb:k<lb
    ·obtain⟨pb,K5,rfl,hpb,hcb⟩:=hb.at (by omega);have hbc:wr.cell? ⟨pb,K5+k,none⟩=some (.int .i64 (ys.getD k 0:Nat)):=(hB.cell (by exact hpb)).trans (hcb k (by omega));have hyl:=hb.getD_lt k;have hzc:=hO.cell (i+k) (by omega);have zH:=hO.frozen (i+k);have hzl:=hO.getD_lt (i+k);have hstep:=Ja (m:=x*ys.getD k 0) (by rw[hO.len];omega) hV;rw[Wp,eH ys k]at hstep;obtain⟨y,hy⟩:∃y,y=ys.getD k 0:=⟨_,rfl⟩;obtain⟨z,hz⟩:∃z,z=zs.getD (i+k) 0:=⟨_,rfl⟩;rw[<-hy]at hbc hyl hstep;rw[<-hz]at hzc hzl hstep;have hml:x*y<=81:=a0r (show x<=9 by omega) (show y<=9 by omega);obtain⟨m,hm⟩:∃m,m=x*y:=⟨_,rfl⟩;have hmI:((x:Nat):Int)*((y:Nat):Int)=((m:Nat):Int):=by rw[hm,Int.natCast_mul]
     rw[<-hm]at hstep hml;have HST:=a0a hstep;clear hy hz hm hV hstep hcb;have hii:((i:Nat):Int)<((la:Nat):Int):=by omega
     have hkk:((k:Nat):Int)<((lb:Nat):Int):=by omega
     go_wp2_with fail;have hw1:IntKind.i64.wrap ((m:Nat):Int)=((m:Nat):Int):=wrap_i64 _ (by omega);have hw2:IntKind.i64.wrap (((cc:Nat):Int)+((z:Nat):Int)+((m:Nat):Int))=((cc:Nat):Int)+((z:Nat):Int)+((m:Nat):Int):=IntWalk.i64_in _ (by omega);go_quiet (fail);clear hw1 hw2;go_wp2_with fail;go_roundw
     case rel=>exact⟨k+1,(cc+z+m)/10,by omega,by omega,by go_num,by go_num,_,by have:=(hO.drewN nq).set (i+k) ((cc+z+m)%10) (a0s _ (by omega));simpa using this,(hB.trans (below_drewN _ _ nq)).setCell (a0m _) _,by rw[<-a0J];exact HST.out⟩
     case measure=>simp[intOf];omega
    ·have hkd:decide (k<lb)=false:=by simp;omega
     have hS2:val zs+10^(i+k)*cc=val (xs.take (i+1))*val ys:=by
      rw[HYT.out k (by omega),ah1.out]at hV;exact hV
     by_cases hc0:0<cc
     ·have hik:k<=lb:=by
       rcases a0E lb k with h|h
       ·obtain rfl:k=lb+1:=by omega
        have h1:=ah2.out;have h2:10^(i+(lb+1))*1<=10^(i+(lb+1))*cc:=a0I _ hc0;rw[show i+1+lb=i+(lb+1)from by omega]at h1;omega
       ·exact h
      have hzc:=hO.cell (i+k) (by omega);have zH:=hO.frozen (i+k);have hzl:=hO.getD_lt (i+k);have hstep:=Ja (m:=0) (by rw[hO.len];omega) hV;rw[a0t,a0u,HYT.out k (by omega),<-HYT.out (k+1) (by omega)]at hstep;obtain⟨z,hz⟩:∃z,z=zs.getD (i+k) 0:=⟨_,rfl⟩;rw[<-hz]at hzc hzl hstep;have HST:=a0a hstep;clear hz hV hstep hS2;go_wp2_with fail;go_roundw
      case rel=>exact⟨k+1,(cc+z+0)/10,by omega,by omega,by go_num,by go_num,_,by have:=hO.set (i+k) ((cc+z+0)%10) (a0s _ (by omega));simpa using this,hB.setCell (a0m _) _,by rw[<-a0J];exact HST.out⟩
      case measure=>simp[intOf];omega
     ·have hcd:decide (0<cc)=false:=by simp;omega
      have CP:BX w.heap.size w.heap.size (la+lb+1) w (val (xs.take (i+1))*val ys) 0 0 wr:=by
       refine⟨zs,hO,hB,?_⟩;obtain rfl:cc=0:=by omega
       simpa using hS2
      clear hV hS2;go_wp2_with fail;go_roundw
      case rel=>exact⟨i+1,by omega,by go_num,CP⟩
      case measure=>simp[intOf];omega
  ·obtain rfl:i=la:=by omega
   obtain⟨zs,hO,hB,hV⟩:=hI;have hcut:=nQ _ _ _ _ _ _ hO
   have ht:val zs=val xs*val ys:=by
    rw[dz xs i ha.len]at hV;simpa using hV
   rw[ht]at hcut;have mJ:=a0a hcut;clear ht hV hcut;go_wp2_with fail;refine mJ.out.mono λe w' h=>?_
   obtain⟨Il,kk,cap2,rfl,h3,rfl⟩:=h;go_wp2_with fail;go_ret;exact⟨_,_,_,rfl,h3,hB⟩
end Go.Proofs.YtmenbpmciblnlaaGreatDoor.Dg
/- The contract of porismref01.DivMod. -/
namespace Go.Proofs.YtmenbpmciblnlaaGreatDoor.Dg
open Lib (hid)
open Go.RowKit
theorem Jc [Ol] {P:Program} (wa w0:World) {ops:Array Oper} {rest:List Oper} {o:Oper} {a:Act} {Q:Exit->Act->World->Prop}
  (hg:o.guard=none) (s x:Operand) (t:TypeId) (hop:o.op=Op.call { callee:=Callee.builtin Builtin.append,args:= #[s,x],argTypes:= #[t,t] })
  (B:Nat) (i:TypeInfo) (z:Value) (h1:P.underlying t=some (.slice 3)) (h2:P.info? 3=some i) (h3:i.zero=some z) (h4:i.size=1) (h5:i.bytes=8) (h6:z.cells.size=1)
  (Nt:Option Addr) (ns caps:Nat) (zs:List Nat) (hs:a.eval s=a0c Nt ns caps) (hO:Own B wa Nt ns caps zs) (ao:Option Addr) (n cap:Nat) (xs:List Nat) (hx:a.eval x=a0c ao n cap) (hS:Sl wa ao n cap xs)
  (hb:Below B w0 wa) (hB:B<=wa.heap.size) (hroom:ns+n<=17592186044416)
  (hK:∀gu cap' w',Own B w' gu (ns+n) cap' (zs++xs)->Below B w0 w'->wpList P ops Q rest (a.put o.dst (a0c gu (ns+n) cap')) w'):
  wpList P ops Q (o::rest) a wa:=by
 cases ao with
 |none=>
  have hn:n=0:=by have:=hS.nil rfl;have:=hS.le;omega
  have hc:cap=0:=hS.nil rfl;subst hn;subst hc;have hxs:xs=[]:=List.eq_nil_of_length_eq_zero hS.len;subst hxs;refine wpList_plain hg λK hK'=>?_
  have hrun:=run_append_owned_none (P:=P) wa B t o.type 3 i 1 h1 h2 _ ns (cellsOf zs) hO.row;unfold Oper.wp;simp[execOp,hop,resolve,invoke,builtin,hs,hx,hrun,Result.andThen];exact hK' _ _ (by simpa using hK Nt caps wa (by simpa using hO) hb)
 |some ad=>
  refine wpList_append_own _ hg s x t hop B 3 i z 1 8 h1 h2 h3 h4 h5 h6 (by decide) _ ns (cellsOf zs) hs hO.row ad n cap (cellsOf xs) hx (by rw[bq,hS.len,Nat.mul_one]) ?_ (iR xs) (by unfold maxLen;omega) (by omega) hB ?_
  ·intro j u hj;have hjl:j<n:=by have:=(List.getElem?_eq_some_iff.1 hj).1;rwa[bq,hS.len]at this
   rw[hS.cells ad rfl j hjl,<-hj,gX xs j (by rw[hS.len];exact hjl)]
  ·intro v' w' hown' hgrow _
   have hsh:∃gu cap',v'=a0c gu (ns+n) cap':=by
    rcases hown'.2 with⟨hv,h0⟩|⟨g,cap,cur,hv,_⟩
    ·exact⟨none,0,by rw[hv,h0]⟩
    ·exact⟨_,_,hv⟩
   obtain⟨gu,cap',rfl⟩:=hsh;refine hK gu cap' w' ⟨by rw[gJ];exact hown',hroom,λy hy=>?_⟩ (hb.grown hgrow hB λk hk=>(hO.row.lt k hk).1);rcases List.mem_append.1 hy with hy|hy
   ·exact hO.wf y hy
   ·exact hS.wf y hy
def Z9 (g i:Nat) (w:World):Nat:=match w.cell? ⟨g,i,none⟩with|some v=>(intOf v).toNat|none=>0
theorem TK {g i z:Nat} {w:World} (h:w.cell? ⟨g,i,none⟩=some (.int .i64 ((z:Nat):Int))):Z9 g i w=z:=by
 unfold Z9;rw[h];simp[intOf]
def ah3 [Ol] (w:World) (q r:Nat) (e:Ending) (w':World):Prop:=
 ∃ao n cap gu n' cap',e= .returned (.tuple #[a0c ao n cap,a0c gu n' cap'])/\ Sl w' ao n cap (limbs q)/\ Sl w' gu n' cap' (limbs r)/\ Below w.heap.size w w'
structure sK [Ol] (g la:Nat) (w:World) (X:List Nat) (Bv j:Nat) (ao:Option Addr) (L cap:Nat) (R:Nat) (zs:List Nat) (wr:World):Prop where
 own:Own w.heap.size wr (some ⟨g,0,none⟩) la la zs
 rest:Sl wr ao L cap (limbs R)
 far:∀ad,ao=some ad->ad.block≠g
 below:Below w.heap.size w wr
theorem Pj {q Bv R d R':Nat} (h:q*Bv+R'=d+10*R) (hR:R<Bv) (hd:d<10) (hge:Bv<=R'):q+1<10:=by
 rcases a0E (q+1) 10 with h1|h1
 ·exact h1
 ·have h2:10*Bv<=(q+1)*Bv:=Nat.mul_le_mul_right _ h1;rw[a0q]at h2;omega
theorem Ws {q V R R' d Bv X Y:Nat} (h1:q*Bv+R'=d+10*R) (h2:V*Bv+R=X) (h3:Y=d+10*X):(q+10*V)*Bv+R'=Y:=by
 rw[h3,<-h2,a0q,a0p,a0o];omega
theorem sK.step [Ol] {g la:Nat} {w:World} {X:List Nat} {Bv j:Nat} {ao:Option Addr} {L cap R:Nat} {zs:List Nat} {wr w':World} (h:sK g la w X Bv j ao L cap R zs wr) (hb:Below wr.heap.size wr w'):sK g la w X Bv j ao L cap R zs w':=
 ⟨h.own.below hb,h.rest.below hb,h.far,Go.Proofs.YtmenbpmciblnlaaGreatDoor.Below.steps h.below hb⟩
theorem nG [Ol] (a0 b0:Option Addr) (la ca lb cb:Nat) (xs:List Nat) (Bv:Nat) (w:World) (ha:Sl w a0 la ca xs) (hb:Sl w b0 lb cb (limbs Bv)) (hBv:0<Bv) (hra:la<=1000000) (hrb:lb<=1000000):
  Calls Tryz.prog 104 #[a0c a0 la ca,a0c b0 lb cb] w (ah3 w (val xs/Bv) (val xs%Bv)):=by
 obtain⟨i0,hi,hz0,hz1,hz2⟩:=info_parts Tryz.nK;have hbl:=hb.len;have HLB:Hid (Bv<10^lb):=by have:=eG (limbs Bv) hb.wf;rwa[au,hb.len]at this
 clear hbl;go_enter Tryz.func104,Tryz.ntmps104;go_wp2_with (at_make;refine wpList_make_full _ rfl _ _ 43 rfl w.heap.size 3 i0 (.int .i64 0) 1 Tryz.j6 hi hz0 hz1 _ _ _ _ la rfl rfl rfl rfl ?b2 ?b3 (a0m _) ?_)
 case b2=>rw[hz2];omega
 case b3=>unfold maxLen;omega
 intro w1 hown1 hgrow1;rw[Bb]at hown1;have hb1:Below w.heap.size w w1:=(a0b _ _).grown hgrow1 (a0m _) (λk h=>by cases h)
 have oq:Own w.heap.size w1 (some ⟨w.heap.size,0,none⟩) la la (a0e la 0):=
  ⟨hown1,by omega,λx hx=>by rw[(a0f.1 hx).2];omega⟩
 clear hown1 hgrow1;have HI1:Hid (sK w.heap.size la w xs Bv la none 0 0 0 (a0e la 0) w1):=⟨oq,by rw[iy];exact Sl.none _,(λ_ h=>by cases h),hb1⟩
 have Dl:Hid (val ((a0e la 0).drop la)*Bv+0=val (xs.drop la)):=by
  show _=_;rw[a0g (by simp),a0g (by rw[ha.len];exact a0m _),dY,a0v]
 clear oq hb1;go_wp2_with fail;go_loopw [7,8] (λr i wr=>∃(j R L:Nat) (ao:Option Addr) (cap:Nat) (zs:List Nat),j<=la/\ i= .int .i64 ((j:Int)-1)/\ r=a0c ao L cap/\ L<=lb/\ R<Bv/\ sK w.heap.size la w xs Bv j ao L cap R zs wr/\ Hid (∀t,t<j->zs.getD t 0=0)/\ Hid (val (zs.drop j)*Bv+R=val (xs.drop j))) (λ_ i _=>(intOf i+1).toNat)
 case atStart=>exact⟨la,0,0,none,0,_,a0m _,rfl,rfl,a0l _,hBv,HI1.out,λt _=>eB _ _,Dl⟩
 case round=>
  clear HI1 Dl;obtain⟨j,R,L,ao,cap,zs,hj,rfl,rfl,hL,hR,hI,HZ,hV⟩:=hrel;obtain⟨wo,rfl⟩:∃wo:World,wo=wr:=⟨_,rfl⟩;by_cases hj0:j=0
  ·subst hj0;have hcut:=nQ _ _ _ _ _ _ hI.own
   have hq:val zs=val xs/Bv/\ R=val xs%Bv:=by
    have h0:=hV.out;simp only[a0h]at h0;have h1:val xs=R+Bv*val zs:=by rw[<-h0,a0w];omega
    rw[h1];exact⟨by rw[a0x _ _ hBv,a0y hR,a0z],by rw[a0A,a0B hR]⟩
   rw[hq.1]at hcut;have mJ:=hid hcut;have HR:Hid (Sl wo ao L cap (limbs (val xs%Bv))):=by rw[Hid,<-hq.2];exact hI.rest
   have HB:=hid hI.below;clear hV hcut hq hI hR;go_wp2_with fail;refine mJ.out.mono λe w' h=>?_
   obtain⟨Il,kk,cap2,rfl,h3,rfl⟩:=h;go_wp2_with fail;go_ret2;exact⟨_,_,_,_,_,_,rfl,h3.sl,HR.out,HB.out⟩
  ·obtain⟨i,rfl⟩:∃i,j=i+1:=⟨j-1,by omega⟩;have ei:((i+1:Nat):Int)-1=(i:Int):=by omega
   rw[ei];clear ei;obtain⟨pa,CQ,rfl,hpa,hca⟩:=ha.at (by omega);have hac:wo.cell? ⟨pa,CQ+i,none⟩=some (.int .i64 (xs.getD i 0:Nat)):=(hI.below.cell (by exact hpa)).trans (hca i (by omega));have hdl:=ha.getD_lt i;have hdrop:=iL xs i (by rw[ha.len];omega);obtain⟨d,hd⟩:∃d,d=xs.getD i 0:=⟨_,rfl⟩;rw[<-hd]at hac hdl hdrop;have HDR:=hid hdrop;have hO0:=Own.lit wo [d] (by intro x hx;simp at hx;omega) (by simp);have HO0:Hid (Own wo.heap.size (wo.alloc (.cells #[.int .i64 ((d:Nat):Int)] 3)) (some ⟨wo.heap.size,0,none⟩) 1 1 [d]):=hO0;have Ci:Hid (Sl (wo.alloc (.cells #[.int .i64 ((d:Nat):Int)] 3)) ao L cap (limbs R)):=hI.rest.below ((a0b _ _).alloc (a0m _) _);have HB0:Hid (Below wo.heap.size wo (wo.alloc (.cells #[.int .i64 ((d:Nat):Int)] 3))):=(a0b _ _).alloc (a0m _) _;have HI:=hid hI;clear hd hca hdrop hO0 hI hj0;go_wp2_with (at_builtin;refine Jc _ wo rfl (.tmp 23) (.tmp 24) 43 rfl wo.heap.size i0 (.int .i64 0) Tryz.j6 hi hz0 hz1 hz2 rfl _ _ _ _ rfl HO0.out _ _ _ _ rfl Ci.out HB0.out (by simp) (by omega) ?_;intro vH kC w2 hO2 hB2);have hcut:=nQ _ _ _ _ _ _ hO2
   have hv1:val ([d]++limbs R)=d+10*R:=by
    rw[List.singleton_append,bB,au]
   rw[hv1]at hcut;have hl1:(limbs (d+10*R)).length<=lb+1:=gD (by have:=HLB.out;rw[a0n];omega);have SK:=hid hl1;have mJ:=hid hcut;clear hcut hv1 hl1 hO2 HO0 Ci HB0;go_wp2_with fail;refine mJ.out.mono λe w' h=>?_
   obtain⟨Il,n2,cap2,rfl,hO3,rfl⟩:=h;have hn2:n2<=lb+1:=by rw[<-hO3.len];exact SK.out
   have hI2:sK w.heap.size la w xs Bv i Il n2 cap2 (d+10*R) zs w2:=
    ⟨HI.out.own.below hB2,hO3.sl,LZ hO3 (by have:=HI.out.own.parts;rcases this with⟨h,_⟩|⟨g,h,_,h2,_⟩<;>first|(simp at h;omega)|cases h),Go.Proofs.YtmenbpmciblnlaaGreatDoor.Below.steps HI.out.below hB2⟩
   have HI2:=hid hI2;have HQ0:Hid (zs.getD i 0*Bv+(d+10*R)=d+10*R):=by rw[Hid,HZ.out i (by omega),a0v,a0z]
   have HZ2:Hid (∀t,t<i->zs.getD t 0=0):=λt ht=>HZ.out t (by omega)
   clear mJ SK hO3 hI2 hB2;go_wp2_with fail;go_loopw [7] (λr wr=>∃(R' L':Nat) (gu:Option Addr) (cap':Nat) (zs':List Nat),r=a0c gu L' cap'/\ L'<=lb+1/\ sK w.heap.size la w xs Bv i gu L' cap' R' zs' wr/\ Hid (∀t,t<i->zs'.getD t 0=0)/\ Hid (val (zs'.drop (i+1))=val (zs.drop (i+1)))/\ Hid (zs'.getD i 0*Bv+R'=d+10*R)) (λ_ wr=>10-Z9 w.heap.size i wr)
   case atStart=>exact⟨_,n2,Il,cap2,zs,rfl,hn2,HI2.out,HZ2,rfl,HQ0⟩
   case round=>
    clear HI2 HQ0 HZ2 hn2 HI;obtain⟨R',L',gu,cap',zs',rfl,hL',hI',HZ',HDP,HQ⟩:=hrel;by_cases hlt:R'<Bv
    ·have HC:Hid (gG R' Bv= -1):=by rw[Hid];unfold gG;rw[if_pos hlt]
     have hL2:(limbs R').length<=lb:=gD (by have:=HLB.out;omega);have hL3:L'<=lb:=by rw[<-hI'.rest.len];exact hL2
     have Px:Hid (val (zs'.drop i)*Bv+R'=val (xs.drop i)):=by
      rw[Hid,iL zs' i (by rw[hI'.own.len];omega)];exact Ws HQ.out (by rw[HDP.out];exact hV.out) HDR.out
     have hbS:=hb.below hI'.below;clear hL2;go_wp2_with fail;refine(qC (-1) _ _ _ _ _ _ _ _ _ hI'.rest hbS HC).mono ?_;rintro e w3 ⟨rfl,hB3⟩;have CP:=hI'.step hB3;clear hI' hbS hB3;go_wp2_with fail;go_roundw
     case rel=>exact⟨i,R',L',gu,cap',zs',by omega,by go_num,rfl,hL3,hlt,CP,HZ',Px⟩
     case measure=>simp[intOf]
    ·obtain⟨c,hc⟩:∃c,c=gG R' Bv:=⟨_,rfl⟩;have hc0:0<=c:=by rw[hc];unfold gG;rw[if_neg hlt];split<;>omega
     have HC:Hid (gG R' Bv=c):=hc.symm;have hbS:=hb.below hI'.below;have hqd:=Pj HQ.out hR hdl (by omega);obtain⟨z,hz⟩:∃z,z=zs'.getD i 0:=⟨_,rfl⟩;rw[<-hz]at hqd HQ;have TW:=hid hz;have ze:Hid (Bv<=R'):=by rw[Hid];omega
     have HM:Hid (Z9 w.heap.size i wr=z):=TK (by rw[hz];exact hI'.own.cell i (by omega))
     have hsl:(limbs (R'-Bv)).length<=lb+1:=by
      have h1:=qD (show R'-Bv<=R' by omega);rw[hI'.rest.len]at h1;omega
     have HSL:=hid hsl;clear hc hz hlt hsl;go_wp2_with fail;refine(qC c _ _ _ _ _ _ _ _ _ hI'.rest hbS HC).mono ?_;rintro e w3 ⟨rfl,hB3⟩;have CP:=hI'.step hB3;have ah4:=hbS.below hB3;clear hI' hbS hB3;go_wp2_with fail;refine(mD _ _ _ _ _ _ R' Bv _ CP.rest ah4 ze.out (by omega)).mono ?_;rintro e w4 ⟨ao4,n4,cap4,rfl,hO4,hB4⟩;have hn4:n4<=lb+1:=by rw[<-hO4.len];exact HSL.out
     have hOq:=CP.own.below hB4;have hBq:=Go.Proofs.YtmenbpmciblnlaaGreatDoor.Below.steps CP.below hB4;have ah5:=hid (LZ hO4 (g:=w.heap.size) (by have:=CP.own.parts;rcases this with⟨h,_⟩|⟨g,h,_,h2,_⟩<;>first|(simp at h;omega)|cases h));have hS4:=hO4.sl;clear CP ah4 hO4 hB4 HSL;have hzc:=hOq.cell i (by omega);rw[<-TW.out]at hzc;have zH:=hOq.frozen i
     have hI5:Hid (sK w.heap.size la w xs Bv i ao4 n4 cap4 (R'-Bv) (zs'.set i (z+1)) (w4.setCell ⟨w.heap.size,i,none⟩ (.int .i64 (((z+1:Nat)):Int)))):=
      ⟨hOq.set i (z+1) hqd,hS4.Oc ah5.out _,ah5.out,hBq.setCell (a0m _) _⟩
     have Zy:Hid ((w4.setCell ⟨w.heap.size,i,none⟩ (.int .i64 (((z+1:Nat)):Int))).cell? ⟨w.heap.size,i,none⟩=some (.int .i64 (((z+1:Nat)):Int))):=by
      have:=hI5.out.own.cell i (by omega);rw[fP,if_pos ⟨rfl,by rw[hOq.len];omega⟩]at this;exact this
     have MU:Hid (∀t,t<i->(zs'.set i (z+1)).getD t 0=0):=by
      intro t ht;rw[fP,if_neg (by omega)];exact HZ'.out t ht
     have HD5:Hid (val ((zs'.set i (z+1)).drop (i+1))=val (zs.drop (i+1))):=by rw[Hid,a0i (by omega)];exact HDP.out
     have Yx:Hid ((zs'.set i (z+1)).getD i 0*Bv+(R'-Bv)=d+10*R):=by
      rw[Hid,fP,if_pos ⟨rfl,by rw[hOq.len];omega⟩,a0q,Nat.one_mul,<-HQ.out];have:=ze.out;omega
     clear hOq hBq hS4;go_wp2_with fail;go_roundw
     case rel=>
      refine⟨R'-Bv,n4,ao4,cap4,_,rfl,hn4,?_,MU,HD5,Yx⟩;simpa using hI5.out
     case measure=>
      have e1:=TK Zy.out;have e2:=HM.out;show 10-Z9 w.heap.size i _<10-Z9 w.heap.size i wr;rw[e2];have e3:((z:Nat):Int)+1=((z+1:Nat):Int):=by omega
      rw[e3,e1];omega
end Go.Proofs.YtmenbpmciblnlaaGreatDoor.Dg
