import Derived.Test.YtmenbpmciblnlaaGreatDoorGNatA
import Derived.Shelf.Small.Bits
set_option maxHeartbeats 0
set_option maxRecDepth 100000
open Go renaming World->ah5
open List renaming drop_eq_nil_of_le->ai0,getD->ah9,getElem?_eq_none->ai1,length_set->ah8,length_take->ai2,mem_replicate->ah7,replicate->ah6
open Nat renaming le_refl->ai3,lt_or_ge->ai8,min_eq_left->ai9,mod_lt->ai5,pow_le_pow_right->ai6,pow_mul->aj0,zero_div->ai7,zero_le->ai4
namespace Go.Proofs.YtmenbpmciblnlaaGreatDoor
section
open Lib (hid)
open Go.RowKit
def Pn (B:Nat) (ao:Option Addr) (n ae:Nat) (w:ah5) (sk bb V k:Nat) (wr:ah5):Prop:=
 ∃zs,bX B wr ao n ae zs/\ Below B w wr/\ au zs=4294967296^sk*V*2^bb/\ zs.getD (sk+k) 0<2^bb/\∀t,sk+k<t->zs.getD t 0=0
theorem RN (ao:Z') (n ae:Nat) (xs:List Nat) (s:Nat) (w:ah5) (ha:Sl w ao n ae xs) (hs:s<=1048576) (hroom:n<35184372000000):
  Calls Tryz.prog 272 #[.slice ao n ae,.int .i64 (s:Int)] w (Gg w (aq (au xs*2^s)) 0):=by
 have n1:=fV xs;rw[ha.len]at n1;have b1:=ha.big;have l1:=ha.le;obtain⟨m,hm⟩:∃m,m=nl xs:=⟨_,rfl⟩;rw[<-hm]at n1;have HM:Hid (nl xs=m):=hm.symm;clear hm;obtain⟨i0,hi,hz0,hz1,hz2⟩:=info_parts Tryz.fx;by_cases hm0:m=0
 ·subst hm0;go_enter Tryz.func272,Tryz.ntmps272;go_wp2_with fail;refine(vI s _ (by omega) (by omega)).mono ?_;rintro e w' ⟨rfl,rfl⟩;go_wp2_with fail;refine(cK 0 _ _ _ _ _ ha HM).mono ?_;rintro e w' ⟨rfl,rfl⟩;go_wp2_with fail;go_ret2;have:au xs=0:=iM.1 (jg HM.o);exact⟨_,_,_,rfl,by rw[this,Nat.zero_mul];exact bX.nil _ _,Below.refl _ _⟩
 ·have hb0:(((m:Nat):Int)==0)=false:=by simp;omega
  have ae5:s/32<=32768:=by omega
  obtain⟨b,off,rfl,hbb,hcell⟩:=ha.at (by omega);have HC:=hid hcell;clear hcell;go_enter Tryz.func272,Tryz.ntmps272;go_wp2_with fail;refine(vI _ _ (by omega) (by omega)).mono ?_;rintro e w' ⟨rfl,rfl⟩;go_wp2_with fail;refine(cK m _ _ _ _ _ ha HM).mono ?_;rintro e w' ⟨rfl,rfl⟩;go_wp2_with (at_make;refine wpList_make_full _ rfl _ _ 27 rfl w.heap.size 192 i0 (.int .u32 0) 1 Tryz.underlying27 hi hz0 hz1 _ _ _ _ (s/32+m+1) rfl rfl (by omega) (by omega) ?b2 ?b3 (ai3 _) ?_)
  case b2=>rw[hz2];omega
  case b3=>unfold maxLen;omega
  intro w1 hown1 hgrow1;rw[gX]at hown1;have hb1:Below w.heap.size w w1:=(Below.refl _ _).grown hgrow1 (ai3 _) (λk h=>by cases h)
  have mK:bX w.heap.size w1 (some ⟨w.heap.size,0,none⟩) (s/32+m+1) (s/32+m+1) (ah6 (s/32+m+1) 0):=
   ⟨hown1,by omega,λx hx=>by rw[(ah7.1 hx).2];omega⟩
  clear hown1 hgrow1
  have hI1:Pn w.heap.size (some ⟨w.heap.size,0,none⟩) (s/32+m+1) (s/32+m+1) w (s/32) (s%32) (au (xs.take 0)) 0 w1:=by
   exact⟨_,mK,hb1,by rw[fG];simp[au],by rw[dp];exact Nat.two_pow_pos _,λt _=>dp _ _⟩
  clear mK hb1;go_wp2_with fail;go_loopw [10,11,12,34] (λ_ _ _ i wr=>∃k:Nat,k<=m/\ i= .int .i64 k/\ Pn w.heap.size (some ⟨w.heap.size,0,none⟩) (s/32+m+1) (s/32+m+1) w (s/32) (s%32) (au (xs.take k)) k wr) (λ_ _ _ i _=>m-(intOf i).toNat)
  case atStart=>exact⟨0,ai4 _,rfl,hI1⟩
  case round=>
   clear hI1;obtain⟨k,hk,rfl,zs,hO,hB,hV,hlt,hz⟩:=hrel;by_cases hkm:k<m
   ·have hxc:wr.cell? ⟨b,off+k,none⟩=some (.int .u32 (xs.getD k 0:Nat)):=(hB.cell (by exact hbb)).trans (HC.o k (by omega));have hxl:=ha.bJ k;obtain⟨x,hx⟩:∃x,x=xs.getD k 0:=⟨_,rfl⟩;rw[<-hx]at hxc hxl;have HX:=hid hx;have hzc:=hO.cell (s/32+k) (by omega);have vy:=hO.frozen (s/32+k);have ae6:=hO.cell (s/32+k+1) (by omega);have ah4:=hO.frozen (s/32+k+1);obtain⟨z,hz0⟩:∃z,z=zs.getD (s/32+k) 0:=⟨_,rfl⟩;rw[<-hz0]at hzc hlt;have HZ:=hid hz0;have HV:=hid hV;have HT:=hid hz;have Zc:=hid hlt;clear hx hz0 hV hz hlt;have TJ:zs.getD (s/32+k+1) 0=0:=HT.o _ (by omega);rw[TJ]at ae6;clear TJ;go_wp2;go_roundw
    case rel=>
     refine⟨k+1,by omega,by go_num,?_⟩;have hd:s%32<32:=ai5 _ (by omega);rw[Vx z x _ hxl hd Zc.o,Vy x _ hxl hd];refine⟨_,(hO.set (s/32+k) _ (zW x _ z hd Zc.o)).set (s/32+k+1) _ (by have:=zX x (s%32) hxl;have h2:2^(s%32)<=2^31:=ai6 (by omega) (by omega);omega),(hB.setCell (ai3 _) _).setCell (ai3 _) _,?_,?_,λt ht=>?_⟩
     ·have hst:=OD (zs:=zs) (j:=s/32+k) (x:=x) (d:=s%32) (by rw[hO.len];omega) (HT.o _ (by omega));rw[<-HZ.o]at hst;rw[hst,BP _ k _ x _ _ HV.o,bC xs k (by rw[ha.len];omega),<-HX.o]
     ·rw[<-Nat.add_assoc,eH,if_pos ⟨rfl,by rw[ah8,hO.len];omega⟩];exact zX x _ hxl
     ·rw[eH,if_neg (by omega),eH,if_neg (by omega)];exact HT.o t (by omega)
    case measure=>simp[intOf];omega
   ·obtain rfl:k=m:=by omega
    have hcut:=qw _ _ _ _ _ _ hO
    have ht:bE zs=aq (au xs*2^s):=by
     rw[cq _ hO.wf,hV,<-HM.o,rD,Nat.mul_comm _ (au xs),Nat.mul_assoc,zY]
    rw[ht]at hcut;have ko:=hid hcut;clear ht hV hcut hlt hz;go_wp2_with fail;refine ko.o.mono λe w' h=>?_
    obtain⟨eP,kk,cap',rfl,h3,rfl⟩:=h;go_wp2_with fail;go_ret2;exact⟨_,_,_,rfl,h3,hB⟩
end
section
open Lib (hid)
open Go.RowKit
def Po (B:Nat) (ao:Option Addr) (n ae:Nat) (w:ah5) (D:List Nat) (s j up:Nat) (wr:ah5):Prop:=
 ∃zs,bX B wr ao n ae zs/\ Below B w wr/\ au (zs.drop j)=au (D.drop j)/2^s/\ up=D.getD j 0
theorem RO (ao:Z') (n ae:Nat) (xs:List Nat) (s:Nat) (w:ah5) (ha:Sl w ao n ae xs) (hs:s<=1048576):
  Calls Tryz.prog 273 #[.slice ao n ae,.int .i64 (s:Int)] w (Gg w (aq (au xs/2^s)) 0):=by
 have n1:=fV xs;rw[ha.len]at n1;have b1:=ha.big;have l1:=ha.le;obtain⟨L,hL⟩:∃L,L=nl xs:=⟨_,rfl⟩;rw[<-hL]at n1;have HL:Hid (nl xs=L):=hL.symm;clear hL;have ae5:s/32<=32768:=by omega
 obtain⟨i0,hi,hz0,hz1,hz2⟩:=info_parts Tryz.fx;by_cases hm0:L<=s/32
 ·have hle:((L:Nat):Int)-((s/32:Nat):Int)<=0:=by omega
  go_enter Tryz.func273,Tryz.ntmps273;go_wp2_with fail;refine(vI s _ (by omega) (by omega)).mono ?_;rintro e w' ⟨rfl,rfl⟩;go_wp2_with fail;refine(cK L _ _ _ _ _ ha HL).mono ?_;rintro e w' ⟨rfl,rfl⟩;go_wp2_with fail;go_ret2;have h1:=jC ha.wf (s/32) (by rw[HL.o];exact hm0);have:au xs/2^s=0:=by rw[<-I2,Nat.div_eq_of_lt h1,ai7]
  exact⟨_,_,_,rfl,by rw[this];exact bX.nil _ _,Below.refl _ _⟩
 ·obtain⟨m,hm⟩:∃m,m=L-s/32:=⟨_,rfl⟩;have Mh:Hid (m=L-s/32):=hm;have hm1:0<m:=by omega
  have hm2:s/32+m<=L:=by omega
  have Iz:L<=s/32+m:=by omega
  have hmv:((L:Nat):Int)-((s/32:Nat):Int)=(m:Int):=by omega
  have ZR:((L:Nat):Int)-((s:Nat):Int)/32=(m:Int):=by omega
  have HMV:=hid ZR;clear hm hmv ZR;obtain⟨b,off,rfl,hbb,hcell⟩:=ha.at (by omega);have HC:=hid hcell;clear hcell
  have HD:Hid (((bE xs).drop (s/32)).length=m):=by
   show _=_;rw[List.length_drop,show(bE xs).length=L from HL.o];omega
  have HDG:Hid (∀t,t<m->((bE xs).drop (s/32)).getD t 0=xs.getD (s/32+t) 0):=by
   intro t ht;rw[<-ey xs (s/32+t) (by rw[HL.o];omega)];simp[ah9,List.getElem?_drop]
  have HDV:Hid (au ((bE xs).drop (s/32))/2^(s%32)=au xs/2^s):=by
   show _=_;rw[I3 xs ha.wf,I2]
  obtain⟨D,hD⟩:∃D,D=(bE xs).drop (s/32):=⟨_,rfl⟩;rw[<-hD]at HD HDG HDV;clear hD;go_enter Tryz.func273,Tryz.ntmps273;go_wp2_with fail;refine(vI _ _ (by omega) (by omega)).mono ?_;rintro e w' ⟨rfl,rfl⟩;go_wp2_with fail;refine(cK L _ _ _ _ _ ha HL).mono ?_;rintro e w' ⟨rfl,rfl⟩;go_wp2_with (at_make;refine wpList_make_full _ rfl _ _ 27 rfl w.heap.size 192 i0 (.int .u32 0) 1 Tryz.underlying27 hi hz0 hz1 _ _ _ _ m rfl rfl (by omega) (by omega) ?b2 ?b3 (ai3 _) ?_)
  case b2=>rw[hz2];omega
  case b3=>unfold maxLen;omega
  intro w1 hown1 hgrow1;rw[gX]at hown1;have hb1:Below w.heap.size w w1:=(Below.refl _ _).grown hgrow1 (ai3 _) (λk h=>by cases h)
  have mK:bX w.heap.size w1 (some ⟨w.heap.size,0,none⟩) m m (ah6 m 0):=
   ⟨hown1,by omega,λx hx=>by rw[(ah7.1 hx).2];omega⟩
  clear hown1 hgrow1
  have hI1:Po w.heap.size (some ⟨w.heap.size,0,none⟩) m m w D (s%32) m 0 w1:=by
   refine⟨_,mK,hb1,?_,?_⟩
   ·rw[ai0 (by simp),ai0 (by rw[HD.o];exact ai3 _),di,ai7]
   ·simp[ah9,ai1 (show D.length<=m by rw[HD.o];exact ai3 _)]
  clear mK hb1;go_wp2_with fail;go_loopw [10,11,12] (λab i _ wr=>∃j up:Nat,j<=m/\ i= .int .i64 ((j:Int)-1)/\ ab= .int .u32 up/\ Po w.heap.size (some ⟨w.heap.size,0,none⟩) m m w D (s%32) j up wr) (λ_ i _ _=>(intOf i+1).toNat)
  case atStart=>exact⟨m,0,ai3 _,by rw[HMV.o],rfl,hI1⟩
  case round=>
   clear hI1;obtain⟨j,up,hj,rfl,rfl,zs,hO,hB,hV,hup⟩:=hrel;by_cases hj0:j=0
   ·subst hj0;have hcut:=qw _ _ _ _ _ _ hO
    have ht:bE zs=aq (au xs/2^s):=by
     rw[cq _ hO.wf];simp only[List.drop_zero]at hV;rw[hV,HDV.o]
    rw[ht]at hcut;have ko:=hid hcut;clear ht hV hcut hup;go_wp2_with fail;refine ko.o.mono λe w' h=>?_
    obtain⟨eP,kk,cap',rfl,h3,rfl⟩:=h;go_wp2_with fail;go_ret2;exact⟨_,_,_,rfl,h3,hB⟩
   ·obtain⟨i,rfl⟩:∃i,j=i+1:=⟨j-1,by omega⟩;have ei:((i+1:Nat):Int)-1=(i:Int):=by omega
    rw[ei];have EI:=hid ei;clear ei;have hxc:wr.cell? ⟨b,off+(s/32+i),none⟩=some (.int .u32 (xs.getD (s/32+i) 0:Nat)):=(hB.cell (by exact hbb)).trans (HC.o _ (by omega));have hxl:=ha.bJ (s/32+i);obtain⟨x,hx⟩:∃x,x=xs.getD (s/32+i) 0:=⟨_,rfl⟩;rw[<-hx]at hxc hxl;have HX:Hid (x=D.getD i 0):=by show _=_;rw[HDG.o i (by omega),hx]
    have vy:=hO.frozen i;have hzc:=hO.cell i (by omega);obtain⟨z,hz⟩:∃z,z=zs.getD i 0:=⟨_,rfl⟩;rw[<-hz]at hzc;clear hz
    have LI:up<4294967296:=by
     rw[hup];by_cases h:i+1<m
     ·rw[HDG.o (i+1) h];exact ha.bJ _
     ·simp[ah9,ai1 (show D.length<=i+1 by rw[HD.o];omega)]
    have HV:=hid hV;have Y8:=hid hup;clear hx hV hup hj0;go_wp2;go_roundw
    case rel=>
     refine⟨i,x,by omega,by go_num,rfl,?_⟩;rw[OH up x _ LI hxl];refine⟨_,hO.set i _ (R5 _ _ _),hB.setCell (ai3 _) _,?_,HX.o⟩;rw[gw _ i (by rw[ah8,hO.len];omega),eH,if_pos ⟨rfl,by rw[hO.len];omega⟩,List.drop_set_of_lt (by omega),HV.o,gw D i (by rw[HD.o];omega),<-HX.o];refine(OG _ (au (D.drop (i+2))) up x _ (ai5 _ (by omega)) hxl ?_).symm;rw[Y8.o];by_cases h:i+1<m
     ·exact gw D (i+1) (by rw[HD.o];exact h)
     ·rw[ai0 (by rw[HD.o];omega),ai0 (by rw[HD.o];omega)];simp[ah9,ai1 (show D.length<=i+1 by rw[HD.o];omega),au]
    case measure=>simp[intOf]
end
section
open Go.Shelf
def Tryz.Ez:Go.Shelf.Ren:=⟨λ|128=>191|n=>n,λ|51=>192|3=>3|4=>4|46=>228|5=>5|9=>9|n=>n,λ|n=>n⟩
theorem Tryz.SD:Go.Proofs.Lays.n128 Tryz.prog Tryz.Ez:={
 mixed:=by kernel_rfl
 f128:=Tryz.func191.trans (congrArg some (by kernel_rfl))
 t3:=Tryz.underlying3
 a3:=Tryz.isAgg3
 z3:=Tryz.sizeOf3
 v3:=Tryz.zeroValue3
 t4:=Tryz.underlying4
 a4:=Tryz.isAgg4
 z4:=Tryz.sizeOf4
 v4:=Tryz.zeroValue4
 t5:=Tryz.underlying5
 a5:=Tryz.isAgg5
 z5:=Tryz.sizeOf5
 v5:=Tryz.zeroValue5
 t9:=Tryz.underlying9
 a9:=Tryz.isAgg9
 z9:=Tryz.sizeOf9
 v9:=Tryz.zeroValue9
 t46:=Tryz.underlying228
 a46:=Tryz.isAgg228
 z46:=Tryz.sizeOf228
 v46:=Tryz.zeroValue228
 t51:=Tryz.underlying192
 a51:=Tryz.isAgg192
 z51:=Tryz.sizeOf192
 v51:=Tryz.zeroValue192 }
theorem zP (x:Int) (w:ah5) (h0:0<=x) (h1:x<=4294967295):
  Calls Tryz.prog 191 #[.int .u32 x] w λe w'=>e= .returned (.int .i64 (Lib.bitLen x.toNat))/\ w'=w:=Any.bits_Len32 Tryz.SD x w h0 h1
end
section
open Go.RowKit
theorem Pp (ao:Z') (n ae:Nat) (xs:List Nat) (w:ah5) (hs:Sl w ao n ae xs):
  Calls Tryz.prog 143 #[.slice ao n ae] w λe w'=>e= .returned (.int .i64 (eM (au xs):Nat))/\ w=w':=by
 have hle:=hs.le;have hbig:=hs.big;have hnl:nl xs<=n:=by have:=fV xs;rw[hs.len]at this;exact this
 obtain⟨m,hm⟩:∃m,m=nl xs:=⟨_,rfl⟩;rw[<-hm]at hnl;have HM:Hid (nl xs=m):=hm.symm;clear hm;by_cases h0:m=0
 ·subst h0;go_enter Tryz.func143,Tryz.ntmps143;go_wp2_with (go_at_call 179;refine(cK 0 _ _ _ _ _ hs HM).mono ?_;rintro e w' ⟨rfl,rfl⟩);go_ret;have:au xs=0:=iM.1 (jg HM.o);exact⟨fe (by rw[this];rfl),rfl⟩
 ·obtain⟨k,rfl⟩:∃k,m=k+1:=⟨m-1,by omega⟩;have hb0:((((k+1:Nat):Nat):Int)==0)=false:=by simp;omega
  obtain⟨b,off,rfl,hb,hcell⟩:=hs.at (by omega);have hc:=hcell k (by omega);obtain⟨x,hx⟩:∃x,x=xs.getD k 0:=⟨_,rfl⟩;have Wa:x<4294967296:=by rw[hx];exact hs.bJ k
  rw[<-hx]at hc
  have H:Hid (eM (au xs)=32*k+eM x/\ eM x<=32):=by
   refine⟨by rw[hx];exact zV hs.wf k HM.o,sP (by simpa using Wa)⟩
  have HL:Hid (Lib.bitLen x=eM x):=sO x Wa;have hbl:Lib.bitLen x<=32:=by rw[HL.o];exact H.o.2
  clear hx hcell;go_enter Tryz.func143,Tryz.ntmps143
  go_wp2_with (first
   |(go_at_call 179;refine(cK (k+1) _ _ _ _ _ hs HM).mono ?_;rintro e w' ⟨rfl,rfl⟩)
   |(go_at_call 191;refine(zP _ _ (by omega) (by omega)).mono ?_;rintro e w' ⟨rfl,rfl⟩;rw[Int.toNat_natCast]))
  go_ret;refine⟨fe ?_,rfl⟩;rw[H.o.1,HL.o];omega
end
section
open Go.RowKit
theorem fJ (k:Nat) (ao:Z') (n ae:Nat) (xs:List Nat) (w:ah5) (hs:Sl w ao n ae xs) (hk:eM (au xs)=k):
  Calls Tryz.prog 143 #[.slice ao n ae] w λe w'=>e= .returned (.int .i64 (k:Nat))/\ w=w':=by
 rw[<-hk];exact Pp ao n ae xs w hs
theorem xj {xs:List Nat} (h:au xs<18446744073709551616):nl xs<=2:=by
 rcases ai8 2 (nl xs)with h1|h1
 ·obtain⟨k,hk⟩:∃k,nl xs=k+1:=⟨nl xs-1,by omega⟩;have h2:=eh k hk;have h3:4294967296^2<=4294967296^k:=ai6 (by omega) (by omega);have e:(4294967296:Nat)^2=18446744073709551616:=by decide
  omega
 ·exact h1
theorem Bo {xs:List Nat} (hw:Wf xs) (h:18446744073709551616<=au xs):2<nl xs:=by
 rcases ai8 2 (nl xs)with h1|h1
 ·exact h1
 ·have h2:=jC hw 2 h1;have e:(4294967296:Nat)^2=18446744073709551616:=by decide
  omega
end
section
open Go.RowKit
theorem iK (n:Nat) (w:ah5) (hn:n<=18446744073709551615):
  Calls Tryz.prog 141 #[.int .u64 (n:Int)] w (fW w (aq n)):=by
 go_enter Tryz.func141,Tryz.ntmps141;go_wp2_with fail;have e1:((n:Nat):Int)%4294967296=((n%4294967296:Nat):Int):=by omega
 have e2:((n:Nat):Int)/4294967296=((n/4294967296:Nat):Int):=by omega
 rw[e1,e2];clear e1 e2
 have hw:∀x∈[n%4294967296,n/4294967296],x<4294967296:=by
  intro x hx;simp at hx;omega
 have ho:=bX.lit w [n%4294967296,n/4294967296] hw (by simp)
 have ht:bE [n%4294967296,n/4294967296]=aq n:=by
  rw[cq _ hw,bu,bu,di]
  congr 1
  omega
 have hc:=qw _ _ _ _ _ _ ho;rw[ht]at hc;refine hc.mono λe w' h=>?_
 obtain⟨ao,k,ae,rfl,h3,rfl⟩:=h;go_wp2_with fail;go_ret;exact⟨_,_,_,rfl,h3,(Below.refl _ _).alloc (ai3 _) _⟩
end
section
open Go.RowKit
theorem qm (ao:Z') (n ae:Nat) (xs:List Nat) (w:ah5) (hs:Sl w ao n ae xs) (h2:2<nl xs):
  Calls Tryz.prog 210 #[.slice ao n ae] w λe w'=>e= .returned (.tuple #[.int .u64 0,.bool false])/\ w=w':=by
 have hle:=hs.le;have hbig:=hs.big;have hnl:nl xs<=n:=by have:=fV xs;rw[hs.len]at this;exact this
 obtain⟨m,hm⟩:∃m,m=nl xs:=⟨_,rfl⟩;rw[<-hm]at hnl h2;have HM:Hid (nl xs=m):=hm.symm;clear hm;go_enter Tryz.func210,Tryz.ntmps210;go_wp2_with (go_at_call 179;refine(cK m _ _ _ _ _ hs HM).mono ?_;rintro e w' ⟨rfl,rfl⟩);go_ret2;exact⟨rfl,rfl⟩
theorem Hc (ao:Z') (n ae:Nat) (xs:List Nat) (w:ah5) (hs:Sl w ao n ae xs) (h2:nl xs<=2):
  Calls Tryz.prog 210 #[.slice ao n ae] w λe w'=>e= .returned (.tuple #[.int .u64 (au xs:Nat),.bool true])/\ w=w':=by
 have hle:=hs.le;have hbig:=hs.big;have hnl:nl xs<=n:=by have:=fV xs;rw[hs.len]at this;exact this
 obtain⟨m,hm⟩:∃m,m=nl xs:=⟨_,rfl⟩;rw[<-hm]at hnl h2;have HM:Hid (nl xs=m):=hm.symm;clear hm;go_enter Tryz.func210,Tryz.ntmps210;go_wp2_with (go_at_call 179;refine(cK m _ _ _ _ _ hs HM).mono ?_;rintro e w' ⟨rfl,rfl⟩);go_loop [5,6,12] (λs _ i=>∃k:Nat,k<=m/\ i= .int .i64 k/\ s= .int .u64 (au (xs.take k):Nat)) (λ_ _ i=>m-(intOf i).toNat)
 case atStart=>exact⟨0,ai4 _,rfl,rfl⟩
 case round=>
  obtain⟨k,hk,rfl,rfl⟩:=hrel;by_cases hkm:k<m
  ·obtain⟨b,off,rfl,hb,hcell⟩:=hs.at (by omega);have hc:=hcell k (by omega);obtain⟨x,hx⟩:∃x,x=xs.getD k 0:=⟨_,rfl⟩;have Wa:x<4294967296:=by rw[hx];exact hs.bJ k
   rw[<-hx]at hc;have HX:=Lib.hid hx;clear hx hcell;obtain⟨s,hs0⟩:∃s,s=au (xs.take k):=⟨_,rfl⟩;rw[<-hs0];have HS:=Lib.hid hs0;clear hs0;go_wp2;go_roundw
   case rel=>
    refine⟨k+1,by omega,by go_num,?_⟩
    have hsl:s<4294967296^k:=by
     rw[HS.o];have:=dG _ (Wf.take hs.wf k);rwa[ai2,hs.len,ai9 (by omega)]at this
    have hv:au (xs.take (k+1))=2^(32*k)*x+s:=by
     rw[cv xs k (by rw[hs.len];omega),bW,ai2,hs.len,ai9 (by omega),bu,di,<-HS.o,<-HX.o,aj0];simp;omega
    have hk2:k=0∨k=1:=by omega
    have hb:2^(32*k)*x+s<18446744073709551616:=by rcases hk2 with rfl|rfl<;>simp at* <;>omega
    rw[hv,show((x:Nat):Int)*2^(32*k)=((2^(32*k)*x:Nat):Int)from by rw[Int.mul_comm];simp,pN _ (by omega),Vv s x (32*k) (by rwa[aj0]) hb]
   case measure=>simp[intOf];omega
  ·go_wp2;go_ret2;obtain rfl:k=m:=by omega
   refine⟨?_,rfl⟩;rw[<-HM.o,<-cF,dC];rfl
theorem vF (x:Nat) (ao:Z') (n ae:Nat) (xs:List Nat) (w:ah5) (hs:Sl w ao n ae xs) (h2:nl xs<=2) (hx:au xs=x):
  Calls Tryz.prog 210 #[.slice ao n ae] w λe w'=>e= .returned (.tuple #[.int .u64 (x:Nat),.bool true])/\ w=w':=by
 rw[<-hx];exact Hc ao n ae xs w hs h2
end
end Go.Proofs.YtmenbpmciblnlaaGreatDoor
