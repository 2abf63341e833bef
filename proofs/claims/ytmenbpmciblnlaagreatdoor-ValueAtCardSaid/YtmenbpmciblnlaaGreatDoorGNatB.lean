/- Shl, Shr, Shelf, Bits, Bits2, Small, Word -/
import Derived.Test.YtmenbpmciblnlaaGreatDoorGNatA
import Derived.Shelf.Small.Bits
set_option maxHeartbeats 0
set_option maxRecDepth 100000
open List renaming drop_eq_nil_of_le->a0e,getD->a0d,getElem?_eq_none->a0f,length_set->a0c,length_take->a0g,mem_replicate->a0b,replicate->a0a
open Nat renaming le_refl->a0h,lt_or_ge->a0m,min_eq_left->a0n,mod_lt->a0j,pow_le_pow_right->a0k,pow_mul->a0o,zero_div->a0l,zero_le->a0i
/- The contract of nat.Shl: the number times a power of two. -/
namespace Go.Proofs.YtmenbpmciblnlaaGreatDoor
section
open Lib (hid)
open Go.RowKit
def TL (B:Nat) (ao:Option Addr) (n cap:Nat) (w:World) (sk bb V k:Nat) (wr:World):Prop:=
 ∃zs,Own B wr ao n cap zs/\ Below B w wr/\ val zs=4294967296^sk*V*2^bb/\ zs.getD (sk+k) 0<2^bb/\∀t,sk+k<t->zs.getD t 0=0
theorem VJ (ao:Option Addr) (n cap:Nat) (xs:List Nat) (s:Nat) (w:World) (ha:Sl w ao n cap xs) (hs:s<=1048576) (hroom:n<35184372000000):
  Calls Tryz.prog 272 #[.slice ao n cap,.int .i64 (s:Int)] w (Kt w (limbs (val xs*2^s)) 0):=by
 have n1:=iP xs;rw[ha.len]at n1;have b1:=ha.big;have l1:=ha.le;obtain⟨m,hm⟩:∃m,m=nl xs:=⟨_,rfl⟩;rw[<-hm]at n1;have HM:Hid (nl xs=m):=hm.symm;clear hm;obtain⟨i0,hi,hz0,hz1,hz2⟩:=info_parts Tryz.gV;by_cases hm0:m=0
 ·subst hm0;go_enter Tryz.func272,Tryz.ntmps272;go_wp2_with fail;refine(zR s _ (by omega) (by omega)).mono ?_;rintro e w' ⟨rfl,rfl⟩;go_wp2_with fail;refine(dI 0 _ _ _ _ _ ha HM).mono ?_;rintro e w' ⟨rfl,rfl⟩;go_wp2_with fail;go_ret2;have:val xs=0:=kz.1 (kL HM.out);exact⟨_,_,_,rfl,by rw[this,Nat.zero_mul];exact Own.nil _ _,Below.refl _ _⟩
 ·have hb0:(((m:Nat):Int)==0)=false:=by simp;omega
  have ak6:s/32<=32768:=by omega
  obtain⟨b,off,rfl,hbb,hcell⟩:=ha.at (by omega);have HC:=hid hcell;clear hcell;go_enter Tryz.func272,Tryz.ntmps272;go_wp2_with fail;refine(zR _ _ (by omega) (by omega)).mono ?_;rintro e w' ⟨rfl,rfl⟩;go_wp2_with fail;refine(dI m _ _ _ _ _ ha HM).mono ?_;rintro e w' ⟨rfl,rfl⟩;go_wp2_with (at_make;refine wpList_make_full _ rfl _ _ 27 rfl w.heap.size 192 i0 (.int .u32 0) 1 Tryz.underlying27 hi hz0 hz1 _ _ _ _ (s/32+m+1) rfl rfl (by omega) (by omega) ?b2 ?b3 (a0h _) ?_)
  case b2=>rw[hz2];omega
  case b3=>unfold maxLen;omega
  intro w1 hown1 hgrow1;rw[jy]at hown1;have hb1:Below w.heap.size w w1:=(Below.refl _ _).grown hgrow1 (a0h _) (λk h=>by cases h)
  have oq:Own w.heap.size w1 (some ⟨w.heap.size,0,none⟩) (s/32+m+1) (s/32+m+1) (a0a (s/32+m+1) 0):=
   ⟨hown1,by omega,λx hx=>by rw[(a0b.1 hx).2];omega⟩
  clear hown1 hgrow1
  have hI1:TL w.heap.size (some ⟨w.heap.size,0,none⟩) (s/32+m+1) (s/32+m+1) w (s/32) (s%32) (val (xs.take 0)) 0 w1:=by
   exact⟨_,oq,hb1,by rw[iA];simp[val],by rw[eB];exact Nat.two_pow_pos _,λt _=>eB _ _⟩
  clear oq hb1;go_wp2_with fail;go_loopw [10,11,12,34] (λ_ _ _ i wr=>∃k:Nat,k<=m/\ i= .int .i64 k/\ TL w.heap.size (some ⟨w.heap.size,0,none⟩) (s/32+m+1) (s/32+m+1) w (s/32) (s%32) (val (xs.take k)) k wr) (λ_ _ _ i _=>m-(intOf i).toNat)
  case atStart=>exact⟨0,a0i _,rfl,hI1⟩
  case round=>
   clear hI1;obtain⟨k,hk,rfl,zs,hO,hB,hV,hlt,hz⟩:=hrel;by_cases hkm:k<m
   ·have hxc:wr.cell? ⟨b,off+k,none⟩=some (.int .u32 (xs.getD k 0:Nat)):=(hB.cell (by exact hbb)).trans (HC.out k (by omega));have hxl:=ha.getD_lt k;obtain⟨x,hx⟩:∃x,x=xs.getD k 0:=⟨_,rfl⟩;rw[<-hx]at hxc hxl;have HX:=hid hx;have hzc:=hO.cell (s/32+k) (by omega);have zH:=hO.frozen (s/32+k);have ak7:=hO.cell (s/32+k+1) (by omega);have am9:=hO.frozen (s/32+k+1);obtain⟨z,hz0⟩:∃z,z=zs.getD (s/32+k) 0:=⟨_,rfl⟩;rw[<-hz0]at hzc hlt;have HZ:=hid hz0;have HV:=hid hV;have HT:=hid hz;have HLT:=hid hlt;clear hx hz0 hV hz hlt;have Xv:zs.getD (s/32+k+1) 0=0:=HT.out _ (by omega);rw[Xv]at ak7;clear Xv;go_wp2;go_roundw
    case rel=>
     refine⟨k+1,by omega,by go_num,?_⟩;have hd:s%32<32:=a0j _ (by omega);rw[Zc z x _ hxl hd HLT.out,Ze x _ hxl hd];refine⟨_,(hO.set (s/32+k) _ (D8 x _ z hd HLT.out)).set (s/32+k+1) _ (by have:=Ea x (s%32) hxl;have h2:2^(s%32)<=2^31:=a0k (by omega) (by omega);omega),(hB.setCell (a0h _) _).setCell (a0h _) _,?_,?_,λt ht=>?_⟩
     ·have hst:=Tg (zs:=zs) (j:=s/32+k) (x:=x) (d:=s%32) (by rw[hO.len];omega) (HT.out _ (by omega));rw[<-HZ.out]at hst;rw[hst,FP _ k _ x _ _ HV.out,bE xs k (by rw[ha.len];omega),<-HX.out]
     ·rw[<-Nat.add_assoc,fP,if_pos ⟨rfl,by rw[a0c,hO.len];omega⟩];exact Ea x _ hxl
     ·rw[fP,if_neg (by omega),fP,if_neg (by omega)];exact HT.out t (by omega)
    case measure=>simp[intOf];omega
   ·obtain rfl:k=m:=by omega
    have hcut:=uh _ _ _ _ _ _ hO
    have ht:bG zs=limbs (val xs*2^s):=by
     rw[di _ hO.wf,hV,<-HM.out,vE,Nat.mul_comm _ (val xs),Nat.mul_assoc,Eb]
    rw[ht]at hcut;have mJ:=hid hcut;clear ht hV hcut hlt hz;go_wp2_with fail;refine mJ.out.mono λe w' h=>?_
    obtain⟨gu,kk,cap',rfl,h3,rfl⟩:=h;go_wp2_with fail;go_ret2;exact⟨_,_,_,rfl,h3,hB⟩
end
/- The contract of nat.Shr: the number divided by a power of two, rounded down. -/
section
open Lib (hid)
open Go.RowKit
def TM (B:Nat) (ao:Option Addr) (n cap:Nat) (w:World) (D:List Nat) (s j up:Nat) (wr:World):Prop:=
 ∃zs,Own B wr ao n cap zs/\ Below B w wr/\ val (zs.drop j)=val (D.drop j)/2^s/\ up=D.getD j 0
theorem VK (ao:Option Addr) (n cap:Nat) (xs:List Nat) (s:Nat) (w:World) (ha:Sl w ao n cap xs) (hs:s<=1048576):
  Calls Tryz.prog 273 #[.slice ao n cap,.int .i64 (s:Int)] w (Kt w (limbs (val xs/2^s)) 0):=by
 have n1:=iP xs;rw[ha.len]at n1;have b1:=ha.big;have l1:=ha.le;obtain⟨L,hL⟩:∃L,L=nl xs:=⟨_,rfl⟩;rw[<-hL]at n1;have HL:Hid (nl xs=L):=hL.symm;clear hL;have ak6:s/32<=32768:=by omega
 obtain⟨i0,hi,hz0,hz1,hz2⟩:=info_parts Tryz.gV;by_cases hm0:L<=s/32
 ·have hle:((L:Nat):Int)-((s/32:Nat):Int)<=0:=by omega
  go_enter Tryz.func273,Tryz.ntmps273;go_wp2_with fail;refine(zR s _ (by omega) (by omega)).mono ?_;rintro e w' ⟨rfl,rfl⟩;go_wp2_with fail;refine(dI L _ _ _ _ _ ha HL).mono ?_;rintro e w' ⟨rfl,rfl⟩;go_wp2_with fail;go_ret2;have h1:=lG ha.wf (s/32) (by rw[HL.out];exact hm0);have:val xs/2^s=0:=by rw[<-Mk,Nat.div_eq_of_lt h1,a0l]
  exact⟨_,_,_,rfl,by rw[this];exact Own.nil _ _,Below.refl _ _⟩
 ·obtain⟨m,hm⟩:∃m,m=L-s/32:=⟨_,rfl⟩;have Ls:Hid (m=L-s/32):=hm;have hm1:0<m:=by omega
  have hm2:s/32+m<=L:=by omega
  have hm3:L<=s/32+m:=by omega
  have hmv:((L:Nat):Int)-((s/32:Nat):Int)=(m:Int):=by omega
  have ah6:((L:Nat):Int)-((s:Nat):Int)/32=(m:Int):=by omega
  have HMV:=hid ah6;clear hm hmv ah6;obtain⟨b,off,rfl,hbb,hcell⟩:=ha.at (by omega);have HC:=hid hcell;clear hcell
  have HD:Hid (((bG xs).drop (s/32)).length=m):=by
   show _=_;rw[List.length_drop,show(bG xs).length=L from HL.out];omega
  have HDG:Hid (∀t,t<m->((bG xs).drop (s/32)).getD t 0=xs.getD (s/32+t) 0):=by
   intro t ht;rw[<-fK xs (s/32+t) (by rw[HL.out];omega)];simp[a0d,List.getElem?_drop]
  have HDV:Hid (val ((bG xs).drop (s/32))/2^(s%32)=val xs/2^s):=by
   show _=_;rw[Mq xs ha.wf,Mk]
  obtain⟨D,hD⟩:∃D,D=(bG xs).drop (s/32):=⟨_,rfl⟩;rw[<-hD]at HD HDG HDV;clear hD;go_enter Tryz.func273,Tryz.ntmps273;go_wp2_with fail;refine(zR _ _ (by omega) (by omega)).mono ?_;rintro e w' ⟨rfl,rfl⟩;go_wp2_with fail;refine(dI L _ _ _ _ _ ha HL).mono ?_;rintro e w' ⟨rfl,rfl⟩;go_wp2_with (at_make;refine wpList_make_full _ rfl _ _ 27 rfl w.heap.size 192 i0 (.int .u32 0) 1 Tryz.underlying27 hi hz0 hz1 _ _ _ _ m rfl rfl (by omega) (by omega) ?b2 ?b3 (a0h _) ?_)
  case b2=>rw[hz2];omega
  case b3=>unfold maxLen;omega
  intro w1 hown1 hgrow1;rw[jy]at hown1;have hb1:Below w.heap.size w w1:=(Below.refl _ _).grown hgrow1 (a0h _) (λk h=>by cases h)
  have oq:Own w.heap.size w1 (some ⟨w.heap.size,0,none⟩) m m (a0a m 0):=
   ⟨hown1,by omega,λx hx=>by rw[(a0b.1 hx).2];omega⟩
  clear hown1 hgrow1
  have hI1:TM w.heap.size (some ⟨w.heap.size,0,none⟩) m m w D (s%32) m 0 w1:=by
   refine⟨_,oq,hb1,?_,?_⟩
   ·rw[a0e (by simp),a0e (by rw[HD.out];exact a0h _),dY,a0l]
   ·simp[a0d,a0f (show D.length<=m by rw[HD.out];exact a0h _)]
  clear oq hb1;go_wp2_with fail;go_loopw [10,11,12] (λab i _ wr=>∃j up:Nat,j<=m/\ i= .int .i64 ((j:Int)-1)/\ ab= .int .u32 up/\ TM w.heap.size (some ⟨w.heap.size,0,none⟩) m m w D (s%32) j up wr) (λ_ i _ _=>(intOf i+1).toNat)
  case atStart=>exact⟨m,0,a0h _,by rw[HMV.out],rfl,hI1⟩
  case round=>
   clear hI1;obtain⟨j,up,hj,rfl,rfl,zs,hO,hB,hV,hup⟩:=hrel;by_cases hj0:j=0
   ·subst hj0;have hcut:=uh _ _ _ _ _ _ hO
    have ht:bG zs=limbs (val xs/2^s):=by
     rw[di _ hO.wf];simp only[List.drop_zero]at hV;rw[hV,HDV.out]
    rw[ht]at hcut;have mJ:=hid hcut;clear ht hV hcut hup;go_wp2_with fail;refine mJ.out.mono λe w' h=>?_
    obtain⟨gu,kk,cap',rfl,h3,rfl⟩:=h;go_wp2_with fail;go_ret2;exact⟨_,_,_,rfl,h3,hB⟩
   ·obtain⟨i,rfl⟩:∃i,j=i+1:=⟨j-1,by omega⟩;have ei:((i+1:Nat):Int)-1=(i:Int):=by omega
    rw[ei];have EI:=hid ei;clear ei;have hxc:wr.cell? ⟨b,off+(s/32+i),none⟩=some (.int .u32 (xs.getD (s/32+i) 0:Nat)):=(hB.cell (by exact hbb)).trans (HC.out _ (by omega));have hxl:=ha.getD_lt (s/32+i);obtain⟨x,hx⟩:∃x,x=xs.getD (s/32+i) 0:=⟨_,rfl⟩;rw[<-hx]at hxc hxl;have HX:Hid (x=D.getD i 0):=by show _=_;rw[HDG.out i (by omega),hx]
    have zH:=hO.frozen i;have hzc:=hO.cell i (by omega);obtain⟨z,hz⟩:∃z,z=zs.getD i 0:=⟨_,rfl⟩;rw[<-hz]at hzc;clear hz
    have Pp:up<4294967296:=by
     rw[hup];by_cases h:i+1<m
     ·rw[HDG.out (i+1) h];exact ha.getD_lt _
     ·simp[a0d,a0f (show D.length<=i+1 by rw[HD.out];omega)]
    have HV:=hid hV;have HUP:=hid hup;clear hx hV hup hj0;go_wp2;go_roundw
    case rel=>
     refine⟨i,x,by omega,by go_num,rfl,?_⟩;rw[Tk up x _ Pp hxl];refine⟨_,hO.set i _ (VS _ _ _),hB.setCell (a0h _) _,?_,HX.out⟩;rw[iL _ i (by rw[a0c,hO.len];omega),fP,if_pos ⟨rfl,by rw[hO.len];omega⟩,List.drop_set_of_lt (by omega),HV.out,iL D i (by rw[HD.out];omega),<-HX.out];refine(Tj _ (val (D.drop (i+2))) up x _ (a0j _ (by omega)) hxl ?_).symm;rw[HUP.out];by_cases h:i+1<m
     ·exact iL D (i+1) (by rw[HD.out];exact h)
     ·rw[a0e (by rw[HD.out];omega),a0e (by rw[HD.out];omega)];simp[a0d,a0f (show D.length<=i+1 by rw[HD.out];omega),val]
    case measure=>simp[intOf]
end
/- The shelf's contract of math/bits.Len32 at this dump (laid in plain words by the shelf's own command). -/
section
open Go.Shelf
def Tryz.Jd:Go.Shelf.Ren:=⟨λ|128=>191|n=>n,λ|51=>192|3=>3|4=>4|46=>228|5=>5|9=>9|n=>n,λ|n=>n⟩
theorem Tryz.Wt:Go.Proofs.Lays.n128 Tryz.prog Tryz.Jd:={
 mixed:=by kernel_rfl
 f128:=Tryz.func191.trans (congrArg some (by kernel_rfl))
 t3:=Tryz.underlying3
 a3:=Tryz.isAgg3
 z3:=Tryz.sizeOf3
 v3:=Tryz.zeroValue3
 t4:=Tryz.underlying4
 a4:=Tryz.isAgg4
 z4:=Tryz.sizeOf4
 v4:=Tryz.zeroValue4
 t5:=Tryz.underlying5
 a5:=Tryz.isAgg5
 z5:=Tryz.sizeOf5
 v5:=Tryz.zeroValue5
 t9:=Tryz.underlying9
 a9:=Tryz.isAgg9
 z9:=Tryz.sizeOf9
 v9:=Tryz.zeroValue9
 t46:=Tryz.underlying228
 a46:=Tryz.isAgg228
 z46:=Tryz.sizeOf228
 v46:=Tryz.zeroValue228
 t51:=Tryz.underlying192
 a51:=Tryz.isAgg192
 z51:=Tryz.sizeOf192
 v51:=Tryz.zeroValue192 }
theorem DZ (x:Int) (w:World) (h0:0<=x) (h1:x<=4294967295):
  Calls Tryz.prog 191 #[.int .u32 x] w λe w'=>e= .returned (.int .i64 (Lib.bitLen x.toNat))/\ w'=w:=Any.bits_Len32 Tryz.Wt x w h0 h1
end
/- The contract of nat.Bits. -/
section
open Go.RowKit
theorem TN (ao:Option Addr) (n cap:Nat) (xs:List Nat) (w:World) (hs:Sl w ao n cap xs):
  Calls Tryz.prog 143 #[.slice ao n cap] w λe w'=>e= .returned (.int .i64 (nbits (val xs):Nat))/\ w=w':=by
 have hle:=hs.le;have hbig:=hs.big;have hnl:nl xs<=n:=by have:=iP xs;rw[hs.len]at this;exact this
 obtain⟨m,hm⟩:∃m,m=nl xs:=⟨_,rfl⟩;rw[<-hm]at hnl;have HM:Hid (nl xs=m):=hm.symm;clear hm;by_cases h0:m=0
 ·subst h0;go_enter Tryz.func143,Tryz.ntmps143;go_wp2_with (go_at_call 179;refine(dI 0 _ _ _ _ _ hs HM).mono ?_;rintro e w' ⟨rfl,rfl⟩);go_ret;have:val xs=0:=kz.1 (kL HM.out);exact⟨fZ (by rw[this];rfl),rfl⟩
 ·obtain⟨k,rfl⟩:∃k,m=k+1:=⟨m-1,by omega⟩;have hb0:((((k+1:Nat):Nat):Int)==0)=false:=by simp;omega
  obtain⟨b,off,rfl,hb,hcell⟩:=hs.at (by omega);have hc:=hcell k (by omega);obtain⟨x,hx⟩:∃x,x=xs.getD k 0:=⟨_,rfl⟩;have Zz:x<4294967296:=by rw[hx];exact hs.getD_lt k
  rw[<-hx]at hc
  have H:Hid (nbits (val xs)=32*k+nbits x/\ nbits x<=32):=by
   refine⟨by rw[hx];exact D7 hs.wf k HM.out,wV (by simpa using Zz)⟩
  have HL:Hid (Lib.bitLen x=nbits x):=wU x Zz;have hbl:Lib.bitLen x<=32:=by rw[HL.out];exact H.out.2
  clear hx hcell;go_enter Tryz.func143,Tryz.ntmps143
  go_wp2_with (first
   |(go_at_call 179;refine(dI (k+1) _ _ _ _ _ hs HM).mono ?_;rintro e w' ⟨rfl,rfl⟩)
   |(go_at_call 191;refine(DZ _ _ (by omega) (by omega)).mono ?_;rintro e w' ⟨rfl,rfl⟩;rw[Int.toNat_natCast]))
  go_ret;refine⟨fZ ?_,rfl⟩;rw[H.out.1,HL.out];omega
end
/- How many bits: what laws ask. -/
section
open Go.RowKit
theorem iC (k:Nat) (ao:Option Addr) (n cap:Nat) (xs:List Nat) (w:World) (hs:Sl w ao n cap xs) (hk:nbits (val xs)=k):
  Calls Tryz.prog 143 #[.slice ao n cap] w λe w'=>e= .returned (.int .i64 (k:Nat))/\ w=w':=by
 rw[<-hk];exact TN ao n cap xs w hs
theorem Br {xs:List Nat} (h:val xs<18446744073709551616):nl xs<=2:=by
 rcases a0m 2 (nl xs)with h1|h1
 ·obtain⟨k,hk⟩:∃k,nl xs=k+1:=⟨nl xs-1,by omega⟩;have h2:=fC k hk;have h3:4294967296^2<=4294967296^k:=a0k (by omega) (by omega);have e:(4294967296:Nat)^2=18446744073709551616:=by decide
  omega
 ·exact h1
theorem Fj {xs:List Nat} (hw:Wf xs) (h:18446744073709551616<=val xs):2<nl xs:=by
 rcases a0m 2 (nl xs)with h1|h1
 ·exact h1
 ·have h2:=lG hw 2 h1;have e:(4294967296:Nat)^2=18446744073709551616:=by decide
  omega
end
/- The contract of nat.Small. -/
section
open Go.RowKit
theorem ku (n:Nat) (w:World) (hn:n<=18446744073709551615):
  Calls Tryz.prog 141 #[.int .u64 (n:Int)] w (gP w (limbs n)):=by
 go_enter Tryz.func141,Tryz.ntmps141;go_wp2_with fail;have e1:((n:Nat):Int)%4294967296=((n%4294967296:Nat):Int):=by omega
 have e2:((n:Nat):Int)/4294967296=((n/4294967296:Nat):Int):=by omega
 rw[e1,e2];clear e1 e2
 have hw:∀x∈[n%4294967296,n/4294967296],x<4294967296:=by
  intro x hx;simp at hx;omega
 have ho:=Own.lit w [n%4294967296,n/4294967296] hw (by simp)
 have ht:bG [n%4294967296,n/4294967296]=limbs n:=by
  rw[di _ hw,bB,bB,dY]
  congr 1
  omega
 have hc:=uh _ _ _ _ _ _ ho;rw[ht]at hc;refine hc.mono λe w' h=>?_
 obtain⟨ao,k,cap,rfl,h3,rfl⟩:=h;go_wp2_with fail;go_ret;exact⟨_,_,_,rfl,h3,(Below.refl _ _).alloc (a0h _) _⟩
end
/- The contract of nat.Word. -/
section
open Go.RowKit
theorem tZ (ao:Option Addr) (n cap:Nat) (xs:List Nat) (w:World) (hs:Sl w ao n cap xs) (h2:2<nl xs):
  Calls Tryz.prog 210 #[.slice ao n cap] w λe w'=>e= .returned (.tuple #[.int .u64 0,.bool false])/\ w=w':=by
 have hle:=hs.le;have hbig:=hs.big;have hnl:nl xs<=n:=by have:=iP xs;rw[hs.len]at this;exact this
 obtain⟨m,hm⟩:∃m,m=nl xs:=⟨_,rfl⟩;rw[<-hm]at hnl h2;have HM:Hid (nl xs=m):=hm.symm;clear hm;go_enter Tryz.func210,Tryz.ntmps210;go_wp2_with (go_at_call 179;refine(dI m _ _ _ _ _ hs HM).mono ?_;rintro e w' ⟨rfl,rfl⟩);go_ret2;exact⟨rfl,rfl⟩
theorem K6 (ao:Option Addr) (n cap:Nat) (xs:List Nat) (w:World) (hs:Sl w ao n cap xs) (h2:nl xs<=2):
  Calls Tryz.prog 210 #[.slice ao n cap] w λe w'=>e= .returned (.tuple #[.int .u64 (val xs:Nat),.bool true])/\ w=w':=by
 have hle:=hs.le;have hbig:=hs.big;have hnl:nl xs<=n:=by have:=iP xs;rw[hs.len]at this;exact this
 obtain⟨m,hm⟩:∃m,m=nl xs:=⟨_,rfl⟩;rw[<-hm]at hnl h2;have HM:Hid (nl xs=m):=hm.symm;clear hm;go_enter Tryz.func210,Tryz.ntmps210;go_wp2_with (go_at_call 179;refine(dI m _ _ _ _ _ hs HM).mono ?_;rintro e w' ⟨rfl,rfl⟩);go_loop [5,6,12] (λs _ i=>∃k:Nat,k<=m/\ i= .int .i64 k/\ s= .int .u64 (val (xs.take k):Nat)) (λ_ _ i=>m-(intOf i).toNat)
 case atStart=>exact⟨0,a0i _,rfl,rfl⟩
 case round=>
  obtain⟨k,hk,rfl,rfl⟩:=hrel;by_cases hkm:k<m
  ·obtain⟨b,off,rfl,hb,hcell⟩:=hs.at (by omega);have hc:=hcell k (by omega);obtain⟨x,hx⟩:∃x,x=xs.getD k 0:=⟨_,rfl⟩;have Zz:x<4294967296:=by rw[hx];exact hs.getD_lt k
   rw[<-hx]at hc;have HX:=Lib.hid hx;clear hx hcell;obtain⟨s,hs0⟩:∃s,s=val (xs.take k):=⟨_,rfl⟩;rw[<-hs0];have HS:=Lib.hid hs0;clear hs0;go_wp2;go_roundw
   case rel=>
    refine⟨k+1,by omega,by go_num,?_⟩
    have hsl:s<4294967296^k:=by
     rw[HS.out];have:=eG _ (Wf.take hs.wf k);rwa[a0g,hs.len,a0n (by omega)]at this
    have hv:val (xs.take (k+1))=2^(32*k)*x+s:=by
     rw[dw xs k (by rw[hs.len];omega),val_append,a0g,hs.len,a0n (by omega),bB,dY,<-HS.out,<-HX.out,a0o];simp;omega
    have hk2:k=0∨k=1:=by omega
    have hb:2^(32*k)*x+s<18446744073709551616:=by rcases hk2 with rfl|rfl<;>simp at* <;>omega
    rw[hv,show((x:Nat):Int)*2^(32*k)=((2^(32*k)*x:Nat):Int)from by rw[Int.mul_comm];simp,wrap_u64 _ (by omega),Y9 s x (32*k) (by rwa[a0o]) hb]
   case measure=>simp[intOf];omega
  ·go_wp2;go_ret2;obtain rfl:k=m:=by omega
   refine⟨?_,rfl⟩;rw[<-HM.out,<-dA,eX];rfl
theorem zN (x:Nat) (ao:Option Addr) (n cap:Nat) (xs:List Nat) (w:World) (hs:Sl w ao n cap xs) (h2:nl xs<=2) (hx:val xs=x):
  Calls Tryz.prog 210 #[.slice ao n cap] w λe w'=>e= .returned (.tuple #[.int .u64 (x:Nat),.bool true])/\ w=w':=by
 rw[<-hx];exact K6 ao n cap xs w hs h2
end
end Go.Proofs.YtmenbpmciblnlaaGreatDoor
