import Derived.Test.YtmenbpmciblnlaaGreatDoorGMem
import Derived.BigQuiet
set_option maxHeartbeats 0
set_option maxRecDepth 100000
open Go renaming World->ah5
open Go.IntKind renaming u32->ah6
open Go.Lib renaming hid->ah7
open Go.Value renaming bool->ah9,slice->ah8
open List renaming length_replicate->ai1,length_take->ai3,mem_append->ai4,mem_of_mem_take->ai2,replicate->ai0
open Nat renaming add_zero->aj6,and_div_two_pow->ai7,and_le_right->aj1,le_of_eq->aj2,le_refl->ai5,lt_of_le_of_lt->aj0,min_eq_left->aj3,mod_lt->aj4,mul_zero->aj5,xor_div_two_pow->ai8,xor_lt_two_pow->ai9,zero_le->ai6
namespace Go.Proofs.YtmenbpmciblnlaaGreatDoor
open Go.RowKit
theorem Hf (ao:Z') (n ae:Nat) (xs:List Nat) (w:ah5) (h:Sl w ao n ae xs):
  Calls Tryz.prog 179 #[ah8 ao n ae] w λe w'=>e= .returned (.int .i64 (nl xs:Nat))/\ w=w':=by
 have hle:=h.le;have hbig:=h.big;have HT:Hid (xs.take n=xs):=cE xs n h.len;go_enter Tryz.func179,Tryz.ntmps179;go_wp2;go_loop [3] (λi=>∃k:Nat,k<=n/\ i= .int .i64 k/\ Hid (nl (xs.take k)=nl xs)) (λi=>(intOf i).toNat)
 case atStart=>exact⟨n,ai5 _,rfl,by rw[Hid,HT.o]⟩
 case round=>
  obtain⟨k,hk,rfl,hnl⟩:=hrel;by_cases hk0:k=0
  ·subst hk0;go_wp2;go_ret;refine⟨fe ?_,rfl⟩;have:=hnl.o;simp only[List.take_zero,Vu]at this;rw[<-this];rfl
  ·obtain⟨b,off,rfl,hb,hc⟩:=h.at (by omega);obtain⟨j,rfl⟩:∃j,k=j+1:=⟨k-1,by omega⟩;have hlen:=h.len;have hcell:=hc j (by omega);clear hc hlen;obtain⟨x,hx⟩:∃x,x=xs.getD j 0:=⟨_,rfl⟩;rw[<-hx]at hcell;have HX:Hid (x=xs.getD j 0):=hx;clear hx;by_cases hz:x=0
   ·subst hz
    have H1:Hid (nl (xs.take j)=nl xs):=by
     rw[Hid,<-hnl.o,km xs j (by have:=h.len;omega) HX.o.symm]
    clear hnl;go_wp2;go_round
    case rel=>exact⟨j,by omega,by go_num,H1⟩
    case measure=>simp[intOf]
   ·have hb0:(((x:Nat):Int)==0)=false:=by simp;omega
    have H1:Hid (nl xs=j+1):=by
     rw[Hid,<-hnl.o,uK xs j (by have:=h.len;omega) (by rw[<-HX.o];exact hz)]
    clear hnl hz;go_wp2;go_ret;exact⟨fe (by rw[H1.o];rfl),rfl⟩
theorem cK (m:Nat) (ao:Z') (n ae:Nat) (xs:List Nat) (w:ah5) (h:Sl w ao n ae xs) (hm:Hid (nl xs=m)):
  Calls Tryz.prog 179 #[ah8 ao n ae] w λe w'=>e= .returned (.int .i64 (m:Nat))/\ w=w':=by
 rw[<-hm.o];exact Hf ao n ae xs w h
def C8 (B:Nat) (w:ah5) (ys:List Nat) (e:Ending) (w':ah5):Prop:=
 ∃ao n ae,e= .returned (ah8 ao n ae)/\ bX B w ao n ae ys/\ w=w'
theorem qw (B:Nat) (ao:Z') (n ae:Nat) (xs:List Nat) (w:ah5) (h:bX B w ao n ae xs):
  Calls Tryz.prog 181 #[ah8 ao n ae] w (C8 B w (bE xs)):=by
 have hs:=h.sl;have hle:=hs.le;have hbig:=hs.big;have hnl:nl xs<=n:=by have:=fV xs;rw[hs.len]at this;exact this
 obtain⟨m,hm⟩:∃m,m=nl xs:=⟨_,rfl⟩;rw[<-hm]at hnl;have HM:Hid (nl xs=m):=hm.symm;clear hm;by_cases h0:m=0
 ·subst h0;go_enter Tryz.func181,Tryz.ntmps181;go_wp2_with (go_at_call 179;refine(cK 0 _ _ _ _ _ hs HM).mono ?_;rintro e w' ⟨rfl,rfl⟩);go_ret;exact⟨_,_,_,rfl,by rw[jg HM.o];exact bX.nil _ _,rfl⟩
 ·have hb0:(((m:Nat):Int)==0)=false:=by simp;omega
  have hres:bX B w ao m ae (bE xs):=by
   rw[cF,HM.o];exact h.take m hnl (by omega)
  go_enter Tryz.func181,Tryz.ntmps181;go_wp2_with (go_at_call 179;refine(cK m _ _ _ _ _ hs HM).mono ?_;rintro e w' ⟨rfl,rfl⟩);go_ret;exact⟨_,_,_,rfl,hres,rfl⟩
theorem ED (ao:Z') (n ae:Nat) (xs:List Nat) (w:ah5) (hs:Sl w ao n ae xs):
  Calls Tryz.prog 169 #[ah8 ao n ae] w (fW w (bE xs)):=by
 have hle:=hs.le;have hbig:=hs.big;have hnl:nl xs<=n:=by have:=fV xs;rw[hs.len]at this;exact this
 obtain⟨m,hm⟩:∃m,m=nl xs:=⟨_,rfl⟩;rw[<-hm]at hnl;have HM:Hid (nl xs=m):=hm.symm;clear hm;by_cases h0:m=0
 ·subst h0;go_enter Tryz.func169,Tryz.ntmps169;go_wp2_with (go_at_call 179;refine(cK 0 _ _ _ _ _ hs HM).mono ?_;rintro e w' ⟨rfl,rfl⟩);go_ret;exact⟨_,_,_,rfl,by rw[jg HM.o];exact bX.nil _ _,Below.refl _ _⟩
 ·have hb0:(((m:Nat):Int)==0)=false:=by simp;omega
  obtain⟨i0,hi,hz0,hz1,hz2⟩:=info_parts Tryz.fx;obtain⟨b,off,rfl,hb,hcell⟩:=hs.at (by omega);have HC:Hid (∀t,t<n->w.cell? ⟨b,off+t,none⟩=some (.int .u32 (xs.getD t 0:Nat))):=hcell;clear hcell;go_enter Tryz.func169,Tryz.ntmps169
  go_wp2_with (first
   |(go_at_call 179;refine(cK m _ _ _ _ _ hs HM).mono ?_;rintro e w' ⟨rfl,rfl⟩)
   |(at_make;refine wpList_make_full _ rfl _ _ 27 rfl w.heap.size 192 i0 (.int .u32 0) 1 Tryz.underlying27 hi hz0 hz1 _ _ _ _ m rfl rfl rfl rfl ?b2 ?b3 (ai5 _) ?_))
  case b2=>rw[hz2];omega
  case b3=>unfold maxLen;omega
  intro w1 hown1 hgrow1;rw[gX]at hown1;have HR:Hid (w1.heap[w.heap.size]? =some (.cells (cellsOf (ai0 m 0)).toArray 192 (0,0))):=sD hown1;have hb1:Below w.heap.size w w1:=(Below.refl _ _).grown hgrow1 (ai5 _) (λk h=>by cases h);clear hown1 hgrow1;obtain⟨cs,hcs⟩:∃cs,cs=cellsOf (bE xs):=⟨_,rfl⟩;obtain⟨zs,hzs⟩:∃zs,zs=cellsOf (ai0 m 0):=⟨_,rfl⟩;rw[<-hzs]at HR;have hcl:cs.length=m:=by rw[hcs,bq];exact HM.o
  have hzl:zs.length=m:=by rw[hzs,bq,ai1]
  have hcell1:∀j v,cs[j]? =some v->w1.cell? ((⟨b,off,none⟩:Addr).add j)=some v:=by
   intro j v hv;have hj:j<m:=by rw[<-hcl];exact(List.getElem?_eq_some_iff.1 hv).1
   rw[Addr.add_lit,hb1.cell (by exact hb),HC.o j (by omega),<-hv,hcs,fA _ _ (by rw[<-hcl,hcs,bq]at hj;exact hj),cF,HM.o];simp[List.getD,hj]
  have HC1:=ah7 hcell1;clear hcell1;have H1:Hid (∀v∈cs,v.oneCell'=true):=by rw[hcs];exact fY _
  have HS:Hid (splice zs 0 cs=cs):=by
   show splice zs 0 cs=cs;simp[splice,hcl,hzl]
  have sY:=ah7 hcl;have We:=ah7 hzl;have HCS:=ah7 hcs;clear hcl hzl hcs hzs HC;go_wp2_with (with_reducible refine wpList_copy_splice rfl (.tmp 11) (.tmp 12) 27 27 rfl 192 rfl Tryz.mP _ _ _ _ _ _ rfl rfl w.heap.size 0 zs 192 HR.o cs (by rw[sY.o];exact(Nat.min_eq_right hnl).symm) (λ_=>⟨rfl,_,rfl,HC1.o⟩) (by rw[sY.o,We.o];omega) H1.o w.heap.size w hb1 (ai5 _) ?_;intro w2 HG2 hB2);go_ret;refine⟨_,_,_,rfl,⟨?_,by omega,λx hx=>hs.wf x (ai2 (by rw[<-cF];exact hx))⟩,hB2⟩;rw[<-HCS.o];refine wV (ai5 _) sY.o (by unfold maxLen;omega) ?_;have:=HG2.o;rw[HS.o]at this;exact this
theorem xi (ao:Z') (n ae:Nat) (xs:List Nat) (w:ah5) (hs:Sl w ao n ae xs):
  Calls Tryz.prog 169 #[ah8 ao n ae] w (fW w (aq (au xs))):=by
 rw[<-cq xs hs.wf];exact ED ao n ae xs w hs
theorem Py (w:ah5):Calls Tryz.prog 182 #[ah9 true] w λe w'=>e= .returned (.int .i64 1)/\ w=w':=by
 go_enter Tryz.func182,Tryz.ntmps182;go_wp2;go_ret;exact⟨rfl,rfl⟩
theorem SI (w:ah5):Calls Tryz.prog 182 #[ah9 false] w λe w'=>e= .returned (.int .i64 (-1))/\ w=w':=by
 go_enter Tryz.func182,Tryz.ntmps182;go_wp2;go_ret;exact⟨rfl,rfl⟩
def Wh (b:Bool):Int:=if b then 1 else-1
theorem EE (b:Bool) (w:ah5):Calls Tryz.prog 182 #[ah9 b] w λe w'=>e= .returned (.int .i64 (Wh b))/\ w=w':=by
 cases b
 ·exact SI w
 ·exact Py w
theorem nX (a0 b0:Z') (la ca lb cb:Nat) (xs ys:List Nat) (w:ah5) (ha:Sl w a0 la ca xs) (hb:Sl w b0 lb cb ys) (hne:nl xs≠nl ys):
  Calls Tryz.prog 131 #[ah8 a0 la ca,ah8 b0 lb cb] w (jF (.int .i64 (eT (au xs) (au ys))) w):=by
 have H:Hid (eT (au xs) (au ys)=if nl ys<nl xs then 1 else-1):=xA ha.wf hb.wf hne;have n1:=fV xs;have n2:=fV ys;rw[ha.len]at n1;rw[hb.len]at n2;have b1:=ha.big;have b2:=hb.big;have l1:=ha.le;have l2:=hb.le;obtain⟨n,hn⟩:∃n,n=nl xs:=⟨_,rfl⟩;obtain⟨m,hm⟩:∃m,m=nl ys:=⟨_,rfl⟩;rw[<-hn,<-hm]at H hne;rw[<-hn]at n1;rw[<-hm]at n2;have HN:Hid (nl xs=n):=hn.symm;have HM:Hid (nl ys=m):=hm.symm;clear hn hm;have hne1:(((n:Nat):Int) !=((m:Nat):Int))=true:=by simp;omega
 have hne2:(n !=m)=true:=by simp;omega
 go_enter Tryz.func131,Tryz.ntmps131;go_wp2_with fail;refine(cK n _ _ _ _ _ ha HN).mono ?_;rintro e w' ⟨rfl,rfl⟩;go_wp2_with fail;refine(cK m _ _ _ _ _ hb HM).mono ?_;rintro e w' ⟨rfl,rfl⟩;go_wp2_with fail;refine(EE _ _).mono ?_;rintro e w' ⟨rfl,rfl⟩;go_wp2_with fail;go_ret;refine⟨fe ?_,0,rfl⟩;rw[H.o];simp[Wh]
theorem BX (a0 b0:Z') (la ca lb cb:Nat) (xs ys:List Nat) (w:ah5) (ha:Sl w a0 la ca xs) (hb:Sl w b0 lb cb ys):
  Calls Tryz.prog 131 #[ah8 a0 la ca,ah8 b0 lb cb] w (jF (.int .i64 (eT (au xs) (au ys))) w):=by
 by_cases hne:nl xs≠nl ys
 ·exact nX _ _ _ _ _ _ _ _ _ ha hb hne
 have n1:=fV xs;have n2:=fV ys;rw[ha.len]at n1;rw[hb.len]at n2;have b1:=ha.big;have b2:=hb.big;have l1:=ha.le;have l2:=hb.le;obtain⟨n,hn⟩:∃n,n=nl xs:=⟨_,rfl⟩;have hn2:nl ys=n:=by rw[hn];exact(Classical.not_not.1 hne).symm
 rw[<-hn]at n1;rw[hn2]at n2;have HN:Hid (nl xs=n):=hn.symm;have HM:Hid (nl ys=n):=hn2;clear hn hn2 hne;go_enter Tryz.func131,Tryz.ntmps131;go_wp2_with fail;refine(cK n _ _ _ _ _ ha HN).mono ?_;rintro e w' ⟨rfl,rfl⟩;go_wp2_with fail;refine(cK n _ _ _ _ _ hb HM).mono ?_;rintro e w' ⟨rfl,rfl⟩;go_wp2_with fail;go_loopw [7,8,9,22] (λ_ _ _ i wr=>∃k:Nat,k<=n/\ i= .int .i64 k/\ Hid (∀t,n<=t+k->t<n->xs.getD t 0=ys.getD t 0)/\∃q,wr=w.drewN q) (λ_ _ _ i _=>n-(intOf i).toNat)
 case atStart=>exact⟨0,ai6 _,rfl,λt h1 h2=>by omega,0,rfl⟩
 case round=>
  obtain⟨k,hk,rfl,heq,q,rfl⟩:=hrel;by_cases hkn:k<n
  ·obtain⟨b,off,rfl,_,hca⟩:=ha.at (by omega);obtain⟨b',off',rfl,_,hcb⟩:=hb.at (by omega);have ha1:=hca (n-1-k) (by omega);have hb1:=hcb (n-1-k) (by omega);have HJ:Hid (n-1-k<n/\∀t,n-1-k<t↔n<=t+k):=⟨by omega,λt=>by omega⟩;obtain⟨x,hx⟩:∃x,x=xs.getD (n-1-k) 0:=⟨_,rfl⟩;obtain⟨y,hy⟩:∃y,y=ys.getD (n-1-k) 0:=⟨_,rfl⟩;rw[<-hx]at ha1;rw[<-hy]at hb1;have HX:=ah7 hx;have HY:=ah7 hy;clear hx hy hca hcb;by_cases hxy:x=y
   ·subst hxy;have e1:(((x:Nat):Int) !=((x:Nat):Int))=false:=by simp
    go_wp2;go_quiet (fail);go_wp2;go_roundw
    case rel=>
     refine⟨k+1,by omega,by go_num,λt h1 h2=>?_,_,rfl⟩;by_cases h3:n<=t+k
     ·exact heq.o t h3 h2
     ·obtain rfl:t=n-1-k:=by omega
      rw[<-HX.o,<-HY.o]
    case measure=>simp[intOf];omega
   ·have e1:(((x:Nat):Int) !=((y:Nat):Int))=true:=by simp;omega
    have e2:(x !=y)=true:=by simp;omega
    have H:Hid (eT (au xs) (au ys)=if y<x then 1 else-1):=by
     show _=_;rw[HX.o,HY.o];exact GR ha.wf hb.wf n _ HN.o HM.o HJ.o.1 (λi h1 h2=>heq.o i ((HJ.o.2 i).1 h1) h2) (by rw[<-HX.o,<-HY.o];exact hxy)
    go_wp2;go_quiet (fail);go_wp2_with fail;refine(EE _ _).mono ?_;rintro e w' ⟨rfl,rfl⟩;go_wp2_with fail;go_ret;refine⟨fe ?_,_,rfl⟩;rw[H.o];simp[Wh]
  ·go_wp2;go_ret;refine⟨fe ?_,_,rfl⟩;exact(xB n HN.o HM.o (λt ht=>heq.o t (by omega) ht)).symm
theorem nH (c:Int) (a0 b0:Z') (la ca lb cb:Nat) (xs ys:List Nat) (w:ah5) (ha:Sl w a0 la ca xs) (hb:Sl w b0 lb cb ys) (hc:Hid (eT (au xs) (au ys)=c)):
  Calls Tryz.prog 131 #[ah8 a0 la ca,ah8 b0 lb cb] w (jF (.int .i64 c) w):=by
 rw[<-hc.o];exact BX _ _ _ _ _ _ _ _ _ ha hb
theorem TC (c:Int) (a0 b0:Z') (la ca lb cb:Nat) (xs ys:List Nat) (w:ah5) (ha:Sl w a0 la ca xs) (hb:Sl w b0 lb cb ys) (hc:Hid (eT (au xs) (au ys)=c)):
  Calls Tryz.prog 131 #[ah8 a0 la ca,ah8 b0 lb cb] w (cr (.int .i64 c) w):=
 (nH c a0 b0 la ca lb cb xs ys w ha hb hc).mono λ_ _ h=>h.b
theorem vI (n:Int) (w:ah5) (h0:0<=n) (h1:n<=1048576):Calls Tryz.prog 284 #[.int .i64 n] w λe w'=>e= .returned (ah9 true)/\ w=w':=by
 go_enter Tryz.func284,Tryz.ntmps284;go_wp2;go_ret;exact⟨rfl,rfl⟩
theorem jz (x y c:Nat) (w:ah5) (hx:x<4294967296) (hy:y<4294967296) (hc:c<=1):
  Calls Tryz.prog 180 #[.int .u32 (x:Int),.int .u32 (y:Int),.int .u32 (c:Int)] w λe w'=>e= .returned (.tuple #[.int .u32 (((x+y+c)%4294967296:Nat):Int),.int .u32 (((x+y+c)/4294967296:Nat):Int)])/\ w'=w:=by
 go_enter Tryz.func180,Tryz.ntmps180;go_wp2;go_ret2;exact⟨wU (by omega) (by omega),rfl⟩
theorem PA (x y d:Nat) (hx:x<4294967296) (hy:y<4294967296) (c:Nat) (hc:c<=1) (hd:d=ig x y c):
  (((4294967295^^^x)&&&y)|||((4294967295^^^(x^^^y))&&&d))/2147483648=im x y c:=by
 have e:(2147483648:Nat)=2^31:=by decide
 rw[e,Nat.or_div_two_pow,ai7,ai7,ai8,ai8,ai8,<-e];have h1:x/2147483648=0∨x/2147483648=1:=by omega
 have h2:y/2147483648=0∨y/2147483648=1:=by omega
 have hdl:d<4294967296:=by rw[hd];exact nQ _ _ _
 unfold ig at hd;unfold im;have h3:d/2147483648=0∨d/2147483648=1:=by omega
 rcases h1 with h1|h1<;>rcases h2 with h2|h2<;>rcases h3 with h3|h3<;>rw[h1,h2,h3]<;>simp<;>omega
theorem B7 (x y c:Nat) (hx:x<4294967296) (hy:y<4294967296) (hc:c<=1):
  bits BinOp.or ah6 (bits BinOp.and ah6 (bits BinOp.xor ah6 ah6.max (x:Int)) (y:Int))
   (bits BinOp.and ah6 (bits BinOp.xor ah6 ah6.max (bits BinOp.xor ah6 (x:Int) (y:Int))) (((x:Int)-y-c)%4294967296))/2147483648=(im x y c:Nat):=by
 have em:ah6.max=((4294967295:Nat):Int):=by decide
 have ed:((x:Int)-y-c)%4294967296=((ig x y c:Nat):Int):=by unfold ig;omega
 have hd:=nQ x y c;have l1:(4294967295^^^x)<4294967296:=ai9 (n:=32) (by omega) hx;have l2:(x^^^y)<4294967296:=ai9 (n:=32) hx hy;have l3:(4294967295^^^(x^^^y))<4294967296:=ai9 (n:=32) (by omega) l2;have l4:((4294967295^^^x)&&&y)<4294967296:=aj0 aj1 hy;have l5:((4294967295^^^(x^^^y))&&&ig x y c)<4294967296:=aj0 aj1 hd;rw[em,ed,u32_xor_nat 4294967295 x (by omega) hx,u32_xor_nat x y hx hy,u32_xor_nat 4294967295 _ (by omega) l2,u32_and_nat _ y l1 hy,u32_and_nat _ _ l3 hd,u32_or_nat _ _ l4 l5,<-PA x y _ hx hy c hc rfl];omega
theorem qu (x y c:Nat) (w:ah5) (hx:x<4294967296) (hy:y<4294967296) (hc:c<=1):
  Calls Tryz.prog 183 #[.int .u32 (x:Int),.int .u32 (y:Int),.int .u32 (c:Int)] w λe w'=>e= .returned (.tuple #[.int .u32 (ig x y c:Nat),.int .u32 (im x y c:Nat)])/\ w'=w:=by
 have H1:=ah7 (B7 x y c hx hy hc);have H2:Hid (((x:Int)-y-c)%4294967296=((ig x y c:Nat):Int)):=by show _=_;unfold ig;omega
 go_enter Tryz.func183,Tryz.ntmps183;go_wp2
 all_goals
  go_ret2;exact⟨wU H2.o H1.o,rfl⟩
def lX (B g n:Nat) (w:ah5) (S:Nat) (k c:Nat) (wr:ah5):Prop:=
 ∃zs,bX B wr (some ⟨g,0,none⟩) (n+1) (n+1) zs/\ Below B w wr/\ au zs+4294967296^k*c=S
theorem Wi (a0 b0:Z') (la ca lb cb:Nat) (xs ys:List Nat) (w:ah5) (ha:Sl w a0 la ca xs) (hb:Sl w b0 lb cb ys) (hge:nl ys<=nl xs) (hroom:la<35184372088832/\ lb<35184372088832):
  Calls Tryz.prog 130 #[ah8 a0 la ca,ah8 b0 lb cb] w (fW w (aq (au xs+au ys))):=by
 have n1:=fV xs;have n2:=fV ys;rw[ha.len]at n1;rw[hb.len]at n2;have b1:=ha.big;have b2:=hb.big;have l1:=ha.le;have l2:=hb.le;obtain⟨n,hn⟩:∃n,n=nl xs:=⟨_,rfl⟩;obtain⟨m,hm⟩:∃m,m=nl ys:=⟨_,rfl⟩;rw[<-hn]at n1 hge;rw[<-hm]at n2 hge;have HN:Hid (nl xs=n):=hn.symm;have HM:Hid (nl ys=m):=hm.symm;clear hn hm;have hmn:m<=n:=by omega
 have HS:Hid (au xs+au ys<4294967296^(n+1)):=Hj (jC ha.wf n (aj2 HN.o)) (jC hb.wf n (by rw[HM.o];exact hmn));obtain⟨hr1,hr2⟩:=hroom;obtain⟨i0,hi,hz0,hz1,hz2⟩:=info_parts Tryz.fx;go_enter Tryz.func130,Tryz.ntmps130;go_wp2_with fail;refine(cK n _ _ _ _ _ ha HN).mono ?_;rintro e w' ⟨rfl,rfl⟩;go_wp2_with fail;refine(cK m _ _ _ _ _ hb HM).mono ?_;rintro e w' ⟨rfl,rfl⟩;go_wp2_with (at_make;refine wpList_make_full _ rfl _ _ 27 rfl w.heap.size 192 i0 (.int .u32 0) 1 Tryz.underlying27 hi hz0 hz1 _ _ _ _ (n+1) rfl rfl (by omega) (by omega) ?b2 ?b3 (ai5 _) ?_)
 case b2=>rw[hz2];omega
 case b3=>unfold maxLen;omega
 intro w1 hown1 hgrow1;rw[gX]at hown1;have HR:Hid (w1.heap[w.heap.size]? =some (.cells (cellsOf (ai0 (n+1) 0)).toArray 192 (0,0))):=sD hown1;have hb1:Below w.heap.size w w1:=(Below.refl _ _).grown hgrow1 (ai5 _) (λk h=>by cases h);clear hown1 hgrow1;obtain⟨cs,hcs⟩:∃cs,cs=cellsOf (xs.take n):=⟨_,rfl⟩;obtain⟨zs,hzs⟩:∃zs,zs=cellsOf (ai0 (n+1) 0):=⟨_,rfl⟩;rw[<-hzs]at HR;have sY:Hid (cs.length=n):=by show _=_;rw[hcs,bq,ai3,ha.len];omega
 have We:Hid (zs.length=n+1):=by show _=_;rw[hzs,bq,ai1]
 have H1:Hid (∀v∈cs,v.oneCell'=true):=by rw[hcs];exact fY _
 have MC:Hid (splice zs 0 cs=cellsOf (xs.take n++[0])):=by show _=_;rw[hzs,hcs];exact sF xs n (by rw[ha.len];exact n1)
 have PB:Hid (0<n->∃ad,a0=some ad/\∀j v,cs[j]? =some v->w1.cell? (ad.add j)=some v):=by
  intro h0;rw[hcs];exact(ha.below hb1).src n n1 h0
 clear hcs hzs;go_wp2_with (with_reducible refine wpList_copy_splice rfl (.tmp 25) (.tmp 28) 27 27 rfl 192 rfl Tryz.mP _ _ _ _ _ _ rfl rfl w.heap.size 0 zs 192 HR.o cs (by rw[sY.o];exact(aj3 (by omega)).symm) (λh=>⟨rfl,PB.o (by rw[sY.o]at h;exact h)⟩) (by rw[sY.o,We.o];omega) H1.o w.heap.size w hb1 (ai5 _) ?_;intro w2 HG2 hB2)
 have hO2:bX w.heap.size w2 (some ⟨w.heap.size,0,none⟩) (n+1) (n+1) (xs.take n++[0]):=by
  refine bX.wW (ai5 _) (by simp[ha.len];omega) (by omega) ?_ (by have:=HG2.o;rwa[MC.o]at this);intro x hx;rcases ai4.1 hx with hx|hx
  ·exact ha.wf x (ai2 hx)
  ·simp at hx;omega
 have hV2:au (xs.take n++[0])=au xs:=by
  rw[bW,<-HN.o,rD];simp[au]
 have hI2:lX w.heap.size w.heap.size n w (au xs+au (ys.take 0)) 0 0 w2:=⟨_,hO2,hB2,by rw[hV2];simp[au]⟩;clear hO2 hV2 hB2 HG2 PB MC H1 We sY HR hb1;go_loopw [8,9] (λc i wr=>∃k cc:Nat,k<=m/\ cc<=1/\ i= .int .i64 k/\ c= .int .u32 cc/\ lX w.heap.size w.heap.size n w (au xs+au (ys.take k)) k cc wr) (λ_ i _=>m-(intOf i).toNat)
 case atStart=>exact⟨0,0,ai6 _,ai6 _,rfl,rfl,hI2⟩
 case round=>
  obtain⟨k,cc,hk,hcc,rfl,rfl,hinv⟩:=hrel;by_cases hkm:k<m
  ·obtain⟨zs',hO,hB,hV⟩:=hinv;obtain⟨b,off,rfl,hbb,hcb⟩:=hb.at (by omega);have GX:wr.cell? ⟨b,off+k,none⟩=some (.int .u32 (ys.getD k 0:Nat)):=(hB.cell (by exact hbb)).trans (hcb k (by omega));have hzc:=hO.cell k (by omega);have vy:=hO.frozen k;have hstep:=jM (y:=ys.getD k 0) (by rw[hO.len];omega) hV;rw[<-bC ys k (by rw[hb.len];omega)]at hstep;have hyl:=hb.bJ k;have hzl:=hO.bJ k;obtain⟨y,hy⟩:∃y,y=ys.getD k 0:=⟨_,rfl⟩;obtain⟨z,hz⟩:∃z,z=zs'.getD k 0:=⟨_,rfl⟩;rw[<-hy]at GX hyl hstep;rw[<-hz]at hzc hzl hstep;have HST:=ah7 hstep;clear hy hz hV hstep hcb;go_wp2;have hki:((k:Nat):Int)<((n:Nat):Int)+1:=by omega
   have hkb:((k:Nat):Int)<((lb:Nat):Int):=by omega
   have hk0:(0:Int)<=((k:Nat):Int):=by omega
   go_region_with (go_at_call 180;refine(jz z y cc _ hzl hyl hcc).mono ?_;rintro e w' ⟨rfl,rfl⟩)
   all_goals
    go_wp2;go_roundw
    case rel=>exact⟨k+1,(z+y+cc)/4294967296,by omega,by omega,by go_num,by go_num,_,hO.drew.set k _ (aj4 _ (by omega)),hB.drew.setCell (ai5 _) _,HST.o⟩
    case measure=>simp[intOf];omega
  ·obtain rfl:k=m:=by omega
   have yK:lX w.heap.size w.heap.size n w (au xs+au ys) k cc wr:=by
    have e:au (ys.take k)=au ys:=by rw[<-HM.o,rD]
    rwa[e]at hinv
   clear hinv;go_wp2;go_loopw [8,10] (λc i wr=>∃k cc:Nat,k<=n+1/\ cc<=1/\ i= .int .i64 k/\ c= .int .u32 cc/\ lX w.heap.size w.heap.size n w (au xs+au ys) k cc wr) (λ_ i _=>n+1-(intOf i).toNat)
   case atStart=>exact⟨k,cc,by omega,hcc,rfl,rfl,yK⟩
   case round=>
    clear yK;obtain⟨k,cc,hk,hcc,rfl,rfl,zs',hO,hB,hV⟩:=hrel;by_cases hc0:cc=0
    ·have hb0:(((cc:Nat):Int) !=0)=false:=by simp;omega
     have hcut:=qw _ _ _ _ _ _ hO
     have ht:bE zs'=aq (au xs+au ys):=by
      rw[cq _ hO.wf]
      congr 1
      rw[hc0]at hV;omega
     rw[ht]at hcut;have ko:=ah7 hcut;clear ht hV hc0 hcut;go_wp2_with fail;refine ko.o.mono λe w' h=>?_
     obtain⟨ao,kk,ae,rfl,h3,rfl⟩:=h;go_wp2_with fail;go_ret;exact⟨_,_,_,rfl,h3,hB⟩
    ·have hb0:(((cc:Nat):Int) !=0)=true:=by simp;omega
     have hkn:k<=n:=by
      rcases BO hV HS.o hk hcc with h|h
      ·exact absurd h hc0
      ·exact h
     have hzc:=hO.cell k (by omega);have vy:=hO.frozen k;have hstep:=jM (y:=0) (by rw[hO.len];omega) hV;rw[aj5,aj6 (au ys)]at hstep;have hzl:=hO.bJ k;obtain⟨z,hz⟩:∃z,z=zs'.getD k 0:=⟨_,rfl⟩;rw[<-hz]at hzc hzl hstep;have HST:=ah7 hstep;clear hz hV hstep hc0;go_wp2_with (go_at_call 180;refine(jz z 0 cc _ hzl (by omega) hcc).mono ?_;rintro e w' ⟨rfl,rfl⟩);go_roundw
     case rel=>exact⟨k+1,(z+0+cc)/4294967296,by omega,by omega,by go_num,by go_num,_,hO.set k _ (aj4 _ (by omega)),hB.setCell (ai5 _) _,HST.o⟩
     case measure=>simp[intOf];omega
theorem Wk (a0 b0:Z') (la ca lb cb:Nat) (xs ys:List Nat) (w:ah5) (ha:Sl w a0 la ca xs) (hb:Sl w b0 lb cb ys) (hge:nl ys<nl xs) (hroom:la<35184372088832/\ lb<35184372088832):
  Calls Tryz.prog 130 #[ah8 b0 lb cb,ah8 a0 la ca] w (fW w (aq (au xs+au ys))):=by
 have n1:=fV xs;have n2:=fV ys;rw[ha.len]at n1;rw[hb.len]at n2;have b1:=ha.big;have b2:=hb.big;have l1:=ha.le;have l2:=hb.le;obtain⟨n,hn⟩:∃n,n=nl xs:=⟨_,rfl⟩;obtain⟨m,hm⟩:∃m,m=nl ys:=⟨_,rfl⟩;rw[<-hn]at n1 hge;rw[<-hm]at n2 hge;have HN:Hid (nl xs=n):=hn.symm;have HM:Hid (nl ys=m):=hm.symm;clear hn hm;have hmn:m<=n:=by omega
 have HS:Hid (au xs+au ys<4294967296^(n+1)):=Hj (jC ha.wf n (aj2 HN.o)) (jC hb.wf n (by rw[HM.o];exact hmn));obtain⟨hr1,hr2⟩:=hroom;obtain⟨i0,hi,hz0,hz1,hz2⟩:=info_parts Tryz.fx;go_enter Tryz.func130,Tryz.ntmps130;go_wp2_with fail;refine(cK m _ _ _ _ _ hb HM).mono ?_;rintro e w' ⟨rfl,rfl⟩;go_wp2_with fail;refine(cK n _ _ _ _ _ ha HN).mono ?_;rintro e w' ⟨rfl,rfl⟩;go_wp2_with (at_make;refine wpList_make_full _ rfl _ _ 27 rfl w.heap.size 192 i0 (.int .u32 0) 1 Tryz.underlying27 hi hz0 hz1 _ _ _ _ (n+1) rfl rfl (by omega) (by omega) ?b2 ?b3 (ai5 _) ?_)
 case b2=>rw[hz2];omega
 case b3=>unfold maxLen;omega
 intro w1 hown1 hgrow1;rw[gX]at hown1;have HR:Hid (w1.heap[w.heap.size]? =some (.cells (cellsOf (ai0 (n+1) 0)).toArray 192 (0,0))):=sD hown1;have hb1:Below w.heap.size w w1:=(Below.refl _ _).grown hgrow1 (ai5 _) (λk h=>by cases h);clear hown1 hgrow1;obtain⟨cs,hcs⟩:∃cs,cs=cellsOf (xs.take n):=⟨_,rfl⟩;obtain⟨zs,hzs⟩:∃zs,zs=cellsOf (ai0 (n+1) 0):=⟨_,rfl⟩;rw[<-hzs]at HR;have sY:Hid (cs.length=n):=by show _=_;rw[hcs,bq,ai3,ha.len];omega
 have We:Hid (zs.length=n+1):=by show _=_;rw[hzs,bq,ai1]
 have H1:Hid (∀v∈cs,v.oneCell'=true):=by rw[hcs];exact fY _
 have MC:Hid (splice zs 0 cs=cellsOf (xs.take n++[0])):=by show _=_;rw[hzs,hcs];exact sF xs n (by rw[ha.len];exact n1)
 have PB:Hid (0<n->∃ad,a0=some ad/\∀j v,cs[j]? =some v->w1.cell? (ad.add j)=some v):=by
  intro h0;rw[hcs];exact(ha.below hb1).src n n1 h0
 clear hcs hzs;go_wp2_with (with_reducible refine wpList_copy_splice rfl (.tmp 25) (.tmp 28) 27 27 rfl 192 rfl Tryz.mP _ _ _ _ _ _ rfl rfl w.heap.size 0 zs 192 HR.o cs (by rw[sY.o];exact(aj3 (by omega)).symm) (λh=>⟨rfl,PB.o (by rw[sY.o]at h;exact h)⟩) (by rw[sY.o,We.o];omega) H1.o w.heap.size w hb1 (ai5 _) ?_;intro w2 HG2 hB2)
 have hO2:bX w.heap.size w2 (some ⟨w.heap.size,0,none⟩) (n+1) (n+1) (xs.take n++[0]):=by
  refine bX.wW (ai5 _) (by simp[ha.len];omega) (by omega) ?_ (by have:=HG2.o;rwa[MC.o]at this);intro x hx;rcases ai4.1 hx with hx|hx
  ·exact ha.wf x (ai2 hx)
  ·simp at hx;omega
 have hV2:au (xs.take n++[0])=au xs:=by
  rw[bW,<-HN.o,rD];simp[au]
 have hI2:lX w.heap.size w.heap.size n w (au xs+au (ys.take 0)) 0 0 w2:=⟨_,hO2,hB2,by rw[hV2];simp[au]⟩;clear hO2 hV2 hB2 HG2 PB MC H1 We sY HR hb1;go_loopw [8,9] (λc i wr=>∃k cc:Nat,k<=m/\ cc<=1/\ i= .int .i64 k/\ c= .int .u32 cc/\ lX w.heap.size w.heap.size n w (au xs+au (ys.take k)) k cc wr) (λ_ i _=>m-(intOf i).toNat)
 case atStart=>exact⟨0,0,ai6 _,ai6 _,rfl,rfl,hI2⟩
 case round=>
  obtain⟨k,cc,hk,hcc,rfl,rfl,hinv⟩:=hrel;by_cases hkm:k<m
  ·obtain⟨zs',hO,hB,hV⟩:=hinv;obtain⟨b,off,rfl,hbb,hcb⟩:=hb.at (by omega);have GX:wr.cell? ⟨b,off+k,none⟩=some (.int .u32 (ys.getD k 0:Nat)):=(hB.cell (by exact hbb)).trans (hcb k (by omega));have hzc:=hO.cell k (by omega);have vy:=hO.frozen k;have hstep:=jM (y:=ys.getD k 0) (by rw[hO.len];omega) hV;rw[<-bC ys k (by rw[hb.len];omega)]at hstep;have hyl:=hb.bJ k;have hzl:=hO.bJ k;obtain⟨y,hy⟩:∃y,y=ys.getD k 0:=⟨_,rfl⟩;obtain⟨z,hz⟩:∃z,z=zs'.getD k 0:=⟨_,rfl⟩;rw[<-hy]at GX hyl hstep;rw[<-hz]at hzc hzl hstep;have HST:=ah7 hstep;clear hy hz hV hstep hcb;go_wp2;have hki:((k:Nat):Int)<((n:Nat):Int)+1:=by omega
   have hkb:((k:Nat):Int)<((lb:Nat):Int):=by omega
   have hk0:(0:Int)<=((k:Nat):Int):=by omega
   go_region_with (go_at_call 180;refine(jz z y cc _ hzl hyl hcc).mono ?_;rintro e w' ⟨rfl,rfl⟩)
   all_goals
    go_wp2;go_roundw
    case rel=>exact⟨k+1,(z+y+cc)/4294967296,by omega,by omega,by go_num,by go_num,_,hO.drew.set k _ (aj4 _ (by omega)),hB.drew.setCell (ai5 _) _,HST.o⟩
    case measure=>simp[intOf];omega
  ·obtain rfl:k=m:=by omega
   have yK:lX w.heap.size w.heap.size n w (au xs+au ys) k cc wr:=by
    have e:au (ys.take k)=au ys:=by rw[<-HM.o,rD]
    rwa[e]at hinv
   clear hinv;go_wp2;go_loopw [8,10] (λc i wr=>∃k cc:Nat,k<=n+1/\ cc<=1/\ i= .int .i64 k/\ c= .int .u32 cc/\ lX w.heap.size w.heap.size n w (au xs+au ys) k cc wr) (λ_ i _=>n+1-(intOf i).toNat)
   case atStart=>exact⟨k,cc,by omega,hcc,rfl,rfl,yK⟩
   case round=>
    clear yK;obtain⟨k,cc,hk,hcc,rfl,rfl,zs',hO,hB,hV⟩:=hrel;by_cases hc0:cc=0
    ·have hb0:(((cc:Nat):Int) !=0)=false:=by simp;omega
     have hcut:=qw _ _ _ _ _ _ hO
     have ht:bE zs'=aq (au xs+au ys):=by
      rw[cq _ hO.wf]
      congr 1
      rw[hc0]at hV;omega
     rw[ht]at hcut;have ko:=ah7 hcut;clear ht hV hc0 hcut;go_wp2_with fail;refine ko.o.mono λe w' h=>?_
     obtain⟨ao,kk,ae,rfl,h3,rfl⟩:=h;go_wp2_with fail;go_ret;exact⟨_,_,_,rfl,h3,hB⟩
    ·have hb0:(((cc:Nat):Int) !=0)=true:=by simp;omega
     have hkn:k<=n:=by
      rcases BO hV HS.o hk hcc with h|h
      ·exact absurd h hc0
      ·exact h
     have hzc:=hO.cell k (by omega);have vy:=hO.frozen k;have hstep:=jM (y:=0) (by rw[hO.len];omega) hV;rw[aj5,aj6 (au ys)]at hstep;have hzl:=hO.bJ k;obtain⟨z,hz⟩:∃z,z=zs'.getD k 0:=⟨_,rfl⟩;rw[<-hz]at hzc hzl hstep;have HST:=ah7 hstep;clear hz hV hstep hc0;go_wp2_with (go_at_call 180;refine(jz z 0 cc _ hzl (by omega) hcc).mono ?_;rintro e w' ⟨rfl,rfl⟩);go_roundw
     case rel=>exact⟨k+1,(z+0+cc)/4294967296,by omega,by omega,by go_num,by go_num,_,hO.set k _ (aj4 _ (by omega)),hB.setCell (ai5 _) _,HST.o⟩
     case measure=>simp[intOf];omega
theorem pX (a0 b0:Z') (la ca lb cb:Nat) (xs ys:List Nat) (w:ah5) (ha:Sl w a0 la ca xs) (hb:Sl w b0 lb cb ys) (h1:la<35184372088832) (h2:lb<35184372088832):
  Calls Tryz.prog 130 #[ah8 a0 la ca,ah8 b0 lb cb] w (fW w (aq (au xs+au ys))):=by
 by_cases h:nl ys<=nl xs
 ·exact Wi a0 b0 la ca lb cb xs ys w ha hb h ⟨h1,h2⟩
 ·rw[Nat.add_comm];exact Wk b0 a0 lb cb la ca ys xs w hb ha (by omega) ⟨h2,h1⟩
def ug (B:Nat) (ao:Option Addr) (n ae:Nat) (w:ah5) (S T k c:Nat) (wr:ah5):Prop:=
 ∃zs,bX B wr ao n ae zs/\ Below B w wr/\ au zs+T=S+4294967296^k*c
theorem kg (a0 b0:Z') (la ca lb cb:Nat) (xs ys:List Nat) (w:ah5) (ha:Sl w a0 la ca xs) (hb:Sl w b0 lb cb ys) (hge:au ys<=au xs):
  Calls Tryz.prog 132 #[ah8 a0 la ca,ah8 b0 lb cb] w (Gg w (aq (au xs-au ys)) 0):=by
 obtain⟨c0,hc0⟩:∃c0,c0=eT (au xs) (au ys):=⟨_,rfl⟩
 have hc1:0<=c0:=by
  rw[hc0];unfold eT;rw[if_neg (by omega)];split<;>omega
 have HC:Hid (eT (au xs) (au ys)=c0):=hc0.symm;clear hc0;have n1:=fV xs;have n2:=fV ys;rw[ha.len]at n1;rw[hb.len]at n2;have b1:=ha.big;have b2:=hb.big;have l1:=ha.le;have l2:=hb.le
 have hmn:nl ys<=nl xs:=by
  by_cases h:nl xs<nl ys
  ·have:=fC ha.wf h;omega
  ·omega
 obtain⟨n,hn⟩:∃n,n=nl xs:=⟨_,rfl⟩;obtain⟨m,hm⟩:∃m,m=nl ys:=⟨_,rfl⟩;rw[<-hn]at n1 hmn;rw[<-hm]at n2 hmn;have HN:Hid (nl xs=n):=hn.symm;have HM:Hid (nl ys=m):=hm.symm;clear hn hm;have uX:=ah7 hge;clear hge;go_enter Tryz.func132,Tryz.ntmps132;go_wp2_with fail;refine(nH c0 _ _ _ _ _ _ _ _ _ ha hb HC).mono ?_;rintro e w' ⟨rfl,q,rfl⟩;go_wp2_with fail;refine(ED _ _ _ _ _ (ha.drewN q)).mono ?_;rintro e w1 ⟨ao,tn,ae,rfl,WY,hB0⟩;obtain rfl:tn=n:=by rw[<-WY.len];exact HN.o
 have hb1:Sl w1 b0 lb cb ys:=(hb.drewN q).below hB0;have hB1:Below w.heap.size w w1:=(below_drewN _ w q).trans hB0;have mK:bX w.heap.size w1 ao tn ae (bE xs):=WY;have hcap:=mK.sl.le;have hbig:=mK.big;clear WY hB0;have hI1:ug w.heap.size ao tn ae w (au xs) (au (ys.take 0)) 0 0 w1:=⟨_,mK,hB1,by rw[dC];simp[au]⟩;clear mK;go_wp2_with fail;refine(cK m _ _ _ _ _ hb1 HM).mono ?_;rintro e w' ⟨rfl,rfl⟩;go_wp2_with fail;go_loopw [8,9] (λc i wr=>∃k cc:Nat,k<=m/\ cc<=1/\ i= .int .i64 k/\ c= .int .u32 cc/\ ug w.heap.size ao tn ae w (au xs) (au (ys.take k)) k cc wr) (λ_ i _=>m-(intOf i).toNat)
 case atStart=>exact⟨0,0,ai6 _,ai6 _,rfl,rfl,hI1⟩
 case round=>
  clear hI1;obtain⟨k,cc,hk,hcc,rfl,rfl,hinv⟩:=hrel;by_cases hkm:k<m
  ·obtain⟨zs',hO,hB,hV⟩:=hinv;obtain⟨b,off,rfl,hbb,hcb⟩:=hb.at (by omega)
   obtain⟨g,rfl,hBg⟩:∃g,ao=some ⟨g,0,none⟩/\ w.heap.size<=g:=by
    rcases hO.parts with⟨_,h,_⟩|⟨g,h1,h2,_⟩
    ·omega
    ·exact⟨g,h1,h2⟩
   have GX:wr.cell? ⟨b,off+k,none⟩=some (.int .u32 (ys.getD k 0:Nat)):=(hB.cell (by exact hbb)).trans (hcb k (by omega));have hzc:=hO.cell k (by omega);have vy:=hO.frozen k;have hstep:=pD (y:=ys.getD k 0) (by rw[hO.len];omega) (hO.bJ k) (hb.bJ k) hcc hV;rw[<-bC ys k (by rw[hb.len];omega)]at hstep;have hyl:=hb.bJ k;have hzl:=hO.bJ k;obtain⟨y,hy⟩:∃y,y=ys.getD k 0:=⟨_,rfl⟩;obtain⟨z,hz⟩:∃z,z=zs'.getD k 0:=⟨_,rfl⟩;rw[<-hy]at GX hyl hstep;rw[<-hz]at hzc hzl hstep;have HST:=ah7 hstep;clear hy hz hV hstep hcb;go_wp2;have hki:((k:Nat):Int)<((tn:Nat):Int):=by omega
   have hkb:((k:Nat):Int)<((lb:Nat):Int):=by omega
   have hk0:(0:Int)<=((k:Nat):Int):=by omega
   go_region_with (go_at_call 183;refine(qu z y cc _ hzl hyl hcc).mono ?_;rintro e w' ⟨rfl,rfl⟩)
   all_goals
    go_wp2;go_roundw
    case rel=>exact⟨k+1,im z y cc,by omega,sQ _ _ _,by go_num,rfl,_,hO.drew.set k _ (nQ _ _ _),hB.drew.setCell hBg _,HST.o⟩
    case measure=>simp[intOf];omega
  ·obtain rfl:k=m:=by omega
   have yK:ug w.heap.size ao tn ae w (au xs) (au ys) k cc wr:=by
    have e:au (ys.take k)=au ys:=by rw[<-HM.o,rD]
    rwa[e]at hinv
   clear hinv;go_wp2;go_loopw [8,10] (λc i wr=>∃k cc:Nat,k<=tn/\ cc<=1/\ i= .int .i64 k/\ c= .int .u32 cc/\ ug w.heap.size ao tn ae w (au xs) (au ys) k cc wr) (λ_ i _=>tn-(intOf i).toNat)
   case atStart=>exact⟨k,cc,by omega,hcc,rfl,rfl,yK⟩
   case round=>
    clear yK;obtain⟨k,cc,hk,hcc,rfl,rfl,zs',hO,hB,hV⟩:=hrel;by_cases hc0:cc=0
    ·have hb0:(((cc:Nat):Int) !=0)=false:=by simp;omega
     have hcut:=qw _ _ _ _ _ _ hO
     have ht:bE zs'=aq (au xs-au ys):=by
      rw[cq _ hO.wf]
      congr 1
      rw[hc0]at hV;omega
     rw[ht]at hcut;have ko:=ah7 hcut;clear ht hV hc0 hcut;go_wp2_with fail;refine ko.o.mono λe w' h=>?_
     obtain⟨eP,kk,cap',rfl,h3,rfl⟩:=h;go_wp2_with fail;go_ret2;exact⟨_,_,_,rfl,h3,hB⟩
    ·have hb0:(((cc:Nat):Int) !=0)=true:=by simp;omega
     have hkn:k<tn:=by
      rcases Nat.lt_or_ge k tn with h|h
      ·exact h
      ·obtain rfl:k=tn:=by omega
       obtain rfl:cc=1:=by omega
       have h1:=dG zs' hO.wf;rw[hO.len]at h1;have:=uX.o;omega
     obtain⟨g,rfl,hBg⟩:∃g,ao=some ⟨g,0,none⟩/\ w.heap.size<=g:=by
      rcases hO.parts with⟨_,h,_⟩|⟨g,h1,h2,_⟩
      ·omega
      ·exact⟨g,h1,h2⟩
     have hzc:=hO.cell k (by omega);have vy:=hO.frozen k;have hstep:=pD (y:=0) (by rw[hO.len];omega) (hO.bJ k) (by omega) hcc hV;rw[aj5,aj6 (au ys)]at hstep;have hzl:=hO.bJ k;obtain⟨z,hz⟩:∃z,z=zs'.getD k 0:=⟨_,rfl⟩;rw[<-hz]at hzc hzl hstep;have HST:=ah7 hstep;clear hz hV hstep hc0;go_wp2_with (go_at_call 183;refine(qu z 0 cc _ hzl (by omega) hcc).mono ?_;rintro e w' ⟨rfl,rfl⟩);go_roundw
     case rel=>exact⟨k+1,im z 0 cc,by omega,sQ _ _ _,by go_num,rfl,_,hO.set k _ (nQ _ _ _),hB.setCell hBg _,HST.o⟩
     case measure=>simp[intOf];omega
end Go.Proofs.YtmenbpmciblnlaaGreatDoor
