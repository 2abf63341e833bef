/- TxtLimb, TxtPieces, TxtText, TxtDigs, TxtParse -/
import Derived.Test.YtmenbpmciblnlaaGreatDoorGDiv
import Derived.Test.YtmenbpmciblnlaaGreatDoorGTxtA
import Derived.Lib.SlBytesConst
import Derived.Laws.Strings2
set_option maxHeartbeats 40000000
set_option maxRecDepth 100000
/- The contract of divide.Limb, where what it answers lies in memory of its own. -/
namespace Go.Proofs.YtmenbpmciblnlaaGreatDoor
open Lib (hid)
open Go.RowKit
theorem Ka (B:Nat) (ao:Option Addr) (n cap:Nat) (xs:List Nat) (w:World) (h:Own B w ao n cap xs):
  Calls Tryz.prog 234 #[.slice ao n cap] w (uz B w (limbs (val xs))):=by
 have hs:=h.sl;have hle:=hs.le;have hbig:=hs.big;have hnl:nl xs<=n:=by have:=iF xs;rw[hs.len]at this;exact this
 have HT:Hid (limbs (val xs)=xs.take (nl xs)):=by show _=_;rw[<-bX xs hs.wf,cK]
 have hup:=uF hs.wf;obtain⟨b,hb⟩:∃b,b=nbits (val xs):=⟨_,rfl⟩;obtain⟨m,hm⟩:∃m,m=nl xs:=⟨_,rfl⟩;rw[<-hb,<-hm]at hup;rw[<-hm]at HT hnl;have HB:=hid hb;have hbl:b<=32*m:=by omega
 have hdv:(((b:Nat):Int)+32-1)/32=((m:Nat):Int):=by omega
 clear hb hup hm;go_enter Tryz.func234,Tryz.ntmps234;by_cases h0:m=0
 ·subst h0;go_wp2_with fail;refine(gX b _ _ _ _ _ hs HB.out.symm).mono ?_;rintro e w' ⟨rfl,rfl⟩;go_wp2_with fail;go_ret;exact⟨_,_,_,rfl,by rw[HT.out];exact Own.nil _ _,rfl⟩
 ·have hb0:(((m:Nat):Int)==0)=false:=by simp;omega
  go_wp2_with fail;refine(gX b _ _ _ _ _ hs HB.out.symm).mono ?_;rintro e w' ⟨rfl,rfl⟩;go_wp2_with fail;go_ret;exact⟨_,_,_,rfl,by rw[HT.out];exact h.take m hnl (by omega),rfl⟩
def Uw (w:World) (q r:Nat) (er:Int) (e:Ending) (w':World):Prop:=
 ∃ao n cap,e= .returned (.tuple #[.slice ao n cap,.int .u32 (r:Int),.int .i64 er])/\ Own w.heap.size w' ao n cap (limbs q)/\ Below w.heap.size w w'
theorem Kb (a0:Option Addr) (la ca:Nat) (xs:List Nat) (d:Nat) (w:World) (ha:Sl w a0 la ca xs) (hd0:0<d) (hd:d<4294967296):
  Calls Tryz.prog 221 #[.slice a0 la ca,.int .u32 (d:Int)] w (Uw w (val xs/d) (val xs%d) 0):=by
 obtain⟨i0,hi,hz0,hz1,hz2⟩:=info_parts Tryz.gJ;have hb0:(((d:Nat):Int)==0)=false:=by simp;omega
 have hbig:=ha.big;go_enter Tryz.func221,Tryz.ntmps221;go_wp2_with fail;refine(lu _ _ _ _ _ ha).mono ?_;rintro e w' ⟨a1,n1,c1,rfl,hA,hn1,rfl⟩;go_wp2_with (at_make;refine wpList_make_full _ rfl _ _ 27 rfl w.heap.size 192 i0 (.int .u32 0) 1 Tryz.underlying27 hi hz0 hz1 _ _ _ _ n1 rfl rfl rfl rfl ?b2 ?b3 (Nat.le_refl _) ?_)
 case b2=>rw[hz2];omega
 case b3=>unfold maxLen;omega
 intro w1 hown1 hgrow1;rw[iZ]at hown1;have hb1:Below w.heap.size w w1:=(Below.refl _ _).grown hgrow1 (Nat.le_refl _) (fun k h=>by cases h)
 have nT:Own w.heap.size w1 (some ⟨w.heap.size,0,none⟩) n1 n1 (List.replicate n1 0):=
  ⟨hown1,by omega,fun x hx=>by rw[(List.mem_replicate.1 hx).2];omega⟩
 have hI1:nX w.heap.size (some ⟨w.heap.size,0,none⟩) n1 w (limbs (val xs)) d n1 0 (List.replicate n1 0) w1:=by
  refine⟨nT,hb1,?_,hd0⟩;rw[List.drop_eq_nil_of_le (by simp),List.drop_eq_nil_of_le (by rw[hA.len];exact Nat.le_refl _),dQ,Nat.zero_mul]
 clear hown1 hgrow1 nT hb1;go_wp2_with fail;go_loopw [5,7] (fun r i wr=>∃j rr:Nat,∃zs:List Nat,j<=n1/\ i= .int .i64 ((j:Int)-1)/\ r= .int .u32 rr/\ nX w.heap.size (some ⟨w.heap.size,0,none⟩) n1 w (limbs (val xs)) d j rr zs wr) (fun _ i _=>(intOf i+1).toNat)
 case atStart=>exact⟨n1,0,_,Nat.le_refl _,rfl,rfl,hI1⟩
 case round=>
  clear hI1;obtain⟨j,rr,zs,hj,rfl,rfl,hO,hB,hV,hlt⟩:=hrel;by_cases hj0:j=0
  ·subst hj0
   have hq:val zs=val xs/d/\ rr=val xs%d:=by
    rw[List.drop_zero,List.drop_zero,au]at hV;have h1:val xs=rr+d*val zs:=by rw[<-hV,Nat.mul_comm];omega
    rw[h1];exact⟨by rw[Nat.add_mul_div_left _ _ hd0,Nat.div_eq_of_lt hlt,Nat.zero_add],by rw[Nat.add_mul_mod_self_left,Nat.mod_eq_of_lt hlt]⟩
   have hbare:=Ka w.heap.size _ _ _ _ _ hO;rw[hq.1]at hbare;have QO:=hid hbare;have HR:=hid hq.2;clear hbare hV hq hO;go_wp2_with fail;refine QO.out.mono fun e w' h=>?_
   obtain⟨ao,kk,cap,rfl,h3,rfl⟩:=h;go_wp2_with fail;go_ret3;exact⟨_,_,_,by rw[<-HR.out];rfl,h3,hB⟩
  ·obtain⟨i,rfl⟩:∃i,j=i+1:=⟨j-1,by omega⟩;have ei:((i+1:Nat):Int)-1=(i:Int):=by omega
   rw[ei];clear ei;obtain⟨b,off,rfl,hbb,hcb⟩:=hA.at (by omega);have hxc:wr.cell? ⟨b,off+i,none⟩=some (.int .u32 ((limbs (val xs)).getD i 0:Nat)):=(hB.cell (by exact hbb)).trans (hcb i (by omega));have hxl:=hA.getD_lt i;have xJ:=hO.frozen i;have hzc:=hO.cell i (by omega);have hdrop:=iL (limbs (val xs)) i (by rw[hA.len];omega);obtain⟨x,hx⟩:∃x,x=(limbs (val xs)).getD i 0:=⟨_,rfl⟩;rw[<-hx]at hxc hxl hdrop;have HDR:=hid hdrop;have HV:=hid hV
   have hq:(rr*4294967296+x)/d<4294967296:=by
    rw[Nat.div_lt_iff_lt_mul hd0];have:(rr+1)*4294967296<=d*4294967296:=Nat.mul_le_mul_right _ hlt;omega
   have hI2:Hid (∀q,nX w.heap.size (some ⟨w.heap.size,0,none⟩) n1 w (limbs (val xs)) d i ((rr*4294967296+x)%d) (zs.set i ((rr*4294967296+x)/d)) ((wr.drewN q).setCell ⟨w.heap.size,i,none⟩ (.int .u32 (((rr*4294967296+x)/d:Nat):Int)))):=by
    intro q;refine⟨(hO.drewN q).set i _ hq,(hB.trans (below_drewN _ _ q)).setCell (Nat.le_refl _) _,?_,Nat.mod_lt _ hd0⟩;rw[iL _ i (by rw[List.length_set,hO.len];omega),fI,if_pos ⟨rfl,by rw[hO.len];omega⟩,List.drop_set_of_lt (by omega),HDR.out];exact yO HV.out
   clear hx hcb hdrop hV hq hj0 hO;go_wp2_with (go_at_call 241;refine(A8 rr x d _ hlt hxl hd).mono ?_;rintro e w' ⟨rfl,q,rfl⟩);go_roundw
   case rel=>exact⟨i,_,_,by omega,by go_num,rfl,hI2.out _⟩
   case measure=>simp[intOf]
end Go.Proofs.YtmenbpmciblnlaaGreatDoor
/- The contracts of digits.pieceText, of digits.taker and the function that it answers, of digits.piecesOf. -/
namespace Go.Proofs.YtmenbpmciblnlaaGreatDoor
open Lib (hid)
open Go.RowKit
theorem A9 (p:Nat) (hp:p<4294967296) (w:World) (ht:yh w):
  Calls Tryz.prog 161 #[.int .u32 (p:Int)] w (dI (.string ⟨(Lib.decDigits p).toArray⟩) w):=by
 have HT:=hid ht;clear ht;go_enter Tryz.func161,Tryz.ntmps161;go_wp2_with fail;refine(QR p (by omega) _ HT.out).mono ?_;rintro e w' ⟨rfl,hB⟩;go_wp2_with fail;go_ret;exact⟨rfl,hB⟩
structure uG (w:World) (b:Nat) (ao:Option Addr) (n cap:Nat):Prop where
 lt:b<w.heap.size
 c0:w.cell? ⟨b,0,none⟩=some (.slice ao n cap)
 f0:w.frozen? ⟨b,0,none⟩=false
theorem uG.below {w w':World} {b:Nat} {ao:Option Addr} {n cap:Nat} (h:uG w b ao n cap) (hb:Below w.heap.size w w'):uG w' b ao n cap:=
 ⟨Nat.lt_of_lt_of_le h.lt hb.size,(hb.cell h.lt).trans h.c0,(hb.frozen h.lt).trans h.f0⟩
theorem uG.set {w:World} {b:Nat} {ao:Option Addr} {n cap:Nat} (h:uG w b ao n cap) (iB:Option Addr) (n' cap':Nat):uG (w.setCell ⟨b,0,none⟩ (.slice iB n' cap')) b iB n' cap':=
 ⟨by simpa using h.lt,World.cell?_setCell_same _ _ _ h.c0,by simpa using h.f0⟩
theorem Kc {w:World} {ao:Option Addr} {n cap:Nat} {xs:List Nat} (h:Sl w ao n cap xs) {b:Nat} {bo:Option Addr} {l cb:Nat} (hb:uG w b bo l cb) (u:Value):Sl (w.setCell ⟨b,0,none⟩ u) ao n cap xs:=
 ⟨h.len,h.le,h.big,h.wf,h.nil,fun ad had t ht=>by
  have h0:=h.cells ad had t ht;rw[World.cell?_setCell_other _ _ _ _ (fun e=>by rw[<-e,hb.c0]at h0;cases h0)];exact h0⟩
def XB (w:World) (ao:Option Addr) (n cap:Nat) (e:Ending) (w':World):Prop:=
 ∃b,e= .returned (.func (.func 220) #[] #[.pointer (some ⟨b,0,none⟩)])/\ w.heap.size<=b/\ uG w' b ao n cap/\ Below w.heap.size w w'
theorem Ke (ao:Option Addr) (n cap:Nat) (w:World):Calls Tryz.prog 198 #[.slice ao n cap] w (XB w ao n cap):=by
 have ZJ:∀(fn:Fn) (first cap:Array Value) (w:World),(Instr.makeFunc fn first cap).run Tryz.prog w= .ok (.func fn first cap) w:=fun _ _ _ _=>rfl
 go_enter Tryz.func198,Tryz.ntmps198;go_wp2_with fail;go_ret;exact⟨_,rfl,Nat.le_refl _,⟨by simp,by simp[go_sem],by simp[go_sem]⟩,af _ _⟩
def XC (w:World) (b N:Nat) (e:Ending) (w':World):Prop:=
 ∃(p:Nat) (m:Bool) (ao:Option Addr) (n cap:Nat) (w1:World),e= .returned (.tuple #[.int .u32 (p:Int),.bool m])/\ p=N%1000000000/\ m=decide (0<N/1000000000)/\ Own w.heap.size w1 ao n cap (limbs (N/1000000000))/\ Below w.heap.size w w1/\ w'=w1.setCell ⟨b,0,none⟩ (.slice ao n cap)
theorem Ap {q n:Nat} (h:(limbs q).length=n):0<n↔0<q:=by
 rcases Nat.eq_zero_or_pos q with h0|h0
 ·subst h0;rw[gT]at h;simp at h;omega
 ·refine⟨fun _=>h0,fun _=>?_⟩;rcases Nat.eq_zero_or_pos n with h1|h1
  ·rw[h1]at h;have h2:=au q;rw[List.eq_nil_of_length_eq_zero h,dQ]at h2;omega
  ·exact h1
theorem uD (b:Nat) (ao:Option Addr) (n cap:Nat) (xs:List Nat) (w:World) (hb:uG w b ao n cap) (hs:Sl w ao n cap xs):
  Calls Tryz.prog 220 #[.pointer (some ⟨b,0,none⟩)] w (XC w b (val xs)):=by
 have HB:=hid hb;have HS:=hid hs;have hc0:=hb.c0;clear hb hs;go_enter Tryz.func220,Tryz.ntmps220;go_wp2_with fail;refine(Kb ao n cap xs 1000000000 _ HS.out (by omega) (by omega)).mono ?_;rintro e w1 ⟨xK,n1,kW,rfl,hO,hB⟩;have hx:=HB.out.below hB;have hc1:=hx.c0;have hf1:=hx.f0;have hn1:=Ap hO.len;have HO:=hid hO;have yP:=hid hB;have HN:Hid (decide (0<n1)=decide (0<val xs/1000000000)):=by show _=_;rw[decide_eq_decide];exact hn1
 obtain⟨p,hp⟩:∃p,p=val xs%1000000000:=⟨_,rfl⟩;rw[<-hp];have HP:=hid hp;clear hO hB hx hn1 hc0 hp;go_wp2_with fail;go_ret2;exact⟨p,decide (0<n1),xK,n1,kW,w1,by simp,HP.out,HN.out,HO.out,yP.out,rfl⟩
theorem Nh {w w':World} {ao:Option Addr} {n cap:Nat} {xs:List Nat} {row:Option Nat} (h:Sl w ao n cap xs) (hg:w.grownBy w' row) (hne:∀b,(Value.slice ao n cap).ownBlock=some b->row≠some b):Sl w' ao n cap xs:=
 ⟨h.len,h.le,h.big,h.wf,h.nil,fun ad had t ht=>by
  refine hg.cell (h.cells ad had t ht) (fun e=>?_);subst had;refine hne ad.block rfl ?_;rw[<-e]
  congr 1
  unfold Addr.add;split<;>rfl⟩
theorem uG.grown {w w':World} {b:Nat} {ao:Option Addr} {n cap:Nat} {row:Option Nat} (h:uG w b ao n cap) (hg:w.grownBy w' row) (hne:row≠some b):uG w' b ao n cap:=by
 refine⟨Nat.lt_of_lt_of_le h.lt hg.size,hg.cell h.c0 (fun e=>hne e.symm),?_⟩;rw[World.frozen?_of_block (hg.block b h.lt (fun e=>hne e.symm))];exact h.f0
structure nY (w0 w1:World) (N b k:Nat) (ao:Option Addr) (n cap:Nat) (bo:Option Addr) (l cb:Nat) (mo:Bool) (wr:World):Prop where
 own:Own w1.heap.size wr ao n cap (Mg N k)
 box:uG wr b bo l cb
 low:b<w1.heap.size
 old:w0.heap.size<=b
 src:∃ys,Sl wr bo l cb ys/\ val ys=N/10^(9*k)
 more:mo=(decide (k=0)||decide (0<N/10^(9*k)))
 prev:1<k->0<N/10^(9*(k-1))
 below:Below w0.heap.size w0 wr
 grow:w1.heap.size<=wr.heap.size
def ZT (w:World) (N:Nat) (e:Ending) (w':World):Prop:=
 ∃K ao cap,e= .returned (.slice ao K cap)/\ 1<=K/\ N/10^(9*K)=0/\ (1<K->0<N/10^(9*(K-1)))/\ Own w.heap.size w' ao K cap (Mg N K)/\ Below w.heap.size w w'
theorem yQ {N M k:Nat} (h:0<N/10^(9*k)) (hN:N<10^(9*M)):k<M:=by
 rcases Nat.lt_or_ge k M with h1|h1
 ·exact h1
 ·have h2:10^(9*M)<=10^(9*k):=Nat.pow_le_pow_right (by omega) (by omega);rw[Nat.div_eq_of_lt (by omega)]at h;omega
theorem nY.step {w0 w1 wr w2 w3:World} {N b k n cap l cb n' cap' kW:Nat} {ao bo iB xK:Option Addr} (h:nY w0 w1 N b k ao n cap bo l cb true wr)
  (hO:Own wr.heap.size w2 iB n' cap' (limbs (N/10^(9*(k+1))))) (hB:Below wr.heap.size wr w2) (hk:k<35184372088831)
  (hp:w3.ownsRow w1.heap.size 192 1 (.slice xK (n+1) kW) (n+1) (cellsOf (Mg N k)++[.int .u32 ((piece N k:Nat):Int)]))
  (hb3:Below w0.heap.size w0 w3) (hg:((w2.setCell ⟨b,0,none⟩ (.slice iB n' cap')).alloc (.cells #[.int .u32 ((piece N k:Nat):Int)] 192)).grownBy w3 (Value.slice ao n cap).ownBlock):
  nY w0 w1 N b (k+1) xK (n+1) kW iB n' cap' (decide (0<N/10^(9*(k+1)))) w3:=by
 have hn:n=k:=by rw[<-h.own.len,GL]
 have hx:=(h.box.below hB).set iB n' cap';have hx2:uG ((w2.setCell ⟨b,0,none⟩ (.slice iB n' cap')).alloc (.cells #[.int .u32 ((piece N k:Nat):Int)] 192)) b iB n' cap':=hx.below (af _ _);have hs2:Sl ((w2.setCell ⟨b,0,none⟩ (.slice iB n' cap')).alloc (.cells #[.int .u32 ((piece N k:Nat):Int)] 192)) iB n' cap' (limbs (N/10^(9*(k+1)))):=(Kc hO.sl (h.box.below hB) _).below (af _ _);have hrow:∀g,(Value.slice ao n cap).ownBlock=some g->w1.heap.size<=g/\ g<wr.heap.size:=fun g hg=>h.own.row.lt g hg
 have hrow2:∀g,(Value.slice iB n' cap').ownBlock=some g->wr.heap.size<=g:=fun g hg=>(hO.row.lt g hg).1
 refine⟨?_,hx2.grown hg (fun e=>?_),h.low,h.old,⟨_,Nh hs2 hg (fun g hg1 e=>?_),au _⟩,?_,fun hk1=>?_,hb3,?_⟩
 ·rw[Ni];exact Gv (piece N k) hp rfl (by have:=qj N k;omega) (Ux N k) (by omega)
 ·have:=(hrow b e).1;have:=h.low;omega
 ·have h1:=(hrow g e).2;have h2:=hrow2 g hg1;omega
 ·simp
 ·have h1:=h.more;rw[Nat.add_sub_cancel];simp at h1;rcases h1 with h1|h1
  ·omega
  ·exact Nat.div_pos h1.2 h1.1
 ·have h1:=hg.size;have h2:=h.grow;have h3:=hB.size;simp at h1;omega
theorem GN (M:Nat) (ao:Option Addr) (n cap:Nat) (xs:List Nat) (w:World) (hs:Sl w ao n cap xs) (hM:val xs<10^(9*M)) (hM2:M<=1000000000):
  Calls Tryz.prog 160 #[.slice ao n cap] w (ZT w (val xs)):=by
 obtain⟨i0,hi,hz0,hz1,hz2⟩:=info_parts Tryz.gJ;obtain⟨N,hN⟩:∃N,N=val xs:=⟨_,rfl⟩;rw[<-hN]at hM ⊢;have HS:=hid hs;have HN:=hid hN;have HM:=hid hM;clear hs hN hM;go_enter Tryz.func160,Tryz.ntmps160;go_wp2_with fail;refine(Ke ao n cap _).mono ?_;rintro e w1 ⟨b,rfl,hb1,hb2,hB⟩
 have HI:Hid (nY w w1 N b 0 none 0 0 ao n cap true w1):=
  ⟨Own.nil _ _,hb2,hb2.lt,hb1,⟨xs,HS.out.below hB,by rw[<-HN.out];simp⟩,rfl,fun h=>by omega,hB,Nat.le_refl _⟩
 clear hb1 hb2 hB;go_wp2_with fail;go_loopg [4,5] (N+1) (fun g p m wr=>∃(k:Nat) (po:Option Addr) (pc:Nat) (bo:Option Addr) (l cb:Nat) (mo:Bool),p= .slice po k pc/\ m= .bool mo/\ Hid (g=if mo then N/10^(9*k)+1 else 0)/\ Hid (nY w w1 N b k po k pc bo l cb mo wr))
 case atStart=>exact⟨0,none,0,ao,n,cap,true,rfl,rfl,by show _=_;simp,HI⟩
 case round=>
  clear HI;obtain⟨k,po,pc,bo,l,cb,mo,rfl,rfl,HG,HI⟩:=hrel;cases mo
  ·have h1:=HI.out.more;have hk0:k≠0:=fun e=>by simp[e]at h1
   have hz:N/10^(9*k)=0:=by
    rcases Nat.eq_zero_or_pos (N/10^(9*k))with h|h
    ·exact h
    ·simp[h]at h1
   have HZ:=hid hz;clear h1 hz;go_wp2_with fail;go_ret;exact⟨k,_,_,rfl,by omega,HZ.out,HI.out.prev,HI.out.own.mono (Nat.le_trans HI.out.old (Nat.le_of_lt HI.out.low)),HI.out.below⟩
  ·have hk:k<35184372088831:=by
    have h1:=HI.out.more;rcases Nat.eq_zero_or_pos k with h|h
    ·omega
    ·have h2:0<N/10^(9*k):=by
      have h3:k≠0:=by omega
      simp only[h3,decide_false,Bool.false_or]at h1;exact of_decide_eq_true h1.symm
     have:=yQ h2 HM.out;omega
   obtain⟨ys,hys,hv⟩:=HI.out.src;have hT:=uD b bo l cb ys wr HI.out.box hys;rw[hv]at hT;have HT:Hid (Calls Tryz.prog 220 #[.pointer (some ⟨b,0,none⟩)] wr (XC wr b (N/10^(9*k)))):=hT;clear hys hv hT;go_wp2_with fail;refine HT.out.mono ?_;rintro e w4 ⟨q,mo,iB,n',cap',w2,rfl,hq,hmo,hO,hB,hw4⟩;rw[q9]at hO hmo;have HQ:Hid (q=piece N k):=hq;have HMO:=hid hmo;have Kg:q<1000000000:=by rw[hq];exact Nat.mod_lt _ (by omega)
   clear hq hmo;have HO:=hid hO;have HB:=hid hB;have hx:=(HI.out.box.below hB).set iB n' cap';have hbr:b<wr.heap.size:=HI.out.box.lt
   have hrow:Hid (w4.ownsRow w1.heap.size 192 1 (.slice po k pc) k (cellsOf (Mg N k))):=by
    rw[hw4];exact ownsRow_setCell_other (HI.out.own.below hB).row (fun e=>by have:=(HI.out.own.row.lt b e).1;have:=HI.out.low;omega) _
   have hbl:Hid (Below w.heap.size w w4):=by rw[hw4];exact(Below.steps HI.out.below hB).setCell HI.out.old _
   have hsz:Hid (w1.heap.size<=w4.heap.size):=by rw[hw4];have h1:=hB.size;have h2:=HI.out.grow;show _<=_;simp;omega
   have HW:=hid hw4;clear hO hB hx hbr hw4;go_wp2_with (at_builtin;refine eH w4 w4 rfl (.tmp 15) (.tmp 17) 27 rfl w1.heap.size 192 i0 (.int .u32 0) 4 Tryz.underlying27 hi hz0 hz1 hz2 rfl _ _ _ _ rfl hrow.out _ rfl 192 rfl (Below.refl _ _) hsz.out (by unfold maxLen;omega) (by omega) ?_;intro Tt vL w3 hown3 hB3 hg3)
   have HJ:Hid (nY w w1 N b (k+1) Tt (k+1) vL iB n' cap' mo w3):=by
    rw[HMO.out];rw[HQ.out]at hown3 hg3;rw[HW.out]at hg3;exact HI.out.step HO.out HB.out hk hown3 (hbl.out.trans (hB3.mono (Nat.le_trans HI.out.old (Nat.le_of_lt HI.out.low)))) hg3
   have hm1:=HI.out.more;clear hown3 hB3 hg3 HO HB hrow hbl hsz HW;go_roundg (if mo then N/10^(9*(k+1))+1 else 0)
   case measure=>
    have h1:=HG.out;simp only[if_true]at h1;rw[h1];split
    ·have h2:=Nat.div_le_self (N/10^(9*k)) 1000000000;rw[q9]at h2;have h3:mo=true:=‹_›;rw[HMO.out]at h3;have h4:=of_decide_eq_true h3;have h5:=Nat.div_lt_self (Nat.lt_of_lt_of_le h4 h2) (show 1<1000000000 by omega);rw[q9]at h5;exact Nat.succ_lt_succ h5
    ·exact Nat.succ_pos _
   case rel=>exact⟨k+1,Tt,vL,iB,n',cap',mo,rfl,rfl,rfl,HJ⟩
end Go.Proofs.YtmenbpmciblnlaaGreatDoor
/- The contract of digits.Text. -/
namespace Go.Proofs.YtmenbpmciblnlaaGreatDoor
open Lib (hid)
open Go.RowKit Go.Lib
theorem M0 {m:Bool} {ao:Option Addr} {n cap:Nat} {z:Int} {w:World} (hx:Nx w m ao n cap z) (ht:yh w):
  Calls Tryz.prog 108 #[.agg #[.bool m,.slice ao n cap]] w (dI (.string ⟨(itoa z).toArray⟩) w):=by
 obtain⟨⟨xs,hs,hz⟩,hle⟩:=hx
 have hv:val xs<10^(9*(2*n)):=by
  have h1:=qU n hs.wf hs.len (Nat.le_refl _);refine Nat.lt_of_lt_of_le h1 ?_;rw[<-Nat.mul_assoc,Nat.pow_mul];exact Nat.pow_le_pow_left (by decide) n
 obtain⟨N,hN⟩:∃N,N=val xs:=⟨_,rfl⟩;have HS:=hid hs;have HT:=hid ht;have HN:=hid hN;have HV:=hid hv;have HZ:=hid hz;clear hs ht hN hv hz;go_enter Tryz.func108,Tryz.ntmps108;go_upto_region 1 with(fail)
 refine aj (fun W hW=>?_);have HB0:Hid (Below w.heap.size w W):=by rw[hW];exact af _ _
 have hbx:bJ W (w.heap.size) m ao n cap:=by rw[hW];exact bJ.new _ _ _ _ _ _ _ (by simp)
 have HX0:=hid hbx;clear hW hbx;have c0:=HX0.out.c0;have c1:=HX0.out.c1;go_wp2_with fail;refine(GN (2*n) ao n cap xs _ (HS.out.below HB0.out) HV.out (by omega)).mono ?_;rw[<-HN.out];rintro e w1 ⟨K,po,pc,rfl,hK1,hK2,hK3,hO,hB⟩;obtain⟨L,rfl⟩:∃L,K=L+1:=⟨K-1,by omega⟩;rcases hO.parts with⟨_,h0,_⟩|⟨g1,rfl,hg1,hg2,hpc⟩
 ·omega
 have JL:=hid hO;have HB1:=hid (Below.steps HB0.out hB);have ZU:=hid (HX0.out.below hB);have bI:=hid hK2;have bV:=hid hK3
 have hLM:L<=1000000000:=by
  rcases Nat.eq_zero_or_pos L with h|h
  ·omega
  ·have:=yQ (hK3 (by omega)) (by rw[HN.out];exact HV.out);omega
 obtain⟨p,hp⟩:∃p,p=piece N L:=⟨_,rfl⟩;have hpl:p<1000000000:=by rw[hp];exact qj _ _
 have hcell:w1.cell? ⟨g1,L,none⟩=some (.int .u32 ((p:Nat):Int)):=by
  have h1:=hO.cell L (by omega);rw[Ep _ _ _ (by omega),<-hp]at h1;exact h1
 have i1:(((L+1:Nat):Nat):Int)-1=((L:Nat):Int):=by omega
 have HDL:Hid ((decDigits p).length<=9):=by show _<=_;rw[decDigits_length];exact oZ 8 p (by simpa using hpl)
 have HC:=hid hcell;have HP:=hid hp;clear hB hO hK2 hK3 c0 c1 HX0 HB0 hcell hp hK1;have c0:=ZU.out.c0;have hcell:=HC.out;go_wp2_with fail;refine(A9 p (by omega) _ (HT.out.below HB1.out)).mono ?_;rintro e w2 ⟨rfl,hB⟩;have wG:=hid (JL.out.below hB);have HB2:=hid (Below.steps HB1.out hB);have Uy:=hid (ZU.out.below hB);have HC2:=hid ((hB.cell (p:=⟨g1,L,none⟩) hg2).trans HC.out);have hg3:=Nat.lt_of_lt_of_le hg2 hB.size;clear hB JL HB1 ZU HC c0 hcell hg2;have c0:=Uy.out.c0;have hcell:=HC2.out;obtain⟨hd,hhd⟩:∃hd,hd=yR m N L:=⟨_,rfl⟩;have HH:=hid hhd;clear hhd;obtain⟨q,hq⟩:∃q,q=(m&&decide (0<p)):=⟨_,rfl⟩;have HQ:=hid hq;clear hq;go_upto_region 4 with(fail)
 go_cut [30]from 22 to 30 (fun s30 wx=>w2=wx/\ s30= .bool q)
 case first=>
  have hq:=HQ.out;cases m
  ·go_wp2_with fail;go_meet;exact⟨rfl,by rw[hq];rfl⟩
  ·have HQ2:=hid hq;clear hq;go_wp2_with fail;go_meet;exact⟨rfl,by rw[HQ2.out];rfl⟩
 case rest=>
 obtain⟨rfl,rfl⟩:=hcut;go_upto_if 30 with(fail)
 go_cut [5]from 31 to 32 (fun s5 wx=>w2=wx/\ s5= .string ⟨hd.toArray⟩)
 case first=>
  have HE:Hid (hd=(if q then[45]else[])++decDigits p):=by rw[HQ.out,HP.out];exact HH.out
  cases q
  ·go_wp2_with fail;go_meet;exact⟨rfl,by rw[HE.out];rfl⟩
  ·have hadd:∀W:World,(Op.stringOp .add ⟨#[45]⟩ ⟨(decDigits p).toArray⟩).run Tryz.prog W= .ok (.string ⟨(45::decDigits p).toArray⟩) W:=fun W=>kQ W [45] (decDigits p) (by have:=HDL.out;simp;omega)
   go_wp2_with fail;go_meet;exact⟨rfl,by rw[HE.out];rfl⟩
 case rest=>
 obtain⟨rfl,rfl⟩:=hcut;have kc:=fun(w:World) (C:Array Value) (n c:Nat)=>Lib.run_convert_bytes_const (P:=Tryz.prog) w 99 5 C n c Tryz.underlying99 Tryz.underlying5
 have hhl:hd.length<=20:=by
  have h1:=HDL.out;rw[HH.out];unfold yR;rw[<-HP.out];split<;>simp<;>omega
 obtain⟨H,hH⟩:∃H,H=hd.length:=⟨_,rfl⟩;rw[<-hH]at hhl;obtain⟨T,hT⟩:∃T,T=H+L*9:=⟨_,rfl⟩;have iT:((H:Nat):Int)+((L:Nat):Int)*9=((T:Nat):Int):=by omega
 have hsz:(⟨hd.toArray⟩:ByteArray).size=H:=by rw[hH];rfl
 have XD:=hid hH;have HE0:Hid (0<H):=by show 0<H;rw[hH,HH.out];unfold yR;rw[List.length_append,decDigits_length];have:=nDigits_pos (piece N L);omega
 have VU:=hid hT;clear hH hT;go_wp2_with fail
 have hca:(w2.alloc (.cells #[Value.int .u8 48] 5 (1,2))).cell? ⟨w2.heap.size,0,none⟩=some (.int .u8 (((48:UInt8).toNat:Nat):Int)):=by
  refine(Lib.cell_of_heap (T:=5) (fr:=(1,2)) (cs:= #[Value.int .u8 48]) ?_ 0).trans rfl;show(w2.heap.push _)[w2.heap.size]? =_;rw[Array.getElem?_push_size]
 refine(Nj w2.heap.size 0 T 48 _ hca (by have:=VU.out;have:=HE0.out;omega) (by have:=VU.out;omega)).mono ?_;rintro e w3 ⟨g,rfl,hg4,hF,hB⟩;have JM:Hid (lT w3 g T (List.replicate T 48)):=lT.QS hF;have hb3:Hid (Below w2.heap.size w2 w3):=((Below.refl _ w2).alloc (Nat.le_refl _) _).trans (hB.mono (by simp));have hg5:w2.heap.size<=g:=by simp at hg4;omega
 have hHT:H<=T:=by have:=VU.out;omega
 have HFR:=hid (lT.row JM.out);clear hF hB hg4 hca kc hsz;go_wp2_with (refine pK rfl (.tmp 41) (.tmp 42) 99 9 rfl Tryz.underlying99 g 0 T T rfl hd rfl T _ JM.out (by rw[<-XD.out];exact hHT) (by rw[<-XD.out];omega) w2.heap.size w2 hb3.out hg5 ?_;intro w4 hT4 hb4)
 have HI:Hid (lT w4 g T (cont hd N L 0)):=by
  have h1:=hT4.out;rw[List.take_zero,List.nil_append,Nat.zero_add,VU.out,XD.out,Kh]at h1;rw[VU.out,XD.out];exact h1
 have oJ:=hid hb4;clear hT4 hb4 JM hb3 HFR hcell c0 iT i1;have HF:=hid (show N/10^(9*(L+1))=0/\ (1<L+1->0<N/10^(9*(L+1-1)))from⟨bI.out,bV.out⟩);have hTL:T=H+L*9:=VU.out;have ZV:=hid hTL;have hT9:L*9<=T:=by omega
 have hTb:T<=9000000100:=by omega
 clear hTL;go_loopg [7,50] L (fun gh s7 s50 wr=>∃k:Nat,k<=L/\ s7= .int .i64 ((T-k*9:Nat):Int)/\ s50= .int .i64 ((k:Nat):Int)/\ Hid (L-k=gh)/\ Hid (lT wr g T (cont hd N L k))/\ Hid (Below w2.heap.size w2 wr))
 case atStart=>exact⟨0,Nat.zero_le _,by go_num,by go_num,rfl,HI,oJ⟩
 case round=>
  clear HI oJ;obtain⟨k,hk,rfl,rfl,HG,HI,HB⟩:=hrel;by_cases hlt:k<L
  ·have d1:decide (k<L)=true:=by simpa using hlt
   obtain⟨q5,XE⟩:∃q5,q5=piece N k:=⟨_,rfl⟩;have Kg:q5<1000000000:=by rw[XE];exact qj _ _
   have hcell:wr.cell? ⟨g1,k,none⟩=some (.int .u32 ((q5:Nat):Int)):=by
    have h1:=wG.out.cell k (by omega);rw[Ep _ _ _ (by omega),<-XE]at h1;exact(HB.out.cell (p:=⟨g1,k,none⟩) hg3).trans h1
   have hd5:=uH N k;rw[<-XE]at hd5;obtain⟨D,hD⟩:∃D,D=(decDigits q5).length:=⟨_,rfl⟩;rw[<-hD]at hd5;have hsz:(⟨(decDigits q5).toArray⟩:ByteArray).size=D:=by rw[hD];rfl
   obtain⟨E,hE⟩:∃E,E=T-k*9:=⟨_,rfl⟩;rw[<-hE];have hE2:9<=E/\ E+k*9=T:=by omega
   have iE:((E:Nat):Int)-((D:Nat):Int)=((E-D:Nat):Int):=by omega
   have iE9:((E:Nat):Int)-9=((E-9:Nat):Int):=by omega
   obtain⟨F,hF⟩:∃F,F=E-D:=⟨_,rfl⟩;rw[<-hF]at iE;have hFT:¬T=F:=by omega
   have hFb:F<=9000000100:=by omega
   have hEb:E<=9000000100:=by omega
   have hF2:((F:Nat):Int)<=((T:Nat):Int):=by omega
   have Uu:=hid XE;have HD:=hid hD;have HF9:=hid hF;have HE2:=hid hE2;have HE9:=hid hE;clear XE hD hF hE;go_wp2_with fail;refine(A9 q5 (by omega) _ ((HT.out.below HB2.out).below HB.out)).mono ?_;rintro e w6 ⟨rfl,VW⟩
   have HI6:Hid (lT w6 g T (cont hd N L k)):=by
    obtain⟨h1,cur,h2,h3⟩:=HI.out;exact⟨h1,cur,by rw[VW.block g (lt_of_block h2)];exact h2,h3⟩
   have x9:=hid (HB.out.trans (VW.mono HB.out.size));clear VW HI HB hcell;go_wp2_with (refine pK rfl (.tmp 61) (.tmp 62) 99 9 rfl Tryz.underlying99 g F (T-F) (T-F) rfl (decDigits q5) rfl T _ HI6.out (by rw[<-HD.out];omega) (by rw[<-HD.out];omega) w2.heap.size w2 x9.out hg5 ?_;intro w7 hT7 F4)
   have HJ:Hid (lT w7 g T (cont hd N L (k+1))):=by
    have h1:=hT7.out;rw[Uu.out]at h1;rw[Ki hd N L k F hlt (by rw[<-Uu.out,<-HD.out,<-XD.out];have h2:=ZV.out;have h3:=HE2.out;have h4:=HF9.out;omega)]at h1;exact h1
   have Dx:=hid F4;clear hT7 F4 HI6 x9;go_roundg (L-(k+1))
   case measure=>have h1:=HG.out;rw[<-h1];omega
   case rel=>exact⟨k+1,hlt,by have h1:=HE9.out;congr 2;omega,by go_num,rfl,HJ,Dx⟩
  ·obtain rfl:k=L:=by omega
   have d1:decide (k<k)=false:=by simp
   have hfin:=Kj (m:=m) HF.out.1 HF.out.2;rw[<-HH.out,HN.out,HZ.out,<-HN.out]at hfin;have hI:=HI.out;rw[hfin]at hI;have hlen:=hI.1
   have hcv:(convert 99 9 (.slice (some ⟨g,0,none⟩) T T)).run Tryz.prog wr= .ok (.string ⟨(itoa z).toArray⟩) wr:=by
    have h:=run_convert_bytes_back (P:=Tryz.prog) wr 99 9 5 ⟨g,0,none⟩ T (itoa z) Tryz.underlying99 Tryz.underlying5 Tryz.underlying9 (fun j hj=>by
     rw[Addr.add_lit,Nat.zero_add];exact hI.cell j hj)
    rw[hlen]at h;exact h
   have HBE:=hid (HB2.out.trans (HB.out.mono HB2.out.size));clear hfin hI hlen HI HB;go_wp2_with fail;go_ret;exact⟨rfl,HBE.out⟩
end Go.Proofs.YtmenbpmciblnlaaGreatDoor
/- The contracts of digits.areDigits and digits.appendPiece. -/
namespace Go.Proofs.YtmenbpmciblnlaaGreatDoor
open Lib (hid)
open Go.RowKit
def yS (l:List UInt8):Bool:=dw l&&decide (l≠[])
theorem Kk (s:ByteArray) (k:Nat) (h:k<s.size):s.data.toList.take (k+1)=s.data.toList.take k++[s[k]]:=by
 rw[List.take_succ_eq_append_getElem (by simpa using h)];rfl
theorem QT (s:ByteArray) (k:Nat) (h:k<s.size) (hc:eB s[k]=false):dw s.data.toList=false:=by
 cases ha:dw s.data.toList with
 |false=>rfl
 |true=>
  have h1:=lJ ha s[k] (by simp[ByteArray.getElem_eq_getElem_data]);rw[h1]at hc;cases hc
theorem QU (s:ByteArray) (w:World) (hs:s.size<=1000000):
  Calls Tryz.prog 231 #[.string s] w fun e w'=>e= .returned (.bool (yS s.data.toList))/\ w=w':=by
 go_enter Tryz.func231,Tryz.ntmps231;go_wp2_with fail;go_loop [6] (fun i=>∃k:Nat,k<=s.size/\ i= .int .i64 k/\ Hid (dw (s.data.toList.take k)=true)) (fun i=>s.size-(intOf i).toNat)
 case atStart=>exact⟨0,Nat.zero_le _,rfl,by rw[List.take_zero];rfl⟩
 case round=>
  obtain⟨k,hk,rfl,HA⟩:=hrel;by_cases hlt:k<s.size
  ·cases hc:eB s[k]with
   |true=>
    have h1:=fO.1 hc;have h48:¬((s[k].toNat:Nat):Int)<48:=by omega
    have h57:¬(57:Int)<((s[k].toNat:Nat):Int):=by omega
    have HA2:Hid (dw (s.data.toList.take (k+1))=true):=by
     show _=_;rw[Kk s k hlt,ni,HA.out,eO,hc];rfl
    clear hc h1;go_wp2_with fail;go_round
    case rel=>exact⟨k+1,by omega,by go_num,HA2⟩
    case measure=>simp[intOf];omega
   |false=>
    have HD:Hid (yS s.data.toList=false):=by
     show _=_;unfold yS;rw[QT s k hlt hc];rfl
    have h1:s[k].toNat<48∨(¬s[k].toNat<48/\ 57<s[k].toNat):=by
     by_cases h2:s[k].toNat<48
     ·exact .inl h2
     ·right
      refine⟨h2,?_⟩;rcases Nat.lt_or_ge 57 s[k].toNat with h3|h3
      ·exact h3
      ·rw[fO.2 ⟨by omega,h3⟩]at hc;cases hc
    clear hc;rcases h1 with h1|⟨h1,h2⟩
    ·have h48:((s[k].toNat:Nat):Int)<48:=by omega
     go_wp2_with fail;go_ret;exact⟨by rw[HD.out];rfl,rfl⟩
    ·have h48:¬((s[k].toNat:Nat):Int)<48:=by omega
     have h57:(57:Int)<((s[k].toNat:Nat):Int):=by omega
     go_wp2_with fail;go_ret;exact⟨by rw[HD.out];rfl,rfl⟩
  ·obtain rfl:k=s.size:=by omega
   have hl:s.data.toList.length=s.size:=(Lib.size_eq s).symm;have hA:=HA.out;rw[List.take_of_length_le (by omega)]at hA
   have HR:Hid (yS s.data.toList=decide (0<s.size)):=by
    show _=_;unfold yS;rw[hA,Bool.true_and,decide_eq_decide,<-hl];exact List.length_pos_iff.symm
   clear hA HA hl;go_wp2_with fail;go_ret;exact⟨by rw[HR.out];simp,rfl⟩
structure GQ (B:Nat) (w0:World) (ao:Option Addr) (n cap V p k c:Nat) (wr:World) (zs:List Nat):Prop where
 own:Own B wr ao n cap zs
 below:Below B w0 wr
 low:val (zs.take k)+4294967296^k*c=val ((limbs V).take k)*1000000000+p
 high:zs.drop k=(limbs V).drop k
 lt:c<1000000000
theorem Co {xs ys:List Nat} {k:Nat} (h:xs.drop k=ys.drop k):xs.getD k 0=ys.getD k 0:=by
 have h1:=congrArg (fun l=>l.getD 0 0) h;simpa[List.getD]using h1
theorem QV {P A S p c x T:Nat} (h:A+P*c=S*1000000000+p) (ht:T=c+x*1000000000):
  (A+P*(T%4294967296))+P*4294967296*(T/4294967296)=(S+P*x)*1000000000+p:=by
 have h1:P*4294967296*(T/4294967296)=P*(4294967296*(T/4294967296)):=Nat.mul_assoc _ _ _;rw[h1,Nat.add_assoc,<-Nat.mul_add,Nat.mod_add_div,ht,Nat.mul_add,<-Nat.add_assoc,h,Nat.add_mul,Nat.mul_assoc P x];omega
theorem Er {zs:List Nat} {n:Nat} (hw:Wf zs) (hl:zs.length=n) (h:n=0∨4294967296^(n-1)<=val zs):zs=limbs (val zs):=by
 rcases Nat.eq_zero_or_pos n with h0|h0
 ·subst h0;obtain rfl:=List.eq_nil_of_length_eq_zero hl;rfl
 ·have h1:4294967296^(n-1)<=val zs:=by
   rcases h with h|h
   ·omega
   ·exact h
  have h2:nl zs=n:=by
   have h3:=iF zs;rcases Nat.lt_or_ge (nl zs) n with h4|h4
   ·have h5:=eu (limbs (val zs)) (dR _);rw[au,<-Tw zs hw]at h5;have h6:4294967296^(nl zs)<=4294967296^(n-1):=Nat.pow_le_pow_right (by omega) (by omega);omega
   ·omega
  rw[<-bX zs hw,cK,h2,dh zs n hl]
theorem Nk {V n:Nat} (h:(limbs V).length=n):n=0∨4294967296^(n-1)<=V:=by
 rcases Nat.eq_zero_or_pos n with h0|h0
 ·exact .inl h0
 ·right
  have h1:=fu (xs:=limbs V) (n-1) (by rw[fH,h];omega);rwa[au]at h1
def XF (B:Nat) (w0:World) (V n:Nat) (e:Ending) (w':World):Prop:=
 ∃ao n' cap,e= .returned (.slice ao n' cap)/\ Own B w' ao n' cap (limbs V)/\ Below B w0 w'/\ n'<=n+1
theorem QW (B:Nat) (ao:Option Addr) (n cap V p:Nat) (w0 w:World) (hO:Own B w ao n cap (limbs V)) (hb:Below B w0 w) (hB:B<=w.heap.size) (hp:p<1000000000) (hn:n<=1000000):
  Calls Tryz.prog 250 #[.slice ao n cap,.int .u32 (p:Int)] w (XF B w0 (V*1000000000+p) n):=by
 obtain⟨i0,hi,hz0,hz1,hz2⟩:=info_parts Tryz.gJ;have HI:Hid (GQ B w0 ao n cap V p 0 p w (limbs V)):=⟨hO,hb,by simp[val],rfl,hp⟩;have HL:=hid hO.len;clear hO hb;go_enter Tryz.func250,Tryz.ntmps250;go_wp2_with fail;go_loopg [5,12] n (fun g s5 s12 wr=>∃(k c:Nat) (zs:List Nat),k<=n/\ s5= .int .u64 ((c:Nat):Int)/\ s12= .int .i64 ((k:Nat):Int)/\ Hid (n-k=g)/\ Hid (GQ B w0 ao n cap V p k c wr zs)/\ B<=wr.heap.size)
 case atStart=>exact⟨0,p,limbs V,Nat.zero_le _,rfl,rfl,rfl,HI,hB⟩
 case round=>
  clear HI;obtain⟨k,c,zs,hk,rfl,rfl,HG,HI,hBr⟩:=hrel;have hcl:=HI.out.lt;by_cases hlt:k<n
  ·have d1:decide (k<n)=true:=by simpa using hlt
   rcases HI.out.own.parts with⟨_,h0,_⟩|⟨g,rfl,hg,_,hcap⟩
   ·omega
   obtain⟨x,hx⟩:∃x,x=zs.getD k 0:=⟨_,rfl⟩;have hxl:x<4294967296:=by rw[hx];exact HI.out.own.getD_lt k
   have hcell:=HI.out.own.cell k hlt;rw[<-hx]at hcell;have hfr:=HI.out.own.frozen k;obtain⟨T,hT⟩:∃T,T=c+x*1000000000:=⟨_,rfl⟩;have hTb:T<=4294967296000000000:=by omega
   have iT:((c:Nat):Int)+((x:Nat):Int)*1000000000=((T:Nat):Int):=by omega
   have HX:=hid hx;have HT:=hid hT;clear hx hT;go_wp2_with fail
   have HJ:Hid (GQ B w0 (some ⟨g,0,none⟩) n cap V p (k+1) (T/4294967296) (wr.setCell ⟨g,k,none⟩ (.int .u32 (((T:Nat):Int)%4294967296))) (zs.set k (T%4294967296))):=by
    have hlen:=HI.out.own.len;have hgl:=Co HI.out.high;refine⟨HI.out.own.set k (T%4294967296) (Nat.mod_lt _ (by omega)),HI.out.below.setCell hg _,?_,?_,by have:=HI.out.lt;have h1:=HT.out;omega⟩
    ·rw[bZ _ k (by rw[List.length_set];omega),bZ (limbs V) k (by rw[HL.out];exact hlt),val_append,val_append,List.length_take,List.length_set,List.length_take,HL.out,Nat.min_eq_left (by omega),Nat.min_eq_left (by omega),fI,if_pos ⟨rfl,by omega⟩,List.take_set_of_le (Nat.le_refl _),bq,bq,dQ,Nat.mul_zero,Nat.add_zero,Nat.add_zero,<-hgl,<-HX.out,Nat.pow_succ];exact QV HI.out.low HT.out
    ·rw[List.drop_set_of_lt (by omega)];have h1:=congrArg (List.drop 1) HI.out.high;rwa[List.drop_drop,List.drop_drop]at h1
   have hBs:B<=(wr.setCell ⟨g,k,none⟩ (.int .u32 (((T:Nat):Int)%4294967296))).heap.size:=by simpa using hBr
   clear HI;go_roundg (n-(k+1))
   case measure=>have h1:=HG.out;rw[<-h1];omega
   case rel=>exact⟨k+1,T/4294967296,_,hlt,by go_num,by go_num,rfl,HJ,hBs⟩
  ·obtain rfl:k=n:=by omega
   have d1:decide (k<k)=false:=by simp
   have hlen:=HI.out.own.len;have hlow:=HI.out.low;rw[dh zs k hlen,dh _ k HL.out]at hlow;rw[au]at hlow;have hO:=HI.out.own;have hbl:=HI.out.below;have Kl:=hid hlow;have HO:=hid hO;have HBL:=hid hbl;have hle:=hO.sl.le;have hbig:=hO.big;clear hlow hO hbl HI hlen;by_cases hc0:0<c
   ·have HV:Hid (zs++[c]=limbs (V*1000000000+p)):=by
     have h1:Wf (zs++[c]):=fun y hy=>by
      rcases List.mem_append.1 hy with hy|hy
      ·exact HO.out.wf y hy
      ·simp at hy;omega
     have h2:val (zs++[c])=V*1000000000+p:=by
      rw[val_append,bq,dQ,Nat.mul_zero,Nat.add_zero,HO.out.len];exact Kl.out
     show _=_;rw[<-h2,<-bX _ h1,sO _ (by omega)]
    go_wp2_with (at_builtin;refine eH wr wr rfl (.tmp 32) (.tmp 35) 27 rfl B 192 i0 (.int .u32 0) 4 Tryz.underlying27 hi hz0 hz1 hz2 rfl _ _ _ _ rfl HO.out.row (.int .u32 ((c:Nat):Int)) rfl 192 rfl (Below.refl _ _) hBr (by unfold maxLen;omega) (by omega) ?_;intro Tt vL w3 hown3 hB3 hg3);go_ret;exact⟨_,_,_,rfl,by rw[<-HV.out];exact Gv c hown3 rfl (by omega) HO.out.wf (by omega),HBL.out.trans hB3,Nat.le_refl _⟩
   ·obtain rfl:c=0:=by omega
    have HV:Hid (zs=limbs (V*1000000000+p)):=by
     have h2:=Kl.out;rw[Nat.mul_zero,Nat.add_zero]at h2;show _=_;rw[<-h2];refine Er HO.out.wf HO.out.len ?_;rw[h2];rcases Nk HL.out with h3|h3
     ·exact .inl h3
     ·exact .inr (by omega)
    go_wp2_with fail;go_ret;exact⟨_,_,_,rfl,by rw[<-HV.out];exact HO.out,HBL.out,Nat.le_succ _⟩
end Go.Proofs.YtmenbpmciblnlaaGreatDoor
/- The contracts of digits.limbs and digits.Parse. -/
namespace Go.Proofs.YtmenbpmciblnlaaGreatDoor
open Lib (hid)
open Go.RowKit
theorem ext_list (s:ByteArray) (a b:Nat):(s.extract a b).data.toList=(s.data.toList.drop a).take (b-a):=by
 have h:=ByteArray.extract_mk s.data.toList a b;have e:(ByteArray.mk s.data.toList.toArray)=s:=by simp
 rw[e]at h;rw[h]
theorem ext_size (s:ByteArray) (a b:Nat) (h:a<=b) (hb:b<=s.size):(s.extract a b).size=b-a:=by
 rw[Lib.size_eq,ext_list,List.length_take,List.length_drop,<-Lib.size_eq];omega
theorem GR (s:ByteArray) (w:World) (hs:s.size<=1000000) (ha:dw s.data.toList=true):
  Calls Tryz.prog 232 #[.string s] w (iq w (limbs (aP s.data.toList))):=by
 obtain⟨l,hl⟩:∃l,l=s.data.toList:=⟨_,rfl⟩;rw[<-hl]at ha ⊢;have HL:=hid hl;have HA:=hid ha;have hsz:s.size=l.length:=by rw[hl];exact Lib.size_eq s
 have DF:=hid hsz;clear hl ha hsz;go_enter Tryz.func232,Tryz.ntmps232;go_wp2_with fail;go_loopg [0,3] l.length (fun g s0 s3 wr=>∃(k:Nat) (t:ByteArray) (ao:Option Addr) (n cap:Nat),s0= .string t/\ s3= .slice ao n cap/\ Hid (k<=l.length/\ t.data.toList=l.drop k)/\ Hid (l.length-k=g)/\ Hid (Own w.heap.size wr ao n cap (limbs (aP (l.take k))))/\ Hid (Below w.heap.size w wr)/\ n<=k/\ Hid (k=0∨(l.length-k)%9=0))
 case atStart=>exact⟨0,s,none,0,0,rfl,rfl,⟨Nat.zero_le _,by rw[<-HL.out];rfl⟩,rfl,by rw[List.take_zero];exact Own.nil _ _,Below.refl _ _,Nat.le_refl _,.inl rfl⟩
 case round=>
  obtain⟨k,t,ao,n,cap,rfl,rfl,HK,HG,HO,HB,hn,HM⟩:=hrel;have htz:t.size=l.length-k:=by rw[Lib.size_eq,HK.out.2,List.length_drop]
  have hkl:=HK.out.1;have hsz:=DF.out;by_cases h0:0<t.size
  ·obtain⟨j,hj⟩:∃j,j=t.size-1:=⟨_,rfl⟩;obtain⟨r,hr⟩:∃r,r=j%9:=⟨_,rfl⟩;have Nl:r<9:=by omega
   have hrj:r<=j:=by rw[hr];exact Nat.mod_le _ _
   obtain⟨m,hm⟩:∃m,m=r+1:=⟨_,rfl⟩;have i0:((t.size:Nat):Int)-1=((j:Nat):Int):=by omega
   have i1:((j:Nat):Int)%9=((r:Nat):Int):=by omega
   have i2:((r:Nat):Int)+1=((m:Nat):Int):=by omega
   have htb:t.size<=1000000:=by omega
   have hmt:m<=t.size:=by omega
   have hm1:1<=m/\ m<=9:=by omega
   have ha:dw (t.extract 0 m).data.toList=true:=by
    rw[ext_list,HK.out.2,List.drop_drop];exact iU (pX HA.out _) _
   have ZW:=ext_size t 0 m (Nat.zero_le _) hmt;rw[Nat.sub_zero]at ZW;obtain⟨p,hp⟩:∃p,p=aP (t.extract 0 m).data.toList:=⟨_,rfl⟩
   have hpl:p<1000000000:=by
    have h1:=q8 ha;rw[<-hp,<-Lib.size_eq,ZW]at h1;have h2:10^m<=10^9:=Nat.pow_le_pow_right (by omega) hm1.2;rw[QX]at h2;omega
   have hP:=Km (t.extract 0 m) (by omega) (by omega) ha wr;rw[<-hp]at hP;have HP:=hid hP;have HPP:=hid hp;have HT:=hid htz
   have XG:Hid ((k=0∨m=9)/\ (l.length-(k+m))%9=0):=by
    have h1:=HM.out;show _/\ _;omega
   have hn6:n<=1000000:=by omega
   have hmi:((m:Nat):Int)<=((t.size:Nat):Int):=by omega
   clear hj hr hP hp ha ZW htz hsz hm;go_wp2_with fail;refine HP.out.mono ?_;rintro e w2 ⟨rfl,hB2⟩;have HA2:=hid (QW w.heap.size ao n cap (aP (l.take k)) p w w2 (HO.out.below hB2) (HB.out.trans (hB2.mono HB.out.size)) (Nat.le_trans HB.out.size hB2.size) hpl hn6);clear hB2 HO HB HP;go_wp2_with fail;refine HA2.out.mono ?_;rintro e w3 ⟨Tt,n3,vL,rfl,hO3,hB3,hn3⟩;have hk2:k+m<=l.length:=by have:=HT.out;omega
   have HE:Hid (aP (l.take k)*1000000000+p=aP (l.take (k+m))):=by
    have h1:=HPP.out;rw[ext_list,HK.out.2,List.drop_zero,Nat.sub_zero]at h1;show _=_;have h3:l.take (k+m)=l.take k++(l.drop k).take m:=List.take_add ..;rw[h3,kC,<-h1,List.length_take,List.length_drop,Nat.min_eq_left (by omega)];rcases XG.out.1 with h4|h4
    ·subst h4;simp[aP]
    ·subst h4;rfl
   have Md:Hid (Own w.heap.size w3 Tt n3 vL (limbs (aP (l.take (k+m))))):=by rw[<-HE.out];exact hO3
   have bV:Hid (k+m<=l.length/\ (t.extract m t.size).data.toList=l.drop (k+m)):=by
    refine⟨hk2,?_⟩;rw[ext_list,HK.out.2,List.drop_drop,List.take_of_length_le];rw[List.length_drop,HT.out];omega
   have HB3:=hid hB3;clear hO3 hB3 HA2 HE;go_wp2_with fail;go_roundg (l.length-(k+m))
   case measure=>have h1:=HG.out;omega
   case rel=>exact⟨k+m,t.extract m t.size,Tt,n3,vL,rfl,rfl,bV,rfl,Md,HB3,by omega,.inr XG.out.2⟩
  ·have hk2:k=l.length:=by omega
   subst hk2;have wG:Hid (Own w.heap.size wr ao n cap (limbs (aP l))):=by have h1:=HO.out;rwa[List.take_length]at h1
   have d1:t.size=0:=by omega
   clear HO htz hsz;go_wp2_with fail;go_ret;exact⟨_,_,_,rfl,wG.out,HB.out⟩
theorem Aq (l:List UInt8):(fq l).length<=l.length:=by
 rcases Es l with⟨r,rfl⟩|⟨_,h⟩
 ·rw[(GU r).2];simp
 ·rw[h];exact Nat.le_refl _
theorem QY {u:ByteArray} (h:yS u.data.toList=true):0<u.size:=by
 unfold yS at h;rw[Bool.and_eq_true]at h;rw[Lib.size_eq];exact List.length_pos_iff.2 (of_decide_eq_true h.2)
theorem Kn (u:ByteArray) (h:0<u.size):u.data.toList.head? =some u[0]:=by
 rw[List.head?_eq_getElem?,List.getElem?_eq_getElem (by simpa using h)];rfl
theorem Uz {s:ByteArray} {b:List UInt8} (h:s.data.toList=b):(s.toList==b)=true:=by
 rw[ByteArray.toList_eq,h];simp
def XH (w:World) (q:Int) (er:Int) (e:Ending) (w':World):Prop:=
 ∃m ao n cap,e= .returned (.tuple #[.agg #[.bool m,.slice ao n cap],.int .i64 er])/\ Cn w' m ao n cap q/\ Below w.heap.size w w'
def rZ (er:Int):Value:= .tuple #[.agg #[.bool false,.slice none 0 0],.int .i64 er]
theorem MH (s:ByteArray) (w:World) (hs:s.size<=20000) (hn:GJ s.data.toList=true):
  Calls Tryz.prog 206 #[.string s] w (XH w (GK s.data.toList) 0):=by
 have Ug:(⟨(fq s.data.toList).toArray⟩:ByteArray).size<=1000000:=by
  have h1:=Aq s.data.toList;rw[<-Lib.size_eq]at h1;exact Nat.le_trans h1 (by omega)
 have hd:yS (fq s.data.toList)=true:=by
  have h1:=qi.1 hn;unfold yS;rw[h1.2.1,Bool.true_and];exact decide_eq_true h1.1
 have HD:=hid hd;have HN:=hid hn;clear hd hn;go_enter Tryz.func206,Tryz.ntmps206;go_wp2_with fail;refine(Nn s _).mono ?_;rintro e w1 ⟨rfl,hw1⟩;rw[hw1];obtain⟨u,hu⟩:∃u:ByteArray,u=⟨(fq s.data.toList).toArray⟩:=⟨_,rfl⟩;obtain⟨q,hq⟩:∃q,q=Lib.hasPrefix s.data.toList [45]:=⟨_,rfl⟩;rw[<-hu,<-hq];rw[<-hu]at Ug;have hD:yS u.data.toList=true:=by rw[hu];exact HD.out
 have HD2:=hid hD;have hpos:0<u.size:=QY hD;have hu2:u.data.toList=fq s.data.toList:=by rw[hu]
 have hbs:Hid ((((u[0].toNat:Nat):Int)==48)=false∨((((u[0].toNat:Nat):Int)==48)=true/\ (s.toList==[48])=true)):=by
  have h1:=(qi.1 HN.out).2.2;have h2:=Kn u hpos;rw[hu2]at h2;by_cases h3:u[0]=48
  ·right
   rw[h3]at h2;rcases h1 with h1|h1
   ·exact absurd h2 h1
   ·exact⟨by rw[h3];rfl,Uz h1⟩
  ·left
   have h4:u[0].toNat≠48:=fun e=>h3 (UInt8.toNat_inj.1 e)
   simp;omega
 have HU:=hid hu2;have HQ:=hid hq;clear hu2;clear hw1 hu hq hD;go_wp2_with fail;refine(QU u _ Ug).mono ?_;rintro e w2 ⟨rfl,hw2⟩;rw[<-hw2,HD2.out];clear hw2
 have HLM:Hid (∀W:World,Calls Tryz.prog 232 #[.string u] W (iq W (limbs (aP (fq s.data.toList))))):=by
  intro W;have h1:=HD2.out;unfold yS at h1;rw[Bool.and_eq_true]at h1;rw[<-HU.out];exact GR u W Ug h1.1
 have ZX:Hid (∀(W:World) (ao:Option Addr) (n cap:Nat),Own (w.alloc (.cells #[Value.bool false,.slice none 0 0] 29)).heap.size W ao n cap (limbs (aP (fq s.data.toList)))->Cn W q ao n cap (GK s.data.toList)):=by
  intro W ao n cap hO;refine⟨?_,by rw[Np];exact hO.sl⟩;rw[HQ.out];exact Ko HN.out
 have ZY:=hbs.out;clear hbs;rcases ZY with hb0|⟨hb0,hs2⟩
 all_goals
  go_wp2_with fail;refine(HLM.out _).mono ?_;rintro e w5 ⟨ao,n,cap,rfl,hO,hB⟩;have HC:=hid (ZX.out _ _ _ _ hO);have hbx:=(bJ.new w w.heap.size false none 0 0 29 rfl).below hB;have c0:=hbx.c0;have c1:=hbx.c1;have f0:=hbx.f0;have f1:=hbx.f1;have HBX:=hid hbx;have HB:=hid (aM hB);clear hO hB hbx;go_wp2_with fail;refine bodyPost_ret (v:= .tuple #[.agg #[.bool q,.slice ao n cap],.int .i64 0]) (by simp[results,Tryz.results206,go_sem,c0,c1]) rfl ?_;exact⟨_,_,_,_,rfl,HC.out.set2 HBX.out _ _,aT HB.out (Nat.le_refl _) _ _⟩
end Go.Proofs.YtmenbpmciblnlaaGreatDoor
