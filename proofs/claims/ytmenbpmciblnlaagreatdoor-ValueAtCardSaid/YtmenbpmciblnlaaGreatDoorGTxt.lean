/- TxtLimb, TxtPieces, TxtText, TxtDigs, TxtParse -/
import Derived.Test.YtmenbpmciblnlaaGreatDoorGDiv
import Derived.Test.YtmenbpmciblnlaaGreatDoorGTxtA
import Derived.Lib.SlBytesConst
set_option maxHeartbeats 0
set_option maxRecDepth 100000
open Go.Lib renaming size_eq->a0a
open Go.Value renaming int->a0c,slice->a0b
open List renaming drop_drop->a0n,drop_eq_nil_of_le->a0e,drop_set_of_lt->a0h,drop_zero->a0f,eq_nil_of_length_eq_zero->a0i,length_drop->a0o,length_pos_iff->a0l,length_set->a0g,length_take->a0m,replicate->a0d,take_of_length_le->a0k,take_zero->a0j
open Nat renaming add_assoc->a0B,add_zero->a0F,div_eq_of_lt->a0q,eq_zero_or_pos->a0u,le_of_lt->a0y,le_refl->a0p,le_trans->a0x,lt_of_lt_of_le->a0t,lt_or_ge->a0v,min_eq_left->a0D,mod_lt->a0s,mul_add->a0C,mul_assoc->a0z,mul_zero->a0E,pow_le_pow_right->a0w,sub_zero->a0G,zero_add->a0r,zero_le->a0A
/- The contract of divide.Limb, where what it answers lies in memory of its own. -/
namespace Go.Proofs.YtmenbpmciblnlaaGreatDoor
section
open Lib (hid)
open Go.RowKit
theorem NC (B:Nat) (ao:Option Addr) (n cap:Nat) (xs:List Nat) (w:World) (h:Own B w ao n cap xs):
  Calls Tryz.prog 234 #[a0b ao n cap] w (wE B w (limbs (val xs))):=by
 have hs:=h.sl;have hle:=hs.le;have hbig:=hs.big;have hnl:nl xs<=n:=by have:=iP xs;rw[hs.len]at this;exact this
 have HT:Hid (limbs (val xs)=xs.take (nl xs)):=by show _=_;rw[<-di xs hs.wf,dA]
 have hup:=wF hs.wf;obtain⟨b,hb⟩:∃b,b=nbits (val xs):=⟨_,rfl⟩;obtain⟨m,hm⟩:∃m,m=nl xs:=⟨_,rfl⟩;rw[<-hb,<-hm]at hup;rw[<-hm]at HT hnl;have HB:=hid hb;have hbl:b<=32*m:=by omega
 have hdv:(((b:Nat):Int)+32-1)/32=((m:Nat):Int):=by omega
 clear hb hup hm;go_enter Tryz.func234,Tryz.ntmps234;by_cases h0:m=0
 ·subst h0;go_wp2_with fail;refine(iC b _ _ _ _ _ hs HB.out.symm).mono ?_;rintro e w' ⟨rfl,rfl⟩;go_wp2_with fail;go_ret;exact⟨_,_,_,rfl,by rw[HT.out];exact Own.nil _ _,rfl⟩
 ·have hb0:(((m:Nat):Int)==0)=false:=by simp;omega
  go_wp2_with fail;refine(iC b _ _ _ _ _ hs HB.out.symm).mono ?_;rintro e w' ⟨rfl,rfl⟩;go_wp2_with fail;go_ret;exact⟨_,_,_,rfl,by rw[HT.out];exact h.take m hnl (by omega),rfl⟩
def Yu (w:World) (q r:Nat) (er:Int) (e:Ending) (w':World):Prop:=
 ∃ao n cap,e= .returned (.tuple #[a0b ao n cap,.int .u32 (r:Int),.int .i64 er])/\ Own w.heap.size w' ao n cap (limbs q)/\ Below w.heap.size w w'
theorem ND (a0:Option Addr) (la ca:Nat) (xs:List Nat) (d:Nat) (w:World) (ha:Sl w a0 la ca xs) (hd0:0<d) (hd:d<4294967296):
  Calls Tryz.prog 221 #[a0b a0 la ca,.int .u32 (d:Int)] w (Yu w (val xs/d) (val xs%d) 0):=by
 obtain⟨i0,hi,hz0,hz1,hz2⟩:=info_parts Tryz.gV;have hb0:(((d:Nat):Int)==0)=false:=by simp;omega
 have hbig:=ha.big;go_enter Tryz.func221,Tryz.ntmps221;go_wp2_with fail;refine(mR _ _ _ _ _ ha).mono ?_;rintro e w' ⟨a1,n1,c1,rfl,hA,hn1,rfl⟩;go_wp2_with (at_make;refine wpList_make_full _ rfl _ _ 27 rfl w.heap.size 192 i0 (.int .u32 0) 1 Tryz.underlying27 hi hz0 hz1 _ _ _ _ n1 rfl rfl rfl rfl ?b2 ?b3 (a0p _) ?_)
 case b2=>rw[hz2];omega
 case b3=>unfold maxLen;omega
 intro w1 hown1 hgrow1;rw[jy]at hown1;have hb1:Below w.heap.size w w1:=(Below.refl _ _).grown hgrow1 (a0p _) (λk h=>by cases h)
 have oq:Own w.heap.size w1 (some ⟨w.heap.size,0,none⟩) n1 n1 (a0d n1 0):=
  ⟨hown1,by omega,λx hx=>by rw[(List.mem_replicate.1 hx).2];omega⟩
 have hI1:pM w.heap.size (some ⟨w.heap.size,0,none⟩) n1 w (limbs (val xs)) d n1 0 (a0d n1 0) w1:=by
  refine⟨oq,hb1,?_,hd0⟩;rw[a0e (by simp),a0e (by rw[hA.len];exact a0p _),dY,Nat.zero_mul]
 clear hown1 hgrow1 oq hb1;go_wp2_with fail;go_loopw [5,7] (λr i wr=>∃j rr:Nat,∃zs:List Nat,j<=n1/\ i= .int .i64 ((j:Int)-1)/\ r= .int .u32 rr/\ pM w.heap.size (some ⟨w.heap.size,0,none⟩) n1 w (limbs (val xs)) d j rr zs wr) (λ_ i _=>(intOf i+1).toNat)
 case atStart=>exact⟨n1,0,_,a0p _,rfl,rfl,hI1⟩
 case round=>
  clear hI1;obtain⟨j,rr,zs,hj,rfl,rfl,hO,hB,hV,hlt⟩:=hrel;by_cases hj0:j=0
  ·subst hj0
   have hq:val zs=val xs/d/\ rr=val xs%d:=by
    rw[a0f,a0f,au]at hV;have h1:val xs=rr+d*val zs:=by rw[<-hV,Nat.mul_comm];omega
    rw[h1];exact⟨by rw[Nat.add_mul_div_left _ _ hd0,a0q hlt,a0r],by rw[Nat.add_mul_mod_self_left,Nat.mod_eq_of_lt hlt]⟩
   have hbare:=NC w.heap.size _ _ _ _ _ hO;rw[hq.1]at hbare;have U0:=hid hbare;have HR:=hid hq.2;clear hbare hV hq hO;go_wp2_with fail;refine U0.out.mono λe w' h=>?_
   obtain⟨ao,kk,cap,rfl,h3,rfl⟩:=h;go_wp2_with fail;go_ret3;exact⟨_,_,_,by rw[<-HR.out];rfl,h3,hB⟩
  ·obtain⟨i,rfl⟩:∃i,j=i+1:=⟨j-1,by omega⟩;have ei:((i+1:Nat):Int)-1=(i:Int):=by omega
   rw[ei];clear ei;obtain⟨b,off,rfl,hbb,hcb⟩:=hA.at (by omega);have hxc:wr.cell? ⟨b,off+i,none⟩=some (.int .u32 ((limbs (val xs)).getD i 0:Nat)):=(hB.cell (by exact hbb)).trans (hcb i (by omega));have hxl:=hA.getD_lt i;have zH:=hO.frozen i;have hzc:=hO.cell i (by omega);have hdrop:=iL (limbs (val xs)) i (by rw[hA.len];omega);obtain⟨x,hx⟩:∃x,x=(limbs (val xs)).getD i 0:=⟨_,rfl⟩;rw[<-hx]at hxc hxl hdrop;have HDR:=hid hdrop;have HV:=hid hV
   have hq:(rr*4294967296+x)/d<4294967296:=by
    rw[Nat.div_lt_iff_lt_mul hd0];have:(rr+1)*4294967296<=d*4294967296:=Nat.mul_le_mul_right _ hlt;omega
   have hI2:Hid (∀q,pM w.heap.size (some ⟨w.heap.size,0,none⟩) n1 w (limbs (val xs)) d i ((rr*4294967296+x)%d) (zs.set i ((rr*4294967296+x)/d)) ((wr.drewN q).setCell ⟨w.heap.size,i,none⟩ (.int .u32 (((rr*4294967296+x)/d:Nat):Int)))):=by
    intro q;refine⟨(hO.drewN q).set i _ hq,(hB.trans (below_drewN _ _ q)).setCell (a0p _) _,?_,a0s _ hd0⟩;rw[iL _ i (by rw[a0g,hO.len];omega),fP,if_pos ⟨rfl,by rw[hO.len];omega⟩,a0h (by omega),HDR.out];exact Ay HV.out
   clear hx hcb hdrop hV hq hj0 hO;go_wp2_with (go_at_call 241;refine(Dw rr x d _ hlt hxl hd).mono ?_;rintro e w' ⟨rfl,q,rfl⟩);go_roundw
   case rel=>exact⟨i,_,_,by omega,by go_num,rfl,hI2.out _⟩
   case measure=>simp[intOf]
end
/- The contracts of digits.pieceText, of digits.taker and the function that it answers, of digits.piecesOf. -/
section
open Lib (hid)
open Go.RowKit
theorem Dx (p:Nat) (hp:p<4294967296) (w:World) (ht:zX w):
  Calls Tryz.prog 161 #[.int .u32 (p:Int)] w (cu (.string ⟨(Lib.decDigits p).toArray⟩) w):=by
 have HT:=hid ht;clear ht;go_enter Tryz.func161,Tryz.ntmps161;go_wp2_with fail;refine(U2 p (by omega) _ HT.out).mono ?_;rintro e w' ⟨rfl,hB⟩;go_wp2_with fail;go_ret;exact⟨rfl,hB⟩
structure wG (w:World) (b:Nat) (ao:Option Addr) (n cap:Nat):Prop where
 lt:b<w.heap.size
 c0:w.cell? ⟨b,0,none⟩=some (a0b ao n cap)
 f0:w.frozen? ⟨b,0,none⟩=false
theorem wG.below {w w':World} {b:Nat} {ao:Option Addr} {n cap:Nat} (h:wG w b ao n cap) (hb:Below w.heap.size w w'):wG w' b ao n cap:=
 ⟨a0t h.lt hb.size,(hb.cell h.lt).trans h.c0,(hb.frozen h.lt).trans h.f0⟩
theorem wG.set {w:World} {b:Nat} {ao:Option Addr} {n cap:Nat} (h:wG w b ao n cap) (gu:Option Addr) (n' cap':Nat):wG (w.setCell ⟨b,0,none⟩ (a0b gu n' cap')) b gu n' cap':=
 ⟨by simpa using h.lt,World.cell?_setCell_same _ _ _ h.c0,by simpa using h.f0⟩
theorem NE {w:World} {ao:Option Addr} {n cap:Nat} {xs:List Nat} (h:Sl w ao n cap xs) {b:Nat} {bo:Option Addr} {l cb:Nat} (hb:wG w b bo l cb) (u:Value):Sl (w.setCell ⟨b,0,none⟩ u) ao n cap xs:=
 ⟨h.len,h.le,h.big,h.wf,h.nil,λad had t ht=>by
  have h0:=h.cells ad had t ht;rw[World.cell?_setCell_other _ _ _ _ (λe=>by rw[<-e,hb.c0]at h0;cases h0)];exact h0⟩
def ae1 (w:World) (ao:Option Addr) (n cap:Nat) (e:Ending) (w':World):Prop:=
 ∃b,e= .returned (.func (.func 220) #[] #[.pointer (some ⟨b,0,none⟩)])/\ w.heap.size<=b/\ wG w' b ao n cap/\ Below w.heap.size w w'
theorem NF (ao:Option Addr) (n cap:Nat) (w:World):Calls Tryz.prog 198 #[a0b ao n cap] w (ae1 w ao n cap):=by
 have hmf:∀(fn:Fn) (first cap:Array Value) (w:World),(Instr.makeFunc fn first cap).run Tryz.prog w= .ok (.func fn first cap) w:=λ_ _ _ _=>rfl
 go_enter Tryz.func198,Tryz.ntmps198;go_wp2_with fail;go_ret;exact⟨_,rfl,a0p _,⟨by simp,by simp[go_sem],by simp[go_sem]⟩,af _ _⟩
def ae2 (w:World) (b N:Nat) (e:Ending) (w':World):Prop:=
 ∃(p:Nat) (m:Bool) (ao:Option Addr) (n cap:Nat) (w1:World),e= .returned (.tuple #[.int .u32 (p:Int),.bool m])/\ p=N%1000000000/\ m=decide (0<N/1000000000)/\ Own w.heap.size w1 ao n cap (limbs (N/1000000000))/\ Below w.heap.size w w1/\ w'=w1.setCell ⟨b,0,none⟩ (a0b ao n cap)
theorem Cw {q n:Nat} (h:(limbs q).length=n):0<n↔0<q:=by
 rcases a0u q with h0|h0
 ·subst h0;rw[iy]at h;simp at h;omega
 ·refine⟨λ_=>h0,λ_=>?_⟩;rcases a0u n with h1|h1
  ·rw[h1]at h;have h2:=au q;rw[a0i h,dY]at h2;omega
  ·exact h1
theorem wH (b:Nat) (ao:Option Addr) (n cap:Nat) (xs:List Nat) (w:World) (hb:wG w b ao n cap) (hs:Sl w ao n cap xs):
  Calls Tryz.prog 220 #[.pointer (some ⟨b,0,none⟩)] w (ae2 w b (val xs)):=by
 have HB:=hid hb;have HS:=hid hs;have hc0:=hb.c0;clear hb hs;go_enter Tryz.func220,Tryz.ntmps220;go_wp2_with fail;refine(ND ao n cap xs 1000000000 _ HS.out (by omega) (by omega)).mono ?_;rintro e w1 ⟨vH,n1,kC,rfl,hO,hB⟩;have hx:=HB.out.below hB;have hc1:=hx.c0;have hf1:=hx.f0;have hn1:=Cw hO.len;have HO:=hid hO;have vS:=hid hB;have HN:Hid (decide (0<n1)=decide (0<val xs/1000000000)):=by show _=_;rw[decide_eq_decide];exact hn1
 obtain⟨p,hp⟩:∃p,p=val xs%1000000000:=⟨_,rfl⟩;rw[<-hp];have HP:=hid hp;clear hO hB hx hn1 hc0 hp;go_wp2_with fail;go_ret2;exact⟨p,decide (0<n1),vH,n1,kC,w1,by simp,HP.out,HN.out,HO.out,vS.out,rfl⟩
theorem Rn {w w':World} {ao:Option Addr} {n cap:Nat} {xs:List Nat} {row:Option Nat} (h:Sl w ao n cap xs) (hg:w.grownBy w' row) (hne:∀b,(a0b ao n cap).ownBlock=some b->row≠some b):Sl w' ao n cap xs:=
 ⟨h.len,h.le,h.big,h.wf,h.nil,λad had t ht=>by
  refine hg.cell (h.cells ad had t ht) (λe=>?_);subst had;refine hne ad.block rfl ?_;rw[<-e]
  congr 1
  unfold Addr.add;split<;>rfl⟩
theorem wG.grown {w w':World} {b:Nat} {ao:Option Addr} {n cap:Nat} {row:Option Nat} (h:wG w b ao n cap) (hg:w.grownBy w' row) (hne:row≠some b):wG w' b ao n cap:=by
 refine⟨a0t h.lt hg.size,hg.cell h.c0 (λe=>hne e.symm),?_⟩;rw[World.frozen?_of_block (hg.block b h.lt (λe=>hne e.symm))];exact h.f0
structure pO (w0 w1:World) (N b k:Nat) (ao:Option Addr) (n cap:Nat) (bo:Option Addr) (l cb:Nat) (mo:Bool) (wr:World):Prop where
 own:Own w1.heap.size wr ao n cap (Ps N k)
 box:wG wr b bo l cb
 low:b<w1.heap.size
 old:w0.heap.size<=b
 src:∃ys,Sl wr bo l cb ys/\ val ys=N/10^(9*k)
 more:mo=(decide (k=0)||decide (0<N/10^(9*k)))
 prev:1<k->0<N/10^(9*(k-1))
 below:Below w0.heap.size w0 wr
 grow:w1.heap.size<=wr.heap.size
def ai6 (w:World) (N:Nat) (e:Ending) (w':World):Prop:=
 ∃K ao cap,e= .returned (a0b ao K cap)/\ 1<=K/\ N/10^(9*K)=0/\ (1<K->0<N/10^(9*(K-1)))/\ Own w.heap.size w' ao K cap (Ps N K)/\ Below w.heap.size w w'
theorem Az {N M k:Nat} (h:0<N/10^(9*k)) (hN:N<10^(9*M)):k<M:=by
 rcases a0v k M with h1|h1
 ·exact h1
 ·have h2:10^(9*M)<=10^(9*k):=a0w (by omega) (by omega);rw[a0q (by omega)]at h;omega
theorem pO.step {w0 w1 wr w2 w3:World} {N b k n cap l cb n' cap' kC:Nat} {ao bo gu vH:Option Addr} (h:pO w0 w1 N b k ao n cap bo l cb true wr)
  (hO:Own wr.heap.size w2 gu n' cap' (limbs (N/10^(9*(k+1))))) (hB:Below wr.heap.size wr w2) (hk:k<35184372088831)
  (hp:w3.ownsRow w1.heap.size 192 1 (a0b vH (n+1) kC) (n+1) (cellsOf (Ps N k)++[.int .u32 ((piece N k:Nat):Int)]))
  (hb3:Below w0.heap.size w0 w3) (hg:((w2.setCell ⟨b,0,none⟩ (a0b gu n' cap')).alloc (.cells #[.int .u32 ((piece N k:Nat):Int)] 192)).grownBy w3 (a0b ao n cap).ownBlock):
  pO w0 w1 N b (k+1) vH (n+1) kC gu n' cap' (decide (0<N/10^(9*(k+1)))) w3:=by
 have hn:n=k:=by rw[<-h.own.len,Kb]
 have hx:=(h.box.below hB).set gu n' cap';have hx2:wG ((w2.setCell ⟨b,0,none⟩ (a0b gu n' cap')).alloc (.cells #[.int .u32 ((piece N k:Nat):Int)] 192)) b gu n' cap':=hx.below (af _ _);have hs2:Sl ((w2.setCell ⟨b,0,none⟩ (a0b gu n' cap')).alloc (.cells #[.int .u32 ((piece N k:Nat):Int)] 192)) gu n' cap' (limbs (N/10^(9*(k+1)))):=(NE hO.sl (h.box.below hB) _).below (af _ _);have hrow:∀g,(a0b ao n cap).ownBlock=some g->w1.heap.size<=g/\ g<wr.heap.size:=λg hg=>h.own.row.lt g hg
 have hrow2:∀g,(a0b gu n' cap').ownBlock=some g->wr.heap.size<=g:=λg hg=>(hO.row.lt g hg).1
 refine⟨?_,hx2.grown hg (λe=>?_),h.low,h.old,⟨_,Rn hs2 hg (λg hg1 e=>?_),au _⟩,?_,λhk1=>?_,hb3,?_⟩
 ·rw[Ro];exact Kc (piece N k) hp rfl (by have:=rW N k;omega) (Yv N k) (by omega)
 ·have:=(hrow b e).1;have:=h.low;omega
 ·have h1:=(hrow g e).2;have h2:=hrow2 g hg1;omega
 ·simp
 ·have h1:=h.more;rw[Nat.add_sub_cancel];simp at h1;rcases h1 with h1|h1
  ·omega
  ·exact Nat.div_pos h1.2 h1.1
 ·have h1:=hg.size;have h2:=h.grow;have h3:=hB.size;simp at h1;omega
theorem Ke (M:Nat) (ao:Option Addr) (n cap:Nat) (xs:List Nat) (w:World) (hs:Sl w ao n cap xs) (hM:val xs<10^(9*M)) (hM2:M<=1000000000):
  Calls Tryz.prog 160 #[a0b ao n cap] w (ai6 w (val xs)):=by
 obtain⟨i0,hi,hz0,hz1,hz2⟩:=info_parts Tryz.gV;obtain⟨N,hN⟩:∃N,N=val xs:=⟨_,rfl⟩;rw[<-hN]at hM ⊢;have HS:=hid hs;have HN:=hid hN;have HM:=hid hM;clear hs hN hM;go_enter Tryz.func160,Tryz.ntmps160;go_wp2_with fail;refine(NF ao n cap _).mono ?_;rintro e w1 ⟨b,rfl,hb1,hb2,hB⟩
 have HI:Hid (pO w w1 N b 0 none 0 0 ao n cap true w1):=
  ⟨Own.nil _ _,hb2,hb2.lt,hb1,⟨xs,HS.out.below hB,by rw[<-HN.out];simp⟩,rfl,λh=>by omega,hB,a0p _⟩
 clear hb1 hb2 hB;go_wp2_with fail;go_loopg [4,5] (N+1) (λg p m wr=>∃(k:Nat) (po:Option Addr) (pc:Nat) (bo:Option Addr) (l cb:Nat) (mo:Bool),p=a0b po k pc/\ m= .bool mo/\ Hid (g=if mo then N/10^(9*k)+1 else 0)/\ Hid (pO w w1 N b k po k pc bo l cb mo wr))
 case atStart=>exact⟨0,none,0,ao,n,cap,true,rfl,rfl,by show _=_;simp,HI⟩
 case round=>
  clear HI;obtain⟨k,po,pc,bo,l,cb,mo,rfl,rfl,HG,HI⟩:=hrel;cases mo
  ·have h1:=HI.out.more;have hk0:k≠0:=λe=>by simp[e]at h1
   have hz:N/10^(9*k)=0:=by
    rcases a0u (N/10^(9*k))with h|h
    ·exact h
    ·simp[h]at h1
   have HZ:=hid hz;clear h1 hz;go_wp2_with fail;go_ret;exact⟨k,_,_,rfl,by omega,HZ.out,HI.out.prev,HI.out.own.mono (a0x HI.out.old (a0y HI.out.low)),HI.out.below⟩
  ·have hk:k<35184372088831:=by
    have h1:=HI.out.more;rcases a0u k with h|h
    ·omega
    ·have h2:0<N/10^(9*k):=by
      have h3:k≠0:=by omega
      simp only[h3,decide_false,Bool.false_or]at h1;exact of_decide_eq_true h1.symm
     have:=Az h2 HM.out;omega
   obtain⟨ys,hys,hv⟩:=HI.out.src;have hT:=wH b bo l cb ys wr HI.out.box hys;rw[hv]at hT;have HT:Hid (Calls Tryz.prog 220 #[.pointer (some ⟨b,0,none⟩)] wr (ae2 wr b (N/10^(9*k)))):=hT;clear hys hv hT;go_wp2_with fail;refine HT.out.mono ?_;rintro e w4 ⟨q,mo,gu,n',cap',w2,rfl,hq,hmo,hO,hB,hw4⟩;rw[tO]at hO hmo;have HQ:Hid (q=piece N k):=hq;have HMO:=hid hmo;have Jg:q<1000000000:=by rw[hq];exact a0s _ (by omega)
   clear hq hmo;have HO:=hid hO;have HB:=hid hB;have hx:=(HI.out.box.below hB).set gu n' cap';have hbr:b<wr.heap.size:=HI.out.box.lt
   have hrow:Hid (w4.ownsRow w1.heap.size 192 1 (a0b po k pc) k (cellsOf (Ps N k))):=by
    rw[hw4];exact ownsRow_setCell_other (HI.out.own.below hB).row (λe=>by have:=(HI.out.own.row.lt b e).1;have:=HI.out.low;omega) _
   have hbl:Hid (Below w.heap.size w w4):=by rw[hw4];exact(Below.steps HI.out.below hB).setCell HI.out.old _
   have hsz:Hid (w1.heap.size<=w4.heap.size):=by rw[hw4];have h1:=hB.size;have h2:=HI.out.grow;show _<=_;simp;omega
   have HW:=hid hw4;clear hO hB hx hbr hw4;go_wp2_with (at_builtin;refine eD w4 w4 rfl (.tmp 15) (.tmp 17) 27 rfl w1.heap.size 192 i0 (.int .u32 0) 4 Tryz.underlying27 hi hz0 hz1 hz2 rfl _ _ _ _ rfl hrow.out _ rfl 192 rfl (Below.refl _ _) hsz.out (by unfold maxLen;omega) (by omega) ?_;intro Xb xR w3 hown3 hB3 hg3)
   have HJ:Hid (pO w w1 N b (k+1) Xb (k+1) xR gu n' cap' mo w3):=by
    rw[HMO.out];rw[HQ.out]at hown3 hg3;rw[HW.out]at hg3;exact HI.out.step HO.out HB.out hk hown3 (hbl.out.trans (hB3.mono (a0x HI.out.old (a0y HI.out.low)))) hg3
   have hm1:=HI.out.more;clear hown3 hB3 hg3 HO HB hrow hbl hsz HW;go_roundg (if mo then N/10^(9*(k+1))+1 else 0)
   case measure=>
    have h1:=HG.out;simp only[if_true]at h1;rw[h1];split
    ·have h2:=Nat.div_le_self (N/10^(9*k)) 1000000000;rw[tO]at h2;have h3:mo=true:=‹_›;rw[HMO.out]at h3;have h4:=of_decide_eq_true h3;have h5:=Nat.div_lt_self (a0t h4 h2) (show 1<1000000000 by omega);rw[tO]at h5;exact Nat.succ_lt_succ h5
    ·exact Nat.succ_pos _
   case rel=>exact⟨k+1,Xb,xR,gu,n',cap',mo,rfl,rfl,rfl,HJ⟩
end
/- The contract of digits.Text. -/
section
open Lib (hid)
open Go.RowKit Go.Lib
theorem QS {m:Bool} {ao:Option Addr} {n cap:Nat} {z:Int} {w:World} (hx:Nx w m ao n cap z) (ht:zX w):
  Calls Tryz.prog 108 #[.agg #[.bool m,a0b ao n cap]] w (cu (.string ⟨(itoa z).toArray⟩) w):=by
 obtain⟨⟨xs,hs,hz⟩,hle⟩:=hx
 have hv:val xs<10^(9*(2*n)):=by
  have h1:=tQ n hs.wf hs.len (a0p _);refine a0t h1 ?_;rw[<-a0z,Nat.pow_mul];exact Nat.pow_le_pow_left (by decide) n
 obtain⟨N,hN⟩:∃N,N=val xs:=⟨_,rfl⟩;have HS:=hid hs;have HT:=hid ht;have HN:=hid hN;have HV:=hid hv;have HZ:=hid hz;clear hs ht hN hv hz;go_enter Tryz.func108,Tryz.ntmps108;go_upto_region 1 with(fail)
 refine aj (λW hW=>?_);have HB0:Hid (Below w.heap.size w W):=by rw[hW];exact af _ _
 have hbx:bR W (w.heap.size) m ao n cap:=by rw[hW];exact bR.new _ _ _ _ _ _ _ (by simp)
 have HX0:=hid hbx;clear hW hbx;have c0:=HX0.out.c0;have c1:=HX0.out.c1;go_wp2_with fail;refine(Ke (2*n) ao n cap xs _ (HS.out.below HB0.out) HV.out (by omega)).mono ?_;rw[<-HN.out];rintro e w1 ⟨K,po,pc,rfl,hK1,hK2,hK3,hO,hB⟩;obtain⟨L,rfl⟩:∃L,K=L+1:=⟨K-1,by omega⟩;rcases hO.parts with⟨_,h0,_⟩|⟨g1,rfl,hg1,hg2,hpc⟩
 ·omega
 have M0:=hid hO;have HB1:=hid (Below.steps HB0.out hB);have ZR:=hid (HX0.out.below hB);have bL:=hid hK2;have bY:=hid hK3
 have hLM:L<=1000000000:=by
  rcases a0u L with h|h
  ·omega
  ·have:=Az (hK3 (by omega)) (by rw[HN.out];exact HV.out);omega
 obtain⟨p,hp⟩:∃p,p=piece N L:=⟨_,rfl⟩;have hpl:p<1000000000:=by rw[hp];exact rW _ _
 have hcell:w1.cell? ⟨g1,L,none⟩=some (.int .u32 ((p:Nat):Int)):=by
  have h1:=hO.cell L (by omega);rw[Hq _ _ _ (by omega),<-hp]at h1;exact h1
 have i1:(((L+1:Nat):Nat):Int)-1=((L:Nat):Int):=by omega
 have HDL:Hid ((decDigits p).length<=9):=by show _<=_;rw[decDigits_length];exact qE 8 p (by simpa using hpl)
 have HC:=hid hcell;have HP:=hid hp;clear hB hO hK2 hK3 c0 c1 HX0 HB0 hcell hp hK1;have c0:=ZR.out.c0;have hcell:=HC.out;go_wp2_with fail;refine(Dx p (by omega) _ (HT.out.below HB1.out)).mono ?_;rintro e w2 ⟨rfl,hB⟩;have yE:=hid (M0.out.below hB);have HB2:=hid (Below.steps HB1.out hB);have Yp:=hid (ZR.out.below hB);have Yw:=hid ((hB.cell (p:=⟨g1,L,none⟩) hg2).trans HC.out);have hg3:=a0t hg2 hB.size;clear hB M0 HB1 ZR HC c0 hcell hg2;have c0:=Yp.out.c0;have hcell:=Yw.out;obtain⟨hd,hhd⟩:∃hd,hd=AA m N L:=⟨_,rfl⟩;have HH:=hid hhd;clear hhd;obtain⟨q,hq⟩:∃q,q=(m&&decide (0<p)):=⟨_,rfl⟩;have HQ:=hid hq;clear hq;go_upto_region 4 with(fail)
 go_cut [30]from 22 to 30 (λs30 wx=>w2=wx/\ s30= .bool q)
 case first=>
  have hq:=HQ.out;cases m
  ·go_wp2_with fail;go_meet;exact⟨rfl,by rw[hq];rfl⟩
  ·have HQ2:=hid hq;clear hq;go_wp2_with fail;go_meet;exact⟨rfl,by rw[HQ2.out];rfl⟩
 case rest=>
 obtain⟨rfl,rfl⟩:=hcut;go_upto_if 30 with(fail)
 go_cut [5]from 31 to 32 (λs5 wx=>w2=wx/\ s5= .string ⟨hd.toArray⟩)
 case first=>
  have HE:Hid (hd=(if q then[45]else[])++decDigits p):=by rw[HQ.out,HP.out];exact HH.out
  cases q
  ·go_wp2_with fail;go_meet;exact⟨rfl,by rw[HE.out];rfl⟩
  ·have hadd:∀W:World,(Op.stringOp .add ⟨#[45]⟩ ⟨(decDigits p).toArray⟩).run Tryz.prog W= .ok (.string ⟨(45::decDigits p).toArray⟩) W:=λW=>tC W [45] (decDigits p) (by have:=HDL.out;simp;omega)
   go_wp2_with fail;go_meet;exact⟨rfl,by rw[HE.out];rfl⟩
 case rest=>
 obtain⟨rfl,rfl⟩:=hcut;have kc:=λ(w:World) (C:Array Value) (n c:Nat)=>Lib.run_convert_bytes_const (P:=Tryz.prog) w 99 5 C n c Tryz.underlying99 Tryz.underlying5
 have hhl:hd.length<=20:=by
  have h1:=HDL.out;rw[HH.out];unfold AA;rw[<-HP.out];split<;>simp<;>omega
 obtain⟨H,hH⟩:∃H,H=hd.length:=⟨_,rfl⟩;rw[<-hH]at hhl;obtain⟨T,hT⟩:∃T,T=H+L*9:=⟨_,rfl⟩;have iT:((H:Nat):Int)+((L:Nat):Int)*9=((T:Nat):Int):=by omega
 have hsz:(⟨hd.toArray⟩:ByteArray).size=H:=by rw[hH];rfl
 have HH2:=hid hH;have HE0:Hid (0<H):=by show 0<H;rw[hH,HH.out];unfold AA;rw[List.length_append,decDigits_length];have:=nDigits_pos (piece N L);omega
 have ZT:=hid hT;clear hH hT;go_wp2_with fail
 have hca:(w2.alloc (.cells #[a0c .u8 48] 5 (1,2))).cell? ⟨w2.heap.size,0,none⟩=some (.int .u8 (((48:UInt8).toNat:Nat):Int)):=by
  refine(Lib.cell_of_heap (T:=5) (fr:=(1,2)) (cs:= #[a0c .u8 48]) ?_ 0).trans rfl;show(w2.heap.push _)[w2.heap.size]? =_;rw[Array.getElem?_push_size]
 refine(Rp w2.heap.size 0 T 48 _ hca (by have:=ZT.out;have:=HE0.out;omega) (by have:=ZT.out;omega)).mono ?_;rintro e w3 ⟨g,rfl,hg4,hF,hB⟩;have M4:Hid (nH w3 g T (a0d T 48)):=nH.U3 hF;have hb3:Hid (Below w2.heap.size w2 w3):=((Below.refl _ w2).alloc (a0p _) _).trans (hB.mono (by simp));have hg5:w2.heap.size<=g:=by simp at hg4;omega
 have hHT:H<=T:=by have:=ZT.out;omega
 have HFR:=hid (nH.row M4.out);clear hF hB hg4 hca kc hsz;go_wp2_with (refine qR rfl (.tmp 41) (.tmp 42) 99 9 rfl Tryz.underlying99 g 0 T T rfl hd rfl T _ M4.out (by rw[<-HH2.out];exact hHT) (by rw[<-HH2.out];omega) w2.heap.size w2 hb3.out hg5 ?_;intro w4 hT4 hb4)
 have HI:Hid (nH w4 g T (cont hd N L 0)):=by
  have h1:=hT4.out;rw[a0j,List.nil_append,a0r,ZT.out,HH2.out,NG]at h1;rw[ZT.out,HH2.out];exact h1
 have qP:=hid hb4;clear hT4 hb4 M4 hb3 HFR hcell c0 iT i1;have HF:=hid (show N/10^(9*(L+1))=0/\ (1<L+1->0<N/10^(9*(L+1-1)))from⟨bL.out,bY.out⟩);have hTL:T=H+L*9:=ZT.out;have HTL:=hid hTL;have hT9:L*9<=T:=by omega
 have hTb:T<=9000000100:=by omega
 clear hTL;go_loopg [7,50] L (λgh s7 s50 wr=>∃k:Nat,k<=L/\ s7= .int .i64 ((T-k*9:Nat):Int)/\ s50= .int .i64 ((k:Nat):Int)/\ Hid (L-k=gh)/\ Hid (nH wr g T (cont hd N L k))/\ Hid (Below w2.heap.size w2 wr))
 case atStart=>exact⟨0,a0A _,by go_num,by go_num,rfl,HI,qP⟩
 case round=>
  clear HI qP;obtain⟨k,hk,rfl,rfl,HG,HI,HB⟩:=hrel;by_cases hlt:k<L
  ·have d1:decide (k<L)=true:=by simpa using hlt
   obtain⟨q5,hq5⟩:∃q5,q5=piece N k:=⟨_,rfl⟩;have Jg:q5<1000000000:=by rw[hq5];exact rW _ _
   have hcell:wr.cell? ⟨g1,k,none⟩=some (.int .u32 ((q5:Nat):Int)):=by
    have h1:=yE.out.cell k (by omega);rw[Hq _ _ _ (by omega),<-hq5]at h1;exact(HB.out.cell (p:=⟨g1,k,none⟩) hg3).trans h1
   have hd5:=wI N k;rw[<-hq5]at hd5;obtain⟨D,hD⟩:∃D,D=(decDigits q5).length:=⟨_,rfl⟩;rw[<-hD]at hd5;have hsz:(⟨(decDigits q5).toArray⟩:ByteArray).size=D:=by rw[hD];rfl
   obtain⟨E,hE⟩:∃E,E=T-k*9:=⟨_,rfl⟩;rw[<-hE];have hE2:9<=E/\ E+k*9=T:=by omega
   have iE:((E:Nat):Int)-((D:Nat):Int)=((E-D:Nat):Int):=by omega
   have iE9:((E:Nat):Int)-9=((E-9:Nat):Int):=by omega
   obtain⟨F,hF⟩:∃F,F=E-D:=⟨_,rfl⟩;rw[<-hF]at iE;have hFT:¬T=F:=by omega
   have hFb:F<=9000000100:=by omega
   have hEb:E<=9000000100:=by omega
   have hF2:((F:Nat):Int)<=((T:Nat):Int):=by omega
   have Yx:=hid hq5;have HD:=hid hD;have HF9:=hid hF;have HE2:=hid hE2;have HE9:=hid hE;clear hq5 hD hF hE;go_wp2_with fail;refine(Dx q5 (by omega) _ ((HT.out.below HB2.out).below HB.out)).mono ?_;rintro e w6 ⟨rfl,ZM⟩
   have HI6:Hid (nH w6 g T (cont hd N L k)):=by
    obtain⟨h1,cur,h2,h3⟩:=HI.out;exact⟨h1,cur,by rw[ZM.block g (lt_of_block h2)];exact h2,h3⟩
   have xD:=hid (HB.out.trans (ZM.mono HB.out.size));clear ZM HI HB hcell;go_wp2_with (refine qR rfl (.tmp 61) (.tmp 62) 99 9 rfl Tryz.underlying99 g F (T-F) (T-F) rfl (decDigits q5) rfl T _ HI6.out (by rw[<-HD.out];omega) (by rw[<-HD.out];omega) w2.heap.size w2 xD.out hg5 ?_;intro w7 hT7 yo)
   have HJ:Hid (nH w7 g T (cont hd N L (k+1))):=by
    have h1:=hT7.out;rw[Yx.out]at h1;rw[NH hd N L k F hlt (by rw[<-Yx.out,<-HD.out,<-HH2.out];have h2:=HTL.out;have h3:=HE2.out;have h4:=HF9.out;omega)]at h1;exact h1
   have Ag:=hid yo;clear hT7 yo HI6 xD;go_roundg (L-(k+1))
   case measure=>have h1:=HG.out;rw[<-h1];omega
   case rel=>exact⟨k+1,hlt,by have h1:=HE9.out;congr 2;omega,by go_num,rfl,HJ,Ag⟩
  ·obtain rfl:k=L:=by omega
   have d1:decide (k<k)=false:=by simp
   have hfin:=NI (m:=m) HF.out.1 HF.out.2;rw[<-HH.out,HN.out,HZ.out,<-HN.out]at hfin;have hI:=HI.out;rw[hfin]at hI;have hlen:=hI.1
   have hcv:(convert 99 9 (a0b (some ⟨g,0,none⟩) T T)).run Tryz.prog wr= .ok (.string ⟨(itoa z).toArray⟩) wr:=by
    have h:=run_convert_bytes_back (P:=Tryz.prog) wr 99 9 5 ⟨g,0,none⟩ T (itoa z) Tryz.underlying99 Tryz.underlying5 Tryz.underlying9 (λj hj=>by
     rw[Addr.add_lit,a0r];exact hI.cell j hj)
    rw[hlen]at h;exact h
   have HBE:=hid (HB2.out.trans (HB.out.mono HB2.out.size));clear hfin hI hlen HI HB;go_wp2_with fail;go_ret;exact⟨rfl,HBE.out⟩
end
/- The contracts of digits.areDigits and digits.appendPiece. -/
section
open Lib (hid)
open Go.RowKit
def AB (l:List UInt8):Bool:=dJ l&&decide (l≠[])
theorem NJ (s:ByteArray) (k:Nat) (h:k<s.size):s.data.toList.take (k+1)=s.data.toList.take k++[s[k]]:=by
 rw[List.take_succ_eq_append_getElem (by simpa using h)];rfl
theorem U4 (s:ByteArray) (k:Nat) (h:k<s.size) (hc:fJ s[k]=false):dJ s.data.toList=false:=by
 cases ha:dJ s.data.toList with
 |false=>rfl
 |true=>
  have h1:=uZ ha s[k] (by simp[ByteArray.getElem_eq_getElem_data]);rw[h1]at hc;cases hc
theorem U5 (s:ByteArray) (w:World) (hs:s.size<=1000000):
  Calls Tryz.prog 231 #[.string s] w λe w'=>e= .returned (.bool (AB s.data.toList))/\ w=w':=by
 go_enter Tryz.func231,Tryz.ntmps231;go_wp2_with fail;go_loop [6] (λi=>∃k:Nat,k<=s.size/\ i= .int .i64 k/\ Hid (dJ (s.data.toList.take k)=true)) (λi=>s.size-(intOf i).toNat)
 case atStart=>exact⟨0,a0A _,rfl,by rw[a0j];rfl⟩
 case round=>
  obtain⟨k,hk,rfl,HA⟩:=hrel;by_cases hlt:k<s.size
  ·cases hc:fJ s[k]with
   |true=>
    have h1:=gB.1 hc;have h48:¬((s[k].toNat:Nat):Int)<48:=by omega
    have h57:¬(57:Int)<((s[k].toNat:Nat):Int):=by omega
    have HA2:Hid (dJ (s.data.toList.take (k+1))=true):=by
     show _=_;rw[NJ s k hlt,oL,HA.out,eZ,hc];rfl
    clear hc h1;go_wp2_with fail;go_round
    case rel=>exact⟨k+1,by omega,by go_num,HA2⟩
    case measure=>simp[intOf];omega
   |false=>
    have HD:Hid (AB s.data.toList=false):=by
     show _=_;unfold AB;rw[U4 s k hlt hc];rfl
    have h1:s[k].toNat<48∨(¬s[k].toNat<48/\ 57<s[k].toNat):=by
     by_cases h2:s[k].toNat<48
     ·exact .inl h2
     ·right
      refine⟨h2,?_⟩;rcases a0v 57 s[k].toNat with h3|h3
      ·exact h3
      ·rw[gB.2 ⟨by omega,h3⟩]at hc;cases hc
    clear hc;rcases h1 with h1|⟨h1,h2⟩
    ·have h48:((s[k].toNat:Nat):Int)<48:=by omega
     go_wp2_with fail;go_ret;exact⟨by rw[HD.out];rfl,rfl⟩
    ·have h48:¬((s[k].toNat:Nat):Int)<48:=by omega
     have h57:(57:Int)<((s[k].toNat:Nat):Int):=by omega
     go_wp2_with fail;go_ret;exact⟨by rw[HD.out];rfl,rfl⟩
  ·obtain rfl:k=s.size:=by omega
   have hl:s.data.toList.length=s.size:=(a0a s).symm;have hA:=HA.out;rw[a0k (by omega)]at hA
   have HR:Hid (AB s.data.toList=decide (0<s.size)):=by
    show _=_;unfold AB;rw[hA,Bool.true_and,decide_eq_decide,<-hl];exact a0l.symm
   clear hA HA hl;go_wp2_with fail;go_ret;exact⟨by rw[HR.out];simp,rfl⟩
structure Kg (B:Nat) (w0:World) (ao:Option Addr) (n cap V p k c:Nat) (wr:World) (zs:List Nat):Prop where
 own:Own B wr ao n cap zs
 below:Below B w0 wr
 low:val (zs.take k)+4294967296^k*c=val ((limbs V).take k)*1000000000+p
 high:zs.drop k=(limbs V).drop k
 lt:c<1000000000
theorem EZ {xs ys:List Nat} {k:Nat} (h:xs.drop k=ys.drop k):xs.getD k 0=ys.getD k 0:=by
 have h1:=congrArg (λl=>l.getD 0 0) h;simpa[List.getD]using h1
theorem U6 {P A S p c x T:Nat} (h:A+P*c=S*1000000000+p) (ht:T=c+x*1000000000):
  (A+P*(T%4294967296))+P*4294967296*(T/4294967296)=(S+P*x)*1000000000+p:=by
 have h1:P*4294967296*(T/4294967296)=P*(4294967296*(T/4294967296)):=a0z _ _ _;rw[h1,a0B,<-a0C,Nat.mod_add_div,ht,a0C,<-a0B,h,Nat.add_mul,a0z P x];omega
theorem Hr {zs:List Nat} {n:Nat} (hw:Wf zs) (hl:zs.length=n) (h:n=0∨4294967296^(n-1)<=val zs):zs=limbs (val zs):=by
 rcases a0u n with h0|h0
 ·subst h0;obtain rfl:=a0i hl;rfl
 ·have h1:4294967296^(n-1)<=val zs:=by
   rcases h with h|h
   ·omega
   ·exact h
  have h2:nl zs=n:=by
   have h3:=iP zs;rcases a0v (nl zs) n with h4|h4
   ·have h5:=eG (limbs (val zs)) (eF _);rw[au,<-Xc zs hw]at h5;have h6:4294967296^(nl zs)<=4294967296^(n-1):=a0w (by omega) (by omega);omega
   ·omega
  rw[<-di zs hw,dA,h2,dz zs n hl]
theorem Rq {V n:Nat} (h:(limbs V).length=n):n=0∨4294967296^(n-1)<=V:=by
 rcases a0u n with h0|h0
 ·exact .inl h0
 ·right
  have h1:=fC (xs:=limbs V) (n-1) (by rw[fQ,h];omega);rwa[au]at h1
def ae3 (B:Nat) (w0:World) (V n:Nat) (e:Ending) (w':World):Prop:=
 ∃ao n' cap,e= .returned (a0b ao n' cap)/\ Own B w' ao n' cap (limbs V)/\ Below B w0 w'/\ n'<=n+1
theorem U7 (B:Nat) (ao:Option Addr) (n cap V p:Nat) (w0 w:World) (hO:Own B w ao n cap (limbs V)) (hb:Below B w0 w) (hB:B<=w.heap.size) (hp:p<1000000000) (hn:n<=1000000):
  Calls Tryz.prog 250 #[a0b ao n cap,.int .u32 (p:Int)] w (ae3 B w0 (V*1000000000+p) n):=by
 obtain⟨i0,hi,hz0,hz1,hz2⟩:=info_parts Tryz.gV;have HI:Hid (Kg B w0 ao n cap V p 0 p w (limbs V)):=⟨hO,hb,by simp[val],rfl,hp⟩;have HL:=hid hO.len;clear hO hb;go_enter Tryz.func250,Tryz.ntmps250;go_wp2_with fail;go_loopg [5,12] n (λg s5 s12 wr=>∃(k c:Nat) (zs:List Nat),k<=n/\ s5= .int .u64 ((c:Nat):Int)/\ s12= .int .i64 ((k:Nat):Int)/\ Hid (n-k=g)/\ Hid (Kg B w0 ao n cap V p k c wr zs)/\ B<=wr.heap.size)
 case atStart=>exact⟨0,p,limbs V,a0A _,rfl,rfl,rfl,HI,hB⟩
 case round=>
  clear HI;obtain⟨k,c,zs,hk,rfl,rfl,HG,HI,hBr⟩:=hrel;have hcl:=HI.out.lt;by_cases hlt:k<n
  ·have d1:decide (k<n)=true:=by simpa using hlt
   rcases HI.out.own.parts with⟨_,h0,_⟩|⟨g,rfl,hg,_,hcap⟩
   ·omega
   obtain⟨x,hx⟩:∃x,x=zs.getD k 0:=⟨_,rfl⟩;have hxl:x<4294967296:=by rw[hx];exact HI.out.own.getD_lt k
   have hcell:=HI.out.own.cell k hlt;rw[<-hx]at hcell;have hfr:=HI.out.own.frozen k;obtain⟨T,hT⟩:∃T,T=c+x*1000000000:=⟨_,rfl⟩;have hTb:T<=4294967296000000000:=by omega
   have iT:((c:Nat):Int)+((x:Nat):Int)*1000000000=((T:Nat):Int):=by omega
   have HX:=hid hx;have HT:=hid hT;clear hx hT;go_wp2_with fail
   have HJ:Hid (Kg B w0 (some ⟨g,0,none⟩) n cap V p (k+1) (T/4294967296) (wr.setCell ⟨g,k,none⟩ (.int .u32 (((T:Nat):Int)%4294967296))) (zs.set k (T%4294967296))):=by
    have hlen:=HI.out.own.len;have hgl:=EZ HI.out.high;refine⟨HI.out.own.set k (T%4294967296) (a0s _ (by omega)),HI.out.below.setCell hg _,?_,?_,by have:=HI.out.lt;have h1:=HT.out;omega⟩
    ·rw[dw _ k (by rw[a0g];omega),dw (limbs V) k (by rw[HL.out];exact hlt),val_append,val_append,a0m,a0g,a0m,HL.out,a0D (by omega),a0D (by omega),fP,if_pos ⟨rfl,by omega⟩,List.take_set_of_le (a0p _),bB,bB,dY,a0E,a0F,a0F,<-hgl,<-HX.out,Nat.pow_succ];exact U6 HI.out.low HT.out
    ·rw[a0h (by omega)];have h1:=congrArg (List.drop 1) HI.out.high;rwa[a0n,a0n]at h1
   have hBs:B<=(wr.setCell ⟨g,k,none⟩ (.int .u32 (((T:Nat):Int)%4294967296))).heap.size:=by simpa using hBr
   clear HI;go_roundg (n-(k+1))
   case measure=>have h1:=HG.out;rw[<-h1];omega
   case rel=>exact⟨k+1,T/4294967296,_,hlt,by go_num,by go_num,rfl,HJ,hBs⟩
  ·obtain rfl:k=n:=by omega
   have d1:decide (k<k)=false:=by simp
   have hlen:=HI.out.own.len;have hlow:=HI.out.low;rw[dz zs k hlen,dz _ k HL.out]at hlow;rw[au]at hlow;have hO:=HI.out.own;have hbl:=HI.out.below;have NK:=hid hlow;have HO:=hid hO;have HBL:=hid hbl;have hle:=hO.sl.le;have hbig:=hO.big;clear hlow hO hbl HI hlen;by_cases hc0:0<c
   ·have HV:Hid (zs++[c]=limbs (V*1000000000+p)):=by
     have h1:Wf (zs++[c]):=λy hy=>by
      rcases List.mem_append.1 hy with hy|hy
      ·exact HO.out.wf y hy
      ·simp at hy;omega
     have h2:val (zs++[c])=V*1000000000+p:=by
      rw[val_append,bB,dY,a0E,a0F,HO.out.len];exact NK.out
     show _=_;rw[<-h2,<-di _ h1,Go.Proofs.YtmenbpmciblnlaaGreatDoor.u6 _ (by omega)]
    go_wp2_with (at_builtin;refine eD wr wr rfl (.tmp 32) (.tmp 35) 27 rfl B 192 i0 (.int .u32 0) 4 Tryz.underlying27 hi hz0 hz1 hz2 rfl _ _ _ _ rfl HO.out.row (.int .u32 ((c:Nat):Int)) rfl 192 rfl (Below.refl _ _) hBr (by unfold maxLen;omega) (by omega) ?_;intro Xb xR w3 hown3 hB3 hg3);go_ret;exact⟨_,_,_,rfl,by rw[<-HV.out];exact Kc c hown3 rfl (by omega) HO.out.wf (by omega),HBL.out.trans hB3,a0p _⟩
   ·obtain rfl:c=0:=by omega
    have HV:Hid (zs=limbs (V*1000000000+p)):=by
     have h2:=NK.out;rw[a0E,a0F]at h2;show _=_;rw[<-h2];refine Hr HO.out.wf HO.out.len ?_;rw[h2];rcases Rq HL.out with h3|h3
     ·exact .inl h3
     ·exact .inr (by omega)
    go_wp2_with fail;go_ret;exact⟨_,_,_,rfl,by rw[<-HV.out];exact HO.out,HBL.out,Nat.le_succ _⟩
end
/- The contracts of digits.limbs and digits.Parse. -/
section
open Lib (hid)
open Go.RowKit
theorem ext_list (s:ByteArray) (a b:Nat):(s.extract a b).data.toList=(s.data.toList.drop a).take (b-a):=by
 have h:=ByteArray.extract_mk s.data.toList a b;have e:(ByteArray.mk s.data.toList.toArray)=s:=by simp
 rw[e]at h;rw[h]
theorem ext_size (s:ByteArray) (a b:Nat) (h:a<=b) (hb:b<=s.size):(s.extract a b).size=b-a:=by
 rw[a0a,ext_list,a0m,a0o,<-a0a];omega
theorem Kh (s:ByteArray) (w:World) (hs:s.size<=1000000) (ha:dJ s.data.toList=true):
  Calls Tryz.prog 232 #[.string s] w (gP w (limbs (aR s.data.toList))):=by
 obtain⟨l,hl⟩:∃l,l=s.data.toList:=⟨_,rfl⟩;rw[<-hl]at ha ⊢;have HL:=hid hl;have HA:=hid ha;have hsz:s.size=l.length:=by rw[hl];exact a0a s
 have FW:=hid hsz;clear hl ha hsz;go_enter Tryz.func232,Tryz.ntmps232;go_wp2_with fail;go_loopg [0,3] l.length (λg s0 s3 wr=>∃(k:Nat) (t:ByteArray) (ao:Option Addr) (n cap:Nat),s0= .string t/\ s3=a0b ao n cap/\ Hid (k<=l.length/\ t.data.toList=l.drop k)/\ Hid (l.length-k=g)/\ Hid (Own w.heap.size wr ao n cap (limbs (aR (l.take k))))/\ Hid (Below w.heap.size w wr)/\ n<=k/\ Hid (k=0∨(l.length-k)%9=0))
 case atStart=>exact⟨0,s,none,0,0,rfl,rfl,⟨a0A _,by rw[<-HL.out];rfl⟩,rfl,by rw[a0j];exact Own.nil _ _,Below.refl _ _,a0p _,.inl rfl⟩
 case round=>
  obtain⟨k,t,ao,n,cap,rfl,rfl,HK,HG,HO,HB,hn,HM⟩:=hrel;have htz:t.size=l.length-k:=by rw[a0a,HK.out.2,a0o]
  have hkl:=HK.out.1;have hsz:=FW.out;by_cases h0:0<t.size
  ·obtain⟨j,hj⟩:∃j,j=t.size-1:=⟨_,rfl⟩;obtain⟨r,hr⟩:∃r,r=j%9:=⟨_,rfl⟩;have Rs:r<9:=by omega
   have hrj:r<=j:=by rw[hr];exact Nat.mod_le _ _
   obtain⟨m,hm⟩:∃m,m=r+1:=⟨_,rfl⟩;have i0:((t.size:Nat):Int)-1=((j:Nat):Int):=by omega
   have i1:((j:Nat):Int)%9=((r:Nat):Int):=by omega
   have i2:((r:Nat):Int)+1=((m:Nat):Int):=by omega
   have htb:t.size<=1000000:=by omega
   have hmt:m<=t.size:=by omega
   have hm1:1<=m/\ m<=9:=by omega
   have ha:dJ (t.extract 0 m).data.toList=true:=by
    rw[ext_list,HK.out.2,a0n];exact jq (rD HA.out _) _
   have hez:=ext_size t 0 m (a0A _) hmt;rw[a0G]at hez;obtain⟨p,hp⟩:∃p,p=aR (t.extract 0 m).data.toList:=⟨_,rfl⟩
   have hpl:p<1000000000:=by
    have h1:=tN ha;rw[<-hp,<-a0a,hez]at h1;have h2:10^m<=10^9:=a0w (by omega) hm1.2;rw[U8]at h2;omega
   have hP:=NM (t.extract 0 m) (by omega) (by omega) ha wr;rw[<-hp]at hP;have HP:=hid hP;have HPP:=hid hp;have HT:=hid htz
   have HM9:Hid ((k=0∨m=9)/\ (l.length-(k+m))%9=0):=by
    have h1:=HM.out;show _/\ _;omega
   have hn6:n<=1000000:=by omega
   have U9:((m:Nat):Int)<=((t.size:Nat):Int):=by omega
   clear hj hr hP hp ha hez htz hsz hm;go_wp2_with fail;refine HP.out.mono ?_;rintro e w2 ⟨rfl,hB2⟩;have HA2:=hid (U7 w.heap.size ao n cap (aR (l.take k)) p w w2 (HO.out.below hB2) (HB.out.trans (hB2.mono HB.out.size)) (a0x HB.out.size hB2.size) hpl hn6);clear hB2 HO HB HP;go_wp2_with fail;refine HA2.out.mono ?_;rintro e w3 ⟨Xb,n3,xR,rfl,hO3,hB3,hn3⟩;have hk2:k+m<=l.length:=by have:=HT.out;omega
   have HE:Hid (aR (l.take k)*1000000000+p=aR (l.take (k+m))):=by
    have h1:=HPP.out;rw[ext_list,HK.out.2,a0f,a0G]at h1;show _=_;have h3:l.take (k+m)=l.take k++(l.drop k).take m:=List.take_add ..;rw[h3,lK,<-h1,a0m,a0o,a0D (by omega)];rcases HM9.out.1 with h4|h4
    ·subst h4;simp[aR]
    ·subst h4;rfl
   have Pq:Hid (Own w.heap.size w3 Xb n3 xR (limbs (aR (l.take (k+m))))):=by rw[<-HE.out];exact hO3
   have bY:Hid (k+m<=l.length/\ (t.extract m t.size).data.toList=l.drop (k+m)):=by
    refine⟨hk2,?_⟩;rw[ext_list,HK.out.2,a0n,a0k];rw[a0o,HT.out];omega
   have HB3:=hid hB3;clear hO3 hB3 HA2 HE;go_wp2_with fail;go_roundg (l.length-(k+m))
   case measure=>have h1:=HG.out;omega
   case rel=>exact⟨k+m,t.extract m t.size,Xb,n3,xR,rfl,rfl,bY,rfl,Pq,HB3,by omega,.inr HM9.out.2⟩
  ·have hk2:k=l.length:=by omega
   subst hk2;have yE:Hid (Own w.heap.size wr ao n cap (limbs (aR l))):=by have h1:=HO.out;rwa[List.take_length]at h1
   have d1:t.size=0:=by omega
   clear HO htz hsz;go_wp2_with fail;go_ret;exact⟨_,_,_,rfl,yE.out,HB.out⟩
theorem Cy (l:List UInt8):(fw l).length<=l.length:=by
 rcases Ht l with⟨r,rfl⟩|⟨_,h⟩
 ·rw[(Ki r).2];simp
 ·rw[h];exact a0p _
theorem Va {u:ByteArray} (h:AB u.data.toList=true):0<u.size:=by
 unfold AB at h;rw[Bool.and_eq_true]at h;rw[a0a];exact a0l.2 (of_decide_eq_true h.2)
theorem NN (u:ByteArray) (h:0<u.size):u.data.toList.head? =some u[0]:=by
 rw[List.head?_eq_getElem?,List.getElem?_eq_getElem (by simpa using h)];rfl
theorem Yy {s:ByteArray} {b:List UInt8} (h:s.data.toList=b):(s.toList==b)=true:=by
 rw[ByteArray.toList_eq,h];simp
def ae4 (w:World) (q:Int) (er:Int) (e:Ending) (w':World):Prop:=
 ∃m ao n cap,e= .returned (.tuple #[.agg #[.bool m,a0b ao n cap],.int .i64 er])/\ Cn w' m ao n cap q/\ Below w.heap.size w w'
def uF (er:Int):Value:= .tuple #[.agg #[.bool false,a0b none 0 0],.int .i64 er]
theorem QD (s:ByteArray) (w:World) (hs:s.size<=20000) (hn:J9 s.data.toList=true):
  Calls Tryz.prog 206 #[.string s] w (ae4 w (Ka s.data.toList) 0):=by
 have XY:(⟨(fw s.data.toList).toArray⟩:ByteArray).size<=1000000:=by
  have h1:=Cy s.data.toList;rw[<-a0a]at h1;exact a0x h1 (by omega)
 have hd:AB (fw s.data.toList)=true:=by
  have h1:=rV.1 hn;unfold AB;rw[h1.2.1,Bool.true_and];exact decide_eq_true h1.1
 have HD:=hid hd;have HN:=hid hn;clear hd hn;go_enter Tryz.func206,Tryz.ntmps206;go_wp2_with fail;refine(Rt s _).mono ?_;rintro e w1 ⟨rfl,hw1⟩;rw[hw1];obtain⟨u,hu⟩:∃u:ByteArray,u=⟨(fw s.data.toList).toArray⟩:=⟨_,rfl⟩;obtain⟨q,hq⟩:∃q,q=Lib.hasPrefix s.data.toList [45]:=⟨_,rfl⟩;rw[<-hu,<-hq];rw[<-hu]at XY;have hD:AB u.data.toList=true:=by rw[hu];exact HD.out
 have HD2:=hid hD;have hpos:0<u.size:=Va hD;have hu2:u.data.toList=fw s.data.toList:=by rw[hu]
 have hbs:Hid ((((u[0].toNat:Nat):Int)==48)=false∨((((u[0].toNat:Nat):Int)==48)=true/\ (s.toList==[48])=true)):=by
  have h1:=(rV.1 HN.out).2.2;have h2:=NN u hpos;rw[hu2]at h2;by_cases h3:u[0]=48
  ·right
   rw[h3]at h2;rcases h1 with h1|h1
   ·exact absurd h2 h1
   ·exact⟨by rw[h3];rfl,Yy h1⟩
  ·left
   have h4:u[0].toNat≠48:=λe=>h3 (UInt8.toNat_inj.1 e)
   simp;omega
 have HU:=hid hu2;have HQ:=hid hq;clear hu2;clear hw1 hu hq hD;go_wp2_with fail;refine(U5 u _ XY).mono ?_;rintro e w2 ⟨rfl,hw2⟩;rw[<-hw2,HD2.out];clear hw2
 have HLM:Hid (∀W:World,Calls Tryz.prog 232 #[.string u] W (gP W (limbs (aR (fw s.data.toList))))):=by
  intro W;have h1:=HD2.out;unfold AB at h1;rw[Bool.and_eq_true]at h1;rw[<-HU.out];exact Kh u W XY h1.1
 have ai7:Hid (∀(W:World) (ao:Option Addr) (n cap:Nat),Own (w.alloc (.cells #[Value.bool false,a0b none 0 0] 29)).heap.size W ao n cap (limbs (aR (fw s.data.toList)))->Cn W q ao n cap (Ka s.data.toList)):=by
  intro W ao n cap hO;refine⟨?_,by rw[Ru];exact hO.sl⟩;rw[HQ.out];exact NP HN.out
 have ai8:=hbs.out;clear hbs;rcases ai8 with hb0|⟨hb0,hs2⟩
 all_goals
  go_wp2_with fail;refine(HLM.out _).mono ?_;rintro e w5 ⟨ao,n,cap,rfl,hO,hB⟩;have HC:=hid (ai7.out _ _ _ _ hO);have hbx:=(bR.new w w.heap.size false none 0 0 29 rfl).below hB;have c0:=hbx.c0;have c1:=hbx.c1;have f0:=hbx.f0;have f1:=hbx.f1;have HBX:=hid hbx;have HB:=hid (aN hB);clear hO hB hbx;go_wp2_with fail;refine bodyPost_ret (v:= .tuple #[.agg #[.bool q,a0b ao n cap],.int .i64 0]) (by simp[results,Tryz.results206,go_sem,c0,c1]) rfl ?_;exact⟨_,_,_,_,rfl,HC.out.set2 HBX.out _ _,aW HB.out (a0p _) _ _⟩
end
end Go.Proofs.YtmenbpmciblnlaaGreatDoor
