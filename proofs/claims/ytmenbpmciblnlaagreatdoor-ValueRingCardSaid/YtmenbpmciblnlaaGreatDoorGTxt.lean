import Derived.Test.YtmenbpmciblnlaaGreatDoorGDiv
import Derived.Test.YtmenbpmciblnlaaGreatDoorGTxtA
import Derived.Lib.SlBytesConst
set_option maxHeartbeats 0
set_option maxRecDepth 100000
open Go renaming Value->ah6,World->ah5
open Go.Lib renaming size_eq->ah7
open Go.RowKit renaming Below->ah8
open Go.Value renaming bool->ai1,int->ai0,slice->ah9
open List renaming drop_drop->aj2,drop_eq_nil_of_le->ai3,drop_set_of_lt->ai6,drop_zero->ai4,eq_nil_of_length_eq_zero->ai7,length_drop->aj3,length_pos_iff->aj0,length_set->ai5,length_take->aj1,replicate->ai2,take_of_length_le->ai9,take_zero->ai8
open Nat renaming add_assoc->ak6,add_zero->al0,div_eq_of_lt->aj5,eq_zero_or_pos->aj9,le_of_lt->ak3,le_refl->aj4,le_trans->ak2,lt_of_lt_of_le->aj8,lt_or_ge->ak0,min_eq_left->ak8,mod_lt->aj7,mul_add->ak7,mul_assoc->ak4,mul_zero->ak9,pow_le_pow_right->ak1,sub_zero->al1,zero_add->aj6,zero_le->ak5
namespace Go.Proofs.YtmenbpmciblnlaaGreatDoor
section
open Lib (hid)
open Go.RowKit
theorem JQ (B:Nat) (ao:Z') (n ae:Nat) (xs:List Nat) (w:ah5) (h:bX B w ao n ae xs):
  Calls Tryz.prog 234 #[ah9 ao n ae] w (C8 B w (aq (au xs))):=by
 have hs:=h.sl;have hle:=hs.le;have hbig:=hs.big;have hnl:nl xs<=n:=by have:=fV xs;rw[hs.len]at this;exact this
 have HT:Hid (aq (au xs)=xs.take (nl xs)):=by show _=_;rw[<-cq xs hs.wf,cF]
 have hup:=su hs.wf;obtain⟨b,hb⟩:∃b,b=eM (au xs):=⟨_,rfl⟩;obtain⟨m,hm⟩:∃m,m=nl xs:=⟨_,rfl⟩;rw[<-hb,<-hm]at hup;rw[<-hm]at HT hnl;have HB:=hid hb;have hbl:b<=32*m:=by omega
 have hdv:(((b:Nat):Int)+32-1)/32=((m:Nat):Int):=by omega
 clear hb hup hm;go_enter Tryz.func234,Tryz.ntmps234;by_cases h0:m=0
 ·subst h0;go_wp2_with fail;refine(fJ b _ _ _ _ _ hs HB.o.symm).mono ?_;rintro e w' ⟨rfl,rfl⟩;go_wp2_with fail;go_ret;exact⟨_,_,_,rfl,by rw[HT.o];exact bX.nil _ _,rfl⟩
 ·have hb0:(((m:Nat):Int)==0)=false:=by simp;omega
  go_wp2_with fail;refine(fJ b _ _ _ _ _ hs HB.o.symm).mono ?_;rintro e w' ⟨rfl,rfl⟩;go_wp2_with fail;go_ret;exact⟨_,_,_,rfl,by rw[HT.o];exact h.take m hnl (by omega),rfl⟩
def UC (w:ah5) (q r:Nat) (er:Int) (e:Ending) (w':ah5):Prop:=
 ∃ao n ae,e= .returned (.tuple #[ah9 ao n ae,.int .u32 (r:Int),.int .i64 er])/\ bX w.heap.size w' ao n ae (aq q)/\ ah8 w.heap.size w w'
theorem JR (a0:Z') (la ca:Nat) (xs:List Nat) (d:Nat) (w:ah5) (ha:Sl w a0 la ca xs) (hd0:0<d) (hd:d<4294967296):
  Calls Tryz.prog 221 #[ah9 a0 la ca,.int .u32 (d:Int)] w (UC w (au xs/d) (au xs%d) 0):=by
 obtain⟨i0,hi,hz0,hz1,hz2⟩:=info_parts Tryz.fx;have hb0:(((d:Nat):Int)==0)=false:=by simp;omega
 have hbig:=ha.big;go_enter Tryz.func221,Tryz.ntmps221;go_wp2_with fail;refine(kz _ _ _ _ _ ha).mono ?_;rintro e w' ⟨a1,n1,c1,rfl,hA,hn1,rfl⟩;go_wp2_with (at_make;refine wpList_make_full _ rfl _ _ 27 rfl w.heap.size 192 i0 (.int .u32 0) 1 Tryz.underlying27 hi hz0 hz1 _ _ _ _ n1 rfl rfl rfl rfl ?b2 ?b3 (aj4 _) ?_)
 case b2=>rw[hz2];omega
 case b3=>unfold maxLen;omega
 intro w1 hown1 hgrow1;rw[gX]at hown1;have hb1:ah8 w.heap.size w w1:=(Below.refl _ _).grown hgrow1 (aj4 _) (λk h=>by cases h)
 have mK:bX w.heap.size w1 (some ⟨w.heap.size,0,none⟩) n1 n1 (ai2 n1 0):=
  ⟨hown1,by omega,λx hx=>by rw[(List.mem_replicate.1 hx).2];omega⟩
 have hI1:mL w.heap.size (some ⟨w.heap.size,0,none⟩) n1 w (aq (au xs)) d n1 0 (ai2 n1 0) w1:=by
  refine⟨mK,hb1,?_,hd0⟩;rw[ai3 (by simp),ai3 (by rw[hA.len];exact aj4 _),di,Nat.zero_mul]
 clear hown1 hgrow1 mK hb1;go_wp2_with fail;go_loopw [5,7] (λr i wr=>∃j rr:Nat,∃zs:List Nat,j<=n1/\ i= .int .i64 ((j:Int)-1)/\ r= .int .u32 rr/\ mL w.heap.size (some ⟨w.heap.size,0,none⟩) n1 w (aq (au xs)) d j rr zs wr) (λ_ i _=>(intOf i+1).toNat)
 case atStart=>exact⟨n1,0,_,aj4 _,rfl,rfl,hI1⟩
 case round=>
  clear hI1;obtain⟨j,rr,zs,hj,rfl,rfl,hO,hB,hV,hlt⟩:=hrel;by_cases hj0:j=0
  ·subst hj0
   have hq:au zs=au xs/d/\ rr=au xs%d:=by
    rw[ai4,ai4,av]at hV;have h1:au xs=rr+d*au zs:=by rw[<-hV,Nat.mul_comm];omega
    rw[h1];exact⟨by rw[Nat.add_mul_div_left _ _ hd0,aj5 hlt,aj6],by rw[Nat.add_mul_mod_self_left,Nat.mod_eq_of_lt hlt]⟩
   have hbare:=JQ w.heap.size _ _ _ _ _ hO;rw[hq.1]at hbare;have QV:=hid hbare;have HR:=hid hq.2;clear hbare hV hq hO;go_wp2_with fail;refine QV.o.mono λe w' h=>?_
   obtain⟨ao,kk,ae,rfl,h3,rfl⟩:=h;go_wp2_with fail;go_ret3;exact⟨_,_,_,by rw[<-HR.o];rfl,h3,hB⟩
  ·obtain⟨i,rfl⟩:∃i,j=i+1:=⟨j-1,by omega⟩;have ei:((i+1:Nat):Int)-1=(i:Int):=by omega
   rw[ei];clear ei;obtain⟨b,off,rfl,hbb,hcb⟩:=hA.at (by omega);have hxc:wr.cell? ⟨b,off+i,none⟩=some (.int .u32 ((aq (au xs)).getD i 0:Nat)):=(hB.cell (by exact hbb)).trans (hcb i (by omega));have hxl:=hA.bJ i;have vy:=hO.frozen i;have hzc:=hO.cell i (by omega);have hdrop:=gw (aq (au xs)) i (by rw[hA.len];omega);obtain⟨x,hx⟩:∃x,x=(aq (au xs)).getD i 0:=⟨_,rfl⟩;rw[<-hx]at hxc hxl hdrop;have HDR:=hid hdrop;have HV:=hid hV
   have hq:(rr*4294967296+x)/d<4294967296:=by
    rw[Nat.div_lt_iff_lt_mul hd0];have:(rr+1)*4294967296<=d*4294967296:=Nat.mul_le_mul_right _ hlt;omega
   have hI2:Hid (∀q,mL w.heap.size (some ⟨w.heap.size,0,none⟩) n1 w (aq (au xs)) d i ((rr*4294967296+x)%d) (zs.set i ((rr*4294967296+x)/d)) ((wr.drewN q).setCell ⟨w.heap.size,i,none⟩ (.int .u32 (((rr*4294967296+x)/d:Nat):Int)))):=by
    intro q;refine⟨(hO.drewN q).set i _ hq,(hB.trans (below_drewN _ _ q)).setCell (aj4 _) _,?_,aj7 _ hd0⟩;rw[gw _ i (by rw[ai5,hO.len];omega),eH,if_pos ⟨rfl,by rw[hO.len];omega⟩,ai6 (by omega),HDR.o];exact wG HV.o
   clear hx hcb hdrop hV hq hj0 hO;go_wp2_with (go_at_call 241;refine(zm rr x d _ hlt hxl hd).mono ?_;rintro e w' ⟨rfl,q,rfl⟩);go_roundw
   case rel=>exact⟨i,_,_,by omega,by go_num,rfl,hI2.o _⟩
   case measure=>simp[intOf]
end
section
open Lib (hid)
open Go.RowKit
theorem zq (p:Nat) (hp:p<4294967296) (w:ah5) (ht:vS w):
  Calls Tryz.prog 161 #[.int .u32 (p:Int)] w (cr (.string ⟨(Lib.decDigits p).toArray⟩) w):=by
 have HT:=hid ht;clear ht;go_enter Tryz.func161,Tryz.ntmps161;go_wp2_with fail;refine(QW p (by omega) _ HT.o).mono ?_;rintro e w' ⟨rfl,hB⟩;go_wp2_with fail;go_ret;exact⟨rfl,hB⟩
structure sw (w:ah5) (b:Nat) (ao:Option Addr) (n ae:Nat):Prop where
 lt:b<w.heap.size
 c0:w.cell? ⟨b,0,none⟩=some (ah9 ao n ae)
 f0:w.frozen? ⟨b,0,none⟩=false
theorem sw.below {w w':ah5} {b:Nat} {ao:Z'} {n ae:Nat} (h:sw w b ao n ae) (hb:ah8 w.heap.size w w'):sw w' b ao n ae:=
 ⟨aj8 h.lt hb.size,(hb.cell h.lt).trans h.c0,(hb.frozen h.lt).trans h.f0⟩
theorem sw.set {w:ah5} {b:Nat} {ao:Z'} {n ae:Nat} (h:sw w b ao n ae) (eP:Z') (n' cap':Nat):sw (w.setCell ⟨b,0,none⟩ (ah9 eP n' cap')) b eP n' cap':=
 ⟨by simpa using h.lt,World.cell?_setCell_same _ _ _ h.c0,by simpa using h.f0⟩
theorem JS {w:ah5} {ao:Z'} {n ae:Nat} {xs:List Nat} (h:Sl w ao n ae xs) {b:Nat} {bo:Z'} {l cb:Nat} (hb:sw w b bo l cb) (u:ah6):Sl (w.setCell ⟨b,0,none⟩ u) ao n ae xs:=
 ⟨h.len,h.le,h.big,h.wf,h.nil,λad had t ht=>by
  have h0:=h.cells ad had t ht;rw[World.cell?_setCell_other _ _ _ _ (λe=>by rw[<-e,hb.c0]at h0;cases h0)];exact h0⟩
def YD (w:ah5) (ao:Option Addr) (n ae:Nat) (e:Ending) (w':ah5):Prop:=
 ∃b,e= .returned (.func (.func 220) #[] #[.pointer (some ⟨b,0,none⟩)])/\ w.heap.size<=b/\ sw w' b ao n ae/\ ah8 w.heap.size w w'
theorem JT (ao:Z') (n ae:Nat) (w:ah5):Calls Tryz.prog 198 #[ah9 ao n ae] w (YD w ao n ae):=by
 have WA:∀(fn:Fn) (first ae:Array ah6) (w:ah5),(Instr.makeFunc fn first ae).run Tryz.prog w= .ok (.func fn first ae) w:=λ_ _ _ _=>rfl
 go_enter Tryz.func198,Tryz.ntmps198;go_wp2_with fail;go_ret;exact⟨_,rfl,aj4 _,⟨by simp,by simp[go_sem],by simp[go_sem]⟩,af _ _⟩
def YE (w:ah5) (b N:Nat) (e:Ending) (w':ah5):Prop:=
 ∃(p:Nat) (m:Bool) (ao:Option Addr) (n ae:Nat) (w1:ah5),e= .returned (.tuple #[.int .u32 (p:Int),ai1 m])/\ p=N%1000000000/\ m=decide (0<N/1000000000)/\ bX w.heap.size w1 ao n ae (aq (N/1000000000))/\ ah8 w.heap.size w w1/\ w'=w1.setCell ⟨b,0,none⟩ (ah9 ao n ae)
theorem yB {q n:Nat} (h:(aq q).length=n):0<n↔0<q:=by
 rcases aj9 q with h0|h0
 ·subst h0;rw[fE]at h;simp at h;omega
 ·refine⟨λ_=>h0,λ_=>?_⟩;rcases aj9 n with h1|h1
  ·rw[h1]at h;have h2:=av q;rw[ai7 h,di]at h2;omega
  ·exact h1
theorem sx (b:Nat) (ao:Z') (n ae:Nat) (xs:List Nat) (w:ah5) (hb:sw w b ao n ae) (hs:Sl w ao n ae xs):
  Calls Tryz.prog 220 #[.pointer (some ⟨b,0,none⟩)] w (YE w b (au xs)):=by
 have HB:=hid hb;have HS:=hid hs;have hc0:=hb.c0;clear hb hs;go_enter Tryz.func220,Tryz.ntmps220;go_wp2_with fail;refine(JR ao n ae xs 1000000000 _ HS.o (by omega) (by omega)).mono ?_;rintro e w1 ⟨sZ,n1,jn,rfl,hO,hB⟩;have hx:=HB.o.below hB;have hc1:=hx.c0;have hf1:=hx.f0;have hn1:=yB hO.len;have HO:=hid hO;have rV:=hid hB;have HN:Hid (decide (0<n1)=decide (0<au xs/1000000000)):=by show _=_;rw[decide_eq_decide];exact hn1
 obtain⟨p,hp⟩:∃p,p=au xs%1000000000:=⟨_,rfl⟩;rw[<-hp];have HP:=hid hp;clear hO hB hx hn1 hc0 hp;go_wp2_with fail;go_ret2;exact⟨p,decide (0<n1),sZ,n1,jn,w1,by simp,HP.o,HN.o,HO.o,rV.o,rfl⟩
theorem Nd {w w':ah5} {ao:Z'} {n ae:Nat} {xs:List Nat} {row:Option Nat} (h:Sl w ao n ae xs) (hg:w.grownBy w' row) (hne:∀b,(ah9 ao n ae).ownBlock=some b->row≠some b):Sl w' ao n ae xs:=
 ⟨h.len,h.le,h.big,h.wf,h.nil,λad had t ht=>by
  refine hg.cell (h.cells ad had t ht) (λe=>?_);subst had;refine hne ad.block rfl ?_;rw[<-e]
  congr 1
  unfold Addr.add;split<;>rfl⟩
theorem sw.grown {w w':ah5} {b:Nat} {ao:Z'} {n ae:Nat} {row:Option Nat} (h:sw w b ao n ae) (hg:w.grownBy w' row) (hne:row≠some b):sw w' b ao n ae:=by
 refine⟨aj8 h.lt hg.size,hg.cell h.c0 (λe=>hne e.symm),?_⟩;rw[World.frozen?_of_block (hg.block b h.lt (λe=>hne e.symm))];exact h.f0
structure mM (w0 w1:ah5) (N b k:Nat) (ao:Option Addr) (n ae:Nat) (bo:Option Addr) (l cb:Nat) (mo:Bool) (wr:ah5):Prop where
 own:bX w1.heap.size wr ao n ae (LL N k)
 box:sw wr b bo l cb
 xU:b<w1.heap.size
 old:w0.heap.size<=b
 src:∃ys,Sl wr bo l cb ys/\ au ys=N/10^(9*k)
 more:mo=(decide (k=0)||decide (0<N/10^(9*k)))
 prev:1<k->0<N/10^(9*(k-1))
 below:ah8 w0.heap.size w0 wr
 grow:w1.heap.size<=wr.heap.size
def ab3 (w:ah5) (N:Nat) (e:Ending) (w':ah5):Prop:=
 ∃K ao ae,e= .returned (ah9 ao K ae)/\ 1<=K/\ N/10^(9*K)=0/\ (1<K->0<N/10^(9*(K-1)))/\ bX w.heap.size w' ao K ae (LL N K)/\ ah8 w.heap.size w w'
theorem wH {N M k:Nat} (h:0<N/10^(9*k)) (hN:N<10^(9*M)):k<M:=by
 rcases ak0 k M with h1|h1
 ·exact h1
 ·have h2:10^(9*M)<=10^(9*k):=ak1 (by omega) (by omega);rw[aj5 (by omega)]at h;omega
theorem mM.step {w0 w1 wr w2 w3:ah5} {N b k n ae l cb n' cap' jn:Nat} {ao bo eP sZ:Z'} (h:mM w0 w1 N b k ao n ae bo l cb true wr)
  (hO:bX wr.heap.size w2 eP n' cap' (aq (N/10^(9*(k+1))))) (hB:ah8 wr.heap.size wr w2) (hk:k<35184372088831)
  (hp:w3.ownsRow w1.heap.size 192 1 (ah9 sZ (n+1) jn) (n+1) (cellsOf (LL N k)++[.int .u32 ((gC N k:Nat):Int)]))
  (hb3:ah8 w0.heap.size w0 w3) (hg:((w2.setCell ⟨b,0,none⟩ (ah9 eP n' cap')).alloc (.cells #[.int .u32 ((gC N k:Nat):Int)] 192)).grownBy w3 (ah9 ao n ae).ownBlock):
  mM w0 w1 N b (k+1) sZ (n+1) jn eP n' cap' (decide (0<N/10^(9*(k+1)))) w3:=by
 have hn:n=k:=by rw[<-h.own.len,FY]
 have hx:=(h.box.below hB).set eP n' cap';have hx2:sw ((w2.setCell ⟨b,0,none⟩ (ah9 eP n' cap')).alloc (.cells #[.int .u32 ((gC N k:Nat):Int)] 192)) b eP n' cap':=hx.below (af _ _);have hs2:Sl ((w2.setCell ⟨b,0,none⟩ (ah9 eP n' cap')).alloc (.cells #[.int .u32 ((gC N k:Nat):Int)] 192)) eP n' cap' (aq (N/10^(9*(k+1)))):=(JS hO.sl (h.box.below hB) _).below (af _ _);have hrow:∀g,(ah9 ao n ae).ownBlock=some g->w1.heap.size<=g/\ g<wr.heap.size:=λg hg=>h.own.row.lt g hg
 have hrow2:∀g,(ah9 eP n' cap').ownBlock=some g->wr.heap.size<=g:=λg hg=>(hO.row.lt g hg).1
 refine⟨?_,hx2.grown hg (λe=>?_),h.xU,h.old,⟨_,Nd hs2 hg (λg hg1 e=>?_),av _⟩,?_,λhk1=>?_,hb3,?_⟩
 ·rw[Nf];exact FZ (gC N k) hp rfl (by have:=oW N k;omega) (UD N k) (by omega)
 ·have:=(hrow b e).1;have:=h.xU;omega
 ·have h1:=(hrow g e).2;have h2:=hrow2 g hg1;omega
 ·simp
 ·have h1:=h.more;rw[Nat.add_sub_cancel];simp at h1;rcases h1 with h1|h1
  ·omega
  ·exact Nat.div_pos h1.2 h1.1
 ·have h1:=hg.size;have h2:=h.grow;have h3:=hB.size;simp at h1;omega
theorem F0 (M:Nat) (ao:Z') (n ae:Nat) (xs:List Nat) (w:ah5) (hs:Sl w ao n ae xs) (hM:au xs<10^(9*M)) (hM2:M<=1000000000):
  Calls Tryz.prog 160 #[ah9 ao n ae] w (ab3 w (au xs)):=by
 obtain⟨i0,hi,hz0,hz1,hz2⟩:=info_parts Tryz.fx;obtain⟨N,hN⟩:∃N,N=au xs:=⟨_,rfl⟩;rw[<-hN]at hM ⊢;have HS:=hid hs;have HN:=hid hN;have HM:=hid hM;clear hs hN hM;go_enter Tryz.func160,Tryz.ntmps160;go_wp2_with fail;refine(JT ao n ae _).mono ?_;rintro e w1 ⟨b,rfl,hb1,hb2,hB⟩
 have HI:Hid (mM w w1 N b 0 none 0 0 ao n ae true w1):=
  ⟨bX.nil _ _,hb2,hb2.lt,hb1,⟨xs,HS.o.below hB,by rw[<-HN.o];simp⟩,rfl,λh=>by omega,hB,aj4 _⟩
 clear hb1 hb2 hB;go_wp2_with fail;go_loopg [4,5] (N+1) (λg p m wr=>∃(k:Nat) (po:Option Addr) (pc:Nat) (bo:Option Addr) (l cb:Nat) (mo:Bool),p=ah9 po k pc/\ m=ai1 mo/\ Hid (g=if mo then N/10^(9*k)+1 else 0)/\ Hid (mM w w1 N b k po k pc bo l cb mo wr))
 case atStart=>exact⟨0,none,0,ao,n,ae,true,rfl,rfl,by show _=_;simp,HI⟩
 case round=>
  clear HI;obtain⟨k,po,pc,bo,l,cb,mo,rfl,rfl,HG,HI⟩:=hrel;cases mo
  ·have h1:=HI.o.more;have hk0:k≠0:=λe=>by simp[e]at h1
   have hz:N/10^(9*k)=0:=by
    rcases aj9 (N/10^(9*k))with h|h
    ·exact h
    ·simp[h]at h1
   have HZ:=hid hz;clear h1 hz;go_wp2_with fail;go_ret;exact⟨k,_,_,rfl,by omega,HZ.o,HI.o.prev,HI.o.own.mono (ak2 HI.o.old (ak3 HI.o.xU)),HI.o.below⟩
  ·have hk:k<35184372088831:=by
    have h1:=HI.o.more;rcases aj9 k with h|h
    ·omega
    ·have h2:0<N/10^(9*k):=by
      have h3:k≠0:=by omega
      simp only[h3,decide_false,Bool.false_or]at h1;exact of_decide_eq_true h1.symm
     have:=wH h2 HM.o;omega
   obtain⟨ys,hys,hv⟩:=HI.o.src;have hT:=sx b bo l cb ys wr HI.o.box hys;rw[hv]at hT;have HT:Hid (Calls Tryz.prog 220 #[.pointer (some ⟨b,0,none⟩)] wr (YE wr b (N/10^(9*k)))):=hT;clear hys hv hT;go_wp2_with fail;refine HT.o.mono ?_;rintro e w4 ⟨q,mo,eP,n',cap',w2,rfl,hq,hmo,hO,hB,hw4⟩;rw[qa]at hO hmo;have HQ:Hid (q=gC N k):=hq;have HMO:=hid hmo;have Jo:q<1000000000:=by rw[hq];exact aj7 _ (by omega)
   clear hq hmo;have HO:=hid hO;have HB:=hid hB;have hx:=(HI.o.box.below hB).set eP n' cap';have hbr:b<wr.heap.size:=HI.o.box.lt
   have hrow:Hid (w4.ownsRow w1.heap.size 192 1 (ah9 po k pc) k (cellsOf (LL N k))):=by
    rw[hw4];exact ownsRow_setCell_other (HI.o.own.below hB).row (λe=>by have:=(HI.o.own.row.lt b e).1;have:=HI.o.xU;omega) _
   have hbl:Hid (ah8 w.heap.size w w4):=by rw[hw4];exact(Below.ar HI.o.below hB).setCell HI.o.old _
   have hsz:Hid (w1.heap.size<=w4.heap.size):=by rw[hw4];have h1:=hB.size;have h2:=HI.o.grow;show _<=_;simp;omega
   have HW:=hid hw4;clear hO hB hx hbr hw4;go_wp2_with (at_builtin;refine dt w4 w4 rfl (.tmp 15) (.tmp 17) 27 rfl w1.heap.size 192 i0 (.int .u32 0) 4 Tryz.underlying27 hi hz0 hz1 hz2 rfl _ _ _ _ rfl hrow.o _ rfl 192 rfl (Below.refl _ _) hsz.o (by unfold maxLen;omega) (by omega) ?_;intro Tk oX w3 hown3 hB3 hg3)
   have HJ:Hid (mM w w1 N b (k+1) Tk (k+1) oX eP n' cap' mo w3):=by
    rw[HMO.o];rw[HQ.o]at hown3 hg3;rw[HW.o]at hg3;exact HI.o.step HO.o HB.o hk hown3 (hbl.o.trans (hB3.mono (ak2 HI.o.old (ak3 HI.o.xU)))) hg3
   have hm1:=HI.o.more;clear hown3 hB3 hg3 HO HB hrow hbl hsz HW;go_roundg (if mo then N/10^(9*(k+1))+1 else 0)
   case measure=>
    have h1:=HG.o;simp only[if_true]at h1;rw[h1];split
    ·have h2:=Nat.div_le_self (N/10^(9*k)) 1000000000;rw[qa]at h2;have h3:mo=true:=‹_›;rw[HMO.o]at h3;have h4:=of_decide_eq_true h3;have h5:=Nat.div_lt_self (aj8 h4 h2) (show 1<1000000000 by omega);rw[qa]at h5;exact Nat.succ_lt_succ h5
    ·exact Nat.succ_pos _
   case rel=>exact⟨k+1,Tk,oX,eP,n',cap',mo,rfl,rfl,rfl,HJ⟩
end
section
open Lib (hid)
open Go.RowKit Go.Lib
theorem MR {m:Bool} {ao:Z'} {n ae:Nat} {z:Int} {w:ah5} (hx:Nx w m ao n ae z) (ht:vS w):
  Calls Tryz.prog 108 #[.agg #[ai1 m,ah9 ao n ae]] w (cr (.string ⟨(itoa z).toArray⟩) w):=by
 obtain⟨⟨xs,hs,hz⟩,hle⟩:=hx
 have hv:au xs<10^(9*(2*n)):=by
  have h1:=qb n hs.wf hs.len (aj4 _);refine aj8 h1 ?_;rw[<-ak4,Nat.pow_mul];exact Nat.pow_le_pow_left (by decide) n
 obtain⟨N,hN⟩:∃N,N=au xs:=⟨_,rfl⟩;have HS:=hid hs;have HT:=hid ht;have HN:=hid hN;have HV:=hid hv;have HZ:=hid hz;clear hs ht hN hv hz;go_enter Tryz.func108,Tryz.ntmps108;go_upto_region 1 with(fail)
 refine aj (λW hW=>?_);have HB0:Hid (ah8 w.heap.size w W):=by rw[hW];exact af _ _
 have hbx:bS W w.heap.size m ao n ae:=by rw[hW];exact bS.cS _ _ _ _ _ _ _ (by simp)
 have HX0:=hid hbx;clear hW hbx;have c0:=HX0.o.c0;have c1:=HX0.o.c1;go_wp2_with fail;refine(F0 (2*n) ao n ae xs _ (HS.o.below HB0.o) HV.o (by omega)).mono ?_;rw[<-HN.o];rintro e w1 ⟨K,po,pc,rfl,hK1,hK2,hK3,hO,hB⟩;obtain⟨L,rfl⟩:∃L,K=L+1:=⟨K-1,by omega⟩;rcases hO.parts with⟨_,h0,_⟩|⟨g1,rfl,hg1,hg2,hpc⟩
 ·omega
 have Jt:=hid hO;have HB1:=hid (Below.ar HB0.o hB);have HX1:=hid (HX0.o.below hB);have bH:=hid hK2;have bU:=hid hK3
 have hLM:L<=1000000000:=by
  rcases aj9 L with h|h
  ·omega
  ·have:=wH (hK3 (by omega)) (by rw[HN.o];exact HV.o);omega
 obtain⟨p,hp⟩:∃p,p=gC N L:=⟨_,rfl⟩;have hpl:p<1000000000:=by rw[hp];exact oW _ _
 have hcell:w1.cell? ⟨g1,L,none⟩=some (.int .u32 ((p:Nat):Int)):=by
  have h1:=hO.cell L (by omega);rw[C9 _ _ _ (by omega),<-hp]at h1;exact h1
 have i1:(((L+1:Nat):Nat):Int)-1=((L:Nat):Int):=by omega
 have YF:Hid ((decDigits p).length<=9):=by show _<=_;rw[decDigits_length];exact nJ 8 p (by simpa using hpl)
 have HC:=hid hcell;have HP:=hid hp;clear hB hO hK2 hK3 c0 c1 HX0 HB0 hcell hp hK1;have c0:=HX1.o.c0;have hcell:=HC.o;go_wp2_with fail;refine(zq p (by omega) _ (HT.o.below HB1.o)).mono ?_;rintro e w2 ⟨rfl,hB⟩;have uu:=hid (Jt.o.below hB);have HB2:=hid (Below.ar HB1.o hB);have PS:=hid (HX1.o.below hB);have UE:=hid ((hB.cell (p:=⟨g1,L,none⟩) hg2).trans HC.o);have hg3:=aj8 hg2 hB.size;clear hB Jt HB1 HX1 HC c0 hcell hg2;have c0:=PS.o.c0;have hcell:=UE.o;obtain⟨hd,hhd⟩:∃hd,hd=wI m N L:=⟨_,rfl⟩;have HH:=hid hhd;clear hhd;obtain⟨q,hq⟩:∃q,q=(m&&decide (0<p)):=⟨_,rfl⟩;have HQ:=hid hq;clear hq;go_upto_region 4 with(fail)
 go_cut [30]from 22 to 30 (λs30 wx=>w2=wx/\ s30=ai1 q)
 case first=>
  have hq:=HQ.o;cases m
  ·go_wp2_with fail;go_meet;exact⟨rfl,by rw[hq];rfl⟩
  ·have UF:=hid hq;clear hq;go_wp2_with fail;go_meet;exact⟨rfl,by rw[UF.o];rfl⟩
 case rest=>
 obtain⟨rfl,rfl⟩:=hcut;go_upto_if 30 with(fail)
 go_cut [5]from 31 to 32 (λs5 wx=>w2=wx/\ s5= .string ⟨hd.toArray⟩)
 case first=>
  have HE:Hid (hd=(if q then[45]else[])++decDigits p):=by rw[HQ.o,HP.o];exact HH.o
  cases q
  ·go_wp2_with fail;go_meet;exact⟨rfl,by rw[HE.o];rfl⟩
  ·have hadd:∀W:ah5,(Op.stringOp .add ⟨#[45]⟩ ⟨(decDigits p).toArray⟩).run Tryz.prog W= .ok (.string ⟨(45::decDigits p).toArray⟩) W:=λW=>pU W [45] (decDigits p) (by have:=YF.o;simp;omega)
   go_wp2_with fail;go_meet;exact⟨rfl,by rw[HE.o];rfl⟩
 case rest=>
 obtain⟨rfl,rfl⟩:=hcut;have kc:=λ(w:ah5) (C:Array ah6) (n c:Nat)=>Lib.run_convert_bytes_const (P:=Tryz.prog) w 99 5 C n c Tryz.underlying99 Tryz.underlying5
 have hhl:hd.length<=20:=by
  have h1:=YF.o;rw[HH.o];unfold wI;rw[<-HP.o];split<;>simp<;>omega
 obtain⟨H,hH⟩:∃H,H=hd.length:=⟨_,rfl⟩;rw[<-hH]at hhl;obtain⟨T,hT⟩:∃T,T=H+L*9:=⟨_,rfl⟩;have iT:((H:Nat):Int)+((L:Nat):Int)*9=((T:Nat):Int):=by omega
 have hsz:(⟨hd.toArray⟩:ByteArray).size=H:=by rw[hH];rfl
 have YG:=hid hH;have HE0:Hid (0<H):=by show 0<H;rw[hH,HH.o];unfold wI;rw[List.length_append,decDigits_length];have:=nDigits_pos (gC N L);omega
 have WC:=hid hT;clear hH hT;go_wp2_with fail
 have hca:(w2.alloc (.cells #[ai0 .u8 48] 5 (1,2))).cell? ⟨w2.heap.size,0,none⟩=some (.int .u8 (((48:UInt8).toNat:Nat):Int)):=by
  refine(Lib.cell_of_heap (T:=5) (fr:=(1,2)) (cs:= #[ai0 .u8 48]) ?_ 0).trans rfl;show(w2.heap.push _)[w2.heap.size]? =_;rw[Array.getElem?_push_size]
 refine(Ng w2.heap.size 0 T 48 _ hca (by have:=WC.o;have:=HE0.o;omega) (by have:=WC.o;omega)).mono ?_;rintro e w3 ⟨g,rfl,hg4,hF,hB⟩;have Ju:Hid (kU w3 g T (ai2 T 48)):=kU.QX hF;have hb3:Hid (ah8 w2.heap.size w2 w3):=((Below.refl _ w2).alloc (aj4 _) _).trans (hB.mono (by simp));have hg5:w2.heap.size<=g:=by simp at hg4;omega
 have hHT:H<=T:=by have:=WC.o;omega
 have HFR:=hid (kU.row Ju.o);clear hF hB hg4 hca kc hsz;go_wp2_with (refine od rfl (.tmp 41) (.tmp 42) 99 9 rfl Tryz.underlying99 g 0 T T rfl hd rfl T _ Ju.o (by rw[<-YG.o];exact hHT) (by rw[<-YG.o];omega) w2.heap.size w2 hb3.o hg5 ?_;intro w4 hT4 hb4)
 have HI:Hid (kU w4 g T (qD hd N L 0)):=by
  have h1:=hT4.o;rw[ai8,List.nil_append,aj6,WC.o,YG.o,JU]at h1;rw[WC.o,YG.o];exact h1
 have lx:=hid hb4;clear hT4 hb4 Ju hb3 HFR hcell c0 iT i1;have HF:=hid (show N/10^(9*(L+1))=0/\ (1<L+1->0<N/10^(9*(L+1-1)))from⟨bH.o,bU.o⟩);have hTL:T=H+L*9:=WC.o;have HTL:=hid hTL;have hT9:L*9<=T:=by omega
 have hTb:T<=9000000100:=by omega
 clear hTL;go_loopg [7,50] L (λgh s7 s50 wr=>∃k:Nat,k<=L/\ s7= .int .i64 ((T-k*9:Nat):Int)/\ s50= .int .i64 ((k:Nat):Int)/\ Hid (L-k=gh)/\ Hid (kU wr g T (qD hd N L k))/\ Hid (ah8 w2.heap.size w2 wr))
 case atStart=>exact⟨0,ak5 _,by go_num,by go_num,rfl,HI,lx⟩
 case round=>
  clear HI lx;obtain⟨k,hk,rfl,rfl,HG,HI,HB⟩:=hrel;by_cases hlt:k<L
  ·have d1:decide (k<L)=true:=by simpa using hlt
   obtain⟨q5,YH⟩:∃q5,q5=gC N k:=⟨_,rfl⟩;have Jo:q5<1000000000:=by rw[YH];exact oW _ _
   have hcell:wr.cell? ⟨g1,k,none⟩=some (.int .u32 ((q5:Nat):Int)):=by
    have h1:=uu.o.cell k (by omega);rw[C9 _ _ _ (by omega),<-YH]at h1;exact(HB.o.cell (p:=⟨g1,k,none⟩) hg3).trans h1
   have hd5:=sy N k;rw[<-YH]at hd5;obtain⟨D,hD⟩:∃D,D=(decDigits q5).length:=⟨_,rfl⟩;rw[<-hD]at hd5;have hsz:(⟨(decDigits q5).toArray⟩:ByteArray).size=D:=by rw[hD];rfl
   obtain⟨E,hE⟩:∃E,E=T-k*9:=⟨_,rfl⟩;rw[<-hE];have hE2:9<=E/\ E+k*9=T:=by omega
   have iE:((E:Nat):Int)-((D:Nat):Int)=((E-D:Nat):Int):=by omega
   have iE9:((E:Nat):Int)-9=((E-9:Nat):Int):=by omega
   obtain⟨F,hF⟩:∃F,F=E-D:=⟨_,rfl⟩;rw[<-hF]at iE;have hFT:¬T=F:=by omega
   have WD:F<=9000000100:=by omega
   have hEb:E<=9000000100:=by omega
   have hF2:((F:Nat):Int)<=((T:Nat):Int):=by omega
   have PT:=hid YH;have HD:=hid hD;have HF9:=hid hF;have HE2:=hid hE2;have HE9:=hid hE;clear YH hD hF hE;go_wp2_with fail;refine(zq q5 (by omega) _ ((HT.o.below HB2.o).below HB.o)).mono ?_;rintro e w6 ⟨rfl,Wx⟩
   have HI6:Hid (kU w6 g T (qD hd N L k)):=by
    obtain⟨h1,cur,h2,h3⟩:=HI.o;exact⟨h1,cur,by rw[Wx.block g (lt_of_block h2)];exact h2,h3⟩
   have uU:=hid (HB.o.trans (Wx.mono HB.o.size));clear Wx HI HB hcell;go_wp2_with (refine od rfl (.tmp 61) (.tmp 62) 99 9 rfl Tryz.underlying99 g F (T-F) (T-F) rfl (decDigits q5) rfl T _ HI6.o (by rw[<-HD.o];omega) (by rw[<-HD.o];omega) w2.heap.size w2 uU.o hg5 ?_;intro w7 hT7 sX)
   have HJ:Hid (kU w7 g T (qD hd N L (k+1))):=by
    have h1:=hT7.o;rw[PT.o]at h1;rw[JV hd N L k F hlt (by rw[<-PT.o,<-HD.o,<-YG.o];have h2:=HTL.o;have h3:=HE2.o;have h4:=HF9.o;omega)]at h1;exact h1
   have EM:=hid sX;clear hT7 sX HI6 uU;go_roundg (L-(k+1))
   case measure=>have h1:=HG.o;rw[<-h1];omega
   case rel=>exact⟨k+1,hlt,by have h1:=HE9.o;congr 2;omega,by go_num,rfl,HJ,EM⟩
  ·obtain rfl:k=L:=by omega
   have d1:decide (k<k)=false:=by simp
   have hfin:=JW (m:=m) HF.o.1 HF.o.2;rw[<-HH.o,HN.o,HZ.o,<-HN.o]at hfin;have hI:=HI.o;rw[hfin]at hI;have hlen:=hI.1
   have hcv:(convert 99 9 (ah9 (some ⟨g,0,none⟩) T T)).run Tryz.prog wr= .ok (.string ⟨(itoa z).toArray⟩) wr:=by
    have h:=run_convert_bytes_back (P:=Tryz.prog) wr 99 9 5 ⟨g,0,none⟩ T (itoa z) Tryz.underlying99 Tryz.underlying5 Tryz.underlying9 (λj hj=>by
     rw[Addr.add_lit,aj6];exact hI.cell j hj)
    rw[hlen]at h;exact h
   have HBE:=hid (HB2.o.trans (HB.o.mono HB2.o.size));clear hfin hI hlen HI HB;go_wp2_with fail;go_ret;exact⟨rfl,HBE.o⟩
end
section
open Lib (hid)
open Go.RowKit
def wJ (l:List UInt8):Bool:=cL l&&decide (l≠[])
theorem JX (s:ByteArray) (k:Nat) (h:k<s.size):s.data.toList.take (k+1)=s.data.toList.take k++[s[k]]:=by
 rw[List.take_succ_eq_append_getElem (by simpa using h)];rfl
theorem QY (s:ByteArray) (k:Nat) (h:k<s.size) (hc:eG s[k]=false):cL s.data.toList=false:=by
 cases ha:cL s.data.toList with
 |false=>rfl
 |true=>
  have h1:=qY ha s[k] (by simp[ByteArray.getElem_eq_getElem_data]);rw[h1]at hc;cases hc
theorem QZ (s:ByteArray) (w:ah5) (hs:s.size<=1000000):
  Calls Tryz.prog 231 #[.string s] w λe w'=>e= .returned (ai1 (wJ s.data.toList))/\ w=w':=by
 go_enter Tryz.func231,Tryz.ntmps231;go_wp2_with fail;go_loop [6] (λi=>∃k:Nat,k<=s.size/\ i= .int .i64 k/\ Hid (cL (s.data.toList.take k)=true)) (λi=>s.size-(intOf i).toNat)
 case atStart=>exact⟨0,ak5 _,rfl,by rw[ai8];rfl⟩
 case round=>
  obtain⟨k,hk,rfl,HA⟩:=hrel;by_cases hlt:k<s.size
  ·cases hc:eG s[k]with
   |true=>
    have h1:=eO.1 hc;have h48:¬((s[k].toNat:Nat):Int)<48:=by omega
    have h57:¬(57:Int)<((s[k].toNat:Nat):Int):=by omega
    have HA2:Hid (cL (s.data.toList.take (k+1))=true):=by
     show _=_;rw[JX s k hlt,lS,HA.o,dI,hc];rfl
    clear hc h1;go_wp2_with fail;go_round
    case rel=>exact⟨k+1,by omega,by go_num,HA2⟩
    case measure=>simp[intOf];omega
   |false=>
    have HD:Hid (wJ s.data.toList=false):=by
     show _=_;unfold wJ;rw[QY s k hlt hc];rfl
    have h1:s[k].toNat<48∨(¬s[k].toNat<48/\ 57<s[k].toNat):=by
     by_cases h2:s[k].toNat<48
     ·exact .inl h2
     ·right
      refine⟨h2,?_⟩;rcases ak0 57 s[k].toNat with h3|h3
      ·exact h3
      ·rw[eO.2 ⟨by omega,h3⟩]at hc;cases hc
    clear hc;rcases h1 with h1|⟨h1,h2⟩
    ·have h48:((s[k].toNat:Nat):Int)<48:=by omega
     go_wp2_with fail;go_ret;exact⟨by rw[HD.o];rfl,rfl⟩
    ·have h48:¬((s[k].toNat:Nat):Int)<48:=by omega
     have h57:(57:Int)<((s[k].toNat:Nat):Int):=by omega
     go_wp2_with fail;go_ret;exact⟨by rw[HD.o];rfl,rfl⟩
  ·obtain rfl:k=s.size:=by omega
   have hl:s.data.toList.length=s.size:=(ah7 s).symm;have hA:=HA.o;rw[ai9 (by omega)]at hA
   have HR:Hid (wJ s.data.toList=decide (0<s.size)):=by
    show _=_;unfold wJ;rw[hA,Bool.true_and,decide_eq_decide,<-hl];exact aj0.symm
   clear hA HA hl;go_wp2_with fail;go_ret;exact⟨by rw[HR.o];simp,rfl⟩
structure F2 (B:Nat) (w0:ah5) (ao:Option Addr) (n ae V p k c:Nat) (wr:ah5) (zs:List Nat):Prop where
 own:bX B wr ao n ae zs
 below:ah8 B w0 wr
 xU:au (zs.take k)+4294967296^k*c=au ((aq V).take k)*1000000000+p
 high:zs.drop k=(aq V).drop k
 lt:c<1000000000
theorem A6 {xs ys:List Nat} {k:Nat} (h:xs.drop k=ys.drop k):xs.getD k 0=ys.getD k 0:=by
 have h1:=congrArg (λl=>l.getD 0 0) h;simpa[List.getD]using h1
theorem Q0 {P A S p c x T:Nat} (h:A+P*c=S*1000000000+p) (ht:T=c+x*1000000000):
  (A+P*(T%4294967296))+P*4294967296*(T/4294967296)=(S+P*x)*1000000000+p:=by
 have h1:P*4294967296*(T/4294967296)=P*(4294967296*(T/4294967296)):=ak4 _ _ _;rw[h1,ak6,<-ak7,Nat.mod_add_div,ht,ak7,<-ak6,h,Nat.add_mul,ak4 P x];omega
theorem Da {zs:List Nat} {n:Nat} (hw:Wf zs) (hl:zs.length=n) (h:n=0∨4294967296^(n-1)<=au zs):zs=aq (au zs):=by
 rcases aj9 n with h0|h0
 ·subst h0;obtain rfl:=ai7 hl;rfl
 ·have h1:4294967296^(n-1)<=au zs:=by
   rcases h with h|h
   ·omega
   ·exact h
  have h2:nl zs=n:=by
   have h3:=fV zs;rcases ak0 (nl zs) n with h4|h4
   ·have h5:=dG (aq (au zs)) (dv _);rw[av,<-Tl zs hw]at h5;have h6:4294967296^(nl zs)<=4294967296^(n-1):=ak1 (by omega) (by omega);omega
   ·omega
  rw[<-cq zs hw,cF,h2,cE zs n hl]
theorem Nh {V n:Nat} (h:(aq V).length=n):n=0∨4294967296^(n-1)<=V:=by
 rcases aj9 n with h0|h0
 ·exact .inl h0
 ·right
  have h1:=eh (xs:=aq V) (n-1) (by rw[eI,h];omega);rwa[av]at h1
def YI (B:Nat) (w0:ah5) (V n:Nat) (e:Ending) (w':ah5):Prop:=
 ∃ao n' ae,e= .returned (ah9 ao n' ae)/\ bX B w' ao n' ae (aq V)/\ ah8 B w0 w'/\ n'<=n+1
theorem Q1 (B:Nat) (ao:Z') (n ae V p:Nat) (w0 w:ah5) (hO:bX B w ao n ae (aq V)) (hb:ah8 B w0 w) (hB:B<=w.heap.size) (hp:p<1000000000) (hn:n<=1000000):
  Calls Tryz.prog 250 #[ah9 ao n ae,.int .u32 (p:Int)] w (YI B w0 (V*1000000000+p) n):=by
 obtain⟨i0,hi,hz0,hz1,hz2⟩:=info_parts Tryz.fx;have HI:Hid (F2 B w0 ao n ae V p 0 p w (aq V)):=⟨hO,hb,by simp[au],rfl,hp⟩;have HL:=hid hO.len;clear hO hb;go_enter Tryz.func250,Tryz.ntmps250;go_wp2_with fail;go_loopg [5,12] n (λg s5 s12 wr=>∃(k c:Nat) (zs:List Nat),k<=n/\ s5= .int .u64 ((c:Nat):Int)/\ s12= .int .i64 ((k:Nat):Int)/\ Hid (n-k=g)/\ Hid (F2 B w0 ao n ae V p k c wr zs)/\ B<=wr.heap.size)
 case atStart=>exact⟨0,p,aq V,ak5 _,rfl,rfl,rfl,HI,hB⟩
 case round=>
  clear HI;obtain⟨k,c,zs,hk,rfl,rfl,HG,HI,hBr⟩:=hrel;have hcl:=HI.o.lt;by_cases hlt:k<n
  ·have d1:decide (k<n)=true:=by simpa using hlt
   rcases HI.o.own.parts with⟨_,h0,_⟩|⟨g,rfl,hg,_,hcap⟩
   ·omega
   obtain⟨x,hx⟩:∃x,x=zs.getD k 0:=⟨_,rfl⟩;have hxl:x<4294967296:=by rw[hx];exact HI.o.own.bJ k
   have hcell:=HI.o.own.cell k hlt;rw[<-hx]at hcell;have hfr:=HI.o.own.frozen k;obtain⟨T,hT⟩:∃T,T=c+x*1000000000:=⟨_,rfl⟩;have hTb:T<=4294967296000000000:=by omega
   have iT:((c:Nat):Int)+((x:Nat):Int)*1000000000=((T:Nat):Int):=by omega
   have HX:=hid hx;have HT:=hid hT;clear hx hT;go_wp2_with fail
   have HJ:Hid (F2 B w0 (some ⟨g,0,none⟩) n ae V p (k+1) (T/4294967296) (wr.setCell ⟨g,k,none⟩ (.int .u32 (((T:Nat):Int)%4294967296))) (zs.set k (T%4294967296))):=by
    have hlen:=HI.o.own.len;have hgl:=A6 HI.o.high;refine⟨HI.o.own.set k (T%4294967296) (aj7 _ (by omega)),HI.o.below.setCell hg _,?_,?_,by have:=HI.o.lt;have h1:=HT.o;omega⟩
    ·rw[cv _ k (by rw[ai5];omega),cv (aq V) k (by rw[HL.o];exact hlt),bW,bW,aj1,ai5,aj1,HL.o,ak8 (by omega),ak8 (by omega),eH,if_pos ⟨rfl,by omega⟩,List.take_set_of_le (aj4 _),bu,bu,di,ak9,al0,al0,<-hgl,<-HX.o,Nat.pow_succ];exact Q0 HI.o.xU HT.o
    ·rw[ai6 (by omega)];have h1:=congrArg (List.drop 1) HI.o.high;rwa[aj2,aj2]at h1
   have Im:B<=(wr.setCell ⟨g,k,none⟩ (.int .u32 (((T:Nat):Int)%4294967296))).heap.size:=by simpa using hBr
   clear HI;go_roundg (n-(k+1))
   case measure=>have h1:=HG.o;rw[<-h1];omega
   case rel=>exact⟨k+1,T/4294967296,_,hlt,by go_num,by go_num,rfl,HJ,Im⟩
  ·obtain rfl:k=n:=by omega
   have d1:decide (k<k)=false:=by simp
   have hlen:=HI.o.own.len;have hlow:=HI.o.xU;rw[cE zs k hlen,cE _ k HL.o]at hlow;rw[av]at hlow;have hO:=HI.o.own;have hbl:=HI.o.below;have JY:=hid hlow;have HO:=hid hO;have HBL:=hid hbl;have hle:=hO.sl.le;have hbig:=hO.big;clear hlow hO hbl HI hlen;by_cases hc0:0<c
   ·have HV:Hid (zs++[c]=aq (V*1000000000+p)):=by
     have h1:Wf (zs++[c]):=λy hy=>by
      rcases List.mem_append.1 hy with hy|hy
      ·exact HO.o.wf y hy
      ·simp at hy;omega
     have h2:au (zs++[c])=V*1000000000+p:=by
      rw[bW,bu,di,ak9,al0,HO.o.len];exact JY.o
     show _=_;rw[<-h2,<-cq _ h1,Go.Proofs.YtmenbpmciblnlaaGreatDoor.qZ _ (by omega)]
    go_wp2_with (at_builtin;refine dt wr wr rfl (.tmp 32) (.tmp 35) 27 rfl B 192 i0 (.int .u32 0) 4 Tryz.underlying27 hi hz0 hz1 hz2 rfl _ _ _ _ rfl HO.o.row (.int .u32 ((c:Nat):Int)) rfl 192 rfl (Below.refl _ _) hBr (by unfold maxLen;omega) (by omega) ?_;intro Tk oX w3 hown3 hB3 hg3);go_ret;exact⟨_,_,_,rfl,by rw[<-HV.o];exact FZ c hown3 rfl (by omega) HO.o.wf (by omega),HBL.o.trans hB3,aj4 _⟩
   ·obtain rfl:c=0:=by omega
    have HV:Hid (zs=aq (V*1000000000+p)):=by
     have h2:=JY.o;rw[ak9,al0]at h2;show _=_;rw[<-h2];refine Da HO.o.wf HO.o.len ?_;rw[h2];rcases Nh HL.o with h3|h3
     ·exact .inl h3
     ·exact .inr (by omega)
    go_wp2_with fail;go_ret;exact⟨_,_,_,rfl,by rw[<-HV.o];exact HO.o,HBL.o,Nat.le_succ _⟩
end
section
open Lib (hid)
open Go.RowKit
theorem sV (s:ByteArray) (a b:Nat):(s.extract a b).data.toList=(s.data.toList.drop a).take (b-a):=by
 have h:=ByteArray.extract_mk s.data.toList a b;have e:(ByteArray.mk s.data.toList.toArray)=s:=by simp
 rw[e]at h;rw[h]
theorem PF (s:ByteArray) (a b:Nat) (h:a<=b) (hb:b<=s.size):(s.extract a b).size=b-a:=by
 rw[ah7,sV,aj1,aj3,<-ah7];omega
theorem F3 (s:ByteArray) (w:ah5) (hs:s.size<=1000000) (ha:cL s.data.toList=true):
  Calls Tryz.prog 232 #[.string s] w (fW w (aq (aP s.data.toList))):=by
 obtain⟨l,hl⟩:∃l,l=s.data.toList:=⟨_,rfl⟩;rw[<-hl]at ha ⊢;have HL:=hid hl;have HA:=hid ha;have hsz:s.size=l.length:=by rw[hl];exact ah7 s
 have Ck:=hid hsz;clear hl ha hsz;go_enter Tryz.func232,Tryz.ntmps232;go_wp2_with fail;go_loopg [0,3] l.length (λg s0 s3 wr=>∃(k:Nat) (t:ByteArray) (ao:Option Addr) (n ae:Nat),s0= .string t/\ s3=ah9 ao n ae/\ Hid (k<=l.length/\ t.data.toList=l.drop k)/\ Hid (l.length-k=g)/\ Hid (bX w.heap.size wr ao n ae (aq (aP (l.take k))))/\ Hid (ah8 w.heap.size w wr)/\ n<=k/\ Hid (k=0∨(l.length-k)%9=0))
 case atStart=>exact⟨0,s,none,0,0,rfl,rfl,⟨ak5 _,by rw[<-HL.o];rfl⟩,rfl,by rw[ai8];exact bX.nil _ _,Below.refl _ _,aj4 _,.inl rfl⟩
 case round=>
  obtain⟨k,t,ao,n,ae,rfl,rfl,HK,HG,HO,HB,hn,HM⟩:=hrel;have htz:t.size=l.length-k:=by rw[ah7,HK.o.2,aj3]
  have hkl:=HK.o.1;have hsz:=Ck.o;by_cases h0:0<t.size
  ·obtain⟨j,hj⟩:∃j,j=t.size-1:=⟨_,rfl⟩;obtain⟨r,hr⟩:∃r,r=j%9:=⟨_,rfl⟩;have Ni:r<9:=by omega
   have hrj:r<=j:=by rw[hr];exact Nat.mod_le _ _
   obtain⟨m,hm⟩:∃m,m=r+1:=⟨_,rfl⟩;have i0:((t.size:Nat):Int)-1=((j:Nat):Int):=by omega
   have i1:((j:Nat):Int)%9=((r:Nat):Int):=by omega
   have i2:((r:Nat):Int)+1=((m:Nat):Int):=by omega
   have htb:t.size<=1000000:=by omega
   have hmt:m<=t.size:=by omega
   have hm1:1<=m/\ m<=9:=by omega
   have ha:cL (t.extract 0 m).data.toList=true:=by
    rw[sV,HK.o.2,aj2];exact gP (oI HA.o _) _
   have hez:=PF t 0 m (ak5 _) hmt;rw[al1]at hez;obtain⟨p,hp⟩:∃p,p=aP (t.extract 0 m).data.toList:=⟨_,rfl⟩
   have hpl:p<1000000000:=by
    have h1:=pZ ha;rw[<-hp,<-ah7,hez]at h1;have h2:10^m<=10^9:=ak1 (by omega) hm1.2;rw[Q2]at h2;omega
   have hP:=JZ (t.extract 0 m) (by omega) (by omega) ha wr;rw[<-hp]at hP;have HP:=hid hP;have LF:=hid hp;have HT:=hid htz
   have Yq:Hid ((k=0∨m=9)/\ (l.length-(k+m))%9=0):=by
    have h1:=HM.o;show _/\ _;omega
   have hn6:n<=1000000:=by omega
   have UG:((m:Nat):Int)<=((t.size:Nat):Int):=by omega
   clear hj hr hP hp ha hez htz hsz hm;go_wp2_with fail;refine HP.o.mono ?_;rintro e w2 ⟨rfl,hB2⟩;have HA2:=hid (Q1 w.heap.size ao n ae (aP (l.take k)) p w w2 (HO.o.below hB2) (HB.o.trans (hB2.mono HB.o.size)) (ak2 HB.o.size hB2.size) hpl hn6);clear hB2 HO HB HP;go_wp2_with fail;refine HA2.o.mono ?_;rintro e w3 ⟨Tk,n3,oX,rfl,hO3,hB3,hn3⟩;have hk2:k+m<=l.length:=by have:=HT.o;omega
   have HE:Hid (aP (l.take k)*1000000000+p=aP (l.take (k+m))):=by
    have h1:=LF.o;rw[sV,HK.o.2,ai4,al1]at h1;show _=_;have h3:l.take (k+m)=l.take k++(l.drop k).take m:=List.take_add ..;rw[h3,jE,<-h1,aj1,aj3,ak8 (by omega)];rcases Yq.o.1 with h4|h4
    ·subst h4;simp[aP]
    ·subst h4;rfl
   have LJ:Hid (bX w.heap.size w3 Tk n3 oX (aq (aP (l.take (k+m))))):=by rw[<-HE.o];exact hO3
   have bU:Hid (k+m<=l.length/\ (t.extract m t.size).data.toList=l.drop (k+m)):=by
    refine⟨hk2,?_⟩;rw[sV,HK.o.2,aj2,ai9];rw[aj3,HT.o];omega
   have HB3:=hid hB3;clear hO3 hB3 HA2 HE;go_wp2_with fail;go_roundg (l.length-(k+m))
   case measure=>have h1:=HG.o;omega
   case rel=>exact⟨k+m,t.extract m t.size,Tk,n3,oX,rfl,rfl,bU,rfl,LJ,HB3,by omega,.inr Yq.o.2⟩
  ·have hk2:k=l.length:=by omega
   subst hk2;have uu:Hid (bX w.heap.size wr ao n ae (aq (aP l))):=by have h1:=HO.o;rwa[List.take_length]at h1
   have d1:t.size=0:=by omega
   clear HO htz hsz;go_wp2_with fail;go_ret;exact⟨_,_,_,rfl,uu.o,HB.o⟩
theorem yC (l:List UInt8):(dX l).length<=l.length:=by
 rcases Db l with⟨r,rfl⟩|⟨_,h⟩
 ·rw[(F4 r).2];simp
 ·rw[h];exact aj4 _
theorem Q3 {u:ByteArray} (h:wJ u.data.toList=true):0<u.size:=by
 unfold wJ at h;rw[Bool.and_eq_true]at h;rw[ah7];exact aj0.2 (of_decide_eq_true h.2)
theorem J0 (u:ByteArray) (h:0<u.size):u.data.toList.head? =some u[0]:=by
 rw[List.head?_eq_getElem?,List.getElem?_eq_getElem (by simpa using h)];rfl
theorem UH {s:ByteArray} {b:List UInt8} (h:s.data.toList=b):(s.toList==b)=true:=by
 rw[ByteArray.toList_eq,h];simp
def YJ (w:ah5) (q:Int) (er:Int) (e:Ending) (w':ah5):Prop:=
 ∃m ao n ae,e= .returned (.tuple #[.agg #[ai1 m,ah9 ao n ae],.int .i64 er])/\ Cn w' m ao n ae q/\ ah8 w.heap.size w w'
def jK (er:Int):ah6:= .tuple #[.agg #[ai1 false,ah9 none 0 0],.int .i64 er]
theorem MF (s:ByteArray) (w:ah5) (hs:s.size<=20000) (hn:FW s.data.toList=true):
  Calls Tryz.prog 206 #[.string s] w (YJ w (FX s.data.toList) 0):=by
 have Uk:(⟨(dX s.data.toList).toArray⟩:ByteArray).size<=1000000:=by
  have h1:=yC s.data.toList;rw[<-ah7]at h1;exact ak2 h1 (by omega)
 have hd:wJ (dX s.data.toList)=true:=by
  have h1:=oV.1 hn;unfold wJ;rw[h1.2.1,Bool.true_and];exact decide_eq_true h1.1
 have HD:=hid hd;have HN:=hid hn;clear hd hn;go_enter Tryz.func206,Tryz.ntmps206;go_wp2_with fail;refine(Nj s _).mono ?_;rintro e w1 ⟨rfl,hw1⟩;rw[hw1];obtain⟨u,hu⟩:∃u:ByteArray,u=⟨(dX s.data.toList).toArray⟩:=⟨_,rfl⟩;obtain⟨q,hq⟩:∃q,q=Lib.hasPrefix s.data.toList [45]:=⟨_,rfl⟩;rw[<-hu,<-hq];rw[<-hu]at Uk;have hD:wJ u.data.toList=true:=by rw[hu];exact HD.o
 have HD2:=hid hD;have Ce:0<u.size:=Q3 hD;have hu2:u.data.toList=dX s.data.toList:=by rw[hu]
 have hbs:Hid ((((u[0].toNat:Nat):Int)==48)=false∨((((u[0].toNat:Nat):Int)==48)=true/\ (s.toList==[48])=true)):=by
  have h1:=(oV.1 HN.o).2.2;have h2:=J0 u Ce;rw[hu2]at h2;by_cases h3:u[0]=48
  ·right
   rw[h3]at h2;rcases h1 with h1|h1
   ·exact absurd h2 h1
   ·exact⟨by rw[h3];rfl,UH h1⟩
  ·left
   have h4:u[0].toNat≠48:=λe=>h3 (UInt8.toNat_inj.1 e)
   simp;omega
 have HU:=hid hu2;have HQ:=hid hq;clear hu2 hw1 hu hq hD;go_wp2_with fail;refine(QZ u _ Uk).mono ?_;rintro e w2 ⟨rfl,hw2⟩;rw[<-hw2,HD2.o];clear hw2
 have HLM:Hid (∀W:ah5,Calls Tryz.prog 232 #[.string u] W (fW W (aq (aP (dX s.data.toList))))):=by
  intro W;have h1:=HD2.o;unfold wJ at h1;rw[Bool.and_eq_true]at h1;rw[<-HU.o];exact F3 u W Uk h1.1
 have Q4:Hid (∀(W:ah5) (ao:Option Addr) (n ae:Nat),bX (w.alloc (.cells #[ai1 false,ah9 none 0 0] 29)).heap.size W ao n ae (aq (aP (dX s.data.toList)))->Cn W q ao n ae (FX s.data.toList)):=by
  intro W ao n ae hO;refine⟨?_,by rw[Nk];exact hO.sl⟩;rw[HQ.o];exact J3 HN.o
 have ab4:=hbs.o;clear hbs;rcases ab4 with hb0|⟨hb0,hs2⟩
 all_goals
  go_wp2_with fail;refine(HLM.o _).mono ?_;rintro e w5 ⟨ao,n,ae,rfl,hO,hB⟩;have HC:=hid (Q4.o _ _ _ _ hO);have hbx:=(bS.cS w w.heap.size false none 0 0 29 rfl).below hB;have c0:=hbx.c0;have c1:=hbx.c1;have f0:=hbx.f0;have f1:=hbx.f1;have HBX:=hid hbx;have HB:=hid (aN hB);clear hO hB hbx;go_wp2_with fail;refine bodyPost_ret (v:= .tuple #[.agg #[ai1 q,ah9 ao n ae],.int .i64 0]) (by simp[results,Tryz.results206,go_sem,c0,c1]) rfl ?_;exact⟨_,_,_,_,rfl,HC.o.ew HBX.o _ _,bj HB.o (aj4 _) _ _⟩
end
end Go.Proofs.YtmenbpmciblnlaaGreatDoor
