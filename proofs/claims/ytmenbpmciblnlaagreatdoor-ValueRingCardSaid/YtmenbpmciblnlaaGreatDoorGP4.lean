import Derived.Test.YtmenbpmciblnlaaGreatDoorPlJoin
set_option maxHeartbeats 0
set_option maxRecDepth 100000
open And renaming intro->ah5
open Array renaming replicate_succ->ah6,replicate_zero->ah7
open Go renaming Value->ah9,World->ah8
open Go.RowKit renaming Below->ai0
open Go.Value renaming cells->ai3,oneCell'->ai2,slice->ai1
open List renaming append_toArray->ai8,cons_append->aj0,getD->aj8,length_cons->ai5,length_nil->ai6,length_reverse->aj1,mem_cons->aj3,nil_append->ai9,pairwise_append->aj4,push_toArray->ai7,size_toArray->ai4,take_length->aj5,take_of_length_le->aj7,take_succ_eq_append_getElem->aj6,take_take->aj2,take_zero->aj9
open Nat renaming le_refl->ak3,le_succ->ak4,le_trans->ak2,min_eq_left->ak5,reduceAdd->ak0,reduceSub->ak1
open Option.some renaming inj->ak6
namespace Go.Proofs.YtmenbpmciblnlaaGreatDoor
open Lib (hid)
open Go.RowKit
theorem zS {ao:Z'} {n ae:Nat} {w:ah8} (hn:n<=ae) (hc:ae<=maxLen):Calls Tryz.prog 114 #[ai1 ao n ae,.int .i64 0] w (λe w'=>e= .returned (ai1 ao n ae)/\ w'=w):=by
 have hbc:ae<=9223372036854775807:=by unfold maxLen at hc;omega
 have hd0:decide ((0:Int)<(0:Int))=false:=rfl;obtain⟨z,hz⟩:∃z:Int,(ae:Int)-(n:Int)=z:=⟨_,rfl⟩;have hd1:decide ((0:Int)< -z)=false:=decide_eq_false (by omega);have hw:IntKind.i64.wrap (-z)= -z:=IntWalk.i64_in _ ⟨by omega,by omega⟩;have h0:(0:Int)-z= -z:=by omega
 clear hc;go_enter Tryz.func114,Tryz.ntmps114;go_wp2;go_ret;exact⟨rfl,rfl⟩
theorem DZ {ao:Z'} {n ae:Nat} {w:ah8} (hn:n<=ae) (hc:ae<=maxLen) (h0:ao=none->ae=0) (hs:∀ad,ao=some ad->ad.spot=none):Calls Tryz.prog 116 #[ai1 ao n ae,.int .i64 (n:Int),.int .i64 (n:Int)] w (λe w'=>e= .returned (ai1 ao n ae)/\ w'=w):=by
 have hbc:ae<=9223372036854775807:=by unfold maxLen at hc;omega
 have hd1:((n:Int)==(n:Int))=true:=by simp
 clear hc;cases ao with
 |none=>
  obtain rfl:ae=0:=h0 rfl;obtain rfl:n=0:=by omega
  go_enter Tryz.func116,Tryz.ntmps116;go_wp2;go_ret;exact⟨rfl,rfl⟩
 |some ad=>
  obtain⟨b,off,s⟩:=ad;obtain rfl:s=none:=hs _ rfl;go_enter Tryz.func116,Tryz.ntmps116;go_wp2;go_ret;exact⟨rfl,rfl⟩
theorem Vn {Bs cb:Nat} {bo:Z'} {w:ah8} (hB:w.cell? ⟨Bs,0,none⟩=some (ai1 bo 0 cb)):I9 Tryz.prog 170 #[.pointer (some ⟨Bs,0,none⟩)] (D5 0 []) (λk=>k=Bs) 0 w:=by
 intro l J W hW hY h0;have hc:W.cell? ⟨Bs,0,none⟩=some (ai1 bo 0 cb):=hW.cell (a:=⟨Bs,0,none⟩) rfl hB;have HJ:=hid h0;clear hY h0 hW hB;refine callsIn_of_wp Tryz.func170 rfl trivial ?_ rfl
 simp only[Tryz.ntmps170,ai4,ai5,ai6,ak0,ak1,ah6,ah7,ai7,ai8,ai9,aj0]
 gi_wp2
 gi_loopw [3] (λi wr=>i= .int .i64 (-1)/\ Hid (J 0 wr)) (λ_ _=>0)
 case atStart=>exact⟨rfl,HJ.o⟩
 case round=>
  obtain⟨rfl,HJ⟩:=hrel;have hd:decide ((0:Int)<= -1)=false:=rfl
  gi_wp2
  go_end0;exact⟨⟨_,rfl⟩,HJ.o⟩
theorem GL {G:Nat} {ao bo:Z'} {n ae cb:Nat} {w:ah8} (hnc:n<=ae) (hcm:ae<=maxLen) (hao:ao=none->ae=0) (hsp:∀ad,ao=some ad->ad.spot=none) (hn6:n<=1000000):
  Calls Tryz.prog 70 #[ai1 ao n ae,ai1 bo 0 cb,.func (.func G) #[] #[]] w (λe V=>e= .returned (ai1 ao n ae)/\ ai0 w.heap.size w V):=by
 refine lj Tryz.func70 rfl ?_;simp only[Tryz.ntmps70,ai4,ai5,ai6,ak0,ak1,ah6,ah7,ai7,ai8,ai9,aj0];go_upto_region 2 with(fail)
 refine aj (λW hW=>?_);obtain⟨a5,a7,a8,hB⟩:=Vo w [.func (.func G) #[] #[]] [.int .i64 (n:Int)] [.int .i64 (n:Int)] 121 3 3;rw[<-hW]at a5 a7 a8 hB;clear hW;have Vp:=hid a7;have RY:=hid a8;have Vq:=hid hB;clear a5 a7 a8 hB;go_cut [9]from 21 to 26 (λs9 w9=>∃(ba:Nat),s9= .pointer (some ⟨ba,0,none⟩)/\ ai0 w.heap.size w w9/\ aS w9 ba [ai1 ao n ae] 23/\ aS w9 (w.heap.size+1) [.int .i64 (n:Int)] 3/\ aS w9 (w.heap.size+1+1) [.int .i64 (n:Int)] 3)
 case first=>
  refine wp_region_held_drew (S:=λw'=>w'.cell? ⟨w.heap.size+1+1,0,none⟩=some (.int .i64 (n:Int))) (by kernel_rfl) RY.o.c1 (λhH=>?_);refine ah (λw1 hW=>?_);have S1:ai0 W.heap.size W w1:=by rw[hW];exact(Below.refl _ _).drew
  have RZ:=hid (Vp.o.below S1);have K6:=hid (RY.o.below S1);have IZ:=hid (Below.ar Vq.o S1);rw[<-hW]at hH;clear S1 Vp RY Vq hW;refine aT 0 hH ?_;try simp only[ax]
  refine aT 1 hH ?_;try simp only[ax]
  refine aT 2 hH ?_;try simp only[ax]
  refine aT 4 hH ?_;try simp only[ax]
  refine wpAnyH_ready (rs:=[3,6]) (by kernel_rfl) (by simp) (aM rfl (λKK hK=>?_) (aM rfl (λKK hK=>?_) AllReadyH.nil))
  ·go_simp;refine(zS hnc hcm).mono ?_;rintro e wx ⟨rfl,hwx⟩;rw[hwx];clear hwx;go_wp2_with fail;clear hH;refine hK.o _ _ K6.o.c1 λhH=>?_;clear hK KK
   try simp only[ax]
   refine aT 5 hH ?_;try simp only[ax]
   refine ag 6 rfl (by kernel_rfl) (λKK hK=>?_);go_simp;have S2:ai0 w1.heap.size w1 (w1.alloc (.cells #[ai1 none 0 0] 23)):=af _ _;clear hH;refine hK.o _ _ (aS.c1 (T:=3) (K6.o.below S2)) λhH=>?_;clear hK KK
   try simp only[ax]
   refine ah (λw2 hW=>?_);have S3:ai0 w1.heap.size w1 w2:=by rw[hW];exact S2
   have EP:Hid (aS w2 w1.heap.size [ai1 none 0 0] 23):=by rw[hW];exact aS.cS w1 [ai1 none 0 0] 23
   have TA:=hid (RZ.o.below S3);have K7:=hid (K6.o.below S3);have TB:=hid (Below.ar IZ.o S3);have hw1:=IZ.o.size;rw[<-hW]at hH;clear S3 S2 RZ K6 IZ hW;refine ag 7 rfl (by kernel_rfl) (λKK hK=>?_);have c0:=EP.o.c1;have f0:=EP.o.f1;go_simp;clear c0 f0;clear hH;refine hK.o _ _ (aS.c1 (T:=3) (K7.o.dy (K7.o.ne EP.o (by decide)).symm 0 _)) λhH=>?_;clear hK KK
   try simp only[ax]
   refine ah (λw4 hW=>?_);have Vr:Hid (aS w4 w1.heap.size [ai1 ao n ae] 23):=by rw[hW];exact EP.o.set 0 _
   have E84:Hid (aS w4 (w.heap.size+1+1) [.int .i64 (n:Int)] 3):=by rw[hW];exact K7.o.dy (K7.o.ne EP.o (by decide)).symm 0 _
   have E74:Hid (aS w4 (w.heap.size+1) [.int .i64 (n:Int)] 3):=by rw[hW];exact TA.o.dy (TA.o.ne EP.o (by decide)).symm 0 _
   have BW4:Hid (ai0 w.heap.size w w4):=by rw[hW];exact TB.o.setCell (p:=⟨w1.heap.size,0,none⟩) hw1 _
   clear hW;refine wpAnyH_done (by kernel_rfl) ?_ _
   clear hH;go_wp2_with fail;go_meet
   case rel=>exact⟨_,rfl,BW4.o,Vr.o,E74.o,E84.o⟩
  ·go_simp;have S2:ai0 w1.heap.size w1 (w1.alloc (.cells #[ai1 none 0 0] 23)):=af _ _;clear hH;refine hK.o _ _ (aS.c1 (T:=3) (K6.o.below S2)) λhH=>?_;clear hK KK
   try simp only[ax]
   refine ah (λw2 hW=>?_);have S3:ai0 w1.heap.size w1 w2:=by rw[hW];exact S2
   have EP:Hid (aS w2 w1.heap.size [ai1 none 0 0] 23):=by rw[hW];exact aS.cS w1 [ai1 none 0 0] 23
   have TA:=hid (RZ.o.below S3);have K7:=hid (K6.o.below S3);have TB:=hid (Below.ar IZ.o S3);have hw1:=IZ.o.size;rw[<-hW]at hH;clear S3 S2 RZ K6 IZ hW;refine ag 3 rfl (by kernel_rfl) (λKK hK=>?_);go_simp;refine(zS hnc hcm).mono ?_;rintro e wx ⟨rfl,hwx⟩;rw[hwx];clear hwx;go_wp2_with fail;clear hH;refine hK.o _ _ K7.o.c1 λhH=>?_;clear hK KK
   try simp only[ax]
   refine aT 5 hH ?_;try simp only[ax]
   refine ag 7 rfl (by kernel_rfl) (λKK hK=>?_);have c0:=EP.o.c1;have f0:=EP.o.f1;go_simp;clear c0 f0;clear hH;refine hK.o _ _ (aS.c1 (T:=3) (K7.o.dy (K7.o.ne EP.o (by decide)).symm 0 _)) λhH=>?_;clear hK KK
   try simp only[ax]
   refine ah (λw4 hW=>?_);have Vr:Hid (aS w4 w1.heap.size [ai1 ao n ae] 23):=by rw[hW];exact EP.o.set 0 _
   have E84:Hid (aS w4 (w.heap.size+1+1) [.int .i64 (n:Int)] 3):=by rw[hW];exact K7.o.dy (K7.o.ne EP.o (by decide)).symm 0 _
   have E74:Hid (aS w4 (w.heap.size+1) [.int .i64 (n:Int)] 3):=by rw[hW];exact TA.o.dy (TA.o.ne EP.o (by decide)).symm 0 _
   have BW4:Hid (ai0 w.heap.size w w4):=by rw[hW];exact TB.o.setCell (p:=⟨w1.heap.size,0,none⟩) hw1 _
   clear hW;refine wpAnyH_done (by kernel_rfl) ?_ _
   clear hH;go_wp2_with fail;go_meet
   case rel=>exact⟨_,rfl,BW4.o,Vr.o,E74.o,E84.o⟩
 case rest=>
 clear Vp RY Vq;obtain⟨ba,rfl,BWc,EAc,E7c,E8c⟩:=hcut;have B9:=hid BWc;have A9:=hid EAc;have E79:=hid E7c;have E89:=hid E8c;clear BWc EAc E7c E8c;go_wp2_with fail;refine(D6 _).mono ?_;rintro e Hs ⟨rfl,rfl⟩;go_wp2_with fail;refine aj (λW hW=>?_);have S1:ai0 wc.heap.size wc W:=by rw[hW];exact af _ _
 have B10:=hid (Below.ar B9.o S1);have A10:=hid (A9.o.below S1);have ad5:=hid (E79.o.below S1);have ad6:=hid (E89.o.below S1);obtain⟨Bs,Im⟩:∃Bs,Bs=wc.heap.size:=⟨_,rfl⟩;have R4:Hid (aS W Bs [ai1 bo 0 cb] 23):=by rw[hW,Im];exact aS.cS wc [ai1 bo 0 cb] 23
 rw[<-Im];clear hW S1 Im A9 B9 E79 E89;have eB:∀args w,(callFunc 170 args).run Tryz.prog w= .ok (.enter 170 args) w:=enters_of Tryz.func170 (by kernel_rfl) rfl;have hWw:=B10.o.size;have hZ:=λ(k:Nat) (h:k=Bs)=>(h▸R4.o.lt:k<W.heap.size)
 refine(wpIn_wide (n:=0)).1 (jA rfl eB (Vn R4.o.c1) hZ (λj=>rfl) (λ_ V=>(aS V ba [ai1 ao n ae] 23/\ aS V (w.heap.size+1) [.int .i64 (n:Int)] 3/\ aS V (w.heap.size+1+1) [.int .i64 (n:Int)] 3)/\ ai0 w.heap.size w V) ?own ⟨⟨A10.o,ad5.o,ad6.o⟩,B10.o⟩ (λl j V hj=>by omega) ?done)
 case own=>exact λj A B row hs hg hr=>⟨⟨hs.1.1.cP hg (λr e=>by obtain⟨_,o,h2,h3⟩:=hr r e;exact hs.1.1.jf h2 h3),hs.1.2.1.cP hg (λr e=>by obtain⟨_,o,h2,h3⟩:=hr r e;exact hs.1.2.1.jf h2 h3),hs.1.2.2.cP hg (λr e=>by obtain⟨_,o,h2,h3⟩:=hr r e;exact hs.1.2.2.jf h2 h3)⟩,hs.2.grown hg hs.2.size (λr e=>ak2 hWw (hr r e).1)⟩
 case done=>
  rintro D V hD ⟨⟨h1,h2,h3⟩,h4⟩ hK;have c0:=h1.c1;have c1:=h2.c1;have c2:=h3.c1;have HB:=hid h4;have hDw:w.heap.size<=D:=by omega
  clear h1 h2 h3 h4
  dsimp only
  go_wp2_with fail;refine(DZ hnc hcm hao hsp).mono ?_;rintro e V2 ⟨rfl,rfl⟩;go_wp2_with fail;refine⟨by simp,.inl ⟨_,_,rfl,run_takeDeferred hK,?_⟩⟩;exact⟨_,results_tmp rfl _ _ _,rfl,HB.o.grown (grownBy_putObj' V2 D (.deferred none)) HB.o.size (λr e=>by cases e;exact hDw)⟩
theorem zT (m:List (Int×Int)):∀(r S:List ai),(dB m r S).1.length+(dB m r S).2.1.length=r.length+S.length
 |[],S=>rfl
 |u::r,S=>by
  unfold dB;split
  ·rw[zT m r (u::S)];simp only[ai5];omega
  ·rfl
theorem K8 (f:Int->Int->Int) (r S:List ai) (t:ai):(gv f (r,S) t).1.length+(gv f (r,S) t).2.length<=r.length+S.length+1:=by
 have h:=zT t.2 r S;unfold gv;simp only;generalize dB t.2 r S=x at h ⊢;obtain⟨r',S',b⟩:=x;simp only at h ⊢;have h1:∀c:Int,(if c=0 then S' else(c,t.2)::S').length<=S'.length+1:=λc=>by split<;>simp
 cases b with
 |true=>
  simp only[if_true];have:=h1 (f (r'.headD (0,[])).1 t.1);have h2:r'.tail.length<=r'.length:=by simp
  omega
 |false=>
  simp only[Bool.false_eq_true,if_false];have:=h1 (f 0 t.1);omega
theorem zU (f:Int->Int->Int):∀(ts r S:List ai),(ts.foldl (gv f) (r,S)).1.length+(ts.foldl (gv f) (r,S)).2.length<=r.length+S.length+ts.length
 |[],_,_=>by simp
 |t::ts,r,S=>by
  rw[List.foldl_cons];have h1:=K8 f r S t;have h2:=zU f ts (gv f (r,S) t).1 (gv f (r,S) t).2;simp only[ai5];have e:gv f (r,S) t=((gv f (r,S) t).1,(gv f (r,S) t).2):=rfl;rw[e];omega
theorem D7 {f:Int->Int->Int} {σ:Int} (hf:∀x y,f x y=x+σ*y) {p q r:List ai} (hp:bD p) (hq:bD q) (hr:bD r) (hv:∀ρ,ev r ρ=ev p ρ+σ*ev q ρ):r.length<=p.length+q.length:=by
 have h:=zU f q.reverse p.reverse [];rw[<-Ik hf hp hq hr hv,List.length_append,aj1];simp only[aj1,ai6]at h;unfold nZ;omega
def Joined [Ol] (B K:Nat) (w:ah8) (ao:Option Addr) (r:List ai) (e:Ending) (V:ah8):Prop:=
 ∃ro rn rc,e= .returned (ai1 ro rn rc)/\ Pw B K V ro rn rc r/\ w.grownBy V (eQ ao)/\ (eQ ro=eQ ao∨ ∀g',eQ ro=some g'->w.heap.size<=g')
theorem Pw.Z7 [Ol] {B K:Nat} {w:ah8} {ao:Z'} {n ae:Nat} {p:List ai} (h:Pw B K w ao n ae p):n<=ae/\ ae<=maxLen/\ (ao=none->ae=0)/\∀ad,ao=some ad->ad.spot=none:=by
 obtain⟨X,h1,_⟩:=h;rcases h1.ex with⟨rfl,rfl,rfl,_⟩|⟨g,off,L,rfl,_,_,_,_,h2,h3,_⟩
 ·exact⟨ak3 _,by unfold maxLen;omega,λ_=>rfl,λ_ e=>by cases e⟩
 ·exact⟨h2,h3,(λe=>by cases e),λ_ e=>by cases e;rfl⟩
theorem Oz [Ol] {G:Nat} (eg:∀args w,(callFunc G args).run Tryz.prog w= .ok (.enter G args) w) {f:Int->Int->Int} {σ:Int} (hf:∀x y,f x y=x+σ*y) {B K:Nat} {ao bo:Z'} {n ae m cb:Nat} {p q r:List ai} {w:ah8} (hp:Pw B K w ao n ae p) (hq:Pc K w bo m cb q) (hnm:n+m<=1000000) (hK:K<=900000)
  (hne:∀g,eQ ao=some g->eQ bo≠some g) (hBw:B<=w.heap.size) (hfp:bD p) (Di:bD q) (hfr:bD r) (hv:∀ρ,ev r ρ=ev p ρ+σ*ev q ρ) (hfB:∀x y,Bd x K->Bd y K->Bd (f x y) (K+1))
  (hJ:∀(m k:Bool) (ao bo:Option Addr) (n ae l cb:Nat) (x y:Int) (W:ah8),Cx W m ao n ae x->Cx W k bo l cb y->Calls Tryz.prog G #[.agg #[.bool m,ai1 ao n ae],.agg #[.bool k,ai1 bo l cb]] W (mA W (f x y))):
  Calls Tryz.prog 70 #[ai1 ao n ae,ai1 bo m cb,.func (.func G) #[] #[]] w (Joined B (K+1) w ao r):=by
 rcases Nat.eq_zero_or_pos m with h0|h0
 ·subst h0;obtain⟨s1,s2,s3,s4⟩:=hp.Z7;obtain rfl:q=[]:=List.eq_nil_of_length_eq_zero hq.len;obtain rfl:r=p:=sf hfr hfp λρ=>by rw[hv];simp[ev]
  refine(GL s1 s2 s3 s4 (by omega)).mono ?_;rintro e V ⟨rfl,hB⟩;exact⟨_,_,_,rfl,(hp.below hB).mono (ak3 _) (ak4 K),cu _ hB,.inl rfl⟩
 ·refine(K9 eg hp hq h0 hnm hK (bG hfp) (bG Di) hne hBw hfB hJ).mono ?_;rintro e V ⟨ro,rn,rc,rfl,h1,⟨row,h2,h3⟩,h4⟩;rw[Ik hf hfp Di hfr hv]at h1;refine⟨ro,rn,rc,rfl,h1,?_,h4⟩;rcases h3 with h3|h3
  ·rw[<-h3];exact h2
  ·exact cu _ h3
section
variable {B K:Nat} {ao bo:Option Addr} {n ae m cb:Nat} {p q r:List ai} {w:ah8}
theorem nM [Ol] (hp:Pw B K w ao n ae p) (hq:Pc K w bo m cb q) (hnm:n+m<=1000000) (hK:K<=900000) (hne:∀g,eQ ao=some g->eQ bo≠some g) (hBw:B<=w.heap.size) (hfp:bD p) (Di:bD q) (hfr:bD r) (hv:∀ρ,ev r ρ=ev p ρ+ev q ρ):
  Calls Tryz.prog 70 #[ai1 ao n ae,ai1 bo m cb,.func (.func 72) #[] #[]] w (Joined B (K+1) w ao r):=
 Oz (enters_of Tryz.func72 (by kernel_rfl) rfl) (f:=λx y=>x+y) (σ:=1) (λx y=>by omega) hp hq hnm hK hne hBw hfp Di hfr (λρ=>by rw[hv];omega) (λx y hx hy=>hx.add hy (ak3 _)) (λm k ao bo n ae l cb x y W hx hy=>OA hx hy)
end
theorem Rw.cP {B:Nat} {T:TypeId} {sz:Nat} {V V':ah8} {ao:Z'} {n ae:Nat} {X:List (List ah9)} (h:Rw B T sz V ao n ae X) {row:Option Nat} (hg:V.grownBy V' row) (hne:∀r,row=some r->eQ ao≠some r):Rw B T sz V' ao n ae X:=by
 rcases h.ex with h1|⟨g,off,L,rfl,hB,hA,q⟩
 ·exact⟨.inl h1⟩
 ·exact⟨.inr ⟨g,off,L,rfl,hB,hA.cP hg (λr e h=>hne r e (by rw[h];rfl)),q⟩⟩
theorem Pw.cP [Ol] {B K:Nat} {V V':ah8} {ao:Z'} {n ae:Nat} {p:List ai} (h:Pw B K V ao n ae p) {row:Option Nat} (hg:V.grownBy V' row) (hn:∀r,row=some r->iL V r) (hne:∀r,row=some r->eQ ao≠some r):Pw B K V' ao n ae p:=by
 obtain⟨X,h1,h2⟩:=h;exact⟨X,h1.cP hg hne,fT hg hn h2⟩
theorem Pw.lt [Ol] {B K:Nat} {V:ah8} {ao:Z'} {n ae:Nat} {p:List ai} (h:Pw B K V ao n ae p):∀g,eQ ao=some g->B<=g/\ g<V.heap.size:=by
 obtain⟨X,h1,_⟩:=h;exact h1.lt
theorem Pw.jK [Ol] {B K:Nat} {V:ah8} {ao:Z'} {n ae:Nat} {p:List ai} (h:Pw B K V ao n ae p):∀g,eQ ao=some g->iL V g:=by
 obtain⟨X,h1,_⟩:=h;exact λg hg=>(h1.dD g hg).jK
theorem Pw.dY [Ol] {B K:Nat} {V:ah8} {ao:Z'} {n ae:Nat} {p:List ai} (h:Pw B K V ao n ae p):∀g,eQ ao=some g->∃L,aS V g L 70:=by
 obtain⟨X,h1,_⟩:=h;intro g hg;rcases h1.ex with⟨rfl,_⟩|⟨g',off,L,rfl,hB,hA,q⟩
 ·cases hg
 ·cases hg;exact⟨L,hA⟩
def D8:List ah9->Option Nat
 |[ai1 ao _ _]=>eQ ao
 | _=>none
def I0 [Ol] (B K:Nat) (w:ah8) (vs:List ah9) (p:List ai):Prop:=∃ao n ae,vs=[ai1 ao n ae]/\ Pw B K w ao n ae p/\ bD p
def OB (X:List (List ah9)):Prop:=X.Pairwise λa b=>∀g,D8 a=some g->D8 b≠some g
def Wj (X:List (List ah9)) (o:Option Nat):Prop:=∀g,o=some g->∀vs∈X,D8 vs≠some g
def ES:List (List ai)->(Nat->Int)->Int
 |[],_=>0
 |p::ps,ρ=>ev p ρ+ES ps ρ
def jY:List (List ai)->Nat
 |[]=>0
 |p::ps=>p.length+jY ps
theorem rC (ρ:Nat->Int):∀a b:List (List ai),ES (a++b) ρ=ES a ρ+ES b ρ
 |[],b=>by simp[ES]
 |p::a,b=>by simp only[aj0,ES];rw[rC ρ a b];omega
theorem jN:∀a b:List (List ai),jY (a++b)=jY a+jY b
 |[],b=>by simp[jY]
 |p::a,b=>by simp only[aj0,jY];rw[jN a b];omega
theorem I0.cP [Ol] {B K:Nat} {V V':ah8} {vs:List ah9} {p:List ai} (h:I0 B K V vs p) {row:Option Nat} (hg:V.grownBy V' row) (hn:∀r,row=some r->iL V r) (hne:∀r,row=some r->D8 vs≠some r):I0 B K V' vs p:=by
 obtain⟨ao,n,ae,rfl,h1,h2⟩:=h;exact⟨ao,n,ae,rfl,h1.cP hg hn hne,h2⟩
theorem I0.mono [Ol] {B K K':Nat} {V:ah8} {vs:List ah9} {p:List ai} (h:I0 B K V vs p) (hk:K<=K'):I0 B K' V vs p:=by
 obtain⟨ao,n,ae,rfl,h1,h2⟩:=h;exact⟨ao,n,ae,rfl,h1.mono (ak3 _) hk,h2⟩
theorem jB [Ol] {B K:Nat} {V V':ah8} {row:Option Nat} (hg:V.grownBy V' row) (hn:∀r,row=some r->iL V r):∀{X:List (List ah9)} {ps:List (List ai)},bV (I0 B K V) X ps->Wj X row->bV (I0 B K V') X ps
 |[],[],_,_=>trivial
 |x::X,p::ps,h,hne=>⟨h.1.cP hg hn (λr e=>hne r e x (by simp)),jB hg hn h.2 (λr e v hv=>hne r e v (by simp[hv]))⟩
 |[],_::_,h,_=>h.elim
 | _::_,[],h,_=>h.elim
theorem gM.take {B:Nat} {e:TypeId} {sz:Nat} {w:ah8} {ao:Z'} {n ae:Nat} {bF:List (List ah9)} (h:gM B e sz w ao n ae bF) (k:Nat) (hk:k<=n):gM B e sz w ao k ae (bF.take k):=by
 have hE:Each sz (bF.take k):=λvs hv=>h.each vs (List.mem_of_mem_take hv)
 have hl:(bF.take k).length=k:=by rw[List.length_take,h.len];omega
 have hfl:(bF.take k).flatten=bF.flatten.take (k*sz):=by
  have e1:bF.flatten=(bF.take k).flatten++(bF.drop k).flatten:=by rw[<-List.flatten_append,List.take_append_drop]
  have e2:(bF.take k).flatten.length=k*sz:=by rw[kO hE,hl]
  rw[e1,<-e2,List.take_left]
 refine⟨⟨by rw[kO hE,hl],?_⟩,hl,ak2 hk h.big,hE,λg hg=>h.vk g (by cases ao<;>exact hg)⟩;rcases h.row.2 with⟨hv,h0⟩|⟨g,cap',cur,hv,hg,hh,hn,hm,hs,ht⟩
 ·simp only[ai1.injEq]at hv;obtain⟨rfl,rfl,rfl⟩:=hv;obtain rfl:k=0:=by omega
  exact .inl ⟨rfl,rfl⟩
 ·simp only[ai1.injEq,true_and]at hv;obtain⟨rfl,rfl⟩:=hv;refine .inr ⟨g,ae,cur,rfl,hg,hh,by omega,hm,hs,?_⟩;rw[hfl,<-ht,aj2,ak5 (Nat.mul_le_mul_right _ hk)]
structure iO [Ol] (B K:Nat) (w:ah8) (ao:Option Addr) (n ae:Nat) (X:List (List ah9)) (ps:List (List ai)):Prop where
 row:gM B 23 1 w ao n ae X
 mem:bV (I0 B K w) X ps
 apart:OB X
section
variable {B K:Nat} {w V:ah8} {ao:Option Addr} {n ae:Nat} {X:List (List ah9)} {ps:List (List ai)}
theorem iO.nil [Ol] (B K:Nat) (w:ah8):iO B K w none 0 0 [] []:=⟨gM.nil _ _ _ _,trivial,List.Pairwise.nil⟩
theorem iO.len [Ol] (h:iO B K w ao n ae X ps):X.length=n/\ ps.length=n:=⟨h.row.len,by rw[<-h.mem.len,h.row.len]⟩
theorem iO.below [Ol] (h:iO B K w ao n ae X ps) (hb:ai0 w.heap.size w V):iO B K V ao n ae X ps:=⟨h.row.below hb,jB (cu none hb) (λ_ e=>by cases e) h.mem (λ_ e=>by cases e),h.apart⟩
theorem iO.mono [Ol] {K':Nat} (h:iO B K w ao n ae X ps) (hk:K<=K'):iO B K' w ao n ae X ps:=⟨h.row,h.mem.imp λ_ _ h=>h.mono hk,h.apart⟩
theorem iO.take [Ol] (h:iO B K w ao n ae X ps) (k:Nat) (hk:k<=n):iO B K w ao k ae (X.take k) (ps.take k):=⟨h.row.take k hk,h.mem.take k,h.apart.sublist (List.take_sublist k X)⟩
theorem iO.dy [Ol] (h:iO B K w ao n ae X ps) {g:Nat} {L:List ah9} (hA:aS w g L 70) (hn:iL w g) (hoff:Wj X (some g)) (hg:w.grownBy V (some g)):iO B K V ao n ae X ps:=by
 refine⟨h.row.ct λa ha=>hg.block a.block ?_ ?_,jB hg (λr e=>by cases e;exact hn) h.mem hoff,h.apart⟩
 ·rcases h.row.parts with⟨h1,_⟩|⟨g',cur,h1,_,hlt,_⟩
  ·rw[h1]at ha;cases ha
  ·rw[h1]at ha;cases ha;exact hlt
 ·intro eq;rcases h.row.parts with⟨h1,_⟩|⟨g',cur,h1,_,hlt,_,hh⟩
  ·rw[h1]at ha;cases ha
  ·rw[h1]at ha;cases ha;have e':g'=g:=ak6 eq;subst e';unfold aS at hA;rw[hh]at hA;cases hA
theorem iO.get [Ol] (h:iO B K w ao n ae X ps) {k:Nat} (hk:k<n):∃g,ao=some ⟨g,0,none⟩/\ g<w.heap.size/\∃po pn pc,X.getD k []=[ai1 po pn pc]/\ w.cell? ⟨g,k,none⟩=some (ai1 po pn pc)/\ Pw B K w po pn pc (ps.getD k [])/\ bD (ps.getD k []):=by
 have hl:=h.len;obtain⟨po,pn,pc,hv,h1,h2⟩:=bV.get [] h.mem k (by omega);rcases h.row.parts with⟨_,rfl,_⟩|⟨g,cur,rfl,_,hlt,_⟩
 ·omega
 ·refine⟨g,rfl,hlt,po,pn,pc,hv,?_,h1,h2⟩;have:=h.row.gl.cells _ rfl k hk 0 (by omega);rw[Addr.add_lit,hv]at this;simpa using this
end
open Lib (hid)
theorem Tryz.La:(Tryz.prog.info? 23).map (λi=>(i.zero,i.size,i.bytes))=some (some (ai1 none 0 0),1,24):=by kernel_rfl
theorem iO.OC [Ol] {B K:Nat} {w:ah8} {ao:Z'} {n ae:Nat} {X:List (List ah9)} {ps:List (List ai)} (h:iO B K w ao n ae X ps):∀{Y:List (List ah9)} {qs:List (List ai)},bV (I0 B K w) Y qs->Wj Y (eQ ao)
 |[],[],_=>λ_ _ _ hv=>by cases hv
 |y::Y,q::qs,hY=>λg hg vs hv=>by
  rcases aj3.1 hv with rfl|hv
  ·obtain⟨po,pn,pc,rfl,h1,_⟩:=hY.1;intro e;obtain⟨L,hL⟩:=h1.dY g e;rcases h.row.parts with⟨h2,_⟩|⟨g',cur,h2,_,_,_,hh⟩
   ·rw[h2]at hg;cases hg
   ·rw[h2]at hg;have e':g'=g:=ak6 hg;subst e';unfold aS at hL;rw[hh]at hL;cases hL
  ·exact iO.OC h hY.2 g hg vs hv
 |[],_::_,hY=>hY.elim
 | _::_,[],hY=>hY.elim
theorem iO.jK [Ol] {B K:Nat} {w:ah8} {ao:Z'} {n ae:Nat} {X:List (List ah9)} {ps:List (List ai)} (h:iO B K w ao n ae X ps):∀r,eQ ao=some r->iL w r:=λr hr=>(h.row.vk r (by cases ao with
 |none=>cases hr
 |some a=>exact hr)).jK
def Gd [Ol] (B K n:Nat) (w:ah8) (ps:List (List ai)) (p:List ai) (e:Ending) (V:ah8):Prop:=
 ∃so n' cap' X' ps' K',e= .returned (ai1 so n' cap')/\ iO B K' V so n' cap' X' ps'/\ K'+n'<=K+n+1/\ n'<=n+1/\ (∀ρ,ES ps' ρ=ES ps ρ+ev p ρ)/\ jY ps'<=jY ps+p.length/\ ai0 B w V
structure BL [Ol] (B K0 n0:Nat) (w:ah8) (ps0:List (List ai)) (p0:List ai) (K:Nat) (so:Option Addr) (n ae:Nat) (po:Option Addr) (pn pc:Nat) (X:List (List ah9)) (ps:List (List ai)) (p:List ai) (V:ah8):Prop where
 pl:iO B K V so n ae X ps
 pw:Pw B K V po pn pc p
 fl:bD p
 off:Wj X (eQ po)
 vs:∀ρ,ES ps ρ+ev p ρ=ES ps0 ρ+ev p0 ρ
 ln:jY ps+p.length<=jY ps0+p0.length
 kn:K+n<=K0+n0
 nn:n<=n0
 bw:ai0 B w V
 bz:B<=V.heap.size
theorem BL.ZW [Ol] {B K0 n0:Nat} {w:ah8} {ps0:List (List ai)} {p0:List ai} {K:Nat} {so:Z'} {n ae:Nat} {po:Z'} {pn pc:Nat} {X:List (List ah9)} {ps:List (List ai)} {p:List ai} {V:ah8} (h:BL B K0 n0 w ps0 p0 K so n ae po pn pc X ps p V) {ao:Z'} {c:Nat} {V3:ah8} {T:TypeId}
  (hO:gM B 23 1 V3 ao (n+1) c (X++[[ai1 po pn pc]])) (hB:ai0 B w V3) (hG:(V.alloc (.cells [ai1 po pn pc].toArray T)).grownBy V3 (ai1 so n ae).ownBlock):Gd B K0 n0 w ps0 p0 (.returned (ai1 ao (n+1) c)) V3:=by
 have hA:=af V (.cells [ai1 po pn pc].toArray T);have h1:=h.pl.below hA;have h2:=h.pw.below hA;have e:(ai1 so n ae).ownBlock=eQ so:=H' so n ae;rw[e]at hG;have hn:=h1.jK;have hm:bV (I0 B K (V.alloc (.cells [ai1 po pn pc].toArray T))) (X++[[ai1 po pn pc]]) (ps++[p]):=bV.append h1.mem ⟨⟨po,pn,pc,rfl,h2,h.fl⟩,trivial⟩;refine⟨ao,n+1,c,X++[[ai1 po pn pc]],ps++[p],K,rfl,⟨hO,jB hG hn hm (h1.OC hm),?_⟩,by have:=h.kn;omega,by have:=h.nn;omega,λρ=>?_,?_,hB⟩
 ·refine aj4.2 ⟨h.pl.apart,List.pairwise_singleton _ _,λa ha b hb=>?_⟩;simp at hb;subst hb;intro g hg hg2;exact h.off g hg2 a ha hg
 ·rw[rC,<-h.vs];simp[ES]
 ·rw[jN];have:=h.ln;simp only[jY];omega
theorem BL.pop [Ol] {B K0 n0:Nat} {w:ah8} {ps0:List (List ai)} {p0:List ai} {K:Nat} {so:Z'} {k ae:Nat} {po:Z'} {pn pc:Nat} {X:List (List ah9)} {ps:List (List ai)} {p r:List ai} {V V2:ah8} (h:BL B K0 n0 w ps0 p0 K so (k+1) ae po pn pc X ps p V)
  {lo:Z'} {ln lc:Nat} (hv:X.getD k []=[ai1 lo ln lc]) (hl:Pw B K V lo ln lc (ps.getD k [])) {ro:Z'} {rn rc:Nat} (hr:Pw B (K+1) V2 ro rn rc r) (hfr:bD r) (hev:∀ρ,ev r ρ=ev (ps.getD k []) ρ+ev p ρ) (hlen:r.length<=(ps.getD k []).length+p.length)
  (hG:V.grownBy V2 (eQ lo)) (hb:eQ ro=eQ lo∨ ∀g',eQ ro=some g'->V.heap.size<=g'):BL B K0 n0 w ps0 p0 (K+1) so k ae ro rn rc (X.take k) (ps.take k) r V2:=by
 have hL:=h.pl.len
 have hXe:X=X.take k++[X.getD k []]:=by
  conv=>lhs;rw[<-aj5 (l:=X),hL.1,aj6 (by omega),<-gI [] (by omega)]
 have hpe:ps=ps.take k++[ps.getD k []]:=by
  conv=>lhs;rw[<-aj5 (l:=ps),hL.2,aj6 (by omega),<-gI [] (by omega)]
 have hT:=h.pl.take k (ak4 k)
 have Vs:Wj (X.take k) (eQ lo):=λg hg vs hvs=>by
  have:=h.pl.apart;rw[OB,hXe,hv]at this;exact λe=>(aj4.1 this).2.2 vs hvs [ai1 lo ln lc] (by simp) g e hg
 have hlt:∀vs∈X.take k,∀g,D8 vs=some g->g<V.heap.size:=λvs hvs g hg=>by
  have key:∀{Y:List (List ah9)} {qs:List (List ai)},bV (I0 B K V) Y qs->∀vs∈Y,D8 vs=some g->g<V.heap.size:=by
   intro Y;induction Y with
   |nil=>intro qs _ vs hvs;cases hvs
   |cons y Y ih=>
    intro qs hq vs hvs hg
    match qs,hq with
    |q::qs,hq=>
     rcases aj3.1 hvs with rfl|hvs
     ·obtain⟨a,b,c,rfl,h1,_⟩:=hq.1;exact(h1.lt g hg).2
     ·exact ih hq.2 vs hvs hg
    |[],hq=>exact hq.elim
  exact key hT.mem vs hvs hg
 refine{ pl:=?_,pw:=hr,fl:=hfr,off:=λg hg vs hvs e=>?_,vs:=λρ=>?_,ln:=?_,kn:=by have:=h.kn;omega,nn:=by have:=h.nn;omega,bw:=h.bw.grown hG h.bz (λr e=>(hl.lt r e).1),bz:=ak2 h.bz hG.size }
 ·cases hlo:eQ lo with
  |none=>
   rw[hlo]at hG;refine iO.mono ?_ (ak4 K);exact⟨hT.row.ct λa ha=>hG.block a.block (by rcases hT.row.parts with⟨h1,_⟩|⟨g',cur,h1,_,hlt,_⟩<;>rw[h1]at ha<;>cases ha;exact hlt) (by simp),jB hG (λ_ e=>by cases e) hT.mem (λ_ e=>by cases e),hT.apart⟩
  |some g=>
   obtain⟨L,hA⟩:=hl.dY g hlo;rw[hlo]at hG Vs;exact(hT.dy hA (hl.jK g hlo) Vs hG).mono (ak4 K)
 ·rcases hb with h1|h1
  ·exact Vs g (h1▸hg) vs hvs e
  ·have:=hlt vs hvs g e;have:=h1 g hg;omega
 ·have e1:=h.vs ρ;rw[hpe,rC]at e1;simp only[ES]at e1;rw[hev];omega
 ·have e1:=h.ln;rw[hpe,jN]at e1;simp only[jY]at e1;omega
theorem Dm [Ol] {B K:Nat} {so:Z'} {n ae:Nat} {X:List (List ah9)} {ps:List (List ai)} {po:Z'} {pn pc:Nat} {p:List ai} {w:ah8} (hs:iO B K w so n ae X ps) (hp:Pw B K w po pn pc p) (hfp:bD p) (hoff:Wj X (eQ po)) (hM:jY ps+p.length<=1000000) (hK:K+n<=900000) (hBw:B<=w.heap.size):
  Calls Tryz.prog 123 #[ai1 so n ae,ai1 po pn pc] w (Gd B K n w ps p):=by
 obtain⟨i0,hi,hz0,hz1,hz2⟩:=info_parts Tryz.La;have vp:Hid (BL B K n w ps p K so n ae po pn pc X ps p w):=⟨hs,hp,hfp,hoff,λ_=>rfl,ak3 _,ak3 _,ak3 _,Below.refl _ _,hBw⟩;have HM:=hid hM;clear hs hp hfp hoff hM;go_enter Tryz.func123,Tryz.ntmps123;go_wp2;go_loopw [0,1] (λs0 s1 wr=>∃(K2:Nat) (so:Option Addr) (n2 cap2:Nat) (po:Option Addr) (pn pc:Nat) (X2:List (List ah9)) (ps2:List (List ai)) (p2:List ai),s0=ai1 so n2 cap2/\ s1=ai1 po pn pc/\ Hid (BL B K n w ps p K2 so n2 cap2 po pn pc X2 ps2 p2 wr)) (λs0 _ _=>Gq s0)
 case atStart=>exact⟨K,so,n,ae,po,pn,pc,X,ps,p,rfl,rfl,vp.o⟩
 case round=>
  clear vp;obtain⟨K2,so,n2,cap2,po,pn,pc,X2,ps2,p2,rfl,rfl,HS⟩:=hrel;have hkn:=HS.o.kn;have hcap:=HS.o.pl.row.gl.le;by_cases h0:n2=0
  ·subst h0;have hd:decide ((0:Int)<0)=false:=rfl;go_wp2_with (at_builtin;refine dz wr w rfl (.tmp 34) (.tmp 36) 172 rfl B 23 1 24 i0 (ai1 none 0 0) Tryz.underlying172 hi hz0 hz1 hz2 rfl (by omega) so 0 cap2 X2 rfl HS.o.pl.row [ai1 po pn pc] rfl (by simp[ai2]) (by simp[ai3,bB]) (by simp[bB]) _ rfl HS.o.bw HS.o.bz (by omega) (by omega) ?_;intro o3 PQ w3 hO hB3 hG3;have HR:=hid (HS.o.ZW hO hB3 hG3);clear hO hB3 hG3 hi hz0 hz1 hz2);go_ret;exact HR.o
  ·obtain⟨k,rfl⟩:∃k,n2=k+1:=⟨n2-1,by omega⟩;clear h0;obtain⟨g,rfl,hgl,lo,ln,lc,hv,hc,hl,hfl⟩:=HS.o.pl.get (k:=k) (by omega);have hd:decide ((0:Int)<((k+1:Nat):Int))=true:=decide_eq_true (by omega);have e1:((k+1:Nat):Int)=(k:Int)+1:=by omega
   have hd':decide ((0:Int)<(k:Int)+1)=true:=decide_eq_true (by omega);have hw:IntKind.i64.wrap (k:Int)=(k:Int):=IntWalk.i64_in _ ⟨by omega,by omega⟩;have hk1:k<k+1:=by omega
   have hpl:=HS.o.pw.len;have hln:=HS.o.ln;have hM2:=HM.o;have hpn:pn<=1000000:=by omega
   have I1:ln+pn<=1000000:=by
    have hL:=HS.o.pl.len
    have hpe:ps2=ps2.take k++[ps2.getD k []]:=by
     conv=>lhs;rw[<-aj5 (l:=ps2),hL.2,aj6 (by omega),<-gI [] (by omega)]
    rw[hpe,jN]at hln;simp only[jY]at hln;have:=hl.len;omega
   have hwp:IntKind.i64.wrap (2*(pn:Int))=2*(pn:Int):=IntWalk.i64_in _ ⟨by omega,by omega⟩;have HV:=hid (ah5 hv (ah5 hl hfl));clear hv hl hfl hpl hln hM2;by_cases hb:(ln:Int)<=2*(pn:Int)
   ·have hd2:decide ((ln:Int)<=2*(pn:Int))=true:=decide_eq_true hb;clear hb;obtain⟨r,hr⟩:∃r,r=eu (ps2.getD k []) p2:=⟨_,rfl⟩;have hsp:=iG HV.o.2.2 (bG HS.o.fl);rw[<-hr]at hsp
    have hne:∀g,eQ lo=some g->eQ po≠some g:=λg hg e=>by
     have hmem:X2.getD k []∈X2:=gK [] (by rw[HS.o.pl.len.1];omega);exact HS.o.off g e _ hmem (by rw[HV.o.1];exact hg)
    have HC:=hid (nM HV.o.2.1 HS.o.pw.pc I1 (by omega) hne HS.o.bz HV.o.2.2 HS.o.fl hsp.1 hsp.2);have hlr:=D7 (f:=λx y=>x+y) (σ:=1) (λx y=>by omega) HV.o.2.2 HS.o.fl hsp.1 (λρ=>by rw[hsp.2];omega);have Cq:=hid (ah5 hsp (ah5 hlr trivial));clear hsp hr hne hlr;go_wp2_with fail;refine HC.o.mono ?_;rintro e V2 ⟨ro,rn,rc,rfl,h1,h2,h3⟩;have HS2:=hid (HS.o.pop HV.o.1 HV.o.2.1 h1 Cq.o.1.1 Cq.o.1.2 Cq.o.2.1 h2 h3);clear h1 h2 h3 HC HV Cq;go_wp2;go_roundw
    case rel=>exact⟨K2+1,_,k,cap2,ro,rn,rc,_,_,r,rfl,rfl,HS2.o⟩
    case measure=>simp[Gq]
   ·have hd2:decide ((ln:Int)<=2*(pn:Int))=false:=decide_eq_false hb;clear hb HV;go_wp2_with (at_builtin;refine dz wr w rfl (.tmp 34) (.tmp 36) 172 rfl B 23 1 24 i0 (ai1 none 0 0) Tryz.underlying172 hi hz0 hz1 hz2 rfl (by omega) (some ⟨g,0,none⟩) (k+1) cap2 X2 rfl HS.o.pl.row [ai1 po pn pc] rfl (by simp[ai2]) (by simp[ai3,bB]) (by simp[bB]) _ rfl HS.o.bw HS.o.bz (by omega) (by omega) ?_;intro o3 PQ w3 hO hB3 hG3;have HR:=hid (HS.o.ZW hO hB3 hG3);clear hO hB3 hG3 hi hz0 hz1 hz2);go_ret;exact HR.o
open Lib (hid)
theorem Gc [Ol] {B K:Nat} {V:ah8}:∀{Y:List (List ah9)} {qs:List (List ai)},bV (I0 B K V) Y qs->∀vs∈Y,∀g,D8 vs=some g->g<V.heap.size
 |[],[],_,_,h,_,_=>by cases h
 |y::Y,q::qs,hq,vs,hvs,g,hg=>by
  rcases aj3.1 hvs with rfl|hvs
  ·obtain⟨a,b,c,rfl,h1,_⟩:=hq.1;exact(h1.lt g hg).2
  ·exact Gc hq.2 vs hvs g hg
 |[],_::_,hq,_,_,_,_=>hq.elim
 | _::_,[],hq,_,_,_,_=>hq.elim
theorem PG [Ol] {B K:Nat} {V:ah8}:∀{Y:List (List ah9)} {qs:List (List ai)},bV (I0 B K V) Y qs->∀vs∈Y,∀g,D8 vs=some g->∃L,aS V g L 70
 |[],[],_,_,h,_,_=>by cases h
 |y::Y,q::qs,hq,vs,hvs,g,hg=>by
  rcases aj3.1 hvs with rfl|hvs
  ·obtain⟨a,b,c,rfl,h1,_⟩:=hq.1;exact h1.dY g hg
  ·exact PG hq.2 vs hvs g hg
 |[],_::_,hq,_,_,_,_=>hq.elim
 | _::_,[],hq,_,_,_,_=>hq.elim
theorem BL.step [Ol] {B K0 n0:Nat} {w:ah8} {ps0:List (List ai)} {p0:List ai} {K:Nat} {so:Z'} {n ae:Nat} {po:Z'} {pn pc:Nat} {X:List (List ah9)} {ps:List (List ai)} {p:List ai} {V V':ah8} (h:BL B K0 n0 w ps0 p0 K so n ae po pn pc X ps p V) {row:Option Nat} (hg:V.grownBy V' row) (hn:∀r,row=some r->iL V r)
  (hne:∀r,row=some r->(∀L,¬aS V r L 70)/\ eQ so≠some r/\ B<=r):BL B K0 n0 w ps0 p0 K so n ae po pn pc X ps p V':=by
 refine{ h with pl:=⟨h.pl.row.ct λa ha=>hg.block a.block ?_ (λe=>(hne _ e.symm).2.1 (by rw[ha];rfl)),jB hg hn h.pl.mem (λr e vs hv e2=>?_),h.pl.apart⟩,pw:=h.pw.cP hg hn (λr e e2=>?_),bw:=h.bw.grown hg h.bz (λr e=>(hne r e).2.2),bz:=ak2 h.bz hg.size }
 ·rcases h.pl.row.parts with⟨h1,_⟩|⟨g',cur,h1,_,hlt,_⟩
  ·rw[h1]at ha;cases ha
  ·rw[h1]at ha;cases ha;exact hlt
 ·obtain⟨L,hL⟩:=PG h.pl.mem vs hv r e2;exact(hne r e).1 L hL
 ·obtain⟨L,hL⟩:=h.pw.dY r e2;exact(hne r e).1 L hL
theorem BL.own [Ol] {B K0 n0:Nat} {w:ah8} {ps0:List (List ai)} {p0:List ai} {K:Nat} {so:Z'} {n ae:Nat} {po:Z'} {pn pc:Nat} {X:List (List ah9)} {ps:List (List ai)} {p:List ai} {V V':ah8} (h:BL B K0 n0 w ps0 p0 K so n ae po pn pc X ps p V) {D:Nat} {row:Option Nat} (hg:V.grownBy V' row) (hr:∀r,row=some r->D<=r/\∃o:Obj,V.heap[r]? =some o/\ o.isCells=false) (hB:B<=D):BL B K0 n0 w ps0 p0 K so n ae po pn pc X ps p V':=
 h.step hg (λr e=>by obtain⟨_,o,h1,h2⟩:=hr r e;exact kA h1 h2) (λr e=>by
  obtain⟨h0,o,h1,h2⟩:=hr r e;refine⟨λL hA=>hA.jf h1 h2 rfl,λe2=>?_,by omega⟩;rcases h.pl.row.parts with⟨h3,_⟩|⟨g',cur,h3,_,_,_,hh⟩
  ·rw[h3]at e2;cases e2
  ·rw[h3]at e2;have e':g'=r:=ak6 e2;subst e';rw[hh]at h1;cases h1;cases h2)
theorem BL.below [Ol] {B K0 n0:Nat} {w:ah8} {ps0:List (List ai)} {p0:List ai} {K:Nat} {so:Z'} {n ae:Nat} {po:Z'} {pn pc:Nat} {X:List (List ah9)} {ps:List (List ai)} {p:List ai} {V V':ah8} (h:BL B K0 n0 w ps0 p0 K so n ae po pn pc X ps p V) (hb:ai0 V.heap.size V V'):BL B K0 n0 w ps0 p0 K so n ae po pn pc X ps p V':=
 h.step (cu none hb) (λ_ e=>by cases e) (λ_ e=>by cases e)
def Zg [Ol] (B K n:Nat) (w:ah8) (ps:List (List ai)) (e:Ending) (V:ah8):Prop:=
 ∃ro rn rc r K',e= .returned (ai1 ro rn rc)/\ Pw B K' V ro rn rc r/\ bD r/\ K'<=K+n/\ (∀ρ,ev r ρ=ES ps ρ)/\ r.length<=jY ps/\ ai0 B w V
def SRd [Ol] (B K0 n0:Nat) (w:ah8) (ps0:List (List ai)) (so:Option Addr) (ae:Nat) (X:List (List ah9)) (bp B0:Nat) (j:Nat) (V:ah8):Prop:=
 B0<=V.heap.size/\∃K po pn pc p,BL B K0 n0 w ps0 [] K so (n0-j) ae po pn pc (X.take (n0-j)) (ps0.take (n0-j)) p V/\ aS V bp [ai1 po pn pc] 23
theorem Lb {B:Nat} {Fx:Nat->Prop} {I:ah8->Prop} {Y:ah8} {w:ah8} {a:Act} (h:∀W,W=w->GM B Fx I Y .normal a W):GM B Fx I Y .normal a w:=h w rfl
theorem IB [Ol] {B K:Nat} {so:Z'} {n ae:Nat} {X:List (List ah9)} {ps:List (List ai)} {w:ah8} (hs:iO B K w so n ae X ps) (hM:jY ps<=1000000) (hK:K+n<=900000) (hBw:B<=w.heap.size):
  Calls Tryz.prog 125 #[ai1 so n ae] w (Zg B K n w ps):=by
 obtain⟨s1,s2⟩:=hs.len;have hsl:∀g1:Nat,eQ so=some g1->g1<w.heap.size:=λg1 h=>by rcases hs.row.parts with⟨h1,_⟩|⟨g2,cur,h1,_,hlt,_⟩<;>rw[h1]at h<;>cases h;exact hlt
 have hlm:=Gc hs.mem;have vp:Hid (BL B K n w ps [] K so n ae none 0 0 X ps [] w):=⟨hs,⟨[],Rw.zero _ _ _ _,trivial⟩,trivial,(λ_ e=>by cases e),λ_=>rfl,ak3 _,ak3 _,ak3 _,Below.refl _ _,hBw⟩;have HM:=hid hM;have HL:=hid (ah5 s1 s2);clear hs hM s1 s2;refine lj Tryz.func125 rfl ?_;simp only[Tryz.ntmps125,ai4,ai5,ai6,ak0,ak1,ah6,ah7,ai7,ai8,ai9,aj0];go_upto_region 2 with(fail)
 refine aj (λW0 hW=>?_);obtain⟨a1,hB⟩:=gp w [ai1 none 0 0] 23;rw[<-hW]at a1 hB;have MA:=hid a1;have nd:=hid (vp.o.below hB);clear a1 hB hW vp;go_wp2_with fail;refine(Lc _).mono ?_;rintro e Hs ⟨rfl,rfl⟩;go_wp2_with fail;refine aj (λW hW=>?_);have S1:ai0 W0.heap.size W0 W:=by rw[hW];exact af _ _
 obtain⟨Bs,Im⟩:∃Bs,Bs=W0.heap.size:=⟨_,rfl⟩;have R4:Hid (aS W Bs [ai1 so n ae] 172):=by rw[hW,Im];exact aS.cS W0 [ai1 so n ae] 172
 have Tt:=hid (MA.o.below S1);have HS2:=hid (nd.o.below S1);rw[<-Im];have hpB:w.heap.size<Bs:=by rw[Im];exact MA.o.lt
 clear hW S1 MA nd Im;have eB:∀args w,(callFunc 209 args).run Tryz.prog w= .ok (.enter 209 args) w:=enters_of Tryz.func209 (by kernel_rfl) rfl;obtain⟨Fx,BM⟩:∃Fx:Nat->Prop,Fx=λk=>k=Bs∨ ∃ad:Addr,so=some ad/\ k=ad.block:=⟨_,rfl⟩
 have hrow:∀ad:Addr,so=some ad->∃L,aS W ad.block L 23:=λad had=>by rcases HS2.o.pl.row.parts with⟨h1,_⟩|⟨g1,cur,h1,_,_,_,hh⟩<;>rw[h1]at had<;>cases had;exact⟨cur.toList,hh⟩
 have td:∀k,Fx k->k<W.heap.size:=by
  rw[BM];rintro k (h|⟨ad,h1,h2⟩)
  ·rw[h];exact R4.o.lt
  ·obtain⟨L,hL⟩:=hrow ad h1;rw[h2];exact hL.lt
 have hFp:¬Fx w.heap.size:=by
  rw[BM];rintro(h|⟨ad,h1,h2⟩)
  ·omega
  ·have:=hsl ad.block (by rw[h1];rfl);omega
 have hFT:∀r L,aS W r L 70->¬Fx r:=by
  intro r L hL;rw[BM];rintro(h|⟨ad,h1,h2⟩)
  ·exact hL.ne R4.o (by decide) h
  ·obtain⟨M,hM⟩:=hrow ad h1;exact hL.ne hM (by decide) h2
 have hWw:B<=W.heap.size:=HS2.o.bz;have HFX:=hid BM;have GN:=Ea (Fx:=Fx) HS2.o.pl.row.gl R4.o.c1 (by rw[BM];exact .inl rfl) (by rw[BM];exact λad had=> .inr ⟨ad,had,rfl⟩);clear BM hrow;refine(wpIn_wide (n:=0)).1 (jA rfl eB GN td (λj=>rfl) (SRd B K n w ps so ae X w.heap.size W.heap.size) ?own ?start ?round ?done)
 case own=>
  intro j A C row hs hg hr;obtain⟨h0,K2,po,pn,pc,p,h1,h2⟩:=hs;exact⟨ak2 h0 hg.size,K2,po,pn,pc,p,h1.own hg hr hWw,h2.cP hg (λr e=>by obtain⟨_,o,h3,h4⟩:=hr r e;exact h2.jf h3 h4)⟩
 case start=>
  refine⟨ak3 _,K,none,0,0,[],?_,Tt.o⟩;rw[Nat.sub_zero,aj7 (by rw[HL.o.1];exact ak3 _),aj7 (by rw[HL.o.2];exact ak3 _)];exact HS2.o
 case round=>
  rintro l j V hj ⟨Vt,K2,po,pn,pc,p,hS,hP⟩;obtain⟨k,hk⟩:∃k,n-j=k+1:=⟨n-j-1,by omega⟩;have e1:n-1-j=k:=by omega
  have e2:n-(j+1)=k:=by omega
  rw[hk]at hS;obtain⟨g,hso,hgl,lo,ln,lc,hv,hc,hl,hfl⟩:=hS.pl.get (k:=k) (by omega);have hkn:k<n:=by omega
  have hXk:(X.take (k+1)).getD k []=X.getD k []:=by simp[aj8]
  have hv2:X.getD k []=[ai1 lo ln lc]:=by rw[<-hXk];exact hv
  have hvX:=hv2;have hpk:(ps.take (k+1)).getD k []=ps.getD k []:=by simp[aj8]
  rw[hpk]at hl hfl;have HS:=hid hS;have HP:=hid hP;have HV:=hid hv;have HLF:=hid (ah5 hl hfl);clear hS hP hc hv hl hfl hXk;refine cj (by rfl) (λ⟨_,_,h⟩=>h) ?_;rw[show BN n X j= #[.int .i64 ((n-1-j:Nat):Int),ai1 lo ln lc]from by unfold BN;rw[e1,hv2];rfl];clear hv2;go_wp2_with fail;refine⟨KeepsFrom.refl _ _,ij.refl _ _,λY hY=>?_⟩;obtain⟨r,hr1,hr2,o,hr3,hr4⟩:=hY;have Zh:∀r2,some r=some r2->W.heap.size<=r2/\∃o:Obj,V.heap[r2]? =some o/\ o.isCells=false:=λr2 e=>by cases e;exact⟨hr1,o,hr3,hr4⟩
  have th:W.heap.size<=Y.heap.size:=ak2 Vt hr2.size;have J2:=hid (HS.o.own hr2 Zh hWw);have P2:=hid (HP.o.cP hr2 (λr e=>by cases e;exact HP.o.jf hr3 hr4));have K2t:=hid (rN.refl W.heap.size Fx Y);have L2:=hid (HLF.o.1.cP hr2 (λr e=>by cases e;exact kA hr3 hr4) (λr e e2=>by cases e;obtain⟨L,hL⟩:=HLF.o.1.dY _ e2;exact hL.jf hr3 hr4 rfl));have Tc:=hid HLF.o.2;clear HS HP HLF hr1 hr2 hr3 hr4 Zh Vt;obtain⟨q,hq⟩:∃q,q=eu (ps.getD k []) p:=⟨_,rfl⟩;have hsp:=iG Tc.o (bG J2.o.fl);rw[<-hq]at hsp;have hne:∀g,eQ lo=some g->eQ po≠some g:=λg hg e=>J2.o.off g e ((X.take (k+1)).getD k []) (gK (k:=k) [] (by rw[J2.o.pl.len.1];omega)) (by rw[HV.o];exact hg)
  have I1:ln+pn<=1000000:=by
   have hln:=J2.o.ln;have h1:ps.take (k+1)=ps.take k++[ps.getD k []]:=by rw[aj6 (by rw[HL.o.2];exact hkn),<-gI [] (by rw[HL.o.2];exact hkn)]
   rw[h1,jN]at hln;simp only[jY,ai6]at hln;have h2:=L2.o.len;have h3:=J2.o.pw.len;have h4:=HM.o;omega
  have hkn2:=J2.o.kn;have HC:=hid (nM L2.o J2.o.pw.pc I1 (by omega) hne J2.o.bz Tc.o J2.o.fl hsp.1 hsp.2);have hlr:=D7 (f:=λx y=>x+y) (σ:=1) (λx y=>by omega) Tc.o J2.o.fl hsp.1 (λρ=>by rw[hsp.2];omega);have HQ:=hid (ah5 hsp hlr);clear hsp hq hne hlr I1 hkn2;have c0:=P2.o.c1
  gi_step;refine cj (by rfl) (λ⟨_,_,h⟩=>h) ?_
  go_wp2_with fail;refine HC.o.mono ?_;rintro e V2 ⟨ro,rn,rc,rfl,h1,h2,h3⟩;have HG:=hid (ah5 h1 (ah5 h2 h3));clear h1 h2 h3 c0
  have hPg:∀r,eQ lo=some r->r≠w.heap.size:=λr e=>by
   obtain⟨L,hL⟩:=L2.o.dY r e;exact hL.ne P2.o (by decide)
  have P3:=hid (P2.o.cP HG.o.2.1 hPg);have c0:=P3.o.c1;have f0:=P3.o.f1;go_wp2_with fail;clear c0 f0;refine Lb (λV3 hW3=>?_);have hJ3:=J2.o.pop HV.o (hpk▸L2.o) HG.o.1 HQ.o.1.1 (λρ=>by rw[hpk];exact HQ.o.1.2 ρ) (by rw[hpk];exact HQ.o.2) HG.o.2.1 HG.o.2.2;rw[aj2,aj2,ak5 (ak4 k)]at hJ3;have hJ4:BL B K n w ps [] (K2+1) so k ae ro rn rc (X.take k) (ps.take k) q V3:=by rw[hW3];exact hJ3.step (br _ w.heap.size 0 _) (λr e=>by cases e;exact(P3.o.dD (GQ _ _ _)).jK) (λr e=>by cases e;exact⟨λL hL=>hL.ne P3.o (by decide) rfl,λe2=>by have:=hsl _ e2;omega,hBw⟩)
  have hP4:aS V3 w.heap.size [ai1 ro rn rc] 23:=by rw[hW3];exact P3.o.set 0 _
  have ad7:∀r L,eQ lo=some r->aS Y r L 70->¬Fx r:=by
   intro r L hr hL;rw[HFX.o];rintro(h|⟨ad,h1,h2⟩)
   ·have h3:=hlm _ (gK (k:=k) [] (by rw[HL.o.1];exact hkn)) r (by rw[hvX];exact hr);omega
   ·rcases J2.o.pl.row.parts with⟨h3,_⟩|⟨g1,cur,h3,_,_,_,hh⟩
    ·rw[h3]at h1;cases h1
    ·rw[h3]at h1;cases h1;have h4:r=g1:=h2;subst h4;unfold aS at hL;rw[hh]at hL;cases hL
  have hK3:rN W.heap.size Fx Y V2:=by
   cases hlo:eQ lo with
   |none=>exact⟨K2t.o.kf.trans ((KeepsOthers.of_grownBy (hlo▸HG.o.2.1) (λ_ _ e=>by cases e)).from _),K2t.o.ft.trans λi hi=>(hlo▸HG.o.2.1).block i (Nat.lt_of_lt_of_le (td i hi) th) (by simp)⟩
   |some r=>obtain⟨L,hL⟩:=L2.o.dY r hlo;exact K2t.o.dy td th hL (ad7 r L hlo hL) (hlo▸HG.o.2.1)
  have hK4:rN W.heap.size Fx Y V3:=by rw[hW3];exact hK3.dy td th P3.o hFp (br _ _ 0 _)
  refine⟨hK4.kf,hK4.ft,ak2 th hK4.kf.size,K2+1,ro,rn,rc,q,?_,hP4⟩;rw[e2];exact hJ4
 case done=>
  rintro D V hD ⟨Vt,K2,po,pn,pc,p,hS,hP⟩ hK;have c0:=hP.c1;rw[Nat.sub_self,aj9,aj9]at hS;have HS:=hid hS;have hDw:B<=D:=by omega
  clear hS hP
  dsimp only
  go_wp2_with fail;refine⟨by simp,.inl ⟨_,_,rfl,run_takeDeferred hK,?_⟩⟩;have hg:=grownBy_putObj' V D (.deferred none);refine⟨_,results_tmp rfl _ _ _,po,pn,pc,p,K2,rfl,HS.o.pw.cP hg (λr e=>by cases e;exact kA hK rfl) (λr e e2=>by cases e;obtain⟨L,hL⟩:=HS.o.pw.dY _ e2;exact hL.jf hK rfl rfl),HS.o.fl,by have:=HS.o.kn;omega,λρ=>?_,?_,HS.o.bw.grown hg HS.o.bz (λr e=>by cases e;exact hDw)⟩
  ·have:=HS.o.vs ρ;simp only[ES,ev]at this;omega
  ·have:=HS.o.ln;simp only[jY,ai6]at this;omega
end Go.Proofs.YtmenbpmciblnlaaGreatDoor
