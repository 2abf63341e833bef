/- PlJoin0, PlPile, PlWith, PlSum -/
import Derived.Test.YthdhjckangekoaaGreatPlJoin
set_option maxHeartbeats 40000000
set_option maxRecDepth 100000
namespace Go.Proofs.YthdhjckangekoaaGreat
open Lib (hid)
open Go.RowKit
theorem Bz {ao:Option Addr} {n cap:Nat} {w:World} (hn:n<=cap) (hc:cap<=maxLen):Calls Tryz.prog 106 #[.slice ao n cap,.int .i64 0] w (fun e w'=>e= .returned (.slice ao n cap)/\ w'=w):=by
 have hbc:cap<=9223372036854775807:=by unfold maxLen at hc;omega
 have hd0:decide ((0:Int)<(0:Int))=false:=rfl;obtain⟨z,hz⟩:∃z:Int,(cap:Int)-(n:Int)=z:=⟨_,rfl⟩;have hd1:decide ((0:Int)< -z)=false:=decide_eq_false (by omega);have hw:IntKind.i64.wrap (-z)= -z:=IntWalk.i64_in _ ⟨by omega,by omega⟩;have h0:(0:Int)-z= -z:=by omega
 clear hc;go_enter Tryz.func106,Tryz.ntmps106;go_wp2;go_ret;exact⟨rfl,rfl⟩
theorem FW {ao:Option Addr} {n cap:Nat} {w:World} (hn:n<=cap) (hc:cap<=maxLen) (h0:ao=none->cap=0) (hs:∀ad,ao=some ad->ad.spot=none):Calls Tryz.prog 108 #[.slice ao n cap,.int .i64 (n:Int),.int .i64 (n:Int)] w (fun e w'=>e= .returned (.slice ao n cap)/\ w'=w):=by
 have hbc:cap<=9223372036854775807:=by unfold maxLen at hc;omega
 have hd1:((n:Int)==(n:Int))=true:=by simp
 clear hc;cases ao with
 |none=>
  obtain rfl:cap=0:=h0 rfl;obtain rfl:n=0:=by omega
  go_enter Tryz.func108,Tryz.ntmps108;go_wp2;go_ret;exact⟨rfl,rfl⟩
 |some ad=>
  obtain⟨b,off,s⟩:=ad;obtain rfl:s=none:=hs _ rfl;go_enter Tryz.func108,Tryz.ntmps108;go_wp2;go_ret;exact⟨rfl,rfl⟩
theorem XO {Bs cb:Nat} {bo:Option Addr} {w:World} (hB:w.cell? ⟨Bs,0,none⟩=some (.slice bo 0 cb)):Hands Tryz.prog 134 #[.pointer (some ⟨Bs,0,none⟩)] (FX 0 []) (fun k=>k=Bs) 0 w:=by
 intro l J W hW hY h0;have hc:W.cell? ⟨Bs,0,none⟩=some (.slice bo 0 cb):=hW.cell (a:=⟨Bs,0,none⟩) rfl hB;have HJ:=hid h0;clear hY h0 hW hB;refine callsIn_of_wp Tryz.func134 rfl trivial ?_ rfl
 simp only[Tryz.ntmps134,List.size_toArray,List.length_cons,List.length_nil,Nat.reduceAdd,Nat.reduceSub,Array.replicate_succ,Array.replicate_zero,List.push_toArray,List.append_toArray,List.nil_append,List.cons_append]
 gi_wp2
 gi_loopw [3] (fun i wr=>i= .int .i64 (-1)/\ Hid (J 0 wr)) (fun _ _=>0)
 case atStart=>exact⟨rfl,HJ.out⟩
 case round=>
  obtain⟨rfl,HJ⟩:=hrel;have hd:decide ((0:Int)<= -1)=false:=rfl
  gi_wp2
  go_end0;exact⟨⟨_,rfl⟩,HJ.out⟩
theorem IQ {G:Nat} {ao bo:Option Addr} {n cap cb:Nat} {w:World} (hnc:n<=cap) (hcm:cap<=maxLen) (hao:ao=none->cap=0) (hsp:∀ad,ao=some ad->ad.spot=none) (hn6:n<=1000000):
  Calls Tryz.prog 76 #[.slice ao n cap,.slice bo 0 cb,.func (.func G) #[] #[]] w (fun e V=>e= .returned (.slice ao n cap)/\ Below w.heap.size w V):=by
 refine lW Tryz.func76 rfl ?_;simp only[Tryz.ntmps76,List.size_toArray,List.length_cons,List.length_nil,Nat.reduceAdd,Nat.reduceSub,Array.replicate_succ,Array.replicate_zero,List.push_toArray,List.append_toArray,List.nil_append,List.cons_append];go_upto_region 2 with(fail)
 refine au (fun W hW=>?_);obtain⟨a5,a7,a8,hB⟩:=XI w [.func (.func G) #[] #[]] [.int .i64 (n:Int)] [.int .i64 (n:Int)] 145 3 3;rw[<-hW]at a5 a7 a8 hB;clear hW;have XP:=hid a7;have Tj:=hid a8;have XQ:=hid hB;clear a5 a7 a8 hB;go_cut [9]from 21 to 26 (fun s9 w9=>∃(ba:Nat),s9= .pointer (some ⟨ba,0,none⟩)/\ Below w.heap.size w w9/\ aN w9 ba [.slice ao n cap] 23/\ aN w9 (w.heap.size+1) [.int .i64 (n:Int)] 3/\ aN w9 (w.heap.size+1+1) [.int .i64 (n:Int)] 3)
 case first=>
  refine wp_region_held_drew (S:=fun w'=>w'.cell? ⟨w.heap.size+1+1,0,none⟩=some (.int .i64 (n:Int))) (by kernel_rfl) Tj.out.c1 (fun hH=>?_);refine ak (fun w1 hW=>?_);have S1:Below W.heap.size W w1:=by rw[hW];exact(Below.refl _ _).drew
  have Tk:=hid (XP.out.below S1);have Ms:=hid (Tj.out.below S1);have Ke:=hid (Below.steps XQ.out S1);rw[<-hW]at hH;clear S1 XP Tj XQ;clear hW;refine aB 0 hH ?_;try simp only[ai]
  refine aB 1 hH ?_;try simp only[ai]
  refine aB 2 hH ?_;try simp only[ai]
  refine aB 4 hH ?_;try simp only[ai]
  refine wpAnyH_ready (rs:=[3,6]) (by kernel_rfl) (by simp) (dR rfl (fun KK hK=>?_) (dR rfl (fun KK hK=>?_) (AllReadyH.nil)))
  ·go_simp;refine(Bz hnc hcm).mono ?_;rintro e wx ⟨rfl,hwx⟩;rw[hwx];clear hwx;go_wp2_with fail;clear hH;refine hK.out _ _ (Ms.out.c1) fun hH=>?_;clear hK KK
   try simp only[ai]
   refine aB 5 hH ?_;try simp only[ai]
   refine aj 6 rfl (by kernel_rfl) (fun KK hK=>?_);go_simp;have S2:Below w1.heap.size w1 (w1.alloc (.cells #[.slice none 0 0] 23)):=af _ _;clear hH;refine hK.out _ _ (aN.c1 (T:=3) (Ms.out.below S2)) fun hH=>?_;clear hK KK
   try simp only[ai]
   refine ak (fun w2 hW=>?_);have S3:Below w1.heap.size w1 w2:=by rw[hW];exact S2
   have Gh:Hid (aN w2 w1.heap.size [.slice none 0 0] 23):=by rw[hW];exact aN.new w1 [.slice none 0 0] 23
   have VI:=hid (Tk.out.below S3);have Mt:=hid (Ms.out.below S3);have VJ:=hid (Below.steps Ke.out S3);have hw1:=Ke.out.size;rw[<-hW]at hH;clear S3 S2 Tk Ms Ke;clear hW;refine aj 7 rfl (by kernel_rfl) (fun KK hK=>?_);have c0:=Gh.out.c1;have f0:=Gh.out.f1;go_simp;clear c0 f0;clear hH;refine hK.out _ _ (aN.c1 (T:=3) (Mt.out.far (Mt.out.ne Gh.out (by decide)).symm 0 _)) fun hH=>?_;clear hK KK
   try simp only[ai]
   refine ak (fun w4 hW=>?_);have XR:Hid (aN w4 w1.heap.size [.slice ao n cap] 23):=by rw[hW];exact Gh.out.set 0 _
   have E84:Hid (aN w4 (w.heap.size+1+1) [.int .i64 (n:Int)] 3):=by rw[hW];exact Mt.out.far (Mt.out.ne Gh.out (by decide)).symm 0 _
   have E74:Hid (aN w4 (w.heap.size+1) [.int .i64 (n:Int)] 3):=by rw[hW];exact VI.out.far (VI.out.ne Gh.out (by decide)).symm 0 _
   have BW4:Hid (Below w.heap.size w w4):=by rw[hW];exact VJ.out.setCell (p:=⟨w1.heap.size,0,none⟩) hw1 _
   clear hW;refine wpAnyH_done (by kernel_rfl) ?_ _
   clear hH;go_wp2_with fail;go_meet
   case rel=>exact⟨_,rfl,BW4.out,XR.out,E74.out,E84.out⟩
  ·go_simp;have S2:Below w1.heap.size w1 (w1.alloc (.cells #[.slice none 0 0] 23)):=af _ _;clear hH;refine hK.out _ _ (aN.c1 (T:=3) (Ms.out.below S2)) fun hH=>?_;clear hK KK
   try simp only[ai]
   refine ak (fun w2 hW=>?_);have S3:Below w1.heap.size w1 w2:=by rw[hW];exact S2
   have Gh:Hid (aN w2 w1.heap.size [.slice none 0 0] 23):=by rw[hW];exact aN.new w1 [.slice none 0 0] 23
   have VI:=hid (Tk.out.below S3);have Mt:=hid (Ms.out.below S3);have VJ:=hid (Below.steps Ke.out S3);have hw1:=Ke.out.size;rw[<-hW]at hH;clear S3 S2 Tk Ms Ke;clear hW;refine aj 3 rfl (by kernel_rfl) (fun KK hK=>?_);go_simp;refine(Bz hnc hcm).mono ?_;rintro e wx ⟨rfl,hwx⟩;rw[hwx];clear hwx;go_wp2_with fail;clear hH;refine hK.out _ _ (Mt.out.c1) fun hH=>?_;clear hK KK
   try simp only[ai]
   refine aB 5 hH ?_;try simp only[ai]
   refine aj 7 rfl (by kernel_rfl) (fun KK hK=>?_);have c0:=Gh.out.c1;have f0:=Gh.out.f1;go_simp;clear c0 f0;clear hH;refine hK.out _ _ (aN.c1 (T:=3) (Mt.out.far (Mt.out.ne Gh.out (by decide)).symm 0 _)) fun hH=>?_;clear hK KK
   try simp only[ai]
   refine ak (fun w4 hW=>?_);have XR:Hid (aN w4 w1.heap.size [.slice ao n cap] 23):=by rw[hW];exact Gh.out.set 0 _
   have E84:Hid (aN w4 (w.heap.size+1+1) [.int .i64 (n:Int)] 3):=by rw[hW];exact Mt.out.far (Mt.out.ne Gh.out (by decide)).symm 0 _
   have E74:Hid (aN w4 (w.heap.size+1) [.int .i64 (n:Int)] 3):=by rw[hW];exact VI.out.far (VI.out.ne Gh.out (by decide)).symm 0 _
   have BW4:Hid (Below w.heap.size w w4):=by rw[hW];exact VJ.out.setCell (p:=⟨w1.heap.size,0,none⟩) hw1 _
   clear hW;refine wpAnyH_done (by kernel_rfl) ?_ _
   clear hH;go_wp2_with fail;go_meet
   case rel=>exact⟨_,rfl,BW4.out,XR.out,E74.out,E84.out⟩
 case rest=>
 clear XP Tj XQ;obtain⟨ba,rfl,BWc,EAc,E7c,E8c⟩:=hcut;have B9:=hid BWc;have A9:=hid EAc;have E79:=hid E7c;have E89:=hid E8c;clear BWc EAc E7c E8c;go_wp2_with fail;refine(FY _).mono ?_;rintro e Dv ⟨rfl,rfl⟩;go_wp2_with fail;refine au (fun W hW=>?_);have S1:Below wc.heap.size wc W:=by rw[hW];exact af _ _
 have B10:=hid (Below.steps B9.out S1);have A10:=hid (A9.out.below S1);have aj7:=hid (E79.out.below S1);have aj8:=hid (E89.out.below S1);obtain⟨Bs,MQ⟩:∃Bs,Bs=wc.heap.size:=⟨_,rfl⟩;have Tm:Hid (aN W Bs [.slice bo 0 cb] 23):=by rw[hW,MQ];exact aN.new wc [.slice bo 0 cb] 23
 rw[<-MQ];clear hW S1 MQ A9 B9 E79 E89;have eB:∀args w,(callFunc 134 args).run Tryz.prog w= .ok (.enter 134 args) w:=enters_of Tryz.func134 (by kernel_rfl) rfl;have hWw:=B10.out.size;have hZ:=fun(k:Nat) (h:k=Bs)=>(h▸Tm.out.lt:k<W.heap.size)
 refine(wpIn_wide (n:=0)).1 (jU rfl eB (XO Tm.out.c1) hZ (fun j=>rfl) (fun _ V=>(aN V ba [.slice ao n cap] 23/\ aN V (w.heap.size+1) [.int .i64 (n:Int)] 3/\ aN V (w.heap.size+1+1) [.int .i64 (n:Int)] 3)/\ Below w.heap.size w V) ?own ⟨⟨A10.out,aj7.out,aj8.out⟩,B10.out⟩ (fun l j V hj=>by omega) ?done)
 case own=>exact fun j A B row hs hg hr=>⟨⟨hs.1.1.stepG hg (fun r e=>by obtain⟨_,o,h2,h3⟩:=hr r e;exact hs.1.1.jH h2 h3),hs.1.2.1.stepG hg (fun r e=>by obtain⟨_,o,h2,h3⟩:=hr r e;exact hs.1.2.1.jH h2 h3),hs.1.2.2.stepG hg (fun r e=>by obtain⟨_,o,h2,h3⟩:=hr r e;exact hs.1.2.2.jH h2 h3)⟩,hs.2.grown hg hs.2.size (fun r e=>Nat.le_trans hWw (hr r e).1)⟩
 case done=>
  rintro D V hD ⟨⟨h1,h2,h3⟩,h4⟩ hK;have c0:=h1.c1;have c1:=h2.c1;have c2:=h3.c1;have HB:=hid h4;have hDw:w.heap.size<=D:=by omega
  clear h1 h2 h3 h4
  dsimp only
  go_wp2_with fail;refine(FW hnc hcm hao hsp).mono ?_;rintro e V2 ⟨rfl,rfl⟩;go_wp2_with fail;refine⟨by simp,.inl ⟨_,_,rfl,run_takeDeferred hK,?_⟩⟩;exact⟨_,results_tmp rfl _ _ _,rfl,HB.out.grown (grownBy_putObj' V2 D (.deferred none)) HB.out.size (fun r e=>by cases e;exact hDw)⟩
theorem BA (m:List (Int×Int)):∀(r S:List Term),(cK m r S).1.length+(cK m r S).2.1.length=r.length+S.length
 |[],S=>rfl
 |u::r,S=>by
  unfold cK;split
  ·rw[BA m r (u::S)];simp only[List.length_cons];omega
  ·rfl
theorem Mv (f:Int->Int->Int) (r S:List Term) (t:Term):(gP f (r,S) t).1.length+(gP f (r,S) t).2.length<=r.length+S.length+1:=by
 have h:=BA t.2 r S;unfold gP;simp only;generalize cK t.2 r S=x at h ⊢;obtain⟨r',S',b⟩:=x;simp only at h ⊢;have h1:∀c:Int,(if c=0 then S' else(c,t.2)::S').length<=S'.length+1:=fun c=>by split<;>simp
 cases b with
 |true=>
  simp only[if_true];have:=h1 (f (r'.headD (0,[])).1 t.1);have h2:r'.tail.length<=r'.length:=by simp
  omega
 |false=>
  simp only[Bool.false_eq_true,if_false];have:=h1 (f 0 t.1);omega
theorem BB (f:Int->Int->Int):∀(ts r S:List Term),(ts.foldl (gP f) (r,S)).1.length+(ts.foldl (gP f) (r,S)).2.length<=r.length+S.length+ts.length
 |[],_,_=>by simp
 |t::ts,r,S=>by
  rw[List.foldl_cons];have h1:=Mv f r S t;have h2:=BB f ts (gP f (r,S) t).1 (gP f (r,S) t).2;simp only[List.length_cons];have e:gP f (r,S) t=((gP f (r,S) t).1,(gP f (r,S) t).2):=rfl;rw[e];omega
theorem FZ {f:Int->Int->Int} {σ:Int} (hf:∀x y,f x y=x+σ*y) {p q r:List Term} (hp:fall p) (hq:fall q) (hr:fall r) (hv:∀ρ,ev r ρ=ev p ρ+σ*ev q ρ):r.length<=p.length+q.length:=by
 have h:=BB f q.reverse p.reverse [];rw[<-Jr hf hp hq hr hv,List.length_append,List.length_reverse];simp only[List.length_reverse,List.length_nil]at h;unfold pR;omega
def Joined [Ol] (B K:Nat) (w:World) (ao:Option Addr) (r:List Term) (e:Ending) (V:World):Prop:=
 ∃ro rn rc,e= .returned (.slice ro rn rc)/\ Pw B K V ro rn rc r/\ w.grownBy V (blk ao)/\ (blk ro=blk ao∨ ∀g',blk ro=some g'->w.heap.size<=g')
theorem Pw.shape [Ol] {B K:Nat} {w:World} {ao:Option Addr} {n cap:Nat} {p:List Term} (h:Pw B K w ao n cap p):n<=cap/\ cap<=maxLen/\ (ao=none->cap=0)/\∀ad,ao=some ad->ad.spot=none:=by
 obtain⟨X,h1,_⟩:=h;rcases h1.ex with⟨rfl,rfl,rfl,_⟩|⟨g,off,L,rfl,_,_,_,_,h2,h3,_⟩
 ·exact⟨Nat.le_refl _,by unfold maxLen;omega,fun _=>rfl,fun _ e=>by cases e⟩
 ·exact⟨h2,h3,(fun e=>by cases e),fun _ e=>by cases e;rfl⟩
theorem F3 [Ol] {G:Nat} (eg:∀args w,(callFunc G args).run Tryz.prog w= .ok (.enter G args) w) {f:Int->Int->Int} {σ:Int} (hf:∀x y,f x y=x+σ*y) {B K:Nat} {ao bo:Option Addr} {n cap m cb:Nat} {p q r:List Term} {w:World} (hp:Pw B K w ao n cap p) (hq:Pc K w bo m cb q) (hnm:n+m<=1000000) (hK:K<=900000)
  (hne:∀g,blk ao=some g->blk bo≠some g) (hBw:B<=w.heap.size) (hfp:fall p) (jM:fall q) (hfr:fall r) (hv:∀ρ,ev r ρ=ev p ρ+σ*ev q ρ) (hfB:∀x y,Bd x K->Bd y K->Bd (f x y) (K+1))
  (hJ:∀(m k:Bool) (ao bo:Option Addr) (n cap l cb:Nat) (x y:Int) (W:World),Cx W m ao n cap x->Cx W k bo l cb y->Calls Tryz.prog G #[.agg #[.bool m,.slice ao n cap],.agg #[.bool k,.slice bo l cb]] W (rR W (f x y))):
  Calls Tryz.prog 76 #[.slice ao n cap,.slice bo m cb,.func (.func G) #[] #[]] w (Joined B (K+1) w ao r):=by
 rcases Nat.eq_zero_or_pos m with h0|h0
 ·subst h0;obtain⟨s1,s2,s3,s4⟩:=hp.shape;obtain rfl:q=[]:=List.eq_nil_of_length_eq_zero hq.len;obtain rfl:r=p:=iN hfr hfp fun ρ=>by rw[hv];simp[ev]
  refine(IQ s1 s2 s3 s4 (by omega)).mono ?_;rintro e V ⟨rfl,hB⟩;exact⟨_,_,_,rfl,(hp.below hB).mono (Nat.le_refl _) (Nat.le_succ K),aH _ hB,.inl rfl⟩
 ·refine(Mw eg hp hq h0 hnm hK (ah hfp) (ah jM) hne hBw hfB hJ).mono ?_;rintro e V ⟨ro,rn,rc,rfl,h1,⟨row,h2,h3⟩,h4⟩;rw[Jr hf hfp jM hfr hv]at h1;refine⟨ro,rn,rc,rfl,h1,?_,h4⟩;rcases h3 with h3|h3
  ·rw[<-h3];exact h2
  ·exact aH _ h3
section
variable {B K:Nat} {ao bo:Option Addr} {n cap m cb:Nat} {p q r:List Term} {w:World}
theorem pK [Ol] (hp:Pw B K w ao n cap p) (hq:Pc K w bo m cb q) (hnm:n+m<=1000000) (hK:K<=900000) (hne:∀g,blk ao=some g->blk bo≠some g) (hBw:B<=w.heap.size) (hfp:fall p) (jM:fall q) (hfr:fall r) (hv:∀ρ,ev r ρ=ev p ρ+ev q ρ):
  Calls Tryz.prog 76 #[.slice ao n cap,.slice bo m cb,.func (.func 78) #[] #[]] w (Joined B (K+1) w ao r):=
 F3 (enters_of Tryz.func78 (by kernel_rfl) rfl) (f:=fun x y=>x+y) (σ:=1) (fun x y=>by omega) hp hq hnm hK hne hBw hfp jM hfr (fun ρ=>by rw[hv];omega) (fun x y hx hy=>hx.add hy (Nat.le_refl _)) (fun m k ao bo n cap l cb x y W hx hy=>Qw hx hy)
theorem F4 [Ol] (hp:Pw B K w ao n cap p) (hq:Pc K w bo m cb q) (hnm:n+m<=1000000) (hK:K<=900000) (hne:∀g,blk ao=some g->blk bo≠some g) (hBw:B<=w.heap.size) (hfp:fall p) (jM:fall q) (hfr:fall r) (hv:∀ρ,ev r ρ=ev p ρ-ev q ρ):
  Calls Tryz.prog 76 #[.slice ao n cap,.slice bo m cb,.func (.func 128) #[] #[]] w (Joined B (K+1) w ao r):=
 F3 (enters_of Tryz.func128 (by kernel_rfl) rfl) (f:=fun x y=>x-y) (σ:= -1) (fun x y=>by omega) hp hq hnm hK hne hBw hfp jM hfr (fun ρ=>by rw[hv];omega) (fun x y hx hy=>hx.sub hy (Nat.le_refl _)) (fun m k ao bo n cap l cb x y W hx hy=>O5 hx.nx hy.nx)
end
theorem Rw.stepG {B:Nat} {T:TypeId} {sz:Nat} {V V':World} {ao:Option Addr} {n cap:Nat} {X:List (List Value)} (h:Rw B T sz V ao n cap X) {row:Option Nat} (hg:V.grownBy V' row) (hne:∀r,row=some r->blk ao≠some r):Rw B T sz V' ao n cap X:=by
 rcases h.ex with h1|⟨g,off,L,rfl,hB,hA,q⟩
 ·exact⟨.inl h1⟩
 ·exact⟨.inr ⟨g,off,L,rfl,hB,hA.stepG hg (fun r e h=>hne r e (by rw[h];rfl)),q⟩⟩
theorem Pw.stepG [Ol] {B K:Nat} {V V':World} {ao:Option Addr} {n cap:Nat} {p:List Term} (h:Pw B K V ao n cap p) {row:Option Nat} (hg:V.grownBy V' row) (hn:∀r,row=some r->jl V r) (hne:∀r,row=some r->blk ao≠some r):Pw B K V' ao n cap p:=by
 obtain⟨X,h1,h2⟩:=h;exact⟨X,h1.stepG hg hne,gB hg hn h2⟩
theorem Pw.lt [Ol] {B K:Nat} {V:World} {ao:Option Addr} {n cap:Nat} {p:List Term} (h:Pw B K V ao n cap p):∀g,blk ao=some g->B<=g/\ g<V.heap.size:=by
 obtain⟨X,h1,_⟩:=h;exact h1.lt
theorem Pw.lX [Ol] {B K:Nat} {V:World} {ao:Option Addr} {n cap:Nat} {p:List Term} (h:Pw B K V ao n cap p):∀g,blk ao=some g->jl V g:=by
 obtain⟨X,h1,_⟩:=h;exact fun g hg=>(h1.dF g hg).lX
theorem Pw.iK [Ol] {B K:Nat} {V:World} {ao:Option Addr} {n cap:Nat} {p:List Term} (h:Pw B K V ao n cap p):∀g,blk ao=some g->∃L,aN V g L 54:=by
 obtain⟨X,h1,_⟩:=h;intro g hg;rcases h1.ex with⟨rfl,_⟩|⟨g',off,L,rfl,hB,hA,q⟩
 ·cases hg
 ·cases hg;exact⟨L,hA⟩
def F5:List Value->Option Nat
 |[.slice ao _ _]=>blk ao
 | _=>none
def Kg [Ol] (B K:Nat) (w:World) (vs:List Value) (p:List Term):Prop:=∃ao n cap,vs=[.slice ao n cap]/\ Pw B K w ao n cap p/\ fall p
def Qy (X:List (List Value)):Prop:=X.Pairwise fun a b=>∀g,F5 a=some g->F5 b≠some g
def Off (X:List (List Value)) (o:Option Nat):Prop:=∀g,o=some g->∀vs∈X,F5 vs≠some g
def evs:List (List Term)->(Nat->Int)->Int
 |[],_=>0
 |p::ps,ρ=>ev p ρ+evs ps ρ
def lens:List (List Term)->Nat
 |[]=>0
 |p::ps=>p.length+lens ps
theorem sN (ρ:Nat->Int):∀a b:List (List Term),evs (a++b) ρ=evs a ρ+evs b ρ
 |[],b=>by simp[evs]
 |p::a,b=>by simp only[List.cons_append,evs];rw[sN ρ a b];omega
theorem kE:∀a b:List (List Term),lens (a++b)=lens a+lens b
 |[],b=>by simp[lens]
 |p::a,b=>by simp only[List.cons_append,lens];rw[kE a b];omega
theorem Kg.stepG [Ol] {B K:Nat} {V V':World} {vs:List Value} {p:List Term} (h:Kg B K V vs p) {row:Option Nat} (hg:V.grownBy V' row) (hn:∀r,row=some r->jl V r) (hne:∀r,row=some r->F5 vs≠some r):Kg B K V' vs p:=by
 obtain⟨ao,n,cap,rfl,h1,h2⟩:=h;exact⟨ao,n,cap,rfl,h1.stepG hg hn hne,h2⟩
theorem Kg.mono [Ol] {B K K':Nat} {V:World} {vs:List Value} {p:List Term} (h:Kg B K V vs p) (hk:K<=K'):Kg B K' V vs p:=by
 obtain⟨ao,n,cap,rfl,h1,h2⟩:=h;exact⟨ao,n,cap,rfl,h1.mono (Nat.le_refl _) hk,h2⟩
theorem jV [Ol] {B K:Nat} {V V':World} {row:Option Nat} (hg:V.grownBy V' row) (hn:∀r,row=some r->jl V r):∀{X:List (List Value)} {ps:List (List Term)},bG (Kg B K V) X ps->Off X row->bG (Kg B K V') X ps
 |[],[],_,_=>trivial
 |x::X,p::ps,h,hne=>⟨h.1.stepG hg hn (fun r e=>hne r e x (by simp)),jV hg hn h.2 (fun r e v hv=>hne r e v (by simp[hv]))⟩
 |[],_::_,h,_=>h.elim
 | _::_,[],h,_=>h.elim
theorem fM.take {B:Nat} {e:TypeId} {sz:Nat} {w:World} {ao:Option Addr} {n cap:Nat} {aW:List (List Value)} (h:fM B e sz w ao n cap aW) (k:Nat) (hk:k<=n):fM B e sz w ao k cap (aW.take k):=by
 have hE:Each sz (aW.take k):=fun vs hv=>h.each vs (List.mem_of_mem_take hv)
 have hl:(aW.take k).length=k:=by rw[List.length_take,h.len];omega
 have hfl:(aW.take k).flatten=aW.flatten.take (k*sz):=by
  have e1:aW.flatten=(aW.take k).flatten++(aW.drop k).flatten:=by rw[<-List.flatten_append,List.take_append_drop]
  have e2:(aW.take k).flatten.length=k*sz:=by rw[lJ hE,hl]
  rw[e1,<-e2,List.take_left]
 refine⟨⟨by rw[lJ hE,hl],?_⟩,hl,Nat.le_trans hk h.big,hE,fun g hg=>h.wS g (by cases ao<;>exact hg)⟩;rcases h.row.2 with⟨hv,h0⟩|⟨g,cap',cur,hv,hg,hh,hn,hm,hs,ht⟩
 ·simp only[Value.slice.injEq]at hv;obtain⟨rfl,rfl,rfl⟩:=hv;obtain rfl:k=0:=by omega
  exact .inl ⟨rfl,rfl⟩
 ·simp only[Value.slice.injEq,true_and]at hv;obtain⟨rfl,rfl⟩:=hv;refine .inr ⟨g,cap,cur,rfl,hg,hh,by omega,hm,hs,?_⟩;rw[hfl,<-ht,List.take_take,Nat.min_eq_left (Nat.mul_le_mul_right _ hk)]
structure jr [Ol] (B K:Nat) (w:World) (ao:Option Addr) (n cap:Nat) (X:List (List Value)) (ps:List (List Term)):Prop where
 row:fM B 23 1 w ao n cap X
 mem:bG (Kg B K w) X ps
 apart:Qy X
section
variable {B K:Nat} {w V:World} {ao:Option Addr} {n cap:Nat} {X:List (List Value)} {ps:List (List Term)}
theorem jr.nil [Ol] (B K:Nat) (w:World):jr B K w none 0 0 [] []:=⟨fM.nil _ _ _ _,trivial,List.Pairwise.nil⟩
theorem jr.len [Ol] (h:jr B K w ao n cap X ps):X.length=n/\ ps.length=n:=⟨h.row.len,by rw[<-h.mem.len,h.row.len]⟩
theorem jr.below [Ol] (h:jr B K w ao n cap X ps) (hb:Below w.heap.size w V):jr B K V ao n cap X ps:=⟨h.row.below hb,jV (aH none hb) (fun _ e=>by cases e) h.mem (fun _ e=>by cases e),h.apart⟩
theorem jr.mono [Ol] {K':Nat} (h:jr B K w ao n cap X ps) (hk:K<=K'):jr B K' w ao n cap X ps:=⟨h.row,h.mem.imp fun _ _ h=>h.mono hk,h.apart⟩
theorem jr.take [Ol] (h:jr B K w ao n cap X ps) (k:Nat) (hk:k<=n):jr B K w ao k cap (X.take k) (ps.take k):=⟨h.row.take k hk,h.mem.take k,h.apart.sublist (List.take_sublist k X)⟩
theorem jr.far [Ol] (h:jr B K w ao n cap X ps) {g:Nat} {L:List Value} (hA:aN w g L 54) (hn:jl w g) (hoff:Off X (some g)) (hg:w.grownBy V (some g)):jr B K V ao n cap X ps:=by
 refine⟨h.row.keep fun a ha=>hg.block a.block ?_ ?_,jV hg (fun r e=>by cases e;exact hn) h.mem hoff,h.apart⟩
 ·rcases h.row.parts with⟨h1,_⟩|⟨g',cur,h1,_,hlt,_⟩
  ·rw[h1]at ha;cases ha
  ·rw[h1]at ha;cases ha;exact hlt
 ·intro eq;rcases h.row.parts with⟨h1,_⟩|⟨g',cur,h1,_,hlt,_,hh⟩
  ·rw[h1]at ha;cases ha
  ·rw[h1]at ha;cases ha;have e':g'=g:=Option.some.inj eq;subst e';unfold aN at hA;rw[hh]at hA;cases hA
theorem jr.get [Ol] (h:jr B K w ao n cap X ps) {k:Nat} (hk:k<n):∃g,ao=some ⟨g,0,none⟩/\ g<w.heap.size/\∃po pn pc,X.getD k []=[.slice po pn pc]/\ w.cell? ⟨g,k,none⟩=some (.slice po pn pc)/\ Pw B K w po pn pc (ps.getD k [])/\ fall (ps.getD k []):=by
 have hl:=h.len;obtain⟨po,pn,pc,hv,h1,h2⟩:=bG.get [] h.mem k (by omega);rcases h.row.parts with⟨_,rfl,_⟩|⟨g,cur,rfl,_,hlt,_⟩
 ·omega
 ·refine⟨g,rfl,hlt,po,pn,pc,hv,?_,h1,h2⟩;have:=h.row.gl.cells _ rfl k hk 0 (by omega);rw[Addr.add_lit,hv]at this;simpa using this
end
open Lib (hid)
theorem Tryz.Mx:(Tryz.prog.info? 23).map (fun i=>(i.zero,i.size,i.bytes))=some (some (.slice none 0 0),1,24):=by kernel_rfl
theorem jr.Qz [Ol] {B K:Nat} {w:World} {ao:Option Addr} {n cap:Nat} {X:List (List Value)} {ps:List (List Term)} (h:jr B K w ao n cap X ps):∀{Y:List (List Value)} {qs:List (List Term)},bG (Kg B K w) Y qs->Off Y (blk ao)
 |[],[],_=>fun _ _ _ hv=>by cases hv
 |y::Y,q::qs,hY=>fun g hg vs hv=>by
  rcases List.mem_cons.1 hv with rfl|hv
  ·obtain⟨po,pn,pc,rfl,h1,_⟩:=hY.1;intro e;obtain⟨L,hL⟩:=h1.iK g e;rcases h.row.parts with⟨h2,_⟩|⟨g',cur,h2,_,_,_,hh⟩
   ·rw[h2]at hg;cases hg
   ·rw[h2]at hg;have e':g'=g:=Option.some.inj hg;subst e';unfold aN at hL;rw[hh]at hL;cases hL
  ·exact jr.Qz h hY.2 g hg vs hv
 |[],_::_,hY=>hY.elim
 | _::_,[],hY=>hY.elim
theorem jr.lX [Ol] {B K:Nat} {w:World} {ao:Option Addr} {n cap:Nat} {X:List (List Value)} {ps:List (List Term)} (h:jr B K w ao n cap X ps):∀r,blk ao=some r->jl w r:=fun r hr=>(h.row.wS r (by cases ao with
 |none=>cases hr
 |some a=>exact hr)).lX
def IU [Ol] (B K n:Nat) (w:World) (ps:List (List Term)) (p:List Term) (e:Ending) (V:World):Prop:=
 ∃so n' cap' X' ps' K',e= .returned (.slice so n' cap')/\ jr B K' V so n' cap' X' ps'/\ K'+n'<=K+n+1/\ n'<=n+1/\ (∀ρ,evs ps' ρ=evs ps ρ+ev p ρ)/\ lens ps'<=lens ps+p.length/\ Below B w V
structure Db [Ol] (B K0 n0:Nat) (w:World) (ps0:List (List Term)) (p0:List Term) (K:Nat) (so:Option Addr) (n cap:Nat) (po:Option Addr) (pn pc:Nat) (X:List (List Value)) (ps:List (List Term)) (p:List Term) (V:World):Prop where
 pl:jr B K V so n cap X ps
 pw:Pw B K V po pn pc p
 fl:fall p
 off:Off X (blk po)
 vs:∀ρ,evs ps ρ+ev p ρ=evs ps0 ρ+ev p0 ρ
 ln:lens ps+p.length<=lens ps0+p0.length
 kn:K+n<=K0+n0
 nn:n<=n0
 bw:Below B w V
 bz:B<=V.heap.size
theorem Db.fin [Ol] {B K0 n0:Nat} {w:World} {ps0:List (List Term)} {p0:List Term} {K:Nat} {so:Option Addr} {n cap:Nat} {po:Option Addr} {pn pc:Nat} {X:List (List Value)} {ps:List (List Term)} {p:List Term} {V:World} (h:Db B K0 n0 w ps0 p0 K so n cap po pn pc X ps p V) {ao:Option Addr} {c:Nat} {V3:World} {T:TypeId}
  (hO:fM B 23 1 V3 ao (n+1) c (X++[[.slice po pn pc]])) (hB:Below B w V3) (hG:(V.alloc (.cells [Value.slice po pn pc].toArray T)).grownBy V3 (Value.slice so n cap).ownBlock):IU B K0 n0 w ps0 p0 (.returned (.slice ao (n+1) c)) V3:=by
 have hA:=af V (.cells [Value.slice po pn pc].toArray T);have h1:=h.pl.below hA;have h2:=h.pw.below hA;have e:(Value.slice so n cap).ownBlock=blk so:=Ka so n cap;rw[e]at hG;have hn:=h1.lX;have hm:bG (Kg B K (V.alloc (.cells [Value.slice po pn pc].toArray T))) (X++[[.slice po pn pc]]) (ps++[p]):=bG.append h1.mem ⟨⟨po,pn,pc,rfl,h2,h.fl⟩,trivial⟩;refine⟨ao,n+1,c,X++[[.slice po pn pc]],ps++[p],K,rfl,⟨hO,jV hG hn hm (h1.Qz hm),?_⟩,by have:=h.kn;omega,by have:=h.nn;omega,fun ρ=>?_,?_,hB⟩
 ·refine List.pairwise_append.2 ⟨h.pl.apart,List.pairwise_singleton _ _,fun a ha b hb=>?_⟩;simp at hb;subst hb;intro g hg hg2;exact h.off g hg2 a ha hg
 ·rw[sN,<-h.vs];simp[evs]
 ·rw[kE];have:=h.ln;simp only[lens];omega
theorem Db.pop [Ol] {B K0 n0:Nat} {w:World} {ps0:List (List Term)} {p0:List Term} {K:Nat} {so:Option Addr} {k cap:Nat} {po:Option Addr} {pn pc:Nat} {X:List (List Value)} {ps:List (List Term)} {p r:List Term} {V V2:World} (h:Db B K0 n0 w ps0 p0 K so (k+1) cap po pn pc X ps p V)
  {lo:Option Addr} {ln lc:Nat} (hv:X.getD k []=[.slice lo ln lc]) (hl:Pw B K V lo ln lc (ps.getD k [])) {ro:Option Addr} {rn rc:Nat} (hr:Pw B (K+1) V2 ro rn rc r) (hfr:fall r) (hev:∀ρ,ev r ρ=ev (ps.getD k []) ρ+ev p ρ) (hlen:r.length<=(ps.getD k []).length+p.length)
  (hG:V.grownBy V2 (blk lo)) (hb:blk ro=blk lo∨ ∀g',blk ro=some g'->V.heap.size<=g'):Db B K0 n0 w ps0 p0 (K+1) so k cap ro rn rc (X.take k) (ps.take k) r V2:=by
 have hL:=h.pl.len
 have hXe:X=X.take k++[X.getD k []]:=by
  conv=>lhs;rw[<-List.take_length (l:=X),hL.1,List.take_succ_eq_append_getElem (by omega),<-bJ [] (by omega)]
 have hpe:ps=ps.take k++[ps.getD k []]:=by
  conv=>lhs;rw[<-List.take_length (l:=ps),hL.2,List.take_succ_eq_append_getElem (by omega),<-bJ [] (by omega)]
 have hT:=h.pl.take k (Nat.le_succ k)
 have XT:Off (X.take k) (blk lo):=fun g hg vs hvs=>by
  have:=h.pl.apart;rw[Qy,hXe,hv]at this;exact fun e=>(List.pairwise_append.1 this).2.2 vs hvs [.slice lo ln lc] (by simp) g e hg
 have hlt:∀vs∈X.take k,∀g,F5 vs=some g->g<V.heap.size:=fun vs hvs g hg=>by
  have key:∀{Y:List (List Value)} {qs:List (List Term)},bG (Kg B K V) Y qs->∀vs∈Y,F5 vs=some g->g<V.heap.size:=by
   intro Y;induction Y with
   |nil=>intro qs _ vs hvs;cases hvs
   |cons y Y ih=>
    intro qs hq vs hvs hg
    match qs,hq with
    |q::qs,hq=>
     rcases List.mem_cons.1 hvs with rfl|hvs
     ·obtain⟨a,b,c,rfl,h1,_⟩:=hq.1;exact(h1.lt g hg).2
     ·exact ih hq.2 vs hvs hg
    |[],hq=>exact hq.elim
  exact key hT.mem vs hvs hg
 refine{ pl:=?_,pw:=hr,fl:=hfr,off:=fun g hg vs hvs e=>?_,vs:=fun ρ=>?_,ln:=?_,kn:=by have:=h.kn;omega,nn:=by have:=h.nn;omega,bw:=h.bw.grown hG h.bz (fun r e=>(hl.lt r e).1),bz:=Nat.le_trans h.bz hG.size }
 ·cases hlo:blk lo with
  |none=>
   rw[hlo]at hG;refine jr.mono ?_ (Nat.le_succ K);exact⟨hT.row.keep fun a ha=>hG.block a.block (by rcases hT.row.parts with⟨h1,_⟩|⟨g',cur,h1,_,hlt,_⟩<;>rw[h1]at ha<;>cases ha;exact hlt) (by simp),jV hG (fun _ e=>by cases e) hT.mem (fun _ e=>by cases e),hT.apart⟩
  |some g=>
   obtain⟨L,hA⟩:=hl.iK g hlo;rw[hlo]at hG XT;exact(hT.far hA (hl.lX g hlo) XT hG).mono (Nat.le_succ K)
 ·rcases hb with h1|h1
  ·exact XT g (h1▸hg) vs hvs e
  ·have:=hlt vs hvs g e;have:=h1 g hg;omega
 ·have e1:=h.vs ρ;rw[hpe,sN]at e1;simp only[evs]at e1;rw[hev];omega
 ·have e1:=h.ln;rw[hpe,kE]at e1;simp only[lens]at e1;omega
theorem F6 [Ol] {B K:Nat} {so:Option Addr} {n cap:Nat} {X:List (List Value)} {ps:List (List Term)} {po:Option Addr} {pn pc:Nat} {p:List Term} {w:World} (hs:jr B K w so n cap X ps) (hp:Pw B K w po pn pc p) (hfp:fall p) (hoff:Off X (blk po)) (hM:lens ps+p.length<=1000000) (hK:K+n<=900000) (hBw:B<=w.heap.size):
  Calls Tryz.prog 174 #[.slice so n cap,.slice po pn pc] w (IU B K n w ps p):=by
 obtain⟨i0,hi,hz0,hz1,hz2⟩:=info_parts Tryz.Mx;have Gy:Hid (Db B K n w ps p K so n cap po pn pc X ps p w):=⟨hs,hp,hfp,hoff,fun _=>rfl,Nat.le_refl _,Nat.le_refl _,Nat.le_refl _,Below.refl _ _,hBw⟩;have HM:=hid hM;clear hs hp hfp hoff hM;go_enter Tryz.func174,Tryz.ntmps174;go_wp2;go_loopw [0,1] (fun s0 s1 wr=>∃(K2:Nat) (so:Option Addr) (n2 cap2:Nat) (po:Option Addr) (pn pc:Nat) (X2:List (List Value)) (ps2:List (List Term)) (p2:List Term),s0= .slice so n2 cap2/\ s1= .slice po pn pc/\ Hid (Db B K n w ps p K2 so n2 cap2 po pn pc X2 ps2 p2 wr)) (fun s0 _ _=>Hg s0)
 case atStart=>exact⟨K,so,n,cap,po,pn,pc,X,ps,p,rfl,rfl,Gy.out⟩
 case round=>
  clear Gy;obtain⟨K2,so,n2,cap2,po,pn,pc,X2,ps2,p2,rfl,rfl,HS⟩:=hrel;have hkn:=HS.out.kn;have hcap:=HS.out.pl.row.gl.le;by_cases h0:n2=0
  ·subst h0;have hd:decide ((0:Int)<0)=false:=rfl;go_wp2_with (at_builtin;refine d9 wr w rfl (.tmp 34) (.tmp 36) 225 rfl B 23 1 24 i0 (.slice none 0 0) Tryz.underlying225 hi hz0 hz1 hz2 rfl (by omega) so 0 cap2 X2 rfl HS.out.pl.row [.slice po pn pc] rfl (by simp[Value.oneCell']) (by simp[Value.cells,aX]) (by simp[aX]) _ rfl HS.out.bw HS.out.bz (by omega) (by omega) ?_;intro o3 cp3 w3 hO hB3 hG3;have HR:=hid (HS.out.fin hO hB3 hG3);clear hO hB3 hG3 hi hz0 hz1 hz2);go_ret;exact HR.out
  ·obtain⟨k,rfl⟩:∃k,n2=k+1:=⟨n2-1,by omega⟩;clear h0;obtain⟨g,rfl,hgl,lo,ln,lc,hv,hc,hl,hfl⟩:=HS.out.pl.get (k:=k) (by omega);have hd:decide ((0:Int)<((k+1:Nat):Int))=true:=decide_eq_true (by omega);have e1:((k+1:Nat):Int)=(k:Int)+1:=by omega
   have hd':decide ((0:Int)<(k:Int)+1)=true:=decide_eq_true (by omega);have hw:IntKind.i64.wrap (k:Int)=(k:Int):=IntWalk.i64_in _ ⟨by omega,by omega⟩;have hk1:k<k+1:=by omega
   have hpl:=HS.out.pw.len;have hln:=HS.out.ln;have hM2:=HM.out;have hpn:pn<=1000000:=by omega
   have Kh:ln+pn<=1000000:=by
    have hL:=HS.out.pl.len
    have hpe:ps2=ps2.take k++[ps2.getD k []]:=by
     conv=>lhs;rw[<-List.take_length (l:=ps2),hL.2,List.take_succ_eq_append_getElem (by omega),<-bJ [] (by omega)]
    rw[hpe,kE]at hln;simp only[lens]at hln;have:=hl.len;omega
   have hwp:IntKind.i64.wrap (2*(pn:Int))=2*(pn:Int):=IntWalk.i64_in _ ⟨by omega,by omega⟩;have HV:=hid (And.intro hv (And.intro hl hfl));clear hv hl hfl hpl hln hM2;by_cases hb:(ln:Int)<=2*(pn:Int)
   ·have hd2:decide ((ln:Int)<=2*(pn:Int))=true:=decide_eq_true hb;clear hb;obtain⟨r,hr⟩:∃r,r=fD (ps2.getD k []) p2:=⟨_,rfl⟩;have hsp:=fU HV.out.2.2 (ah HS.out.fl);rw[<-hr]at hsp
    have hne:∀g,blk lo=some g->blk po≠some g:=fun g hg e=>by
     have hmem:X2.getD k []∈X2:=getD_in [] (by rw[HS.out.pl.len.1];omega);exact HS.out.off g e _ hmem (by rw[HV.out.1];exact hg)
    have HC:=hid (pK HV.out.2.1 HS.out.pw.pc Kh (by omega) hne HS.out.bz HV.out.2.2 HS.out.fl hsp.1 hsp.2);have hlr:=FZ (f:=fun x y=>x+y) (σ:=1) (fun x y=>by omega) HV.out.2.2 HS.out.fl hsp.1 (fun ρ=>by rw[hsp.2];omega);have HLR:=hid (And.intro hsp (And.intro hlr trivial));clear hsp hr hne hlr;go_wp2_with fail;refine HC.out.mono ?_;rintro e V2 ⟨ro,rn,rc,rfl,h1,h2,h3⟩;have HS2:=hid (HS.out.pop HV.out.1 HV.out.2.1 h1 HLR.out.1.1 HLR.out.1.2 HLR.out.2.1 h2 h3);clear h1 h2 h3 HC HV HLR;go_wp2;go_roundw
    case rel=>exact⟨K2+1,_,k,cap2,ro,rn,rc,_,_,r,rfl,rfl,HS2.out⟩
    case measure=>simp[Hg]
   ·have hd2:decide ((ln:Int)<=2*(pn:Int))=false:=decide_eq_false hb;clear hb HV;go_wp2_with (at_builtin;refine d9 wr w rfl (.tmp 34) (.tmp 36) 225 rfl B 23 1 24 i0 (.slice none 0 0) Tryz.underlying225 hi hz0 hz1 hz2 rfl (by omega) (some ⟨g,0,none⟩) (k+1) cap2 X2 rfl HS.out.pl.row [.slice po pn pc] rfl (by simp[Value.oneCell']) (by simp[Value.cells,aX]) (by simp[aX]) _ rfl HS.out.bw HS.out.bz (by omega) (by omega) ?_;intro o3 cp3 w3 hO hB3 hG3;have HR:=hid (HS.out.fin hO hB3 hG3);clear hO hB3 hG3 hi hz0 hz1 hz2);go_ret;exact HR.out
open Lib (hid)
theorem IV [Ol] {B K:Nat} {V:World}:∀{Y:List (List Value)} {qs:List (List Term)},bG (Kg B K V) Y qs->∀vs∈Y,∀g,F5 vs=some g->g<V.heap.size
 |[],[],_,_,h,_,_=>by cases h
 |y::Y,q::qs,hq,vs,hvs,g,hg=>by
  rcases List.mem_cons.1 hvs with rfl|hvs
  ·obtain⟨a,b,c,rfl,h1,_⟩:=hq.1;exact(h1.lt g hg).2
  ·exact IV hq.2 vs hvs g hg
 |[],_::_,hq,_,_,_,_=>hq.elim
 | _::_,[],hq,_,_,_,_=>hq.elim
theorem at_mem [Ol] {B K:Nat} {V:World}:∀{Y:List (List Value)} {qs:List (List Term)},bG (Kg B K V) Y qs->∀vs∈Y,∀g,F5 vs=some g->∃L,aN V g L 54
 |[],[],_,_,h,_,_=>by cases h
 |y::Y,q::qs,hq,vs,hvs,g,hg=>by
  rcases List.mem_cons.1 hvs with rfl|hvs
  ·obtain⟨a,b,c,rfl,h1,_⟩:=hq.1;exact h1.iK g hg
  ·exact at_mem hq.2 vs hvs g hg
 |[],_::_,hq,_,_,_,_=>hq.elim
 | _::_,[],hq,_,_,_,_=>hq.elim
theorem Db.step [Ol] {B K0 n0:Nat} {w:World} {ps0:List (List Term)} {p0:List Term} {K:Nat} {so:Option Addr} {n cap:Nat} {po:Option Addr} {pn pc:Nat} {X:List (List Value)} {ps:List (List Term)} {p:List Term} {V V':World} (h:Db B K0 n0 w ps0 p0 K so n cap po pn pc X ps p V) {row:Option Nat} (hg:V.grownBy V' row) (hn:∀r,row=some r->jl V r)
  (hne:∀r,row=some r->(∀L,¬aN V r L 54)/\ blk so≠some r/\ B<=r):Db B K0 n0 w ps0 p0 K so n cap po pn pc X ps p V':=by
 refine{ h with pl:=⟨h.pl.row.keep fun a ha=>hg.block a.block ?_ (fun e=>(hne _ e.symm).2.1 (by rw[ha];rfl)),jV hg hn h.pl.mem (fun r e vs hv e2=>?_),h.pl.apart⟩,pw:=h.pw.stepG hg hn (fun r e e2=>?_),bw:=h.bw.grown hg h.bz (fun r e=>(hne r e).2.2),bz:=Nat.le_trans h.bz hg.size }
 ·rcases h.pl.row.parts with⟨h1,_⟩|⟨g',cur,h1,_,hlt,_⟩
  ·rw[h1]at ha;cases ha
  ·rw[h1]at ha;cases ha;exact hlt
 ·obtain⟨L,hL⟩:=at_mem h.pl.mem vs hv r e2;exact(hne r e).1 L hL
 ·obtain⟨L,hL⟩:=h.pw.iK r e2;exact(hne r e).1 L hL
theorem Db.own [Ol] {B K0 n0:Nat} {w:World} {ps0:List (List Term)} {p0:List Term} {K:Nat} {so:Option Addr} {n cap:Nat} {po:Option Addr} {pn pc:Nat} {X:List (List Value)} {ps:List (List Term)} {p:List Term} {V V':World} (h:Db B K0 n0 w ps0 p0 K so n cap po pn pc X ps p V) {D:Nat} {row:Option Nat} (hg:V.grownBy V' row) (hr:∀r,row=some r->D<=r/\∃o:Obj,V.heap[r]? =some o/\ o.isCells=false) (hB:B<=D):Db B K0 n0 w ps0 p0 K so n cap po pn pc X ps p V':=
 h.step hg (fun r e=>by obtain⟨_,o,h1,h2⟩:=hr r e;exact lG h1 h2) (fun r e=>by
  obtain⟨h0,o,h1,h2⟩:=hr r e;refine⟨fun L hA=>hA.jH h1 h2 rfl,fun e2=>?_,by omega⟩;rcases h.pl.row.parts with⟨h3,_⟩|⟨g',cur,h3,_,_,_,hh⟩
  ·rw[h3]at e2;cases e2
  ·rw[h3]at e2;have e':g'=r:=Option.some.inj e2;subst e';rw[hh]at h1;cases h1;cases h2)
theorem Db.below [Ol] {B K0 n0:Nat} {w:World} {ps0:List (List Term)} {p0:List Term} {K:Nat} {so:Option Addr} {n cap:Nat} {po:Option Addr} {pn pc:Nat} {X:List (List Value)} {ps:List (List Term)} {p:List Term} {V V':World} (h:Db B K0 n0 w ps0 p0 K so n cap po pn pc X ps p V) (hb:Below V.heap.size V V'):Db B K0 n0 w ps0 p0 K so n cap po pn pc X ps p V':=
 h.step (aH none hb) (fun _ e=>by cases e) (fun _ e=>by cases e)
def ae6 [Ol] (B K n:Nat) (w:World) (ps:List (List Term)) (e:Ending) (V:World):Prop:=
 ∃ro rn rc r K',e= .returned (.slice ro rn rc)/\ Pw B K' V ro rn rc r/\ fall r/\ K'<=K+n/\ (∀ρ,ev r ρ=evs ps ρ)/\ r.length<=lens ps/\ Below B w V
def SRd [Ol] (B K0 n0:Nat) (w:World) (ps0:List (List Term)) (so:Option Addr) (cap:Nat) (X:List (List Value)) (bp B0:Nat) (j:Nat) (V:World):Prop:=
 B0<=V.heap.size/\∃K po pn pc p,Db B K0 n0 w ps0 [] K so (n0-j) cap po pn pc (X.take (n0-j)) (ps0.take (n0-j)) p V/\ aN V bp [.slice po pn pc] 23
theorem MB {B:Nat} {Fx:Nat->Prop} {I:World->Prop} {Y:World} {w:World} {a:Act} (h:∀W,W=w->IW B Fx I Y .normal a W):IW B Fx I Y .normal a w:=h w rfl
theorem Ki [Ol] {B K:Nat} {so:Option Addr} {n cap:Nat} {X:List (List Value)} {ps:List (List Term)} {w:World} (hs:jr B K w so n cap X ps) (hM:lens ps<=1000000) (hK:K+n<=900000) (hBw:B<=w.heap.size):
  Calls Tryz.prog 176 #[.slice so n cap] w (ae6 B K n w ps):=by
 obtain⟨s1,s2⟩:=hs.len;have hsl:∀g1:Nat,blk so=some g1->g1<w.heap.size:=fun g1 h=>by rcases hs.row.parts with⟨h1,_⟩|⟨g2,cur,h1,_,hlt,_⟩<;>rw[h1]at h<;>cases h;exact hlt
 have hlm:=IV hs.mem;have Gy:Hid (Db B K n w ps [] K so n cap none 0 0 X ps [] w):=⟨hs,⟨[],Rw.zero _ _ _ _,trivial⟩,trivial,(fun _ e=>by cases e),fun _=>rfl,Nat.le_refl _,Nat.le_refl _,Nat.le_refl _,Below.refl _ _,hBw⟩;have HM:=hid hM;have HL:=hid (And.intro s1 s2);clear hs hM s1 s2;refine lW Tryz.func176 rfl ?_;simp only[Tryz.ntmps176,List.size_toArray,List.length_cons,List.length_nil,Nat.reduceAdd,Nat.reduceSub,Array.replicate_succ,Array.replicate_zero,List.push_toArray,List.append_toArray,List.nil_append,List.cons_append];go_upto_region 2 with(fail)
 refine au (fun W0 hW=>?_);obtain⟨a1,hB⟩:=pF w [.slice none 0 0] 23;rw[<-hW]at a1 hB;have zD:=hid a1;have ig:=hid (Gy.out.below hB);clear a1 hB hW Gy;go_wp2_with fail;refine(MC _).mono ?_;rintro e Dv ⟨rfl,rfl⟩;go_wp2_with fail;refine au (fun W hW=>?_);have S1:Below W0.heap.size W0 W:=by rw[hW];exact af _ _
 obtain⟨Bs,MQ⟩:∃Bs,Bs=W0.heap.size:=⟨_,rfl⟩;have Tm:Hid (aN W Bs [.slice so n cap] 225):=by rw[hW,MQ];exact aN.new W0 [.slice so n cap] 225
 have Dq:=hid (zD.out.below S1);have HS2:=hid (ig.out.below S1);rw[<-MQ];have hpB:w.heap.size<Bs:=by rw[MQ];exact zD.out.lt
 clear hW S1 zD ig MQ;have eB:∀args w,(callFunc 205 args).run Tryz.prog w= .ok (.enter 205 args) w:=enters_of Tryz.func205 (by kernel_rfl) rfl;obtain⟨Fx,Dc⟩:∃Fx:Nat->Prop,Fx=fun k=>k=Bs∨ ∃ad:Addr,so=some ad/\ k=ad.block:=⟨_,rfl⟩
 have hrow:∀ad:Addr,so=some ad->∃L,aN W ad.block L 23:=fun ad had=>by rcases HS2.out.pl.row.parts with⟨h1,_⟩|⟨g1,cur,h1,_,_,_,hh⟩<;>rw[h1]at had<;>cases had;exact⟨cur.toList,hh⟩
 have uK:∀k,Fx k->k<W.heap.size:=by
  rw[Dc];rintro k (h|⟨ad,h1,h2⟩)
  ·rw[h];exact Tm.out.lt
  ·obtain⟨L,hL⟩:=hrow ad h1;rw[h2];exact hL.lt
 have hFp:¬Fx w.heap.size:=by
  rw[Dc];rintro(h|⟨ad,h1,h2⟩)
  ·omega
  ·have:=hsl ad.block (by rw[h1];rfl);omega
 have hFT:∀r L,aN W r L 54->¬Fx r:=by
  intro r L hL;rw[Dc];rintro(h|⟨ad,h1,h2⟩)
  ·exact hL.ne Tm.out (by decide) h
  ·obtain⟨M,hM⟩:=hrow ad h1;exact hL.ne hM (by decide) h2
 have hWw:B<=W.heap.size:=HS2.out.bz;have HFX:=hid Dc;have IX:=F7 (Fx:=Fx) HS2.out.pl.row.gl Tm.out.c1 (by rw[Dc];exact .inl rfl) (by rw[Dc];exact fun ad had=> .inr ⟨ad,had,rfl⟩);clear Dc hrow;refine(wpIn_wide (n:=0)).1 (jU rfl eB IX uK (fun j=>rfl) (SRd B K n w ps so cap X w.heap.size W.heap.size) ?own ?start ?round ?done)
 case own=>
  intro j A C row hs hg hr;obtain⟨h0,K2,po,pn,pc,p,h1,h2⟩:=hs;exact⟨Nat.le_trans h0 hg.size,K2,po,pn,pc,p,h1.own hg hr hWw,h2.stepG hg (fun r e=>by obtain⟨_,o,h3,h4⟩:=hr r e;exact h2.jH h3 h4)⟩
 case start=>
  refine⟨Nat.le_refl _,K,none,0,0,[],?_,Dq.out⟩;rw[Nat.sub_zero,List.take_of_length_le (by rw[HL.out.1];exact Nat.le_refl _),List.take_of_length_le (by rw[HL.out.2];exact Nat.le_refl _)];exact HS2.out
 case round=>
  rintro l j V hj ⟨XU,K2,po,pn,pc,p,hS,hP⟩;obtain⟨k,hk⟩:∃k,n-j=k+1:=⟨n-j-1,by omega⟩;have e1:n-1-j=k:=by omega
  have e2:n-(j+1)=k:=by omega
  rw[hk]at hS;obtain⟨g,hso,hgl,lo,ln,lc,hv,hc,hl,hfl⟩:=hS.pl.get (k:=k) (by omega);have hkn:k<n:=by omega
  have hXk:(X.take (k+1)).getD k []=X.getD k []:=by simp[List.getD]
  have hv2:X.getD k []=[.slice lo ln lc]:=by rw[<-hXk];exact hv
  have hvX:=hv2;have hpk:(ps.take (k+1)).getD k []=ps.getD k []:=by simp[List.getD]
  rw[hpk]at hl hfl;have HS:=hid hS;have HP:=hid hP;have HV:=hid hv;have HLF:=hid (And.intro hl hfl);clear hS hP hc hv hl hfl hXk;refine bH (by rfl) (fun⟨_,_,h⟩=>h) ?_;rw[show Df n X j= #[.int .i64 ((n-1-j:Nat):Int),.slice lo ln lc]from by unfold Df;rw[e1,hv2];rfl];clear hv2;go_wp2_with fail;refine⟨KeepsFrom.refl _ _,Fast.refl _ _,fun Y hY=>?_⟩;obtain⟨r,hr1,hr2,o,hr3,hr4⟩:=hY;have hYr:∀r2,some r=some r2->W.heap.size<=r2/\∃o:Obj,V.heap[r2]? =some o/\ o.isCells=false:=fun r2 e=>by cases e;exact⟨hr1,o,hr3,hr4⟩
  have uL:W.heap.size<=Y.heap.size:=Nat.le_trans XU hr2.size;have J2:=hid (HS.out.own hr2 hYr hWw);have P2:=hid (HP.out.stepG hr2 (fun r e=>by cases e;exact HP.out.jH hr3 hr4));have K2t:=hid (sV.refl W.heap.size Fx Y);have L2:=hid (HLF.out.1.stepG hr2 (fun r e=>by cases e;exact lG hr3 hr4) (fun r e e2=>by cases e;obtain⟨L,hL⟩:=HLF.out.1.iK _ e2;exact hL.jH hr3 hr4 rfl));have QI:=hid HLF.out.2;clear HS HP HLF hr1 hr2 hr3 hr4 hYr XU;obtain⟨q,hq⟩:∃q,q=fD (ps.getD k []) p:=⟨_,rfl⟩;have hsp:=fU QI.out (ah J2.out.fl);rw[<-hq]at hsp;have hne:∀g,blk lo=some g->blk po≠some g:=fun g hg e=>J2.out.off g e ((X.take (k+1)).getD k []) (getD_in (k:=k) [] (by rw[J2.out.pl.len.1];omega)) (by rw[HV.out];exact hg)
  have Kh:ln+pn<=1000000:=by
   have hln:=J2.out.ln;have h1:ps.take (k+1)=ps.take k++[ps.getD k []]:=by rw[List.take_succ_eq_append_getElem (by rw[HL.out.2];exact hkn),<-bJ [] (by rw[HL.out.2];exact hkn)]
   rw[h1,kE]at hln;simp only[lens,List.length_nil]at hln;have h2:=L2.out.len;have h3:=J2.out.pw.len;have h4:=HM.out;omega
  have hkn2:=J2.out.kn;have HC:=hid (pK L2.out J2.out.pw.pc Kh (by omega) hne J2.out.bz QI.out J2.out.fl hsp.1 hsp.2);have hlr:=FZ (f:=fun x y=>x+y) (σ:=1) (fun x y=>by omega) QI.out J2.out.fl hsp.1 (fun ρ=>by rw[hsp.2];omega);have HQ:=hid (And.intro hsp hlr);clear hsp hq hne hlr Kh hkn2;have c0:=P2.out.c1
  gi_step;refine bH (by rfl) (fun⟨_,_,h⟩=>h) ?_
  go_wp2_with fail;refine HC.out.mono ?_;rintro e V2 ⟨ro,rn,rc,rfl,h1,h2,h3⟩;have HG:=hid (And.intro h1 (And.intro h2 h3));clear h1 h2 h3 c0
  have hPg:∀r,blk lo=some r->r≠w.heap.size:=fun r e=>by
   obtain⟨L,hL⟩:=L2.out.iK r e;exact hL.ne P2.out (by decide)
  have P3:=hid (P2.out.stepG HG.out.2.1 hPg);have c0:=P3.out.c1;have f0:=P3.out.f1;go_wp2_with fail;clear c0 f0;refine MB (fun V3 hW3=>?_);have hJ3:=J2.out.pop HV.out (hpk▸L2.out) HG.out.1 HQ.out.1.1 (fun ρ=>by rw[hpk];exact HQ.out.1.2 ρ) (by rw[hpk];exact HQ.out.2) HG.out.2.1 HG.out.2.2;rw[List.take_take,List.take_take,Nat.min_eq_left (Nat.le_succ k)]at hJ3;have hJ4:Db B K n w ps [] (K2+1) so k cap ro rn rc (X.take k) (ps.take k) q V3:=by rw[hW3];exact hJ3.step (aY _ w.heap.size 0 _) (fun r e=>by cases e;exact(P3.out.dF (IY _ _ _)).lX) (fun r e=>by cases e;exact⟨fun L hL=>hL.ne P3.out (by decide) rfl,fun e2=>by have:=hsl _ e2;omega,hBw⟩)
  have hP4:aN V3 w.heap.size [.slice ro rn rc] 23:=by rw[hW3];exact P3.out.set 0 _
  have aj9:∀r L,blk lo=some r->aN Y r L 54->¬Fx r:=by
   intro r L hr hL;rw[HFX.out];rintro(h|⟨ad,h1,h2⟩)
   ·have h3:=hlm _ (getD_in (k:=k) [] (by rw[HL.out.1];exact hkn)) r (by rw[hvX];exact hr);omega
   ·rcases J2.out.pl.row.parts with⟨h3,_⟩|⟨g1,cur,h3,_,_,_,hh⟩
    ·rw[h3]at h1;cases h1
    ·rw[h3]at h1;cases h1;have h4:r=g1:=h2;subst h4;unfold aN at hL;rw[hh]at hL;cases hL
  have hK3:sV W.heap.size Fx Y V2:=by
   cases hlo:blk lo with
   |none=>exact⟨K2t.out.kf.trans ((KeepsOthers.of_grownBy (hlo▸HG.out.2.1) (fun _ _ e=>by cases e)).from _),K2t.out.ft.trans fun i hi=>(hlo▸HG.out.2.1).block i (Nat.lt_of_lt_of_le (uK i hi) uL) (by simp)⟩
   |some r=>obtain⟨L,hL⟩:=L2.out.iK r hlo;exact K2t.out.far uK uL hL (aj9 r L hlo hL) (hlo▸HG.out.2.1)
  have hK4:sV W.heap.size Fx Y V3:=by rw[hW3];exact hK3.far uK uL P3.out hFp (aY _ _ 0 _)
  refine⟨hK4.kf,hK4.ft,Nat.le_trans uL hK4.kf.size,K2+1,ro,rn,rc,q,?_,hP4⟩;rw[e2];exact hJ4
 case done=>
  rintro D V hD ⟨XU,K2,po,pn,pc,p,hS,hP⟩ hK;have c0:=hP.c1;rw[Nat.sub_self,List.take_zero,List.take_zero]at hS;have HS:=hid hS;have hDw:B<=D:=by omega
  clear hS hP
  dsimp only
  go_wp2_with fail;refine⟨by simp,.inl ⟨_,_,rfl,run_takeDeferred hK,?_⟩⟩;have hg:=grownBy_putObj' V D (.deferred none);refine⟨_,results_tmp rfl _ _ _,po,pn,pc,p,K2,rfl,HS.out.pw.stepG hg (fun r e=>by cases e;exact lG hK rfl) (fun r e e2=>by cases e;obtain⟨L,hL⟩:=HS.out.pw.iK _ e2;exact hL.jH hK rfl rfl),HS.out.fl,by have:=HS.out.kn;omega,fun ρ=>?_,?_,HS.out.bw.grown hg HS.out.bz (fun r e=>by cases e;exact hDw)⟩
  ·have:=HS.out.vs ρ;simp only[evs,ev]at this;omega
  ·have:=HS.out.ln;simp only[lens,List.length_nil]at this;omega
end Go.Proofs.YthdhjckangekoaaGreat
