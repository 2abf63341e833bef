/-
  The contract of poly.joined.
-/
import Derived.Test.YthdhjckangekoaaGreatGP3
set_option maxHeartbeats 40000000
set_option maxRecDepth 100000
namespace Go.Proofs.YthdhjckangekoaaGreat
open Lib (hid)
open Go.RowKit
structure rU [Ol] (w:World) (g off cp N n b7 b8 b5:Nat) (fv:Value) (X Q:List (List Value)) (K:Nat) (p q:List Term) (V:World):Prop where
 ex:∃L,Rm g off cp L V/\ Seg 3 L off X
 hx:Each 3 X
 px:bG (fP K V) X p
 qx:bG (fP K V) Q q
 e7:aN V b7 [.int .i64 (n:Int)] 3
 e8:aN V b8 [.int .i64 (N:Int)] 3
 e5:aN V b5 [fv] 145
 bw:Below w.heap.size w V
 nn:p.length=n
 le:n<=N
 nc:N<=cp
 h7:w.heap.size<=b7
 h8:w.heap.size<=b8
 h78:b7≠b8
theorem rU.step [Ol] {w:World} {g off cp N n b7 b8 b5:Nat} {fv:Value} {X Q:List (List Value)} {K:Nat} {p q:List Term} {V V':World} (h:rU w g off cp N n b7 b8 b5 fv X Q K p q V) {row:Option Nat} (hg:V.grownBy V' row) (hn:∀r,row=some r->jl V r)
  (hne:∀r,row=some r->r≠g/\ r≠b7/\ r≠b8/\ r≠b5/\ w.heap.size<=r):rU w g off cp N n b7 b8 b5 fv X Q K p q V':=by
 obtain⟨L,h1,h2⟩:=h.ex
 exact{ h with
  ex:=⟨L,h1.stepG hg (fun r e=>(hne r e).1),h2⟩,px:=gB hg hn h.px,qx:=gB hg hn h.qx
  e7:=h.e7.stepG hg (fun r e=>(hne r e).2.1),e8:=h.e8.stepG hg (fun r e=>(hne r e).2.2.1),e5:=h.e5.stepG hg (fun r e=>(hne r e).2.2.2.1)
  bw:=h.bw.grown hg h.bw.size (fun r e=>(hne r e).2.2.2.2) }
theorem rU.below [Ol] {w:World} {g off cp N n b7 b8 b5:Nat} {fv:Value} {X Q:List (List Value)} {K:Nat} {p q:List Term} {V V':World} (h:rU w g off cp N n b7 b8 b5 fv X Q K p q V) (hb:Below V.heap.size V V'):rU w g off cp N n b7 b8 b5 fv X Q K p q V':=
 h.step (aH none hb) (fun _ e=>by cases e) (fun _ e=>by cases e)
theorem rU.far [Ol] {w:World} {g off cp N n b7 b8 b5:Nat} {fv:Value} {X Q:List (List Value)} {K:Nat} {p q:List Term} {V V':World} (h:rU w g off cp N n b7 b8 b5 fv X Q K p q V) {c:Nat} {L:List Value} (hA:aN V c L 23) (hc:Clean L) (hw:w.heap.size<=c) (hg:V.grownBy V' (some c)):rU w g off cp N n b7 b8 b5 fv X Q K p q V':=by
 obtain⟨M,h1,_⟩:=h.ex;exact h.step hg (fun r e=>by cases e;exact(hA.dF hc).lX) (fun r e=>by cases e;exact⟨hA.ne h1.iK (by decide),hA.ne h.e7 (by decide),hA.ne h.e8 (by decide),hA.ne h.e5 (by decide),hw⟩)
theorem rU.jst [Ol] {w:World} {g off cp N n b7 b8 b5 ba:Nat} {fv:Value} {X Q:List (List Value)} {K:Nat} {p q:List Term} {V:World} (h:rU w g off cp N n b7 b8 b5 fv X Q K p q V) (ha:aN V ba [.slice (some ⟨g,off,none⟩) N cp] 23):
  kJ w g off cp N b7 b8 ba b5 fv X Q K p q [] n (n:Int) (N:Int) V:=by
 obtain⟨L,h1,h2⟩:=h.ex;have hX:=h.px.len;have hn:=h.nn
 exact{ ex:=⟨L,[],h1,by rw[List.take_of_length_le (by omega)];exact h2,Seg.nil _ _ _,(fun _ h=>by cases h),trivial⟩,px:=h.px,qx:=h.qx,e7:=h.e7,e8:=h.e8,ea:=ha,e5:=h.e5,gr:=aH _ h.bw
        fit:=by simpa using h.le,ll:=by omega,nc:=h.nc,h7:=h.h7,h8:=h.h8,h78:=h.h78,hx:=h.hx }
theorem IY (ao:Option Addr) (n cap:Nat):Clean [.slice ao n cap]:=fun u hu=>by simp at hu;subst hu;rfl
theorem aN.jH {V:World} {b r:Nat} {L:List Value} {T:TypeId} (h:aN V b L T) {o:Obj} (hr:V.heap[r]? =some o) (ho:o.isCells=false):r≠b:=fun e=>by
 subst e;unfold aN at h;rw[h]at hr;cases hr;cases ho
theorem kJ.own [Ol] {w:World} {g off cap N b7 b8 ba b5:Nat} {fv:Value} {X Q:List (List Value)} {K:Nat} {p q S:List Term} {left:Nat} {lf pl:Int} {V V':World} (h:kJ w g off cap N b7 b8 ba b5 fv X Q K p q S left lf pl V) {B:Nat} {row:Option Nat} (hg:V.grownBy V' row)
  (hr:∀r,row=some r->B<=r/\∃o:Obj,V.heap[r]? =some o/\ o.isCells=false) (hB:w.heap.size<=B):kJ w g off cap N b7 b8 ba b5 fv X Q K p q S left lf pl V':=by
 obtain⟨L,Y,h1,_⟩:=h.ex;refine h.step hg (fun r e=>?_) (fun r e=>?_)
 ·obtain⟨_,o,h2,h3⟩:=hr r e;exact lG h2 h3
 ·obtain⟨h4,o,h2,h3⟩:=hr r e;exact⟨h1.iK.jH h2 h3,h.e7.jH h2 h3,h.e8.jH h2 h3,h.ea.jH h2 h3,h.e5.jH h2 h3,by omega⟩
theorem ol [Ol] {V:World} {b:Nat} {z:Int} {T:TypeId} (hA:aN V b [.int .i64 z] T) (u:Value) {K:Nat} {vs:List Value} {t:Term} (h:fP K V vs t):fP K (V.setCell ⟨b,0,none⟩ u) vs t:=by
 obtain⟨m,ao,n,cap,bo,k,cb,h1,h2,h3,h4⟩:=h;exact⟨m,ao,n,cap,bo,k,cb,h1,h2.qU hA u,h3,h4.qU hA u⟩
theorem jW {V:World} {g b o:Nat} (h:g≠b) {x y z u:Value} {o2:Nat} (hc:V.cell? ⟨g,o,none⟩=some x/\ V.cell? ⟨g,o+1,none⟩=some y/\ V.cell? ⟨g,o+2,none⟩=some z):
  (V.setCell ⟨b,o2,none⟩ u).cell? ⟨g,o,none⟩=some x/\ (V.setCell ⟨b,o2,none⟩ u).cell? ⟨g,o+1,none⟩=some y/\ (V.setCell ⟨b,o2,none⟩ u).cell? ⟨g,o+2,none⟩=some z:=
 ⟨(cell_of_heap (Below.heap_setCell _ _ _ _ h)).trans hc.1,(cell_of_heap (a:=⟨g,o+1,none⟩) (Below.heap_setCell _ _ _ _ h)).trans hc.2.1,(cell_of_heap (a:=⟨g,o+2,none⟩) (Below.heap_setCell _ _ _ _ h)).trans hc.2.2⟩
structure sV (B:Nat) (Fx:Nat->Prop) (Y V:World):Prop where
 kf:KeepsFrom B Y V
 ft:Fast Fx Y V
theorem sV.refl (B:Nat) (Fx:Nat->Prop) (Y:World):sV B Fx Y Y:=⟨KeepsFrom.refl _ _,Fast.refl _ _⟩
theorem sV.below {B:Nat} {Fx:Nat->Prop} {Y V V':World} (h:sV B Fx Y V) (hF:∀k,Fx k->k<B) (hB:B<=Y.heap.size) (hb:Below V.heap.size V V'):sV B Fx Y V':=
 ⟨h.kf.trans ((KeepsOthers.of_grownBy (aH none hb) (fun _ _ e=>by cases e)).from _),h.ft.trans (Fast.below hb fun k hk=>Nat.lt_of_lt_of_le (hF k hk) (Nat.le_trans hB h.kf.size))⟩
theorem sV.far {B:Nat} {Fx:Nat->Prop} {Y V V':World} (h:sV B Fx Y V) (hF:∀k,Fx k->k<B) (hB:B<=Y.heap.size) {r:Nat} {L:List Value} {T:TypeId} (hA:aN V r L T) (hr:¬Fx r) (hg:V.grownBy V' (some r)):sV B Fx Y V':=
 ⟨h.kf.trans ((KeepsOthers.of_grownBy hg (fun j o e ho=>by cases e;unfold aN at hA;rw[hA]at ho;cases ho;rfl)).from _),h.ft.trans fun k hk=>hg.block k (Nat.lt_of_lt_of_le (hF k hk) (Nat.le_trans hB h.kf.size)) (fun e=>hr (by cases e;exact hk))⟩
theorem Dh {P:Program} {l:Nat} {x y:Code} {Q:Exit->Act->World->Prop} {a:Act} {w:World} (M:Act->World->Prop) (h1:x.wpIn (Fence.wide.inRound l) 0 P (Exit.then M Q) a w) (h2:∀a w,M a w->y.wpIn (Fence.wide.inRound l) 0 P Q a w):(Code.seq x y).wpIn (Fence.wide.inRound l) 0 P Q a w:=
 wpIn_seq (wpIn_mono h1 fun e a w q=>by cases e<;>first|exact h2 _ _ q|exact q)
def leftOf (b:Nat) (V:World):Nat:=match V.cell? ⟨b,0,none⟩with
 |some (.int _ z)=>z.toNat
 | _=>0
theorem BD {b:Nat} {V:World} {k:Nat} {T:TypeId} (h:aN V b [.int .i64 (k:Int)] T):leftOf b V=k:=by
 unfold leftOf;rw[h.c1];simp
structure wJ [Ol] (bt:Nat) (tm:Bool) (ta:Option Addr) (tn tc:Nat) (tp:Option Addr) (tq tr:Nat) (z:Int) (ps:List (Int×Int)) (V:World):Prop where
 iK:aN V bt [.bool tm,.slice ta tn tc,.slice tp tq tr] 54
 cn:Cn V tm ta tn tc z
 ml:Ml V tp tq tr ps
theorem wJ.step [Ol] {bt:Nat} {tm:Bool} {ta:Option Addr} {tn tc:Nat} {tp:Option Addr} {tq tr:Nat} {z:Int} {ps:List (Int×Int)} {V V':World} (h:wJ bt tm ta tn tc tp tq tr z ps V) {row:Option Nat} (hg:V.grownBy V' row) (hn:∀r,row=some r->jl V r) (hne:∀r,row=some r->r≠bt):wJ bt tm ta tn tc tp tq tr z ps V':=
 ⟨h.iK.stepG hg hne,h.cn.stepG hg hn,h.ml.stepG hg hn⟩
theorem wJ.below [Ol] {bt:Nat} {tm:Bool} {ta:Option Addr} {tn tc:Nat} {tp:Option Addr} {tq tr:Nat} {z:Int} {ps:List (Int×Int)} {V V':World} (h:wJ bt tm ta tn tc tp tq tr z ps V) (hb:Below V.heap.size V V'):wJ bt tm ta tn tc tp tq tr z ps V':=h.step (aH none hb) (fun _ e=>by cases e) (fun _ e=>by cases e)
theorem wJ.qU [Ol] {bt:Nat} {tm:Bool} {ta:Option Addr} {tn tc:Nat} {tp:Option Addr} {tq tr:Nat} {z:Int} {ps:List (Int×Int)} {V:World} (h:wJ bt tm ta tn tc tp tq tr z ps V) {b:Nat} {y:Int} (hA:aN V b [.int .i64 y] 3) (u:Value):wJ bt tm ta tn tc tp tq tr z ps (V.setCell ⟨b,0,none⟩ u):=
 ⟨h.iK.far (hA.ne h.iK (by decide)) 0 u,h.cn.qU hA u,h.ml.qU hA u⟩
theorem vM {p:List Term} {k:Nat} (hk:k<p.length):(p.take (k+1)).reverse=p.getD k (0,[])::(p.take k).reverse:=by
 rw[List.take_succ_eq_append_getElem hk,List.reverse_append,bJ _ hk];rfl
theorem vN {w:World} {g o i:Nat} (a b c:Value) (hi:i<o∨o+3<=i):(((w.setCell ⟨g,o,none⟩ a).setCell ⟨g,o+1,none⟩ b).setCell ⟨g,o+2,none⟩ c).cell? ⟨g,i,none⟩=w.cell? ⟨g,i,none⟩:=by
 have h:∀(V:World) (x:Nat) (v:Value),x≠i->(V.setCell ⟨g,x,none⟩ v).cell? ⟨g,i,none⟩=V.cell? ⟨g,i,none⟩:=fun V x v hx=>by
  apply World.cell?_setCell_other
  intro e;cases e;exact hx rfl
 rw[h _ _ _ (by omega),h _ _ _ (by omega),h _ _ _ (by omega)]
theorem pM {F:Fence} {n:Nat} {P:Program} {c:Code} {Q:Exit->Act->World->Prop} {a:Act} {w:World} (h:∀W,W=w->c.wpIn F n P Q a W):c.wpIn F n P Q a w:=h w rfl
theorem MH {M:Act->World->Prop} {a:Act} {w:World} (h:∀W,W=w->M a W):M a w:=h w rfl
theorem zA {m:List (Int×Int)}:∀{r S r' S':List Term},cK m r S=(r',S',true)->r'≠[]
 |[],S,r',S',h=>by simp[cK]at h
 |u::r,S,r',S',h=>by
  unfold cK at h;split at h
  ·exact zA h
  ·simp only[Prod.mk.injEq]at h;rw[<-h.1];simp
theorem bd0 (K:Nat):Bd 0 K:=Nat.pow_pos (by omega)
def JRd [Ol] (w:World) (g off cap N b7 b8 ba b5:Nat) (fv:Value) (X Q:List (List Value)) (K:Nat) (f:Int->Int->Int) (p q:List Term) (n B0 j:Nat) (V:World):Prop:=
 B0<=V.heap.size/\∃(S:List Term) (left:Nat),kJ w g off cap N b7 b8 ba b5 fv X Q K p q S left (left:Int) ((N-S.length:Nat):Int) V/\ pR f p (q.reverse.take j)=((p.take left).reverse,S)/\ S.length+left<=n+j
theorem Mw [Ol] {G:Nat} (eg:∀args w,(callFunc G args).run Tryz.prog w= .ok (.enter G args) w) {f:Int->Int->Int} {B K:Nat} {ao bo:Option Addr} {n cap m cb:Nat} {p q:List Term} {w:World} (hp:Pw B K w ao n cap p) (hq:Pc K w bo m cb q) (hm0:0<m) (hnm:n+m<=1000000) (hK:K<=900000) (hmp:dX p) (xK:dX q)
  (hne:∀g,blk ao=some g->blk bo≠some g) (hBw:B<=w.heap.size) (hfB:∀x y,Bd x K->Bd y K->Bd (f x y) (K+1))
  (hJ:∀(m k:Bool) (ao bo:Option Addr) (n cap l cb:Nat) (x y:Int) (W:World),Cx W m ao n cap x->Cx W k bo l cb y->Calls Tryz.prog G #[.agg #[.bool m,.slice ao n cap],.agg #[.bool k,.slice bo l cb]] W (rR W (f x y))):
  Calls Tryz.prog 76 #[.slice ao n cap,.slice bo m cb,.func (.func G) #[] #[]] w (fun e V=>∃ro rn rc,e= .returned (.slice ro rn rc)/\ Pw B (K+1) V ro rn rc ((pR f p q.reverse).1.reverse++(pR f p q.reverse).2)/\ (∃row,w.grownBy V row/\ (row=blk ao∨Below w.heap.size w V))/\ (blk ro=blk ao∨ ∀g',blk ro=some g'->w.heap.size<=g')):=by
 have hlq:=hq.len;obtain⟨Q,hGq,hTq⟩:=hq.ex;obtain⟨N,hN⟩:∃N,N=n+m:=⟨_,rfl⟩;have hNN:(n:Int)+(m:Int)=(N:Int):=by omega
 have hN6:N<=1000000:=by omega
 have hnN:n<=N:=by omega
 have Yd:=hid hGq;have Rf:=hid hTq;have KE:=hid hmp;have VZ:=hid xK;have HFB:=hid hfB;have ZC:=hid hJ;have A8:=hid hne;have uT:=hid hlq;have HNM:=hid hN;clear hGq hTq hmp xK hfB hJ hne hlq hN;refine lW Tryz.func76 rfl ?_;simp only[Tryz.ntmps76,List.size_toArray,List.length_cons,List.length_nil,Nat.reduceAdd,Nat.reduceSub,Array.replicate_succ,Array.replicate_zero,List.push_toArray,List.append_toArray,List.nil_append,List.cons_append];go_upto_region 2 with(fail)
 refine au (fun W hW=>?_);obtain⟨a5,a7,a8,hB⟩:=XI w [.func (.func G) #[] #[]] [.int .i64 (n:Int)] [.int .i64 (N:Int)] 145 3 3;rw[<-hW]at a5 a7 a8 hB;clear hW;have E50:=hid a5;have XP:=hid a7;have Tj:=hid a8;have XQ:=hid hB;have QX0:=hid (fA Rf.out hB);clear a5 a7 a8 hB;go_cut [9]from 21 to 26 (fun s9 w9=>∃(ba g off cp:Nat) (X:List (List Value)),s9= .pointer (some ⟨ba,0,none⟩)/\ (blk ao=some g∨w.heap.size<=g)/\ Below w.heap.size w w9/\ kJ w g off cp N (w.heap.size+1) (w.heap.size+1+1) ba w.heap.size (.func (.func G) #[] #[]) X Q K p q [] n (n:Int) (N:Int) w9)
 case first=>
  refine wp_region_held_drew (S:=fun w'=>w'.cell? ⟨w.heap.size+1+1,0,none⟩=some (.int .i64 (N:Int))) (by kernel_rfl) Tj.out.c1 (fun hH=>?_);refine ak (fun w1 hW=>?_);have S1:Below W.heap.size W w1:=by rw[hW];exact(Below.refl _ _).drew
  have E51:=hid (E50.out.below S1);have Tk:=hid (XP.out.below S1);have Ms:=hid (Tj.out.below S1);have QX1:=hid (fA QX0.out S1);have Ke:=hid (Below.steps XQ.out S1);rw[<-hW]at hH;clear S1 E50 XP Tj QX0 XQ;clear hW;refine aB 0 hH ?_;try simp only[ai]
  refine aB 1 hH ?_;try simp only[ai]
  refine aB 2 hH ?_;try simp only[ai]
  refine aB 4 hH ?_;try simp only[ai]
  refine wpAnyH_ready (rs:=[3,6]) (by kernel_rfl) (by simp) (dR rfl (fun KK hK=>?_) (dR rfl (fun KK hK=>?_) (AllReadyH.nil)))
  ·go_simp;refine(FV (hp.below Ke.out) hm0 hnm).mono ?_;rintro e w2 ⟨g,off,cp,L,X,rfl,hRm,hcap,hE,hS,hTT,hB,hgb⟩;have G2:Hid (rU w g off cp N n (w.heap.size+1) (w.heap.size+1+1) w.heap.size (.func (.func G) #[] #[]) X Q K p q w2):=⟨⟨L,hRm,hS⟩,hE,hTT,fA QX1.out hB,Tk.out.below hB,Ms.out.below hB,E51.out.below hB,Below.steps Ke.out hB,hp.len,hnN,by omega,by omega,by omega,by omega⟩;have hgw:blk ao=some g∨w.heap.size<=g:=hgb.imp id (fun h=>Nat.le_trans Ke.out.size h);have ak0:N<=cp:=by omega
   have ak1:n<=cp:=by omega
   clear hRm hcap hE hS hTT hB hgb QX1 Tk Ms E51 Ke;go_wp2_with fail;clear hH;refine hK.out _ _ (G2.out.e8.c1) fun hH=>?_;clear hK KK
   try simp only[ai]
   refine aB 5 hH ?_;try simp only[ai]
   refine aj 6 rfl (by kernel_rfl) (fun KK hK=>?_);go_simp;have EAx:aN (w2.alloc (.cells #[.slice none 0 0] 23)) w2.heap.size [.slice none 0 0] 23:=aN.new w2 [.slice none 0 0] 23;have Gx:=G2.out.below (af w2 (.cells #[.slice none 0 0] 23));have Gi:=hid EAx;have G3:=hid Gx;clear EAx Gx;clear hH;refine hK.out _ _ (G3.out.e8.c1) fun hH=>?_;clear hK KK
   try simp only[ai]
   refine ak (fun w3 hW=>?_);have ae8:Hid (aN w3 w2.heap.size [.slice none 0 0] 23):=by rw[hW];exact Gi.out
   have G3b:Hid (rU w g off cp N n (w.heap.size+1) (w.heap.size+1+1) w.heap.size (.func (.func G) #[] #[]) X Q K p q w3):=by rw[hW];exact G3.out
   rw[<-hW]at hH;clear Gi G3;have Gi:=hid ae8.out;have G3:=hid G3b.out;clear ae8 G3b;clear hW;refine aj 7 rfl (by kernel_rfl) (fun KK hK=>?_);have c0:=Gi.out.c1;have f0:=Gi.out.f1;go_simp;clear c0 f0;clear hH;refine hK.out _ _ (aN.c1 (T:=3) (G3.out.e8.far (G3.out.e8.ne Gi.out (by decide)).symm 0 _)) fun hH=>?_;clear hK KK
   try simp only[ai]
   refine ak (fun w4 hW=>?_);have XR:Hid (aN w4 w2.heap.size [.slice (some ⟨g,off,none⟩) N cp] 23):=by rw[hW];exact Gi.out.set 0 _
   have G4:Hid (rU w g off cp N n (w.heap.size+1) (w.heap.size+1+1) w.heap.size (.func (.func G) #[] #[]) X Q K p q w4):=by rw[hW];exact G3.out.far Gi.out (IY _ _ _) (G2.out.bw.size) (aY _ _ 0 _)
   rw[<-hW]at hH;clear hW;clear G2 G3 Gi;refine wpAnyH_done (by kernel_rfl) ?_ _
   go_wp2_with fail;go_meet
   case rel=>exact⟨_,g,off,cp,X,rfl,hgw,G4.out.bw,G4.out.jst XR.out⟩
  ·go_simp;have S2:Below w1.heap.size w1 (w1.alloc (.cells #[.slice none 0 0] 23)):=af _ _;clear hH;refine hK.out _ _ (aN.c1 (T:=3) (Ms.out.below S2)) fun hH=>?_;clear hK KK
   try simp only[ai]
   refine ak (fun w2 hW=>?_);have S3:Below w1.heap.size w1 w2:=by rw[hW];exact S2
   have Gh:Hid (aN w2 w1.heap.size [.slice none 0 0] 23):=by rw[hW];exact aN.new w1 [.slice none 0 0] 23
   have VI:=hid (Tk.out.below S3);have Mt:=hid (Ms.out.below S3);have E52:=hid (E51.out.below S3);have QX2:=hid (fA QX1.out S3);have VJ:=hid (Below.steps Ke.out S3);have hw1:=Ke.out.size;rw[<-hW]at hH;clear S3 S2 Tk Ms E51 QX1 Ke;clear hW;refine aj 3 rfl (by kernel_rfl) (fun KK hK=>?_);go_simp;refine(FV (hp.below VJ.out) hm0 hnm).mono ?_;rintro e w3 ⟨g,off,cp,L,X,rfl,hRm,hcap,hE,hS,hTT,hB,hgb⟩;have G3:Hid (rU w g off cp N n (w.heap.size+1) (w.heap.size+1+1) w.heap.size (.func (.func G) #[] #[]) X Q K p q w3):=⟨⟨L,hRm,hS⟩,hE,hTT,fA QX2.out hB,VI.out.below hB,Mt.out.below hB,E52.out.below hB,Below.steps VJ.out hB,hp.len,hnN,by omega,by omega,by omega,by omega⟩;have hgw:blk ao=some g∨w.heap.size<=g:=hgb.imp id (fun h=>Nat.le_trans VJ.out.size h);have Gi:=hid (Gh.out.below hB);have ak0:N<=cp:=by omega
   have ak1:n<=cp:=by omega
   clear hRm hcap hE hS hTT hB hgb QX2 VI Mt E52 VJ Gh;go_wp2_with fail;clear hH;refine hK.out _ _ (G3.out.e8.c1) fun hH=>?_;clear hK KK
   try simp only[ai]
   refine aB 5 hH ?_;try simp only[ai]
   refine aj 7 rfl (by kernel_rfl) (fun KK hK=>?_);have c0:=Gi.out.c1;have f0:=Gi.out.f1;go_simp;clear c0 f0;clear hH;refine hK.out _ _ (aN.c1 (T:=3) (G3.out.e8.far (G3.out.e8.ne Gi.out (by decide)).symm 0 _)) fun hH=>?_;clear hK KK
   try simp only[ai]
   refine ak (fun w4 hW=>?_);have XR:Hid (aN w4 w1.heap.size [.slice (some ⟨g,off,none⟩) N cp] 23):=by rw[hW];exact Gi.out.set 0 _
   have G4:Hid (rU w g off cp N n (w.heap.size+1) (w.heap.size+1+1) w.heap.size (.func (.func G) #[] #[]) X Q K p q w4):=by rw[hW];exact G3.out.far Gi.out (IY _ _ _) hw1 (aY _ _ 0 _)
   rw[<-hW]at hH;clear hW;clear G3 Gi;refine wpAnyH_done (by kernel_rfl) ?_ _
   go_wp2_with fail;go_meet
   case rel=>exact⟨_,g,off,cp,X,rfl,hgw,G4.out.bw,G4.out.jst XR.out⟩
 case rest=>
 clear E50 XP Tj QX0 XQ;obtain⟨ba,g,off,cp,X,rfl,hgw,HBC,HJS⟩:=hcut;have HJ0:=hid HJS;have HBc:=hid HBC;clear HJS HBC;go_wp2_with fail;refine(FY _).mono ?_;rintro e Dv ⟨rfl,rfl⟩;go_wp2_with fail;refine au (fun W hW=>?_);have S1:Below wc.heap.size wc W:=by rw[hW];exact af _ _
 have HB0:Hid (Below w.heap.size w W):=Below.steps HBc.out S1;have HJ1:=hid (HJ0.out.below S1);obtain⟨Bs,MQ⟩:∃Bs,Bs=wc.heap.size:=⟨_,rfl⟩;have Tm:Hid (aN W Bs [.slice bo m cb] 23):=by rw[hW,MQ];exact aN.new wc [.slice bo m cb] 23
 have hgl:g<wc.heap.size:=by obtain⟨L,Y,h1,_⟩:=HJ0.out.ex;exact h1.iK.lt
 have h7l:=HJ0.out.e7.lt;have h8l:=HJ0.out.e8.lt;rw[<-MQ]at hgl h7l h8l ⊢;clear hW S1 HJ0 HBc MQ;have eB:∀args w,(callFunc 134 args).run Tryz.prog w= .ok (.enter 134 args) w:=enters_of Tryz.func134 (by kernel_rfl) rfl;obtain⟨Fx,Dc⟩:∃Fx:Nat->Prop,Fx=fun k=>k=Bs∨ ∃ad:Addr,bo=some ad/\ k=ad.block:=⟨_,rfl⟩
 have hqb:∀ad:Addr,bo=some ad->ad.block<w.heap.size:=fun ad had=>Yd.out.lt ad had hm0
 have hFg:¬Fx g:=by
   rw[Dc];rintro(h|⟨ad,h1,h2⟩)
   ·omega
   ·have h3:=hqb ad h1;rcases hgw with h|h
    ·exact A8.out g h (by rw[h1,h2];rfl)
    ·omega
 have hF7:¬Fx (w.heap.size+1):=by
   rw[Dc];rintro(h|⟨ad,h1,h2⟩)
   ·omega
   ·have h3:=hqb ad h1;omega
 have hF8:¬Fx (w.heap.size+1+1):=by
   rw[Dc];rintro(h|⟨ad,h1,h2⟩)
   ·omega
   ·have h3:=hqb ad h1;omega
 have uK:∀k,Fx k->k<W.heap.size:=by
   rw[Dc];rintro k (h|⟨ad,h1,h2⟩)
   ·rw[h];exact Tm.out.lt
   ·have h3:=hqb ad h1;have:=HB0.out.size;omega
 have hWw:=HB0.out.size;have IX:=IZ (Fx:=Fx) (Yd.out.below HB0.out) Tm.out.c1 (by rw[Dc];exact .inl rfl) (by rw[Dc];exact fun ad had=> .inr ⟨ad,had,rfl⟩);have QR:=hid (And.intro hFg (And.intro hF7 hF8));have HFX:=hid Dc;clear hFg hF7 hF8 Dc;refine(wpIn_wide (n:=0)).1 (jU rfl eB IX uK (fun j=>rfl) (JRd w g off cp N (w.heap.size+1) (w.heap.size+1+1) ba w.heap.size (.func (.func G) #[] #[]) X Q K f p q n W.heap.size) ?own ?start ?round ?done)
 case own=>exact fun j A B row hs hg hr=>by obtain⟨h0,S,left,h1,h2⟩:=hs;exact⟨Nat.le_trans h0 hg.size,S,left,h1.own hg hr hWw,h2⟩
 case start=>exact⟨Nat.le_refl _,[],n,HJ1.out,by rw[List.take_zero,List.take_of_length_le (by rw[hp.len];exact Nat.le_refl _)];rfl,by simp⟩
 case round=>
  clear HJ1;rintro l j V hj ⟨XU,S,left,hS,hF,hle⟩;have hk:m-1-j<q.length:=by rw[uT.out];omega
  obtain⟨t,ht⟩:∃t,t=q.getD (m-1-j) (0,[]):=⟨_,rfl⟩;obtain⟨tm,ta,tn,tc,tp,tq,tr,hv,hC,hD,hM⟩:=bG.get (0,[]) hS.qx (m-1-j) hk;rw[<-ht]at hC hD hM;have htm:aJ 0 t.2=true:=by rw[ht];exact VZ.out _ (getD_in _ hk)
  have hstep:=GN f p q (j:=j) (by rw[uT.out];exact hj);rw[uT.out,<-ht,hF]at hstep;have HS:=hid hS;have HC:=hid hC;have HD:=hid hD;have HM:=hid hM;have Jc:=hid htm;have HF:=hid hstep;have HLE:=hid hle;have HJM:=hid hj;clear hS hC hD hM htm hstep hle hj hF hk ht;refine bH (by rfl) (fun⟨_,_,h⟩=>h) ?_;rw[show FX m Q j= #[.int .i64 ((m-1-j:Nat):Int),.agg #[.bool tm,.slice ta tn tc,.slice tp tq tr]]from by unfold FX;rw[hv]];clear hv;go_wp2_with fail;obtain⟨V1,hV1⟩:∃V1,V1=V.alloc (.cells #[.bool tm,.slice ta tn tc,.slice tp tq tr] 54):=⟨_,rfl⟩;rw[<-hV1];have S1:Below V.heap.size V V1:=by rw[hV1];exact af _ _
  have T1:wJ V.heap.size tm ta tn tc tp tq tr t.1 t.2 V1:=⟨by rw[hV1];exact aN.new V [.bool tm,.slice ta tn tc,.slice tp tq tr] 54,HC.out.below S1,HM.out.below S1⟩;have J1:=HS.out.below S1;have T0:=sV.below (sV.refl W.heap.size Fx V) uK XU S1;refine⟨T0.kf,T0.ft,fun Y hY=>?_⟩;obtain⟨r,hr1,hr2,o,hr3,hr4⟩:=hY;have hYr:∀r2,some r=some r2->W.heap.size<=r2/\∃o:Obj,V1.heap[r2]? =some o/\ o.isCells=false:=fun r2 e=>by cases e;exact⟨hr1,o,hr3,hr4⟩
  have uL:W.heap.size<=Y.heap.size:=Nat.le_trans XU (Nat.le_trans S1.size hr2.size);have J2:=hid (J1.own hr2 hYr hWw);have A2:=hid (T1.step hr2 (fun r e=>by cases e;exact lG hr3 hr4) (fun r e=>by cases e;exact T1.iK.jH hr3 hr4));have K2:=hid (sV.refl W.heap.size Fx Y);have hgt:g<V.heap.size:=by obtain⟨L,Y,h1,_⟩:=HS.out.ex;exact h1.iK.lt
  have hFt:¬Fx V.heap.size:=fun h=>by have:=uK _ h;omega
  have hwt:w.heap.size<=V.heap.size:=HS.out.gr.size;obtain⟨bt,hbt⟩:∃bt,bt=V.heap.size:=⟨_,rfl⟩;rw[<-hbt]at A2 hgt hFt hwt ⊢;have HGT:=hid (And.intro hgt (And.intro hFt hwt));clear T0 J1 T1 S1 hV1 hr1 hr2 hr3 hr4 hYr HS HC HM hbt hgt hFt hwt
  gi_step;gi_step;refine bH (by rfl) (fun⟨_,_,h⟩=>h) ?_
  go_wp2_with fail;refine Dh (fun a V=>∃(v31 v32 v33 v34 v35 v36 v37 v38 v39 v40 v41 v42 v43 v44 v45 v46 v47 v48 v49 v50 v51 v52:Value) (met:Int) (S2:List Term) (jL:Nat),a={ tmps:= #[.slice ao n cap,.slice bo m cb,.func (.func G) #[] #[],undef,undef,.pointer (some ⟨w.heap.size,0,none⟩),.slice none 0 0,.pointer (some ⟨w.heap.size+1,0,none⟩),.pointer (some ⟨w.heap.size+1+1,0,none⟩),.pointer (some ⟨ba,0,none⟩),undef,.pointer (some ⟨bt,0,none⟩),.int .i64 met,undef,.slice ao n cap,.int .i64 (n:Int),.slice ao n cap,.int .i64 (n:Int),.slice bo m cb,.int .i64 (m:Int),.int .i64 (N:Int),u21,u22,u23,u24,u25,u26,.slice bo m cb,.func (.func 134) #[] #[.pointer (some ⟨Bs,0,none⟩)],.int .i64 ((m-1-j:Nat):Int),.agg #[.bool tm,.slice ta tn tc,.slice tp tq tr],v31,v32,v33,v34,v35,v36,v37,v38,v39,v40,v41,v42,v43,v44,v45,v46,v47,v48,v49,v50,v51,v52,undef,undef,undef,undef,undef,undef,undef,undef,undef,undef,undef,undef,undef,undef,undef,undef,undef,undef,undef,undef,undef,undef,undef,undef,undef,undef,undef,undef,undef],defers:=[] }/\ Hid (kJ w g off cp N (w.heap.size+1) (w.heap.size+1+1) ba w.heap.size (.func (.func G) #[] #[]) X Q K p q S2 jL (jL:Int) ((N-S2.length:Nat):Int) V)/\ Hid (wJ bt tm ta tn tc tp tq tr t.1 t.2 V)/\ Hid (sV W.heap.size Fx Y V)/\ Hid (cK t.2 (p.take left).reverse S=((p.take jL).reverse,S2,met==0))/\ Hid (S2.length+jL=S.length+left)) ?_ ?_
  ·gi_step
   gi_step
   gi_loopw [12] (fun s12 wr=>∃(met:Int) (S2:List Term) (jL:Nat),s12= .int .i64 met/\ Hid (kJ w g off cp N (w.heap.size+1) (w.heap.size+1+1) ba w.heap.size (.func (.func G) #[] #[]) X Q K p q S2 jL (jL:Int) ((N-S2.length:Nat):Int) wr)/\ Hid (wJ bt tm ta tn tc tp tq tr t.1 t.2 wr)/\ Hid (sV W.heap.size Fx Y wr)/\ Hid (cK t.2 (p.take jL).reverse S2=cK t.2 (p.take left).reverse S)/\ Hid (S2.length+jL=S.length+left)/\ Hid (met≠0)) (fun _ wr=>leftOf (w.heap.size+1) wr)
   case atStart=>exact⟨1,S,left,rfl,J2.out,A2.out,K2.out,rfl,rfl,show(1:Int)≠0 by decide⟩
   case round=>
    obtain⟨met,S2,jL,rfl,HJ,HA,HK,Tq,HL,HN⟩:=hrel;by_cases h0:jL=0
    ·subst h0;have c7:=HJ.out.e7.c1
     gi_step;gi_step;gi_step;refine bH (by rfl) (fun⟨_,_,h⟩=>h) ?_
     go_wp2_with fail
     gi_wp2
     exact⟨_,_,_,_,_,_,_,_,_,_,_,_,_,_,_,_,_,_,_,_,_,_,met,S2,0,rfl,HJ.out,HA.out,HK.out,by rw[Hid,<-Tq.out];simp only[List.take_zero,List.reverse_nil,cK];congr 2;exact(beq_eq_false_iff_ne.2 HN.out).symm,HL.out⟩
    ·obtain⟨k,rfl⟩:∃k,jL=k+1:=⟨jL-1,by omega⟩;clear h0;have nu:Hid (leftOf (w.heap.size+1) wr=k+1):=BD HJ.out.e7;have e1:((k+1:Nat):Int)=(k:Int)+1:=by omega
     rw[e1]at HJ;have hkX:=HJ.out.ll;have hkp:k<p.length:=by rw[<-HJ.out.px.len];omega
     have hfit:=HJ.out.fit;have hll:=HL.out;have hle2:=HLE.out;have hjm:=HJM.out;have ae9:=HNM.out;obtain⟨pp,hpp⟩:∃pp,N-S2.length=pp+1:=⟨N-S2.length-1,by omega⟩;have e2:((N-S2.length:Nat):Int)=(pp:Int)+1:=by omega
     rw[e2]at HJ;have am0:k<pp:=by omega
     have hkN:k<N:=by omega
     have XW:pp<N:=by omega
     have hlt:S2.length+k<N:=by omega
     have hwk:IntKind.i64.wrap (k:Int)=(k:Int):=IntWalk.i64_in _ ⟨by omega,by omega⟩;have hwp:IntKind.i64.wrap (pp:Int)=(pp:Int):=IntWalk.i64_in _ ⟨by omega,by omega⟩;clear hkX hfit hll hle2 hjm ae9;obtain⟨xm,xa,xn,xc,xp,xq,xr,hXv,hc,rH,hBd,kU⟩:=HJ.out.get (k:=k) (by omega);obtain⟨u,hu⟩:∃u,u=p.getD k (0,[]):=⟨_,rfl⟩;rw[<-hu]at rH hBd kU;have Rs:aJ 0 u.2=true:=by rw[hu];exact KE.out _ (getD_in _ hkp)
     obtain⟨z,hz⟩:∃z,gN u.2 t.2=z:=⟨_,rfl⟩;have HSC:Hid (cK t.2 (u::(p.take k).reverse) S2=cK t.2 (p.take left).reverse S):=by rw[Hid,<-Tq.out,vM hkp,hu]
     have hgl:g<wr.heap.size:=by obtain⟨L,Y,h1,_⟩:=HJ.out.ex;exact h1.iK.lt
     have HCX:Hid (∀V,Below wr.heap.size wr V->V.cell? ⟨g,off+k*3,none⟩=some (.bool xm)/\ V.cell? ⟨g,off+k*3+1,none⟩=some (.slice xa xn xc)/\ V.cell? ⟨g,off+k*3+2,none⟩=some (.slice xp xq xr)):=fun V hV=>⟨(hV.cell (p:=⟨g,off+k*3,none⟩) hgl).trans hc.1,(hV.cell (p:=⟨g,off+k*3+1,none⟩) hgl).trans hc.2.1,(hV.cell (p:=⟨g,off+k*3+2,none⟩) hgl).trans hc.2.2⟩
     have HU:=hid (And.intro rH (And.intro hBd kU));have HUM:=hid Rs;have HZ:=hid hz;have XY:=hid (And.intro hpp (And.intro e2 hkp));have HUU:=hid hu;have HXV:=hid hXv;clear hXv hc rH hBd kU Rs hz hpp hgl hu hkp Tq;have hd:decide ((0:Int)<(k:Int)+1)=true:=decide_eq_true (by omega);have c7:=HJ.out.e7.c1
     gi_step;gi_step;gi_step;refine bH (by rfl) (fun⟨_,_,h⟩=>h) ?_
     go_wp2_with fail;clear c7 hd
     gi_step;gi_step;gi_step;gi_step;gi_step;gi_step;gi_step;refine sO (S:=fun w'=>w'.cell? ⟨ba,0,none⟩=some (.slice (some ⟨g,off,none⟩) N cp)/\ w'.cell? ⟨w.heap.size+1,0,none⟩=some (.int .i64 ((k:Int)+1))/\ (w'.cell? ⟨g,off+k*3,none⟩=some (.bool xm)/\ w'.cell? ⟨g,off+k*3+1,none⟩=some (.slice xa xn xc)/\ w'.cell? ⟨g,off+k*3+2,none⟩=some (.slice xp xq xr))/\ (w'.cell? ⟨bt,0,none⟩=some (.bool tm)/\ w'.cell? ⟨bt,1,none⟩=some (.slice ta tn tc)/\ w'.cell? ⟨bt,2,none⟩=some (.slice tp tq tr))) (by rfl) (fun⟨_,_,h⟩=>h) (by kernel_rfl) (⟨HJ.out.ea.c1,HJ.out.e7.c1,HCX.out _ (Below.refl _ _).drew,HA.out.iK.c3⟩) (fun hH=>?_)
     refine ak (fun w1 hW=>?_);have MI:Hid (Below wr.heap.size wr w1):=by rw[hW];exact(Below.refl _ _).drew
     rw[<-hW]at hH;clear hW;have HJ1:=hid (HJ.out.below MI.out);have HA1:=hid (HA.out.below MI.out);have aT:=hid (HK.out.below uK uL MI.out);clear HJ HA HK;refine aB 0 hH ?_;try simp only[ai]
     refine aB 1 hH ?_;try simp only[ai]
     refine aB 2 hH ?_;try simp only[ai]
     refine aB 3 hH ?_;try simp only[ai]
     refine aB 4 hH ?_;try simp only[ai]
     refine aB 5 hH ?_;try simp only[ai]
     refine aj 6 rfl (by kernel_rfl) (fun KK hK=>?_);go_simp;refine(rJ z (HU.out.2.2.below MI.out) HA1.out.ml HUM.out Jc.out HZ.out).mono ?_;rintro e w2 ⟨rfl,hB⟩;have HJ2:=hid (HJ1.out.below hB);have HA2:=hid (HA1.out.below hB);have bI:=hid (aT.out.below uK uL hB);have QB:=hid (Below.steps MI.out hB);clear hB HJ1 HA1 aT MI;go_wp2_with fail;clear hH;refine hK.out _ _ ⟨HJ2.out.ea.c1,HJ2.out.e7.c1,HCX.out _ QB.out,HA2.out.iK.c3⟩ fun hH=>?_;clear hK KK
     try simp only[ai]
     refine aB 7 hH ?_;try simp only[ai]
     refine wpAnyH_done (by kernel_rfl) ?_ _
     clear hH;go_wp2_with fail;by_cases hz0:z<0
     ·have hd8:decide ((0:Int)<=z)=false:=decide_eq_false (by omega)
      gi_step;refine bH (by rfl) (fun⟨_,_,h⟩=>h) ?_
      go_wp2_with fail;clear hd8;have Yc:Hid (fP K w2 [.bool xm,.slice xa xn xc,.slice xp xq xr] u):=⟨xm,xa,xn,xc,xp,xq,xr,rfl,HU.out.1.below QB.out,HU.out.2.1,HU.out.2.2.below QB.out⟩;have XZ:=hid (HCX.out _ QB.out);clear HU HCX QB
      gi_step;gi_step;gi_step;gi_step;refine Dh (fun a V=>∃(v31 v32 v33 v34 v35 v36 v37 v38 v39 v40 v41 v42 v43 v44 v45 v46 v47 v48 v49 v50 v51 v52:Value),a={ tmps:= #[.slice ao n cap,.slice bo m cb,.func (.func G) #[] #[],undef,undef,.pointer (some ⟨w.heap.size,0,none⟩),.slice none 0 0,.pointer (some ⟨w.heap.size+1,0,none⟩),.pointer (some ⟨w.heap.size+1+1,0,none⟩),.pointer (some ⟨ba,0,none⟩),undef,.pointer (some ⟨bt,0,none⟩),.int .i64 z,undef,.slice ao n cap,.int .i64 (n:Int),.slice ao n cap,.int .i64 (n:Int),.slice bo m cb,.int .i64 (m:Int),.int .i64 (N:Int),u21,u22,u23,u24,u25,u26,.slice bo m cb,.func (.func 134) #[] #[.pointer (some ⟨Bs,0,none⟩)],.int .i64 ((m-1-j:Nat):Int),.agg #[.bool tm,.slice ta tn tc,.slice tp tq tr],v31,v32,v33,v34,v35,v36,v37,v38,v39,v40,v41,v42,v43,v44,v45,v46,v47,v48,v49,v50,v51,v52,undef,undef,undef,undef,undef,undef,undef,undef,undef,undef,undef,undef,undef,undef,undef,undef,undef,undef,undef,undef,undef,undef,undef,undef,undef,undef,undef,undef,undef],defers:=[] }/\ Hid (kJ w g off cp N (w.heap.size+1) (w.heap.size+1+1) ba w.heap.size (.func (.func G) #[] #[]) X Q K p q S2 (k+1) (k:Int) (pp:Int) V)/\ Hid (wJ bt tm ta tn tc tp tq tr t.1 t.2 V)/\ Hid (sV W.heap.size Fx Y V)/\ Hid (fP K V [.bool xm,.slice xa xn xc,.slice xp xq xr] u)/\ Hid (V.cell? ⟨g,off+k*3,none⟩=some (.bool xm)/\ V.cell? ⟨g,off+k*3+1,none⟩=some (.slice xa xn xc)/\ V.cell? ⟨g,off+k*3+2,none⟩=some (.slice xp xq xr))) ?_ ?_
      ·refine sO (S:=fun _=>True) (by rfl) (fun⟨_,_,h⟩=>h) (by kernel_rfl) (trivial) (fun hH=>?_);refine ak (fun w3 hW=>?_);have HB3:Below w2.heap.size w2 w3:=by rw[hW];exact(Below.refl _ _).drew
       have Di:Hid (w3.cell? ⟨g,off+k*3,none⟩=some (.bool xm)/\ w3.cell? ⟨g,off+k*3+1,none⟩=some (.slice xa xn xc)/\ w3.cell? ⟨g,off+k*3+2,none⟩=some (.slice xp xq xr)):=by rw[hW];exact XZ.out
       clear hW;have mg:=hid (HJ2.out.below HB3);have QC:=hid (HA2.out.below HB3);have cO:=hid (bI.out.below uK uL HB3);have Yz:Hid (fP K w3 [.bool xm,.slice xa xn xc,.slice xp xq xr] u):=Yc.out.below HB3;clear HB3 HJ2 HA2 bI Yc XZ;refine wpAnyH_ready (rs:=[0,2]) (by kernel_rfl) (by simp) (dR rfl (fun KK hK=>?_) (dR rfl (fun KK hK=>?_) (AllReadyH.nil)))
       ·have c0:=mg.out.e7.c1;go_simp;clear c0;clear hH;refine hK.out _ _ trivial fun hH=>?_;clear hK KK
        try dsimp only
        refine aB 1 hH ?_;try simp only[ai]
        refine wpAnyH_ready (rs:=[2,4]) (by kernel_rfl) (by simp) (dR rfl (fun KK hK=>?_) (dR rfl (fun KK hK=>?_) (AllReadyH.nil)))
        ·have c0:=mg.out.e8.c1;go_simp;clear c0;clear hH;refine hK.out _ _ trivial fun hH=>?_;clear hK KK
         try dsimp only
         refine aB 3 hH ?_;try simp only[ai]
         refine aj 4 rfl (by kernel_rfl) (fun KK hK=>?_);have c0:=mg.out.e7.c1;have f0:=mg.out.e7.f1;go_simp;clear c0 f0;clear hH;refine hK.out _ _ trivial fun hH=>?_;clear hK KK
         try rw[ai.2.1]
         refine ak (fun w4 hW=>?_);have sP:Hid (kJ w g off cp N (w.heap.size+1) (w.heap.size+1+1) ba w.heap.size (.func (.func G) #[] #[]) X Q K p q S2 (k+1) (k:Int) ((pp:Int)+1) w4):=by rw[hW];exact mg.out.Tt _
         have Kb:Hid (wJ bt tm ta tn tc tp tq tr t.1 t.2 w4):=by rw[hW];exact QC.out.qU mg.out.e7 _
         have nU:Hid (sV W.heap.size Fx Y w4):=by rw[hW];exact cO.out.far uK uL mg.out.e7 QR.out.2.1 (aY _ _ 0 _)
         have QD:Hid (fP K w4 [.bool xm,.slice xa xn xc,.slice xp xq xr] u):=by rw[hW];exact ol mg.out.e7 _ Yz.out
         have Ad:Hid (w4.cell? ⟨g,off+k*3,none⟩=some (.bool xm)/\ w4.cell? ⟨g,off+k*3+1,none⟩=some (.slice xa xn xc)/\ w4.cell? ⟨g,off+k*3+2,none⟩=some (.slice xp xq xr)):=by rw[hW];exact jW mg.out.g7.1 Di.out
         clear mg QC cO Yz Di;clear hW;refine aj 5 rfl (by kernel_rfl) (fun KK hK=>?_);have c0:=sP.out.e8.c1;have f0:=sP.out.e8.f1;go_simp;clear c0 f0;clear hH;refine hK.out _ _ trivial fun hH=>?_;clear hK KK
         try rw[ai.2.1]
         refine ak (fun w5 hW=>?_);have F8:Hid (kJ w g off cp N (w.heap.size+1) (w.heap.size+1+1) ba w.heap.size (.func (.func G) #[] #[]) X Q K p q S2 (k+1) (k:Int) (pp:Int) w5):=by rw[hW];exact sP.out.Tv _
         have Bu:Hid (wJ bt tm ta tn tc tp tq tr t.1 t.2 w5):=by rw[hW];exact Kb.out.qU sP.out.e8 _
         have vw:Hid (sV W.heap.size Fx Y w5):=by rw[hW];exact nU.out.far uK uL sP.out.e8 QR.out.2.2 (aY _ _ 0 _)
         have QS:Hid (fP K w5 [.bool xm,.slice xa xn xc,.slice xp xq xr] u):=by rw[hW];exact ol sP.out.e8 _ QD.out
         have Dk:Hid (w5.cell? ⟨g,off+k*3,none⟩=some (.bool xm)/\ w5.cell? ⟨g,off+k*3+1,none⟩=some (.slice xa xn xc)/\ w5.cell? ⟨g,off+k*3+2,none⟩=some (.slice xp xq xr)):=by rw[hW];exact jW sP.out.g7.2.1 Ad.out
         clear sP Kb nU QD Ad;clear hW;refine wpAnyH_done (by kernel_rfl) ?_ _
         clear hH;exact⟨_,_,_,_,_,_,_,_,_,_,_,_,_,_,_,_,_,_,_,_,_,_,rfl,F8.out,Bu.out,vw.out,QS.out,Dk.out⟩
        ·have c0:=mg.out.e7.c1;have f0:=mg.out.e7.f1;go_simp;clear c0 f0;clear hH;refine hK.out _ _ trivial fun hH=>?_;clear hK KK
         try rw[ai.2.1]
         refine ak (fun w4 hW=>?_);have sP:Hid (kJ w g off cp N (w.heap.size+1) (w.heap.size+1+1) ba w.heap.size (.func (.func G) #[] #[]) X Q K p q S2 (k+1) (k:Int) ((pp:Int)+1) w4):=by rw[hW];exact mg.out.Tt _
         have Kb:Hid (wJ bt tm ta tn tc tp tq tr t.1 t.2 w4):=by rw[hW];exact QC.out.qU mg.out.e7 _
         have nU:Hid (sV W.heap.size Fx Y w4):=by rw[hW];exact cO.out.far uK uL mg.out.e7 QR.out.2.1 (aY _ _ 0 _)
         have QD:Hid (fP K w4 [.bool xm,.slice xa xn xc,.slice xp xq xr] u):=by rw[hW];exact ol mg.out.e7 _ Yz.out
         have Ad:Hid (w4.cell? ⟨g,off+k*3,none⟩=some (.bool xm)/\ w4.cell? ⟨g,off+k*3+1,none⟩=some (.slice xa xn xc)/\ w4.cell? ⟨g,off+k*3+2,none⟩=some (.slice xp xq xr)):=by rw[hW];exact jW mg.out.g7.1 Di.out
         clear mg QC cO Yz Di;clear hW;refine aj 2 rfl (by kernel_rfl) (fun KK hK=>?_);have c0:=sP.out.e8.c1;go_simp;clear c0;clear hH;refine hK.out _ _ trivial fun hH=>?_;clear hK KK
         try simp only[ai]
         refine aB 3 hH ?_;try simp only[ai]
         refine aj 5 rfl (by kernel_rfl) (fun KK hK=>?_);have c0:=sP.out.e8.c1;have f0:=sP.out.e8.f1;go_simp;clear c0 f0;clear hH;refine hK.out _ _ trivial fun hH=>?_;clear hK KK
         try rw[ai.2.1]
         refine ak (fun w5 hW=>?_);have F8:Hid (kJ w g off cp N (w.heap.size+1) (w.heap.size+1+1) ba w.heap.size (.func (.func G) #[] #[]) X Q K p q S2 (k+1) (k:Int) (pp:Int) w5):=by rw[hW];exact sP.out.Tv _
         have Bu:Hid (wJ bt tm ta tn tc tp tq tr t.1 t.2 w5):=by rw[hW];exact Kb.out.qU sP.out.e8 _
         have vw:Hid (sV W.heap.size Fx Y w5):=by rw[hW];exact nU.out.far uK uL sP.out.e8 QR.out.2.2 (aY _ _ 0 _)
         have QS:Hid (fP K w5 [.bool xm,.slice xa xn xc,.slice xp xq xr] u):=by rw[hW];exact ol sP.out.e8 _ QD.out
         have Dk:Hid (w5.cell? ⟨g,off+k*3,none⟩=some (.bool xm)/\ w5.cell? ⟨g,off+k*3+1,none⟩=some (.slice xa xn xc)/\ w5.cell? ⟨g,off+k*3+2,none⟩=some (.slice xp xq xr)):=by rw[hW];exact jW sP.out.g7.2.1 Ad.out
         clear sP Kb nU QD Ad;clear hW;refine wpAnyH_done (by kernel_rfl) ?_ _
         clear hH;exact⟨_,_,_,_,_,_,_,_,_,_,_,_,_,_,_,_,_,_,_,_,_,_,rfl,F8.out,Bu.out,vw.out,QS.out,Dk.out⟩
       ·have c0:=mg.out.e8.c1;go_simp;clear c0;clear hH;refine hK.out _ _ trivial fun hH=>?_;clear hK KK
        try dsimp only
        refine aB 3 hH ?_;try simp only[ai]
        refine aj 0 rfl (by kernel_rfl) (fun KK hK=>?_);have c0:=mg.out.e7.c1;go_simp;clear c0;clear hH;refine hK.out _ _ trivial fun hH=>?_;clear hK KK
        try simp only[ai]
        refine aB 1 hH ?_;try simp only[ai]
        refine aj 4 rfl (by kernel_rfl) (fun KK hK=>?_);have c0:=mg.out.e7.c1;have f0:=mg.out.e7.f1;go_simp;clear c0 f0;clear hH;refine hK.out _ _ trivial fun hH=>?_;clear hK KK
        try rw[ai.2.1]
        refine ak (fun w4 hW=>?_);have sP:Hid (kJ w g off cp N (w.heap.size+1) (w.heap.size+1+1) ba w.heap.size (.func (.func G) #[] #[]) X Q K p q S2 (k+1) (k:Int) ((pp:Int)+1) w4):=by rw[hW];exact mg.out.Tt _
        have Kb:Hid (wJ bt tm ta tn tc tp tq tr t.1 t.2 w4):=by rw[hW];exact QC.out.qU mg.out.e7 _
        have nU:Hid (sV W.heap.size Fx Y w4):=by rw[hW];exact cO.out.far uK uL mg.out.e7 QR.out.2.1 (aY _ _ 0 _)
        have QD:Hid (fP K w4 [.bool xm,.slice xa xn xc,.slice xp xq xr] u):=by rw[hW];exact ol mg.out.e7 _ Yz.out
        have Ad:Hid (w4.cell? ⟨g,off+k*3,none⟩=some (.bool xm)/\ w4.cell? ⟨g,off+k*3+1,none⟩=some (.slice xa xn xc)/\ w4.cell? ⟨g,off+k*3+2,none⟩=some (.slice xp xq xr)):=by rw[hW];exact jW mg.out.g7.1 Di.out
        clear mg QC cO Yz Di;clear hW;refine aj 5 rfl (by kernel_rfl) (fun KK hK=>?_);have c0:=sP.out.e8.c1;have f0:=sP.out.e8.f1;go_simp;clear c0 f0;clear hH;refine hK.out _ _ trivial fun hH=>?_;clear hK KK
        try rw[ai.2.1]
        refine ak (fun w5 hW=>?_);have F8:Hid (kJ w g off cp N (w.heap.size+1) (w.heap.size+1+1) ba w.heap.size (.func (.func G) #[] #[]) X Q K p q S2 (k+1) (k:Int) (pp:Int) w5):=by rw[hW];exact sP.out.Tv _
        have Bu:Hid (wJ bt tm ta tn tc tp tq tr t.1 t.2 w5):=by rw[hW];exact Kb.out.qU sP.out.e8 _
        have vw:Hid (sV W.heap.size Fx Y w5):=by rw[hW];exact nU.out.far uK uL sP.out.e8 QR.out.2.2 (aY _ _ 0 _)
        have QS:Hid (fP K w5 [.bool xm,.slice xa xn xc,.slice xp xq xr] u):=by rw[hW];exact ol sP.out.e8 _ QD.out
        have Dk:Hid (w5.cell? ⟨g,off+k*3,none⟩=some (.bool xm)/\ w5.cell? ⟨g,off+k*3+1,none⟩=some (.slice xa xn xc)/\ w5.cell? ⟨g,off+k*3+2,none⟩=some (.slice xp xq xr)):=by rw[hW];exact jW sP.out.g7.2.1 Ad.out
        clear sP Kb nU QD Ad;clear hW;refine wpAnyH_done (by kernel_rfl) ?_ _
        clear hH;exact⟨_,_,_,_,_,_,_,_,_,_,_,_,_,_,_,_,_,_,_,_,_,_,rfl,F8.out,Bu.out,vw.out,QS.out,Dk.out⟩
      ·rintro a V9 ⟨v31,v32,v33,v34,v35,v36,v37,v38,v39,v40,v41,v42,v43,v44,v45,v46,v47,v48,v49,v50,v51,v52,rfl,F8,Bu,vw,QS,Dk⟩;clear HJ2 HA2 bI Yc XZ;refine sO (S:=fun w'=>w'.cell? ⟨ba,0,none⟩=some (.slice (some ⟨g,off,none⟩) N cp)/\ w'.cell? ⟨w.heap.size+1,0,none⟩=some (.int .i64 (k:Int))/\ w'.cell? ⟨w.heap.size+1+1,0,none⟩=some (.int .i64 (pp:Int))/\ (w'.cell? ⟨g,off+k*3,none⟩=some (.bool xm)/\ w'.cell? ⟨g,off+k*3+1,none⟩=some (.slice xa xn xc)/\ w'.cell? ⟨g,off+k*3+2,none⟩=some (.slice xp xq xr))) (by rfl) (fun⟨_,_,h⟩=>h) (by kernel_rfl) (⟨F8.out.ea.c1,F8.out.e7.c1,F8.out.e8.c1,Dk.out⟩) (fun hH=>?_);refine ak (fun w6 hW=>?_);have q8:Below V9.heap.size V9 w6:=by rw[hW];exact(Below.refl _ _).drew
       have Tw:Hid (w6.cell? ⟨g,off+k*3,none⟩=some (.bool xm)/\ w6.cell? ⟨g,off+k*3+1,none⟩=some (.slice xa xn xc)/\ w6.cell? ⟨g,off+k*3+2,none⟩=some (.slice xp xq xr)):=by rw[hW];exact Dk.out
       rw[<-hW]at hH;clear hW;have X4:=hid (F8.out.below q8);have tJ:=hid (Bu.out.below q8);have HK6:=hid (vw.out.below uK uL q8);have HU6:Hid (fP K w6 [.bool xm,.slice xa xn xc,.slice xp xq xr] u):=QS.out.below q8;clear q8 F8 Bu vw QS Dk;refine aB 0 hH ?_;try simp only[ai]
       refine aB 1 hH ?_;try simp only[ai]
       refine aB 2 hH ?_;try simp only[ai]
       refine aB 3 hH ?_;try simp only[ai]
       refine aB 4 hH ?_;try simp only[ai]
       refine aB 5 hH ?_;try simp only[ai]
       refine aB 6 hH ?_;try simp only[ai]
       have e3:N-S2.length-1=pp:=by have:=XY.out.1;omega
       obtain⟨m2,JE,n2,cap2,bo2,l2,cb2,hv2,hC2,hD2,hM2⟩:=HU6.out;cases hv2;have Tx:=hid ((X4.out.drop (Nat.le_succ k)).put (t:=u) hlt hC2 (hD2.mono (Nat.le_succ K)) hM2);rw[e3]at Tx;clear hC2 hD2 hM2 e3;have Ar:=X4.out.spot XW;obtain⟨⟨y0,y1,y2,d0,d1,d2⟩,f0,f1,f2⟩:=Ar;have X5:∃L,aN w6 g L 54/\ Clean L:=by obtain⟨L,Y,h1,_⟩:=X4.out.ex;exact⟨L,h1.iK,h1.wS⟩
       obtain⟨LG,hg1,hg2⟩:=X5;refine aj 7 rfl (by kernel_rfl) (fun KK hK=>?_);go_simp;clear d0 d1 d2 f0 f1 f2;clear hH;refine hK.out _ _ ⟨Tx.out.ea.c1,Tx.out.e7.c1,Tx.out.e8.c1,(vN _ _ _ (.inl (by omega))).trans Tw.out.1,(vN _ _ _ (.inl (by omega))).trans Tw.out.2.1,(vN _ _ _ (.inl (by omega))).trans Tw.out.2.2⟩ fun hH=>?_;clear hK KK
       try simp only[ai]
       refine ak (fun w7 hW=>?_);have QE:Hid (kJ w g off cp N (w.heap.size+1) (w.heap.size+1+1) ba w.heap.size (.func (.func G) #[] #[]) X Q K p q (u::S2) k (k:Int) (pp:Int) w7):=by rw[hW];exact Tx.out
       have VH:Hid (wJ bt tm ta tn tc tp tq tr t.1 t.2 w7):=by rw[hW];exact tJ.out.step (dm _ _ _ _ _ _) (fun r e=>by cases e;exact(hg1.dF hg2).lX) (fun r e=>by cases e;have:=HGT.out.1;omega)
       have X6:Hid (sV W.heap.size Fx Y w7):=by rw[hW];exact HK6.out.far uK uL hg1 QR.out.1 (dm _ _ _ _ _ _)
       clear hW;clear X4 tJ HK6 Tx hg1 hg2 HU6 Tw;refine wpAnyH_done (by kernel_rfl) ?_ _
       clear hH;go_roundw
       case rel=>(repeat apply Exists.intro);exact⟨⟨z,u::S2,k,rfl,by rw[show((N-(u::S2).length:Nat):Int)=(pp:Int)from by have:=XY.out.1;rw[List.length_cons];omega];exact QE.out,VH.out,X6.out,by rw[Hid,<-HSC.out,cK,if_pos (by rw[HZ.out];exact hz0)],by have:=HL.out;rw[Hid,List.length_cons];omega,by rw[Hid];omega⟩,rfl⟩
       case measure=>rw[nu.out,BD QE.out.e7];omega
     ·have hd8:decide ((0:Int)<=z)=true:=decide_eq_true (by omega)
      gi_step;refine bH (by rfl) (fun⟨_,_,h⟩=>h) ?_
      go_wp2_with fail
      gi_wp2
      exact⟨_,_,_,_,_,_,_,_,_,_,_,_,_,_,_,_,_,_,_,_,_,_,z,S2,k+1,rfl,by rw[e1,XY.out.2.1];exact HJ2.out,HA2.out,bI.out,by rw[Hid,<-HSC.out,vM XY.out.2.2,<-HUU.out,cK,if_neg (by rw[HZ.out];omega),HZ.out],HL.out⟩
  ·rintro a V2 ⟨v31,v32,v33,v34,v35,v36,v37,v38,v39,v40,v41,v42,v43,v44,v45,v46,v47,v48,v49,v50,v51,v52,met,S2,jL,rfl,HJ,HA,HK,Tq,HL⟩;clear J2 A2 K2
   gi_step;refine bH (by rfl) (fun⟨_,_,h⟩=>h) ?_
   go_wp2_with fail;refine pM (fun V3 hW=>?_);have B3:Below V2.heap.size V2 V3:=by rw[hW];exact af _ _
   obtain⟨bn,hbn⟩:∃bn,bn=V2.heap.size:=⟨_,rfl⟩;have HN3:Hid (aN V3 bn [.bool false,.slice none 0 0] 50):=by rw[hW,hbn];exact aN.new V2 [.bool false,.slice none 0 0] 50
   have mg:=hid (HJ.out.below B3);have QC:=hid (HA.out.below B3);have cO:=hid (HK.out.below uK uL B3);have hnW:W.heap.size<=bn:=by rw[hbn];exact Nat.le_trans uL HK.out.kf.size
   have hgn:g<bn:=by rw[hbn];obtain⟨L,Y,h1,_⟩:=HJ.out.ex;exact h1.iK.lt
   have hFn:¬Fx bn:=fun h=>by have:=uK _ h;omega
   have hwn:w.heap.size<=bn:=by omega
   have HBN:=hid (And.intro hgn (And.intro hFn hwn));rw[<-hbn];clear hW B3 hbn HJ HA HK hnW hgn hFn hwn;refine Dh (fun a V=>∃(v31 v32 v33 v34 v35 v36 v37 v38 v39 v40 v41 v42 v43 v44 v45 v46 v47 v48 v49 v50 v51 v52 v53 v54 v55 v56 v57 v58 v59 v60 v61:Value) (kF:Nat) (nm:Bool) (na:Option Addr) (nn nc:Nat) (x:Int),a={ tmps:= #[.slice ao n cap,.slice bo m cb,.func (.func G) #[] #[],undef,undef,.pointer (some ⟨w.heap.size,0,none⟩),.slice none 0 0,.pointer (some ⟨w.heap.size+1,0,none⟩),.pointer (some ⟨w.heap.size+1+1,0,none⟩),.pointer (some ⟨ba,0,none⟩),undef,.pointer (some ⟨bt,0,none⟩),.int .i64 met,.pointer (some ⟨bn,0,none⟩),.slice ao n cap,.int .i64 (n:Int),.slice ao n cap,.int .i64 (n:Int),.slice bo m cb,.int .i64 (m:Int),.int .i64 (N:Int),u21,u22,u23,u24,u25,u26,.slice bo m cb,.func (.func 134) #[] #[.pointer (some ⟨Bs,0,none⟩)],.int .i64 ((m-1-j:Nat):Int),.agg #[.bool tm,.slice ta tn tc,.slice tp tq tr],v31,v32,v33,v34,v35,v36,v37,v38,v39,v40,v41,v42,v43,v44,v45,v46,v47,v48,v49,v50,v51,v52,v53,v54,v55,v56,v57,v58,v59,v60,v61,undef,undef,undef,undef,undef,undef,undef,undef,undef,undef,undef,undef,undef,undef,undef,undef,undef,undef,undef,undef],defers:=[] }/\ Hid (kJ w g off cp N (w.heap.size+1) (w.heap.size+1+1) ba w.heap.size (.func (.func G) #[] #[]) X Q K p q S2 kF (kF:Int) ((N-S2.length:Nat):Int) V)/\ Hid (wJ bt tm ta tn tc tp tq tr t.1 t.2 V)/\ Hid (sV W.heap.size Fx Y V)/\ Hid (aN V bn [.bool nm,.slice na nn nc] 50)/\ Hid (Cn V nm na nn nc x/\ Bd x K)/\ Hid (gP f ((p.take left).reverse,S) t=((p.take kF).reverse,if f x t.1=0 then S2 else(f x t.1,t.2)::S2))/\ Hid (S2.length+kF<=S.length+left)) ?_ ?_
   ·obtain⟨b,hb⟩:∃b,(met==0)=b:=⟨_,rfl⟩;rw[hb]at Tq;cases b with
    |false=>
     gi_step;gi_step;refine bH (by rfl) (fun⟨_,_,h⟩=>h) ?_
     go_wp2_with fail
     gi_wp2
     exact⟨_,_,_,_,_,_,_,_,_,_,_,_,_,_,_,_,_,_,_,_,_,_,_,_,_,_,_,_,_,_,_,jL,false,none,0,0,0,rfl,mg.out,QC.out,cO.out,HN3.out,⟨(Jy _).cn,bd0 K⟩,by rw[Hid];unfold gP;simp only[Tq.out,Bool.false_eq_true,if_false],by have:=HL.out;rw[Hid];omega⟩
    |true=>
     have hne:=zA Tq.out;obtain⟨k,rfl⟩:∃k,jL=k+1:=⟨jL-1,by rcases Nat.eq_zero_or_pos jL with e|e<;>first|(subst e;exact absurd rfl hne)|omega⟩;clear hne;have e1:((k+1:Nat):Int)=(k:Int)+1:=by omega
     rw[e1]at mg;have hkX:=mg.out.ll;have hkp:k<p.length:=by rw[<-mg.out.px.len];omega
     have hfit:=mg.out.fit;have hkN:k<N:=by omega
     have hwk:IntKind.i64.wrap (k:Int)=(k:Int):=IntWalk.i64_in _ ⟨by omega,by omega⟩;obtain⟨xm,xa,xn,xc,xp,xq,xr,hXv,hc,rH,hBd,_⟩:=mg.out.get (k:=k) (by omega);have HU:=hid (And.intro rH hBd);have HKP:=hid hkp;have Di:=hid hc;clear hXv hc rH hBd hkX hfit hkp;have c0:=mg.out.e7.c1;have f0:=mg.out.e7.f1
     gi_step;gi_step;refine bH (by rfl) (fun⟨_,_,h⟩=>h) ?_
     go_wp2_with fail
     gi_step
     gi_step;refine bH (by rfl) (fun⟨_,_,h⟩=>h) ?_
     go_wp2_with fail;clear c0 f0;refine pM (fun V4 hW=>?_);have sP:Hid (kJ w g off cp N (w.heap.size+1) (w.heap.size+1+1) ba w.heap.size (.func (.func G) #[] #[]) X Q K p q S2 (k+1) (k:Int) ((N-S2.length:Nat):Int) V4):=by rw[hW];exact mg.out.Tt _
     have Kb:Hid (wJ bt tm ta tn tc tp tq tr t.1 t.2 V4):=by rw[hW];exact QC.out.qU mg.out.e7 _
     have nU:Hid (sV W.heap.size Fx Y V4):=by rw[hW];exact cO.out.far uK uL mg.out.e7 QR.out.2.1 (aY _ _ 0 _)
     have Ty:Hid (aN V4 bn [.bool false,.slice none 0 0] 50):=by rw[hW];exact HN3.out.far (mg.out.e7.ne HN3.out (by decide)) 0 _
     have QD:Hid (Cn V4 xm xa xn xc (p.getD k (0,[])).1/\ Bd (p.getD k (0,[])).1 K):=by rw[hW];exact⟨HU.out.1.qU mg.out.e7 _,HU.out.2⟩
     have Ad:Hid (V4.cell? ⟨g,off+k*3,none⟩=some (.bool xm)/\ V4.cell? ⟨g,off+k*3+1,none⟩=some (.slice xa xn xc)/\ V4.cell? ⟨g,off+k*3+2,none⟩=some (.slice xp xq xr)):=by rw[hW];exact jW mg.out.g7.1 Di.out
     clear hW mg QC cO HN3 HU Di;have c0:=sP.out.ea.c1;have c1:=sP.out.e7.c1;obtain⟨d0,d1,d2⟩:=Ad.out;obtain⟨g0,g1⟩:=Ty.out.c2;have f0:=Ty.out.fz 0;have f1:=Ty.out.fz 1;refine bH (by rfl) (fun⟨_,_,h⟩=>h) ?_;go_wp2_with fail;clear c0 c1 d0 d1 d2 g0 g1 f0 f1
     gi_wp2
     refine MH (M:=fun a V=>∃(v31 v32 v33 v34 v35 v36 v37 v38 v39 v40 v41 v42 v43 v44 v45 v46 v47 v48 v49 v50 v51 v52 v53 v54 v55 v56 v57 v58 v59 v60 v61:Value) (kF:Nat) (nm:Bool) (na:Option Addr) (nn nc:Nat) (x:Int),a={ tmps:= #[.slice ao n cap,.slice bo m cb,.func (.func G) #[] #[],undef,undef,.pointer (some ⟨w.heap.size,0,none⟩),.slice none 0 0,.pointer (some ⟨w.heap.size+1,0,none⟩),.pointer (some ⟨w.heap.size+1+1,0,none⟩),.pointer (some ⟨ba,0,none⟩),undef,.pointer (some ⟨bt,0,none⟩),.int .i64 met,.pointer (some ⟨bn,0,none⟩),.slice ao n cap,.int .i64 (n:Int),.slice ao n cap,.int .i64 (n:Int),.slice bo m cb,.int .i64 (m:Int),.int .i64 (N:Int),u21,u22,u23,u24,u25,u26,.slice bo m cb,.func (.func 134) #[] #[.pointer (some ⟨Bs,0,none⟩)],.int .i64 ((m-1-j:Nat):Int),.agg #[.bool tm,.slice ta tn tc,.slice tp tq tr],v31,v32,v33,v34,v35,v36,v37,v38,v39,v40,v41,v42,v43,v44,v45,v46,v47,v48,v49,v50,v51,v52,v53,v54,v55,v56,v57,v58,v59,v60,v61,undef,undef,undef,undef,undef,undef,undef,undef,undef,undef,undef,undef,undef,undef,undef,undef,undef,undef,undef,undef],defers:=[] }/\ Hid (kJ w g off cp N (w.heap.size+1) (w.heap.size+1+1) ba w.heap.size (.func (.func G) #[] #[]) X Q K p q S2 kF (kF:Int) ((N-S2.length:Nat):Int) V)/\ Hid (wJ bt tm ta tn tc tp tq tr t.1 t.2 V)/\ Hid (sV W.heap.size Fx Y V)/\ Hid (aN V bn [.bool nm,.slice na nn nc] 50)/\ Hid (Cn V nm na nn nc x/\ Bd x K)/\ Hid (gP f ((p.take left).reverse,S) t=((p.take kF).reverse,if f x t.1=0 then S2 else(f x t.1,t.2)::S2))/\ Hid (S2.length+kF<=S.length+left)) (fun V5 hW=>?_);have HN5:Hid (aN V5 bn [.bool xm,.slice xa xn xc] 50):=by rw[hW];exact(Ty.out.set 0 _).set 1 _
     have F8:Hid (kJ w g off cp N (w.heap.size+1) (w.heap.size+1+1) ba w.heap.size (.func (.func G) #[] #[]) X Q K p q S2 (k+1) (k:Int) ((N-S2.length:Nat):Int) V5):=by rw[hW];exact sP.out.far Ty.out (zw _ _ _ _) (Nat.ne_of_gt HBN.out.1) (by decide) HBN.out.2.2 (fK _ _ 0 _ _)
     have Bu:Hid (wJ bt tm ta tn tc tp tq tr t.1 t.2 V5):=by rw[hW];exact Kb.out.step (fK _ _ 0 _ _) (fun r e=>by cases e;exact(Ty.out.dF (zw _ _ _ _)).lX) (fun r e=>by cases e;exact Ty.out.ne Kb.out.iK (by decide))
     have vw:Hid (sV W.heap.size Fx Y V5):=by rw[hW];exact nU.out.far uK uL Ty.out HBN.out.2.1 (fK _ _ 0 _ _)
     have QS:Hid (Cn V5 xm xa xn xc (p.getD k (0,[])).1/\ Bd (p.getD k (0,[])).1 K):=by rw[hW];exact⟨QD.out.1.stepG (fK _ _ 0 _ _) (fun r e=>by cases e;exact(Ty.out.dF (zw _ _ _ _)).lX),QD.out.2⟩
     exact⟨_,_,_,_,_,_,_,_,_,_,_,_,_,_,_,_,_,_,_,_,_,_,_,_,_,_,_,_,_,_,_,k,xm,xa,xn,xc,(p.getD k (0,[])).1,rfl,F8.out.drop (Nat.le_succ k),Bu.out,vw.out,HN5.out,QS.out,by rw[Hid];unfold gP;simp only[Tq.out,if_true];rw[vM HKP.out];rfl,by have:=HL.out;rw[Hid];omega⟩
   ·clear mg QC cO HN3 Tq;rintro a V5 ⟨v31,v32,v33,v34,v35,v36,v37,v38,v39,v40,v41,v42,v43,v44,v45,v46,v47,v48,v49,v50,v51,v52,v53,v54,v55,v56,v57,v58,v59,v60,v61,kF,nm,na,nn,nc,x,rfl,F8,Bu,vw,HN5,Tz,HST,Vq⟩;obtain⟨y,hy⟩:∃y,f x t.1=y:=⟨_,rfl⟩;have hyB:Bd y (K+1):=by rw[<-hy];exact HFB.out _ _ Tz.out.2 HD.out
    rw[hy]at HST;have HY:=hid hy;have HYB:=hid hyB;clear hy hyB;have c0:=F8.out.e5.c1;obtain⟨c1,c2⟩:=HN5.out.c2;obtain⟨d0,d1,d2⟩:=Bu.out.iK.c3
    gi_step;refine bH (by rfl) (fun⟨_,_,h⟩=>h) ?_
    go_wp2_with (go_at_fn G;refine(ZC.out _ _ _ _ _ _ _ _ x t.1 _ (Tz.out.1.cx Tz.out.2 (by omega)) (Bu.out.cn.cx HD.out (by omega))).mono ?_;rintro e w6 ⟨rm,ra,rn,rc,rfl,hR,hB⟩;have X4:=hid (F8.out.below hB);have tJ:=hid (Bu.out.below hB);have HK6:=hid (vw.out.below uK uL hB);rw[HY.out]at hR;have HR6:=hid hR;clear hR hB F8 Bu vw HN5 Tz c0 c1 c2 d0 d1 d2;obtain⟨d0,d1,d2⟩:=tJ.out.iK.c3;have f0:=tJ.out.iK.fz 0;have f1:=tJ.out.iK.fz 1);clear d0 d1 d2 f0 f1;refine pM (fun V7 hW=>?_);have hni:∀r,some bt=some r->jl w6 r:=fun r e=>by cases e;exact(tJ.out.iK.dF (qP _ _ _ _ _ _ _)).lX
    have Tx:Hid (kJ w g off cp N (w.heap.size+1) (w.heap.size+1+1) ba w.heap.size (.func (.func G) #[] #[]) X Q K p q S2 kF (kF:Int) ((N-S2.length:Nat):Int) V7):=by rw[hW];exact X4.out.far tJ.out.iK (qP _ _ _ _ _ _ _) (Nat.ne_of_gt HGT.out.1) (by decide) HGT.out.2.2 (fK _ _ 0 _ _)
    have HA7:Hid (wJ bt rm ra rn rc tp tq tr y t.2 V7):=by rw[hW];exact⟨(tJ.out.iK.set 0 _).set 1 _,HR6.out.stepG (fK _ _ 0 _ _) hni,tJ.out.ml.stepG (fK _ _ 0 _ _) hni⟩
    have HK7:Hid (sV W.heap.size Fx Y V7):=by rw[hW];exact HK6.out.far uK uL tJ.out.iK HGT.out.2.1 (fK _ _ 0 _ _)
    clear hW hni X4 tJ HK6 HR6;obtain⟨s,hs⟩:∃s,y.sign=s:=⟨_,rfl⟩;obtain⟨d0,d1,d2⟩:=HA7.out.iK.c3
    gi_step;refine bH (by rfl) (fun⟨_,_,h⟩=>h) ?_
    go_wp2_with fail;refine(uf s (HA7.out.cn.cx HYB.out (by omega)).nx hs).mono ?_;rintro e w8 ⟨rfl,hB⟩;have QE:=hid (Tx.out.below hB);have VH:=hid (HA7.out.below hB);have X6:=hid (HK7.out.below uK uL hB);clear hB Tx HA7 HK7 d0 d1 d2;have hsz:W.heap.size<=w8.heap.size:=Nat.le_trans uL X6.out.kf.size;by_cases hy0:y=0
    ·have hs0:s=0:=by rw[<-hs,hy0];rfl
     subst hs0;have HY0:=hid hy0;clear hy0;have hd0:((0:Int) !=0)=false:=rfl;go_wp2_with fail
     gi_wp2
     exact⟨X6.out.kf,X6.out.ft,hsz,S2,kF,QE.out,by rw[HF.out,HST.out,if_pos HY0.out],by have:=Vq.out;have:=HLE.out;omega⟩
    ·have hs0:(s !=0)=true:=by rw[<-hs];simp;exact hy0
     have HY0:=hid hy0;clear hy0;have hlt:S2.length+kF<N:=by have:=Vq.out;have:=HLE.out;have:=HJM.out;have:=HNM.out;omega
     obtain⟨pp,hpp⟩:∃pp,N-S2.length=pp+1:=⟨N-S2.length-1,by omega⟩;have e2:((N-S2.length:Nat):Int)=(pp:Int)+1:=by omega
     have e3:N-S2.length-1=pp:=by omega
     rw[e2]at QE;have XW:pp<N:=by omega
     have hwp:IntKind.i64.wrap (pp:Int)=(pp:Int):=IntWalk.i64_in _ ⟨by omega,by omega⟩;have XY:=hid (And.intro e3 hpp);clear hpp e2 e3;have HTC:=hid VH.out;go_wp2_with fail;have c0:=QE.out.e8.c1;have f0:=QE.out.e8.f1
     gi_step
     gi_step;refine bH (by rfl) (fun⟨_,_,h⟩=>h) ?_
     go_wp2_with fail;clear c0 f0;refine pM (fun V9 hW=>?_);have HJ9:Hid (kJ w g off cp N (w.heap.size+1) (w.heap.size+1+1) ba w.heap.size (.func (.func G) #[] #[]) X Q K p q S2 kF (kF:Int) (pp:Int) V9):=by rw[hW];exact QE.out.Tv _
     have Yf:Hid (wJ bt rm ra rn rc tp tq tr y t.2 V9):=by rw[hW];exact VH.out.qU QE.out.e8 _
     have HK9:Hid (sV W.heap.size Fx Y V9):=by rw[hW];exact X6.out.far uK uL QE.out.e8 QR.out.2.2 (aY _ _ 0 _)
     have am1:W.heap.size<=V9.heap.size:=Nat.le_trans uL HK9.out.kf.size;clear hW QE VH X6 hsz;have HP9:=hid (HJ9.out.put (t:=(y,t.2)) hlt Yf.out.cn HYB.out Yf.out.ml);rw[XY.out.1]at HP9;have X5:∃L,aN V9 g L 54/\ Clean L:=by obtain⟨L,Y,h1,_⟩:=HJ9.out.ex;exact⟨L,h1.iK,h1.wS⟩
     obtain⟨LG,hg1,hg2⟩:=X5;have HKP:=hid (HK9.out.far uK uL hg1 QR.out.1 (dm V9 g (off+pp*3) (.bool rm) (.slice ra rn rc) (.slice tp tq tr)));clear hg1 hg2;have c0:=HJ9.out.ea.c1;have c1:=HJ9.out.e8.c1;obtain⟨d0,d1,d2⟩:=Yf.out.iK.c3;obtain⟨⟨y0,y1,y2,e0,e1,e2⟩,f0,f1,f2⟩:=HJ9.out.spot XW;refine bH (by rfl) (fun⟨_,_,h⟩=>h) ?_;go_wp2_with fail;refine⟨HKP.out.kf,HKP.out.ft,Nat.le_trans uL HKP.out.kf.size,(y,t.2)::S2,kF,?_,by rw[HF.out,HST.out,if_neg HY0.out],by have:=Vq.out;have:=HLE.out;rw[List.length_cons];omega⟩;rw[show((N-((y,t.2)::S2).length:Nat):Int)=(pp:Int)from by have:=XY.out.2;rw[List.length_cons];omega];exact HP9.out
 case done=>
  rintro D V hD ⟨XU,S,left,hS,hF,hle⟩ hK;rw[List.take_of_length_le (by rw[List.length_reverse,uT.out];exact Nat.le_refl _)]at hF;obtain⟨L,Y,h1,h2,h3,h4,h5⟩:=hS.ex;have hll:=hS.ll;have hfit:=hS.fit;have hYl:=h5.len;have zf:(X.take left).length=left:=by rw[List.length_take];omega
  have HDL:=hid (IL h1 h2 zf h3 h4 (dP (fun v a h=>zh h) h5) (by omega) (by omega) hS.nc hN6);have hDg:D≠g:=fun e=>by subst e;have:=h1.iK;unfold aN at this;rw[hK]at this;cases this
  have af0:Hid (∀L2 V2,Rm g off cp L2 V2->Seg 3 L2 off (X.take left++Y)->V.grownBy V2 (some g)->∀V3,V2.grownBy V3 (some D)->(∃o:Obj,V2.heap[D]? =some o/\ o.isCells=false)->Pw B (K+1) V3 (some ⟨g,off,none⟩) ((X.take left).length+Y.length) cp ((pR f p q.reverse).1.reverse++(pR f p q.reverse).2)/\ (∃row,w.grownBy V3 row/\ (row=blk ao∨Below w.heap.size w V3))/\ (blk (some ⟨g,off,none⟩)=blk ao∨ ∀g',blk (some ⟨g,off,none⟩)=some g'->w.heap.size<=g')):=by
   intro L2 V2 hR2 hS2 hg2 V3 hg3 hob;obtain⟨o,ho1,ho2⟩:=hob;have n2:∀r,some g=some r->jl V r:=fun r e=>by cases e;exact(h1.iK.dF h1.wS).lX
   have n3:∀r,some D=some r->jl V2 r:=fun r e=>by cases e;exact lG ho1 ho2
   have hBg:B<=g:=by
    rcases hgw with h|h
    ·obtain⟨X0,hr,_⟩:=hp;exact(hr.lt g h).1
    ·omega
   have hR3:Rm g off cp L2 V3:=hR2.stepG hg3 (fun r e=>by cases e;exact hDg);have X7:w.grownBy V3 (some g):=vO (ay hS.gr hg2) (by omega) hg3;rw[hF];simp only[List.reverse_reverse];have hEx:Each 3 (X.take left):=fun vs hv=>hS.hx vs (List.mem_of_mem_take hv)
   refine⟨⟨X.take left++Y,⟨.inr ⟨g,off,L2,rfl,hBg,hR3.iK,hR3.wS,hR3.room,by have:=hS.nc;rw[zf];omega,hR3.big,by rw[zf];omega,by rw[List.length_append],hEx.append h4,hS2⟩⟩,?_⟩,?_,?_⟩
   ·exact gB hg3 n3 (gB hg2 n2 (bG.append ((vK hS.px (Nat.le_succ K)).take left) h5))
   ·rcases hgw with h|h
    ·exact⟨some g,X7,.inl h.symm⟩
    ·exact⟨some g,X7,.inr (fw X7 h (Nat.le_refl _))⟩
   ·rcases hgw with h|h
    ·exact .inl h.symm
    ·exact .inr fun g2 e=>by cases e;exact h
  have c0:=hS.ea.c1;have c1:=hS.e7.c1;have c2:=hS.e8.c1;have HKD:=hid hK;have hDV:D<V.heap.size:=(Array.getElem?_eq_some_iff.1 hK).1;clear hS hF hle hK h1 h2 h3 h4 h5 hYl hll hfit zf
  dsimp only
  go_wp2_with fail;refine HDL.out.mono ?_;rintro e V2 ⟨L2,rfl,hR2,hS2,hgr⟩;have hK2:V2.heap[D]? =some (.deferred (some [])):=(hgr.block D hDV (fun e=>hDg (Option.some.inj e))).trans HKD.out;have HF2:=hid (af0.out L2 V2 hR2 hS2 hgr _ (grownBy_putObj' V2 D (.deferred none)) ⟨_,hK2,rfl⟩);clear hR2 hS2 hgr af0 HDL c0 c1 c2;go_wp2_with fail;refine⟨by simp,.inl ⟨_,_,rfl,run_takeDeferred hK2,?_⟩⟩;have HF3:=HF2.out;rw[List.length_take]at HF3;exact⟨_,results_tmp rfl _ _ _,_,_,_,rfl,HF3⟩
end Go.Proofs.YthdhjckangekoaaGreat
