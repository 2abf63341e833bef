import Derived.Test.YtmenbpmciblnlaaGreatDoorGP3
set_option maxHeartbeats 0
set_option maxRecDepth 100000
open And renaming intro->ah5
open Go renaming Value->ah7,World->ah6
open Go.IntKind renaming i64->ah8
open Go.IntWalk renaming i64_in->ah9
open Go.RowKit renaming Below->ai0
open Go.RowKit.Below renaming heap_setCell->ai1,refl->ai2
open Go.Value renaming bool->ai4,slice->ai3
open List renaming length_cons->ai6,length_take->ai8,take_of_length_le->ai5,take_zero->ai7
open Nat renaming le_refl->aj1,le_succ->aj2,le_trans->aj0,lt_of_lt_of_le->ai9,ne_of_gt->aj3
namespace Go.Proofs.YtmenbpmciblnlaaGreatDoor
open Lib (hid)
open Go.RowKit
structure qB [Ol] (w:ah6) (g off cp N n b7 b8 b5:Nat) (fv:ah7) (X Q:List (List ah7)) (K:Nat) (p q:List ai) (V:ah6):Prop where
 ex:∃L,Rm g off cp L V/\ jo 3 L off X
 hx:Each 3 X
 px:bV (gL K V) X p
 qx:bV (gL K V) Q q
 e7:aS V b7 [.int .i64 (n:Int)] 3
 e8:aS V b8 [.int .i64 (N:Int)] 3
 e5:aS V b5 [fv] 121
 bw:ai0 w.heap.size w V
 nn:p.length=n
 le:n<=N
 nc:N<=cp
 h7:w.heap.size<=b7
 h8:w.heap.size<=b8
 ZB:b7≠b8
theorem qB.step [Ol] {w:ah6} {g off cp N n b7 b8 b5:Nat} {fv:ah7} {X Q:List (List ah7)} {K:Nat} {p q:List ai} {V V':ah6} (h:qB w g off cp N n b7 b8 b5 fv X Q K p q V) {row:Option Nat} (hg:V.grownBy V' row) (hn:∀r,row=some r->iL V r)
  (hne:∀r,row=some r->r≠g/\ r≠b7/\ r≠b8/\ r≠b5/\ w.heap.size<=r):qB w g off cp N n b7 b8 b5 fv X Q K p q V':=by
 obtain⟨L,h1,h2⟩:=h.ex
 exact{ h with
  ex:=⟨L,h1.cP hg (λr e=>(hne r e).1),h2⟩,px:=fT hg hn h.px,qx:=fT hg hn h.qx
  e7:=h.e7.cP hg (λr e=>(hne r e).2.1),e8:=h.e8.cP hg (λr e=>(hne r e).2.2.1),e5:=h.e5.cP hg (λr e=>(hne r e).2.2.2.1)
  bw:=h.bw.grown hg h.bw.size (λr e=>(hne r e).2.2.2.2) }
theorem qB.below [Ol] {w:ah6} {g off cp N n b7 b8 b5:Nat} {fv:ah7} {X Q:List (List ah7)} {K:Nat} {p q:List ai} {V V':ah6} (h:qB w g off cp N n b7 b8 b5 fv X Q K p q V) (hb:ai0 V.heap.size V V'):qB w g off cp N n b7 b8 b5 fv X Q K p q V':=
 h.step (cu none hb) (λ_ e=>by cases e) (λ_ e=>by cases e)
theorem qB.dy [Ol] {w:ah6} {g off cp N n b7 b8 b5:Nat} {fv:ah7} {X Q:List (List ah7)} {K:Nat} {p q:List ai} {V V':ah6} (h:qB w g off cp N n b7 b8 b5 fv X Q K p q V) {c:Nat} {L:List ah7} (hA:aS V c L 23) (hc:et L) (hw:w.heap.size<=c) (hg:V.grownBy V' (some c)):qB w g off cp N n b7 b8 b5 fv X Q K p q V':=by
 obtain⟨M,h1,_⟩:=h.ex;exact h.step hg (λr e=>by cases e;exact(hA.dD hc).jK) (λr e=>by cases e;exact⟨hA.ne h1.dY (by decide),hA.ne h.e7 (by decide),hA.ne h.e8 (by decide),hA.ne h.e5 (by decide),hw⟩)
theorem qB.jst [Ol] {w:ah6} {g off cp N n b7 b8 b5 ba:Nat} {fv:ah7} {X Q:List (List ah7)} {K:Nat} {p q:List ai} {V:ah6} (h:qB w g off cp N n b7 b8 b5 fv X Q K p q V) (ha:aS V ba [ai3 (some ⟨g,off,none⟩) N cp] 23):
  jW w g off cp N b7 b8 ba b5 fv X Q K p q [] n (n:Int) (N:Int) V:=by
 obtain⟨L,h1,h2⟩:=h.ex;have hX:=h.px.len;have hn:=h.nn
 exact{ ex:=⟨L,[],h1,by rw[ai5 (by omega)];exact h2,jo.nil _ _ _,(λ_ h=>by cases h),trivial⟩,px:=h.px,qx:=h.qx,e7:=h.e7,e8:=h.e8,ea:=ha,e5:=h.e5,gr:=cu _ h.bw
        fit:=by simpa using h.le,ll:=by omega,nc:=h.nc,h7:=h.h7,h8:=h.h8,ZB:=h.ZB,hx:=h.hx }
theorem GQ (ao:Z') (n ae:Nat):et [ai3 ao n ae]:=λu hu=>by simp at hu;subst hu;rfl
theorem aS.jf {V:ah6} {b r:Nat} {L:List ah7} {T:TypeId} (h:aS V b L T) {o:Obj} (hr:V.heap[r]? =some o) (ho:o.isCells=false):r≠b:=λe=>by
 subst e;unfold aS at h;rw[h]at hr;cases hr;cases ho
theorem jW.own [Ol] {w:ah6} {g off ae N b7 b8 ba b5:Nat} {fv:ah7} {X Q:List (List ah7)} {K:Nat} {p q S:List ai} {left:Nat} {lf pl:Int} {V V':ah6} (h:jW w g off ae N b7 b8 ba b5 fv X Q K p q S left lf pl V) {B:Nat} {row:Option Nat} (hg:V.grownBy V' row)
  (hr:∀r,row=some r->B<=r/\∃o:Obj,V.heap[r]? =some o/\ o.isCells=false) (hB:w.heap.size<=B):jW w g off ae N b7 b8 ba b5 fv X Q K p q S left lf pl V':=by
 obtain⟨L,Y,h1,_⟩:=h.ex;refine h.step hg (λr e=>?_) (λr e=>?_)
 ·obtain⟨_,o,h2,h3⟩:=hr r e;exact kA h2 h3
 ·obtain⟨h4,o,h2,h3⟩:=hr r e;exact⟨h1.dY.jf h2 h3,h.e7.jf h2 h3,h.e8.jf h2 h3,h.ea.jf h2 h3,h.e5.jf h2 h3,by omega⟩
theorem mX [Ol] {V:ah6} {b:Nat} {z:Int} {T:TypeId} (hA:aS V b [.int .i64 z] T) (u:ah7) {K:Nat} {vs:List ah7} {t:ai} (h:gL K V vs t):gL K (V.setCell ⟨b,0,none⟩ u) vs t:=by
 obtain⟨m,ao,n,ae,bo,k,cb,h1,h2,h3,h4⟩:=h;exact⟨m,ao,n,ae,bo,k,cb,h1,h2.pL hA u,h3,h4.pL hA u⟩
theorem jD {V:ah6} {g b o:Nat} (h:g≠b) {x y z u:ah7} {o2:Nat} (hc:V.cell? ⟨g,o,none⟩=some x/\ V.cell? ⟨g,o+1,none⟩=some y/\ V.cell? ⟨g,o+2,none⟩=some z):
  (V.setCell ⟨b,o2,none⟩ u).cell? ⟨g,o,none⟩=some x/\ (V.setCell ⟨b,o2,none⟩ u).cell? ⟨g,o+1,none⟩=some y/\ (V.setCell ⟨b,o2,none⟩ u).cell? ⟨g,o+2,none⟩=some z:=
 ⟨(cell_of_heap (ai1 _ _ _ _ h)).trans hc.1,(cell_of_heap (a:=⟨g,o+1,none⟩) (ai1 _ _ _ _ h)).trans hc.2.1,(cell_of_heap (a:=⟨g,o+2,none⟩) (ai1 _ _ _ _ h)).trans hc.2.2⟩
structure rN (B:Nat) (Fx:Nat->Prop) (Y V:ah6):Prop where
 kf:KeepsFrom B Y V
 ft:ij Fx Y V
theorem rN.refl (B:Nat) (Fx:Nat->Prop) (Y:ah6):rN B Fx Y Y:=⟨KeepsFrom.refl _ _,ij.refl _ _⟩
theorem rN.below {B:Nat} {Fx:Nat->Prop} {Y V V':ah6} (h:rN B Fx Y V) (hF:∀k,Fx k->k<B) (hB:B<=Y.heap.size) (hb:ai0 V.heap.size V V'):rN B Fx Y V':=
 ⟨h.kf.trans ((KeepsOthers.of_grownBy (cu none hb) (λ_ _ e=>by cases e)).from _),h.ft.trans (ij.below hb λk hk=>ai9 (hF k hk) (aj0 hB h.kf.size))⟩
theorem rN.dy {B:Nat} {Fx:Nat->Prop} {Y V V':ah6} (h:rN B Fx Y V) (hF:∀k,Fx k->k<B) (hB:B<=Y.heap.size) {r:Nat} {L:List ah7} {T:TypeId} (hA:aS V r L T) (hr:¬Fx r) (hg:V.grownBy V' (some r)):rN B Fx Y V':=
 ⟨h.kf.trans ((KeepsOthers.of_grownBy hg (λj o e ho=>by cases e;unfold aS at hA;rw[hA]at ho;cases ho;rfl)).from _),h.ft.trans λk hk=>hg.block k (ai9 (hF k hk) (aj0 hB h.kf.size)) (λe=>hr (by cases e;exact hk))⟩
theorem BS {P:Program} {l:Nat} {x y:Code} {Q:Exit->Act->ah6->Prop} {a:Act} {w:ah6} (M:Act->ah6->Prop) (h1:x.wpIn (Fence.wide.inRound l) 0 P (Exit.then M Q) a w) (h2:∀a w,M a w->y.wpIn (Fence.wide.inRound l) 0 P Q a w):(Code.seq x y).wpIn (Fence.wide.inRound l) 0 P Q a w:=
 wpIn_seq (wpIn_mono h1 λe a w q=>by cases e<;>first|exact h2 _ _ q|exact q)
def Cc (b:Nat) (V:ah6):Nat:=match V.cell? ⟨b,0,none⟩with
 |some (.int _ z)=>z.toNat
 | _=>0
theorem Ak {b:Nat} {V:ah6} {k:Nat} {T:TypeId} (h:aS V b [.int .i64 (k:Int)] T):Cc b V=k:=by
 unfold Cc;rw[h.c1];simp
structure uP [Ol] (bt:Nat) (tm:Bool) (ta:Option Addr) (tn tc:Nat) (tp:Option Addr) (tq tr:Nat) (z:Int) (ps:List (Int×Int)) (V:ah6):Prop where
 dY:aS V bt [ai4 tm,ai3 ta tn tc,ai3 tp tq tr] 70
 cn:Cn V tm ta tn tc z
 ml:Ml V tp tq tr ps
theorem uP.step [Ol] {bt:Nat} {tm:Bool} {ta:Z'} {tn tc:Nat} {tp:Z'} {tq tr:Nat} {z:Int} {ps:List (Int×Int)} {V V':ah6} (h:uP bt tm ta tn tc tp tq tr z ps V) {row:Option Nat} (hg:V.grownBy V' row) (hn:∀r,row=some r->iL V r) (hne:∀r,row=some r->r≠bt):uP bt tm ta tn tc tp tq tr z ps V':=
 ⟨h.dY.cP hg hne,h.cn.cP hg hn,h.ml.cP hg hn⟩
theorem uP.below [Ol] {bt:Nat} {tm:Bool} {ta:Z'} {tn tc:Nat} {tp:Z'} {tq tr:Nat} {z:Int} {ps:List (Int×Int)} {V V':ah6} (h:uP bt tm ta tn tc tp tq tr z ps V) (hb:ai0 V.heap.size V V'):uP bt tm ta tn tc tp tq tr z ps V':=h.step (cu none hb) (λ_ e=>by cases e) (λ_ e=>by cases e)
theorem uP.pL [Ol] {bt:Nat} {tm:Bool} {ta:Z'} {tn tc:Nat} {tp:Z'} {tq tr:Nat} {z:Int} {ps:List (Int×Int)} {V:ah6} (h:uP bt tm ta tn tc tp tq tr z ps V) {b:Nat} {y:Int} (hA:aS V b [.int .i64 y] 3) (u:ah7):uP bt tm ta tn tc tp tq tr z ps (V.setCell ⟨b,0,none⟩ u):=
 ⟨h.dY.dy (hA.ne h.dY (by decide)) 0 u,h.cn.pL hA u,h.ml.pL hA u⟩
theorem tY {p:List ai} {k:Nat} (hk:k<p.length):(p.take (k+1)).reverse=p.getD k (0,[])::(p.take k).reverse:=by
 rw[List.take_succ_eq_append_getElem hk,List.reverse_append,gI _ hk];rfl
theorem tZ {w:ah6} {g o i:Nat} (a b c:ah7) (hi:i<o∨o+3<=i):(((w.setCell ⟨g,o,none⟩ a).setCell ⟨g,o+1,none⟩ b).setCell ⟨g,o+2,none⟩ c).cell? ⟨g,i,none⟩=w.cell? ⟨g,i,none⟩:=by
 have h:∀(V:ah6) (x:Nat) (v:ah7),x≠i->(V.setCell ⟨g,x,none⟩ v).cell? ⟨g,i,none⟩=V.cell? ⟨g,i,none⟩:=λV x v hx=>by
  apply World.cell?_setCell_other
  intro e;cases e;exact hx rfl
 rw[h _ _ _ (by omega),h _ _ _ (by omega),h _ _ _ (by omega)]
theorem nW {F:Fence} {n:Nat} {P:Program} {c:Code} {Q:Exit->Act->ah6->Prop} {a:Act} {w:ah6} (h:∀W,W=w->c.wpIn F n P Q a W):c.wpIn F n P Q a w:=h w rfl
theorem Lv {M:Act->ah6->Prop} {a:Act} {w:ah6} (h:∀W,W=w->M a W):M a w:=h w rfl
theorem xP {m:List (Int×Int)}:∀{r S r' S':List ai},dB m r S=(r',S',true)->r'≠[]
 |[],S,r',S',h=>by simp[dB]at h
 |u::r,S,r',S',h=>by
  unfold dB at h;split at h
  ·exact xP h
  ·simp only[Prod.mk.injEq]at h;rw[<-h.1];simp
theorem bd0 (K:Nat):Bd 0 K:=Nat.pow_pos (by omega)
def JRd [Ol] (w:ah6) (g off ae N b7 b8 ba b5:Nat) (fv:ah7) (X Q:List (List ah7)) (K:Nat) (f:Int->Int->Int) (p q:List ai) (n B0 j:Nat) (V:ah6):Prop:=
 B0<=V.heap.size/\∃(S:List ai) (left:Nat),jW w g off ae N b7 b8 ba b5 fv X Q K p q S left (left:Int) ((N-S.length:Nat):Int) V/\ nZ f p (q.reverse.take j)=((p.take left).reverse,S)/\ S.length+left<=n+j
theorem K9 [Ol] {G:Nat} (eg:∀args w,(callFunc G args).run Tryz.prog w= .ok (.enter G args) w) {f:Int->Int->Int} {B K:Nat} {ao bo:Z'} {n ae m cb:Nat} {p q:List ai} {w:ah6} (hp:Pw B K w ao n ae p) (hq:Pc K w bo m cb q) (hm0:0<m) (hnm:n+m<=1000000) (hK:K<=900000) (hmp:gG p) (PL:gG q)
  (hne:∀g,eQ ao=some g->eQ bo≠some g) (hBw:B<=w.heap.size) (hfB:∀x y,Bd x K->Bd y K->Bd (f x y) (K+1))
  (hJ:∀(m k:Bool) (ao bo:Option Addr) (n ae l cb:Nat) (x y:Int) (W:ah6),Cx W m ao n ae x->Cx W k bo l cb y->Calls Tryz.prog G #[.agg #[ai4 m,ai3 ao n ae],.agg #[ai4 k,ai3 bo l cb]] W (mA W (f x y))):
  Calls Tryz.prog 70 #[ai3 ao n ae,ai3 bo m cb,.func (.func G) #[] #[]] w (λe V=>∃ro rn rc,e= .returned (ai3 ro rn rc)/\ Pw B (K+1) V ro rn rc ((nZ f p q.reverse).1.reverse++(nZ f p q.reverse).2)/\ (∃row,w.grownBy V row/\ (row=eQ ao∨ai0 w.heap.size w V))/\ (eQ ro=eQ ao∨ ∀g',eQ ro=some g'->w.heap.size<=g')):=by
 have hlq:=hq.len;obtain⟨Q,hGq,hTq⟩:=hq.ex;obtain⟨N,hN⟩:∃N,N=n+m:=⟨_,rfl⟩;have hNN:(n:Int)+(m:Int)=(N:Int):=by omega
 have hN6:N<=1000000:=by omega
 have hnN:n<=N:=by omega
 have Wu:=hid hGq;have Qr:=hid hTq;have PM:=hid hmp;have Ye:=hid PL;have HFB:=hid hfB;have Yk:=hid hJ;have HNE:=hid hne;have Ff:=hid hlq;have HNM:=hid hN;clear hGq hTq hmp PL hfB hJ hne hlq hN;refine lj Tryz.func70 rfl ?_;simp only[Tryz.ntmps70,List.size_toArray,ai6,List.length_nil,Nat.reduceAdd,Nat.reduceSub,Array.replicate_succ,Array.replicate_zero,List.push_toArray,List.append_toArray,List.nil_append,List.cons_append];go_upto_region 2 with(fail)
 refine aj (λW hW=>?_);obtain⟨a5,a7,a8,hB⟩:=Vo w [.func (.func G) #[] #[]] [.int .i64 (n:Int)] [.int .i64 (N:Int)] 121 3 3;rw[<-hW]at a5 a7 a8 hB;clear hW;have E50:=hid a5;have Vp:=hid a7;have RY:=hid a8;have Vq:=hid hB;have QX0:=hid (fF Qr.o hB);clear a5 a7 a8 hB;go_cut [9]from 21 to 26 (λs9 w9=>∃(ba g off cp:Nat) (X:List (List ah7)),s9= .pointer (some ⟨ba,0,none⟩)/\ (eQ ao=some g∨w.heap.size<=g)/\ ai0 w.heap.size w w9/\ jW w g off cp N (w.heap.size+1) (w.heap.size+1+1) ba w.heap.size (.func (.func G) #[] #[]) X Q K p q [] n (n:Int) (N:Int) w9)
 case first=>
  refine wp_region_held_drew (S:=λw'=>w'.cell? ⟨w.heap.size+1+1,0,none⟩=some (.int .i64 (N:Int))) (by kernel_rfl) RY.o.c1 (λhH=>?_);refine ah (λw1 hW=>?_);have S1:ai0 W.heap.size W w1:=by rw[hW];exact(ai2 _ _).drew
  have E51:=hid (E50.o.below S1);have RZ:=hid (Vp.o.below S1);have K6:=hid (RY.o.below S1);have QX1:=hid (fF QX0.o S1);have IZ:=hid (Below.ar Vq.o S1);rw[<-hW]at hH;clear S1 E50 Vp RY QX0 Vq hW;refine aT 0 hH ?_;try simp only[ax]
  refine aT 1 hH ?_;try simp only[ax]
  refine aT 2 hH ?_;try simp only[ax]
  refine aT 4 hH ?_;try simp only[ax]
  refine wpAnyH_ready (rs:=[3,6]) (by kernel_rfl) (by simp) (aM rfl (λKK hK=>?_) (aM rfl (λKK hK=>?_) AllReadyH.nil))
  ·go_simp;refine(Eu (hp.below IZ.o) hm0 hnm).mono ?_;rintro e w2 ⟨g,off,cp,L,X,rfl,ZC,hcap,hE,hS,ZE,hB,hgb⟩;have G2:Hid (qB w g off cp N n (w.heap.size+1) (w.heap.size+1+1) w.heap.size (.func (.func G) #[] #[]) X Q K p q w2):=⟨⟨L,ZC,hS⟩,hE,ZE,fF QX1.o hB,RZ.o.below hB,K6.o.below hB,E51.o.below hB,Below.ar IZ.o hB,hp.len,hnN,by omega,by omega,by omega,by omega⟩;have hgw:eQ ao=some g∨w.heap.size<=g:=hgb.imp id (λh=>aj0 IZ.o.size h);have ae3:N<=cp:=by omega
   have ae4:n<=cp:=by omega
   clear ZC hcap hE hS ZE hB hgb QX1 RZ K6 E51 IZ;go_wp2_with fail;clear hH;refine hK.o _ _ G2.o.e8.c1 λhH=>?_;clear hK KK
   try simp only[ax]
   refine aT 5 hH ?_;try simp only[ax]
   refine ag 6 rfl (by kernel_rfl) (λKK hK=>?_);go_simp;have EAx:aS (w2.alloc (.cells #[ai3 none 0 0] 23)) w2.heap.size [ai3 none 0 0] 23:=aS.cS w2 [ai3 none 0 0] 23;have Gx:=G2.o.below (af w2 (.cells #[ai3 none 0 0] 23));have ER:=hid EAx;have G3:=hid Gx;clear EAx Gx;clear hH;refine hK.o _ _ G3.o.e8.c1 λhH=>?_;clear hK KK
   try simp only[ax]
   refine ah (λw3 hW=>?_);have ZF:Hid (aS w3 w2.heap.size [ai3 none 0 0] 23):=by rw[hW];exact ER.o
   have G3b:Hid (qB w g off cp N n (w.heap.size+1) (w.heap.size+1+1) w.heap.size (.func (.func G) #[] #[]) X Q K p q w3):=by rw[hW];exact G3.o
   rw[<-hW]at hH;clear ER G3;have ER:=hid ZF.o;have G3:=hid G3b.o;clear ZF G3b hW;refine ag 7 rfl (by kernel_rfl) (λKK hK=>?_);have c0:=ER.o.c1;have f0:=ER.o.f1;go_simp;clear c0 f0;clear hH;refine hK.o _ _ (aS.c1 (T:=3) (G3.o.e8.dy (G3.o.e8.ne ER.o (by decide)).symm 0 _)) λhH=>?_;clear hK KK
   try simp only[ax]
   refine ah (λw4 hW=>?_);have Vr:Hid (aS w4 w2.heap.size [ai3 (some ⟨g,off,none⟩) N cp] 23):=by rw[hW];exact ER.o.set 0 _
   have G4:Hid (qB w g off cp N n (w.heap.size+1) (w.heap.size+1+1) w.heap.size (.func (.func G) #[] #[]) X Q K p q w4):=by rw[hW];exact G3.o.dy ER.o (GQ _ _ _) G2.o.bw.size (br _ _ 0 _)
   rw[<-hW]at hH;clear hW;clear G2 G3 ER;refine wpAnyH_done (by kernel_rfl) ?_ _
   go_wp2_with fail;go_meet
   case rel=>exact⟨_,g,off,cp,X,rfl,hgw,G4.o.bw,G4.o.jst Vr.o⟩
  ·go_simp;have S2:ai0 w1.heap.size w1 (w1.alloc (.cells #[ai3 none 0 0] 23)):=af _ _;clear hH;refine hK.o _ _ (aS.c1 (T:=3) (K6.o.below S2)) λhH=>?_;clear hK KK
   try simp only[ax]
   refine ah (λw2 hW=>?_);have S3:ai0 w1.heap.size w1 w2:=by rw[hW];exact S2
   have EP:Hid (aS w2 w1.heap.size [ai3 none 0 0] 23):=by rw[hW];exact aS.cS w1 [ai3 none 0 0] 23
   have TA:=hid (RZ.o.below S3);have K7:=hid (K6.o.below S3);have E52:=hid (E51.o.below S3);have QX2:=hid (fF QX1.o S3);have TB:=hid (Below.ar IZ.o S3);have hw1:=IZ.o.size;rw[<-hW]at hH;clear S3 S2 RZ K6 E51 QX1 IZ hW;refine ag 3 rfl (by kernel_rfl) (λKK hK=>?_);go_simp;refine(Eu (hp.below TB.o) hm0 hnm).mono ?_;rintro e w3 ⟨g,off,cp,L,X,rfl,ZC,hcap,hE,hS,ZE,hB,hgb⟩;have G3:Hid (qB w g off cp N n (w.heap.size+1) (w.heap.size+1+1) w.heap.size (.func (.func G) #[] #[]) X Q K p q w3):=⟨⟨L,ZC,hS⟩,hE,ZE,fF QX2.o hB,TA.o.below hB,K7.o.below hB,E52.o.below hB,Below.ar TB.o hB,hp.len,hnN,by omega,by omega,by omega,by omega⟩;have hgw:eQ ao=some g∨w.heap.size<=g:=hgb.imp id (λh=>aj0 TB.o.size h);have ER:=hid (EP.o.below hB);have ae3:N<=cp:=by omega
   have ae4:n<=cp:=by omega
   clear ZC hcap hE hS ZE hB hgb QX2 TA K7 E52 TB EP;go_wp2_with fail;clear hH;refine hK.o _ _ G3.o.e8.c1 λhH=>?_;clear hK KK
   try simp only[ax]
   refine aT 5 hH ?_;try simp only[ax]
   refine ag 7 rfl (by kernel_rfl) (λKK hK=>?_);have c0:=ER.o.c1;have f0:=ER.o.f1;go_simp;clear c0 f0;clear hH;refine hK.o _ _ (aS.c1 (T:=3) (G3.o.e8.dy (G3.o.e8.ne ER.o (by decide)).symm 0 _)) λhH=>?_;clear hK KK
   try simp only[ax]
   refine ah (λw4 hW=>?_);have Vr:Hid (aS w4 w1.heap.size [ai3 (some ⟨g,off,none⟩) N cp] 23):=by rw[hW];exact ER.o.set 0 _
   have G4:Hid (qB w g off cp N n (w.heap.size+1) (w.heap.size+1+1) w.heap.size (.func (.func G) #[] #[]) X Q K p q w4):=by rw[hW];exact G3.o.dy ER.o (GQ _ _ _) hw1 (br _ _ 0 _)
   rw[<-hW]at hH;clear hW;clear G3 ER;refine wpAnyH_done (by kernel_rfl) ?_ _
   go_wp2_with fail;go_meet
   case rel=>exact⟨_,g,off,cp,X,rfl,hgw,G4.o.bw,G4.o.jst Vr.o⟩
 case rest=>
 clear E50 Vp RY QX0 Vq;obtain⟨ba,g,off,cp,X,rfl,hgw,HBC,HJS⟩:=hcut;have ZG:=hid HJS;have HBc:=hid HBC;clear HJS HBC;go_wp2_with fail;refine(D6 _).mono ?_;rintro e Hs ⟨rfl,rfl⟩;go_wp2_with fail;refine aj (λW hW=>?_);have S1:ai0 wc.heap.size wc W:=by rw[hW];exact af _ _
 have HB0:Hid (ai0 w.heap.size w W):=Below.ar HBc.o S1;have ZH:=hid (ZG.o.below S1);obtain⟨Bs,Im⟩:∃Bs,Bs=wc.heap.size:=⟨_,rfl⟩;have R4:Hid (aS W Bs [ai3 bo m cb] 23):=by rw[hW,Im];exact aS.cS wc [ai3 bo m cb] 23
 have hgl:g<wc.heap.size:=by obtain⟨L,Y,h1,_⟩:=ZG.o.ex;exact h1.dY.lt
 have h7l:=ZG.o.e7.lt;have h8l:=ZG.o.e8.lt;rw[<-Im]at hgl h7l h8l ⊢;clear hW S1 ZG HBc Im;have eB:∀args w,(callFunc 170 args).run Tryz.prog w= .ok (.enter 170 args) w:=enters_of Tryz.func170 (by kernel_rfl) rfl;obtain⟨Fx,BM⟩:∃Fx:Nat->Prop,Fx=λk=>k=Bs∨ ∃ad:Addr,bo=some ad/\ k=ad.block:=⟨_,rfl⟩
 have QR:∀ad:Addr,bo=some ad->ad.block<w.heap.size:=λad had=>Wu.o.lt ad had hm0
 have hFg:¬Fx g:=by
   rw[BM];rintro(h|⟨ad,h1,h2⟩)
   ·omega
   ·have h3:=QR ad h1;rcases hgw with h|h
    ·exact HNE.o g h (by rw[h1,h2];rfl)
    ·omega
 have hF7:¬Fx (w.heap.size+1):=by
   rw[BM];rintro(h|⟨ad,h1,h2⟩)
   ·omega
   ·have h3:=QR ad h1;omega
 have hF8:¬Fx (w.heap.size+1+1):=by
   rw[BM];rintro(h|⟨ad,h1,h2⟩)
   ·omega
   ·have h3:=QR ad h1;omega
 have td:∀k,Fx k->k<W.heap.size:=by
   rw[BM];rintro k (h|⟨ad,h1,h2⟩)
   ·rw[h];exact R4.o.lt
   ·have h3:=QR ad h1;have:=HB0.o.size;omega
 have hWw:=HB0.o.size;have GN:=G' (Fx:=Fx) (Wu.o.below HB0.o) R4.o.c1 (by rw[BM];exact .inl rfl) (by rw[BM];exact λad had=> .inr ⟨ad,had,rfl⟩);have PX:=hid (ah5 hFg (ah5 hF7 hF8));have HFX:=hid BM;clear hFg hF7 hF8 BM;refine(wpIn_wide (n:=0)).1 (jA rfl eB GN td (λj=>rfl) (JRd w g off cp N (w.heap.size+1) (w.heap.size+1+1) ba w.heap.size (.func (.func G) #[] #[]) X Q K f p q n W.heap.size) ?own ?start ?round ?done)
 case own=>exact λj A B row hs hg hr=>by obtain⟨h0,S,left,h1,h2⟩:=hs;exact⟨aj0 h0 hg.size,S,left,h1.own hg hr hWw,h2⟩
 case start=>exact⟨aj1 _,[],n,ZH.o,by rw[ai7,ai5 (by rw[hp.len];exact aj1 _)];rfl,by simp⟩
 case round=>
  clear ZH;rintro l j V hj ⟨Vt,S,left,hS,hF,hle⟩;have hk:m-1-j<q.length:=by rw[Ff.o];omega
  obtain⟨t,ht⟩:∃t,t=q.getD (m-1-j) (0,[]):=⟨_,rfl⟩;obtain⟨tm,ta,tn,tc,tp,tq,tr,hv,hC,hD,hM⟩:=bV.get (0,[]) hS.qx (m-1-j) hk;rw[<-ht]at hC hD hM;have LK:aQ 0 t.2=true:=by rw[ht];exact Ye.o _ (gK _ hk)
  have hstep:=FM f p q (j:=j) (by rw[Ff.o];exact hj);rw[Ff.o,<-ht,hF]at hstep;have HS:=hid hS;have HC:=hid hC;have HD:=hid hD;have HM:=hid hM;have Mj:=hid LK;have HF:=hid hstep;have HLE:=hid hle;have HJM:=hid hj;clear hS hC hD hM LK hstep hle hj hF hk ht;refine cj (by rfl) (λ⟨_,_,h⟩=>h) ?_;rw[show D5 m Q j= #[.int .i64 ((m-1-j:Nat):Int),.agg #[ai4 tm,ai3 ta tn tc,ai3 tp tq tr]]from by unfold D5;rw[hv]];clear hv;go_wp2_with fail;obtain⟨V1,hV1⟩:∃V1,V1=V.alloc (.cells #[ai4 tm,ai3 ta tn tc,ai3 tp tq tr] 70):=⟨_,rfl⟩;rw[<-hV1];have S1:ai0 V.heap.size V V1:=by rw[hV1];exact af _ _
  have T1:uP V.heap.size tm ta tn tc tp tq tr t.1 t.2 V1:=⟨by rw[hV1];exact aS.cS V [ai4 tm,ai3 ta tn tc,ai3 tp tq tr] 70,HC.o.below S1,HM.o.below S1⟩;have J1:=HS.o.below S1;have T0:=rN.below (rN.refl W.heap.size Fx V) td Vt S1;refine⟨T0.kf,T0.ft,λY hY=>?_⟩;obtain⟨r,hr1,hr2,o,hr3,hr4⟩:=hY;have Zh:∀r2,some r=some r2->W.heap.size<=r2/\∃o:Obj,V1.heap[r2]? =some o/\ o.isCells=false:=λr2 e=>by cases e;exact⟨hr1,o,hr3,hr4⟩
  have th:W.heap.size<=Y.heap.size:=aj0 Vt (aj0 S1.size hr2.size);have J2:=hid (J1.own hr2 Zh hWw);have A2:=hid (T1.step hr2 (λr e=>by cases e;exact kA hr3 hr4) (λr e=>by cases e;exact T1.dY.jf hr3 hr4));have K2:=hid (rN.refl W.heap.size Fx Y);have hgt:g<V.heap.size:=by obtain⟨L,Y,h1,_⟩:=HS.o.ex;exact h1.dY.lt
  have hFt:¬Fx V.heap.size:=λh=>by have:=td _ h;omega
  have hwt:w.heap.size<=V.heap.size:=HS.o.gr.size;obtain⟨bt,hbt⟩:∃bt,bt=V.heap.size:=⟨_,rfl⟩;rw[<-hbt]at A2 hgt hFt hwt ⊢;have HGT:=hid (ah5 hgt (ah5 hFt hwt));clear T0 J1 T1 S1 hV1 hr1 hr2 hr3 hr4 Zh HS HC HM hbt hgt hFt hwt
  gi_step;gi_step;refine cj (by rfl) (λ⟨_,_,h⟩=>h) ?_
  go_wp2_with fail;refine BS (λa V=>∃(v31 v32 v33 v34 v35 v36 v37 v38 v39 v40 v41 v42 v43 v44 v45 v46 v47 v48 v49 v50 v51 v52:ah7) (met:Int) (S2:List ai) (js:Nat),a={ tmps:= #[ai3 ao n ae,ai3 bo m cb,.func (.func G) #[] #[],undef,undef,.pointer (some ⟨w.heap.size,0,none⟩),ai3 none 0 0,.pointer (some ⟨w.heap.size+1,0,none⟩),.pointer (some ⟨w.heap.size+1+1,0,none⟩),.pointer (some ⟨ba,0,none⟩),undef,.pointer (some ⟨bt,0,none⟩),.int .i64 met,undef,ai3 ao n ae,.int .i64 (n:Int),ai3 ao n ae,.int .i64 (n:Int),ai3 bo m cb,.int .i64 (m:Int),.int .i64 (N:Int),u21,u22,u23,u24,u25,u26,ai3 bo m cb,.func (.func 170) #[] #[.pointer (some ⟨Bs,0,none⟩)],.int .i64 ((m-1-j:Nat):Int),.agg #[ai4 tm,ai3 ta tn tc,ai3 tp tq tr],v31,v32,v33,v34,v35,v36,v37,v38,v39,v40,v41,v42,v43,v44,v45,v46,v47,v48,v49,v50,v51,v52,undef,undef,undef,undef,undef,undef,undef,undef,undef,undef,undef,undef,undef,undef,undef,undef,undef,undef,undef,undef,undef,undef,undef,undef,undef,undef,undef,undef,undef],defers:=[] }/\ Hid (jW w g off cp N (w.heap.size+1) (w.heap.size+1+1) ba w.heap.size (.func (.func G) #[] #[]) X Q K p q S2 js (js:Int) ((N-S2.length:Nat):Int) V)/\ Hid (uP bt tm ta tn tc tp tq tr t.1 t.2 V)/\ Hid (rN W.heap.size Fx Y V)/\ Hid (dB t.2 (p.take left).reverse S=((p.take js).reverse,S2,met==0))/\ Hid (S2.length+js=S.length+left)) ?_ ?_
  ·gi_step
   gi_step
   gi_loopw [12] (λs12 wr=>∃(met:Int) (S2:List ai) (js:Nat),s12= .int .i64 met/\ Hid (jW w g off cp N (w.heap.size+1) (w.heap.size+1+1) ba w.heap.size (.func (.func G) #[] #[]) X Q K p q S2 js (js:Int) ((N-S2.length:Nat):Int) wr)/\ Hid (uP bt tm ta tn tc tp tq tr t.1 t.2 wr)/\ Hid (rN W.heap.size Fx Y wr)/\ Hid (dB t.2 (p.take js).reverse S2=dB t.2 (p.take left).reverse S)/\ Hid (S2.length+js=S.length+left)/\ Hid (met≠0)) (λ_ wr=>Cc (w.heap.size+1) wr)
   case atStart=>exact⟨1,S,left,rfl,J2.o,A2.o,K2.o,rfl,rfl,show(1:Int)≠0 by decide⟩
   case round=>
    obtain⟨met,S2,js,rfl,HJ,HA,HK,LP,HL,HN⟩:=hrel;by_cases h0:js=0
    ·subst h0;have c7:=HJ.o.e7.c1
     gi_step;gi_step;gi_step;refine cj (by rfl) (λ⟨_,_,h⟩=>h) ?_
     go_wp2_with fail
     gi_wp2
     exact⟨_,_,_,_,_,_,_,_,_,_,_,_,_,_,_,_,_,_,_,_,_,_,met,S2,0,rfl,HJ.o,HA.o,HK.o,by rw[Hid,<-LP.o];simp only[ai7,List.reverse_nil,dB];congr 2;exact(beq_eq_false_iff_ne.2 HN.o).symm,HL.o⟩
    ·obtain⟨k,rfl⟩:∃k,js=k+1:=⟨js-1,by omega⟩;clear h0;have HLO:Hid (Cc (w.heap.size+1) wr=k+1):=Ak HJ.o.e7;have e1:((k+1:Nat):Int)=(k:Int)+1:=by omega
     rw[e1]at HJ;have hkX:=HJ.o.ll;have hkp:k<p.length:=by rw[<-HJ.o.px.len];omega
     have hfit:=HJ.o.fit;have hll:=HL.o;have hle2:=HLE.o;have hjm:=HJM.o;have YQ:=HNM.o;obtain⟨pp,hpp⟩:∃pp,N-S2.length=pp+1:=⟨N-S2.length-1,by omega⟩;have e2:((N-S2.length:Nat):Int)=(pp:Int)+1:=by omega
     rw[e2]at HJ;have ah0:k<pp:=by omega
     have hkN:k<N:=by omega
     have VQ:pp<N:=by omega
     have hlt:S2.length+k<N:=by omega
     have hwk:ah8.wrap (k:Int)=(k:Int):=ah9 _ ⟨by omega,by omega⟩;have hwp:ah8.wrap (pp:Int)=(pp:Int):=ah9 _ ⟨by omega,by omega⟩;clear hkX hfit hll hle2 hjm YQ;obtain⟨xm,xa,xn,xc,xp,xq,xr,hXv,hc,rL,hBd,lZ⟩:=HJ.o.get (k:=k) (by omega);obtain⟨u,hu⟩:∃u,u=p.getD k (0,[]):=⟨_,rfl⟩;rw[<-hu]at rL hBd lZ;have YC:aQ 0 u.2=true:=by rw[hu];exact PM.o _ (gK _ hkp)
     obtain⟨z,hz⟩:∃z,iq u.2 t.2=z:=⟨_,rfl⟩;have HSC:Hid (dB t.2 (u::(p.take k).reverse) S2=dB t.2 (p.take left).reverse S):=by rw[Hid,<-LP.o,tY hkp,hu]
     have hgl:g<wr.heap.size:=by obtain⟨L,Y,h1,_⟩:=HJ.o.ex;exact h1.dY.lt
     have HCX:Hid (∀V,ai0 wr.heap.size wr V->V.cell? ⟨g,off+k*3,none⟩=some (ai4 xm)/\ V.cell? ⟨g,off+k*3+1,none⟩=some (ai3 xa xn xc)/\ V.cell? ⟨g,off+k*3+2,none⟩=some (ai3 xp xq xr)):=λV hV=>⟨(hV.cell (p:=⟨g,off+k*3,none⟩) hgl).trans hc.1,(hV.cell (p:=⟨g,off+k*3+1,none⟩) hgl).trans hc.2.1,(hV.cell (p:=⟨g,off+k*3+2,none⟩) hgl).trans hc.2.2⟩
     have HU:=hid (ah5 rL (ah5 hBd lZ));have HUM:=hid YC;have HZ:=hid hz;have LF:=hid (ah5 hpp (ah5 e2 hkp));have HUU:=hid hu;have HXV:=hid hXv;clear hXv hc rL hBd lZ YC hz hpp hgl hu hkp LP;have hd:decide ((0:Int)<(k:Int)+1)=true:=decide_eq_true (by omega);have c7:=HJ.o.e7.c1
     gi_step;gi_step;gi_step;refine cj (by rfl) (λ⟨_,_,h⟩=>h) ?_
     go_wp2_with fail;clear c7 hd
     gi_step;gi_step;gi_step;gi_step;gi_step;gi_step;gi_step;refine rG (S:=λw'=>w'.cell? ⟨ba,0,none⟩=some (ai3 (some ⟨g,off,none⟩) N cp)/\ w'.cell? ⟨w.heap.size+1,0,none⟩=some (.int .i64 ((k:Int)+1))/\ (w'.cell? ⟨g,off+k*3,none⟩=some (ai4 xm)/\ w'.cell? ⟨g,off+k*3+1,none⟩=some (ai3 xa xn xc)/\ w'.cell? ⟨g,off+k*3+2,none⟩=some (ai3 xp xq xr))/\ (w'.cell? ⟨bt,0,none⟩=some (ai4 tm)/\ w'.cell? ⟨bt,1,none⟩=some (ai3 ta tn tc)/\ w'.cell? ⟨bt,2,none⟩=some (ai3 tp tq tr))) (by rfl) (λ⟨_,_,h⟩=>h) (by kernel_rfl) (⟨HJ.o.ea.c1,HJ.o.e7.c1,HCX.o _ (ai2 _ _).drew,HA.o.dY.c3⟩) (λhH=>?_)
     refine ah (λw1 hW=>?_);have Lx:Hid (ai0 wr.heap.size wr w1):=by rw[hW];exact(ai2 _ _).drew
     rw[<-hW]at hH;clear hW;have ZH:=hid (HJ.o.below Lx.o);have HA1:=hid (HA.o.below Lx.o);have aL:=hid (HK.o.below td th Lx.o);clear HJ HA HK;refine aT 0 hH ?_;try simp only[ax]
     refine aT 1 hH ?_;try simp only[ax]
     refine aT 2 hH ?_;try simp only[ax]
     refine aT 3 hH ?_;try simp only[ax]
     refine aT 4 hH ?_;try simp only[ax]
     refine aT 5 hH ?_;try simp only[ax]
     refine ag 6 rfl (by kernel_rfl) (λKK hK=>?_);go_simp;refine(zG z (HU.o.2.2.below Lx.o) HA1.o.ml HUM.o Mj.o HZ.o).mono ?_;rintro e w2 ⟨rfl,hB⟩;have HJ2:=hid (ZH.o.below hB);have HA2:=hid (HA1.o.below hB);have bH:=hid (aL.o.below td th hB);have Pa:=hid (Below.ar Lx.o hB);clear hB ZH HA1 aL Lx;go_wp2_with fail;clear hH;refine hK.o _ _ ⟨HJ2.o.ea.c1,HJ2.o.e7.c1,HCX.o _ Pa.o,HA2.o.dY.c3⟩ λhH=>?_;clear hK KK
     try simp only[ax]
     refine aT 7 hH ?_;try simp only[ax]
     refine wpAnyH_done (by kernel_rfl) ?_ _
     clear hH;go_wp2_with fail;by_cases hz0:z<0
     ·have hd8:decide ((0:Int)<=z)=false:=decide_eq_false (by omega)
      gi_step;refine cj (by rfl) (λ⟨_,_,h⟩=>h) ?_
      go_wp2_with fail;clear hd8;have HU2:Hid (gL K w2 [ai4 xm,ai3 xa xn xc,ai3 xp xq xr] u):=⟨xm,xa,xn,xc,xp,xq,xr,rfl,HU.o.1.below Pa.o,HU.o.2.1,HU.o.2.2.below Pa.o⟩;have VR:=hid (HCX.o _ Pa.o);clear HU HCX Pa
      gi_step;gi_step;gi_step;gi_step;refine BS (λa V=>∃(v31 v32 v33 v34 v35 v36 v37 v38 v39 v40 v41 v42 v43 v44 v45 v46 v47 v48 v49 v50 v51 v52:ah7),a={ tmps:= #[ai3 ao n ae,ai3 bo m cb,.func (.func G) #[] #[],undef,undef,.pointer (some ⟨w.heap.size,0,none⟩),ai3 none 0 0,.pointer (some ⟨w.heap.size+1,0,none⟩),.pointer (some ⟨w.heap.size+1+1,0,none⟩),.pointer (some ⟨ba,0,none⟩),undef,.pointer (some ⟨bt,0,none⟩),.int .i64 z,undef,ai3 ao n ae,.int .i64 (n:Int),ai3 ao n ae,.int .i64 (n:Int),ai3 bo m cb,.int .i64 (m:Int),.int .i64 (N:Int),u21,u22,u23,u24,u25,u26,ai3 bo m cb,.func (.func 170) #[] #[.pointer (some ⟨Bs,0,none⟩)],.int .i64 ((m-1-j:Nat):Int),.agg #[ai4 tm,ai3 ta tn tc,ai3 tp tq tr],v31,v32,v33,v34,v35,v36,v37,v38,v39,v40,v41,v42,v43,v44,v45,v46,v47,v48,v49,v50,v51,v52,undef,undef,undef,undef,undef,undef,undef,undef,undef,undef,undef,undef,undef,undef,undef,undef,undef,undef,undef,undef,undef,undef,undef,undef,undef,undef,undef,undef,undef],defers:=[] }/\ Hid (jW w g off cp N (w.heap.size+1) (w.heap.size+1+1) ba w.heap.size (.func (.func G) #[] #[]) X Q K p q S2 (k+1) (k:Int) (pp:Int) V)/\ Hid (uP bt tm ta tn tc tp tq tr t.1 t.2 V)/\ Hid (rN W.heap.size Fx Y V)/\ Hid (gL K V [ai4 xm,ai3 xa xn xc,ai3 xp xq xr] u)/\ Hid (V.cell? ⟨g,off+k*3,none⟩=some (ai4 xm)/\ V.cell? ⟨g,off+k*3+1,none⟩=some (ai3 xa xn xc)/\ V.cell? ⟨g,off+k*3+2,none⟩=some (ai3 xp xq xr))) ?_ ?_
      ·refine rG (S:=λ_=>True) (by rfl) (λ⟨_,_,h⟩=>h) (by kernel_rfl) (trivial) (λhH=>?_);refine ah (λw3 hW=>?_);have HB3:ai0 w2.heap.size w2 w3:=by rw[hW];exact(ai2 _ _).drew
       have BU:Hid (w3.cell? ⟨g,off+k*3,none⟩=some (ai4 xm)/\ w3.cell? ⟨g,off+k*3+1,none⟩=some (ai3 xa xn xc)/\ w3.cell? ⟨g,off+k*3+2,none⟩=some (ai3 xp xq xr)):=by rw[hW];exact VR.o
       clear hW;have lA:=hid (HJ2.o.below HB3);have Pb:=hid (HA2.o.below HB3);have bU:=hid (bH.o.below td th HB3);have WW:Hid (gL K w3 [ai4 xm,ai3 xa xn xc,ai3 xp xq xr] u):=HU2.o.below HB3;clear HB3 HJ2 HA2 bH HU2 VR;refine wpAnyH_ready (rs:=[0,2]) (by kernel_rfl) (by simp) (aM rfl (λKK hK=>?_) (aM rfl (λKK hK=>?_) AllReadyH.nil))
       ·have c0:=lA.o.e7.c1;go_simp;clear c0;clear hH;refine hK.o _ _ trivial λhH=>?_;clear hK KK
        try dsimp only
        refine aT 1 hH ?_;try simp only[ax]
        refine wpAnyH_ready (rs:=[2,4]) (by kernel_rfl) (by simp) (aM rfl (λKK hK=>?_) (aM rfl (λKK hK=>?_) AllReadyH.nil))
        ·have c0:=lA.o.e8.c1;go_simp;clear c0;clear hH;refine hK.o _ _ trivial λhH=>?_;clear hK KK
         try dsimp only
         refine aT 3 hH ?_;try simp only[ax]
         refine ag 4 rfl (by kernel_rfl) (λKK hK=>?_);have c0:=lA.o.e7.c1;have f0:=lA.o.e7.f1;go_simp;clear c0 f0;clear hH;refine hK.o _ _ trivial λhH=>?_;clear hK KK
         try rw[ax.2.1]
         refine ah (λw4 hW=>?_);have rH:Hid (jW w g off cp N (w.heap.size+1) (w.heap.size+1+1) ba w.heap.size (.func (.func G) #[] #[]) X Q K p q S2 (k+1) (k:Int) ((pp:Int)+1) w4):=by rw[hW];exact lA.o.Su _
         have Pf:Hid (uP bt tm ta tn tc tp tq tr t.1 t.2 w4):=by rw[hW];exact Pb.o.pL lA.o.e7 _
         have mV:Hid (rN W.heap.size Fx Y w4):=by rw[hW];exact bU.o.dy td th lA.o.e7 PX.o.2.1 (br _ _ 0 _)
         have Pg:Hid (gL K w4 [ai4 xm,ai3 xa xn xc,ai3 xp xq xr] u):=by rw[hW];exact mX lA.o.e7 _ WW.o
         have yM:Hid (w4.cell? ⟨g,off+k*3,none⟩=some (ai4 xm)/\ w4.cell? ⟨g,off+k*3+1,none⟩=some (ai3 xa xn xc)/\ w4.cell? ⟨g,off+k*3+2,none⟩=some (ai3 xp xq xr)):=by rw[hW];exact jD lA.o.g7.1 BU.o
         clear lA Pb bU WW BU hW;refine ag 5 rfl (by kernel_rfl) (λKK hK=>?_);have c0:=rH.o.e8.c1;have f0:=rH.o.e8.f1;go_simp;clear c0 f0;clear hH;refine hK.o _ _ trivial λhH=>?_;clear hK KK
         try rw[ax.2.1]
         refine ah (λw5 hW=>?_);have Ev:Hid (jW w g off cp N (w.heap.size+1) (w.heap.size+1+1) ba w.heap.size (.func (.func G) #[] #[]) X Q K p q S2 (k+1) (k:Int) (pp:Int) w5):=by rw[hW];exact rH.o.Sv _
         have Ha:Hid (uP bt tm ta tn tc tp tq tr t.1 t.2 w5):=by rw[hW];exact Pf.o.pL rH.o.e8 _
         have tV:Hid (rN W.heap.size Fx Y w5):=by rw[hW];exact mV.o.dy td th rH.o.e8 PX.o.2.2 (br _ _ 0 _)
         have PY:Hid (gL K w5 [ai4 xm,ai3 xa xn xc,ai3 xp xq xr] u):=by rw[hW];exact mX rH.o.e8 _ Pg.o
         have BV:Hid (w5.cell? ⟨g,off+k*3,none⟩=some (ai4 xm)/\ w5.cell? ⟨g,off+k*3+1,none⟩=some (ai3 xa xn xc)/\ w5.cell? ⟨g,off+k*3+2,none⟩=some (ai3 xp xq xr)):=by rw[hW];exact jD rH.o.g7.2.1 yM.o
         clear rH Pf mV Pg yM hW;refine wpAnyH_done (by kernel_rfl) ?_ _
         clear hH;exact⟨_,_,_,_,_,_,_,_,_,_,_,_,_,_,_,_,_,_,_,_,_,_,rfl,Ev.o,Ha.o,tV.o,PY.o,BV.o⟩
        ·have c0:=lA.o.e7.c1;have f0:=lA.o.e7.f1;go_simp;clear c0 f0;clear hH;refine hK.o _ _ trivial λhH=>?_;clear hK KK
         try rw[ax.2.1]
         refine ah (λw4 hW=>?_);have rH:Hid (jW w g off cp N (w.heap.size+1) (w.heap.size+1+1) ba w.heap.size (.func (.func G) #[] #[]) X Q K p q S2 (k+1) (k:Int) ((pp:Int)+1) w4):=by rw[hW];exact lA.o.Su _
         have Pf:Hid (uP bt tm ta tn tc tp tq tr t.1 t.2 w4):=by rw[hW];exact Pb.o.pL lA.o.e7 _
         have mV:Hid (rN W.heap.size Fx Y w4):=by rw[hW];exact bU.o.dy td th lA.o.e7 PX.o.2.1 (br _ _ 0 _)
         have Pg:Hid (gL K w4 [ai4 xm,ai3 xa xn xc,ai3 xp xq xr] u):=by rw[hW];exact mX lA.o.e7 _ WW.o
         have yM:Hid (w4.cell? ⟨g,off+k*3,none⟩=some (ai4 xm)/\ w4.cell? ⟨g,off+k*3+1,none⟩=some (ai3 xa xn xc)/\ w4.cell? ⟨g,off+k*3+2,none⟩=some (ai3 xp xq xr)):=by rw[hW];exact jD lA.o.g7.1 BU.o
         clear lA Pb bU WW BU hW;refine ag 2 rfl (by kernel_rfl) (λKK hK=>?_);have c0:=rH.o.e8.c1;go_simp;clear c0;clear hH;refine hK.o _ _ trivial λhH=>?_;clear hK KK
         try simp only[ax]
         refine aT 3 hH ?_;try simp only[ax]
         refine ag 5 rfl (by kernel_rfl) (λKK hK=>?_);have c0:=rH.o.e8.c1;have f0:=rH.o.e8.f1;go_simp;clear c0 f0;clear hH;refine hK.o _ _ trivial λhH=>?_;clear hK KK
         try rw[ax.2.1]
         refine ah (λw5 hW=>?_);have Ev:Hid (jW w g off cp N (w.heap.size+1) (w.heap.size+1+1) ba w.heap.size (.func (.func G) #[] #[]) X Q K p q S2 (k+1) (k:Int) (pp:Int) w5):=by rw[hW];exact rH.o.Sv _
         have Ha:Hid (uP bt tm ta tn tc tp tq tr t.1 t.2 w5):=by rw[hW];exact Pf.o.pL rH.o.e8 _
         have tV:Hid (rN W.heap.size Fx Y w5):=by rw[hW];exact mV.o.dy td th rH.o.e8 PX.o.2.2 (br _ _ 0 _)
         have PY:Hid (gL K w5 [ai4 xm,ai3 xa xn xc,ai3 xp xq xr] u):=by rw[hW];exact mX rH.o.e8 _ Pg.o
         have BV:Hid (w5.cell? ⟨g,off+k*3,none⟩=some (ai4 xm)/\ w5.cell? ⟨g,off+k*3+1,none⟩=some (ai3 xa xn xc)/\ w5.cell? ⟨g,off+k*3+2,none⟩=some (ai3 xp xq xr)):=by rw[hW];exact jD rH.o.g7.2.1 yM.o
         clear rH Pf mV Pg yM hW;refine wpAnyH_done (by kernel_rfl) ?_ _
         clear hH;exact⟨_,_,_,_,_,_,_,_,_,_,_,_,_,_,_,_,_,_,_,_,_,_,rfl,Ev.o,Ha.o,tV.o,PY.o,BV.o⟩
       ·have c0:=lA.o.e8.c1;go_simp;clear c0;clear hH;refine hK.o _ _ trivial λhH=>?_;clear hK KK
        try dsimp only
        refine aT 3 hH ?_;try simp only[ax]
        refine ag 0 rfl (by kernel_rfl) (λKK hK=>?_);have c0:=lA.o.e7.c1;go_simp;clear c0;clear hH;refine hK.o _ _ trivial λhH=>?_;clear hK KK
        try simp only[ax]
        refine aT 1 hH ?_;try simp only[ax]
        refine ag 4 rfl (by kernel_rfl) (λKK hK=>?_);have c0:=lA.o.e7.c1;have f0:=lA.o.e7.f1;go_simp;clear c0 f0;clear hH;refine hK.o _ _ trivial λhH=>?_;clear hK KK
        try rw[ax.2.1]
        refine ah (λw4 hW=>?_);have rH:Hid (jW w g off cp N (w.heap.size+1) (w.heap.size+1+1) ba w.heap.size (.func (.func G) #[] #[]) X Q K p q S2 (k+1) (k:Int) ((pp:Int)+1) w4):=by rw[hW];exact lA.o.Su _
        have Pf:Hid (uP bt tm ta tn tc tp tq tr t.1 t.2 w4):=by rw[hW];exact Pb.o.pL lA.o.e7 _
        have mV:Hid (rN W.heap.size Fx Y w4):=by rw[hW];exact bU.o.dy td th lA.o.e7 PX.o.2.1 (br _ _ 0 _)
        have Pg:Hid (gL K w4 [ai4 xm,ai3 xa xn xc,ai3 xp xq xr] u):=by rw[hW];exact mX lA.o.e7 _ WW.o
        have yM:Hid (w4.cell? ⟨g,off+k*3,none⟩=some (ai4 xm)/\ w4.cell? ⟨g,off+k*3+1,none⟩=some (ai3 xa xn xc)/\ w4.cell? ⟨g,off+k*3+2,none⟩=some (ai3 xp xq xr)):=by rw[hW];exact jD lA.o.g7.1 BU.o
        clear lA Pb bU WW BU hW;refine ag 5 rfl (by kernel_rfl) (λKK hK=>?_);have c0:=rH.o.e8.c1;have f0:=rH.o.e8.f1;go_simp;clear c0 f0;clear hH;refine hK.o _ _ trivial λhH=>?_;clear hK KK
        try rw[ax.2.1]
        refine ah (λw5 hW=>?_);have Ev:Hid (jW w g off cp N (w.heap.size+1) (w.heap.size+1+1) ba w.heap.size (.func (.func G) #[] #[]) X Q K p q S2 (k+1) (k:Int) (pp:Int) w5):=by rw[hW];exact rH.o.Sv _
        have Ha:Hid (uP bt tm ta tn tc tp tq tr t.1 t.2 w5):=by rw[hW];exact Pf.o.pL rH.o.e8 _
        have tV:Hid (rN W.heap.size Fx Y w5):=by rw[hW];exact mV.o.dy td th rH.o.e8 PX.o.2.2 (br _ _ 0 _)
        have PY:Hid (gL K w5 [ai4 xm,ai3 xa xn xc,ai3 xp xq xr] u):=by rw[hW];exact mX rH.o.e8 _ Pg.o
        have BV:Hid (w5.cell? ⟨g,off+k*3,none⟩=some (ai4 xm)/\ w5.cell? ⟨g,off+k*3+1,none⟩=some (ai3 xa xn xc)/\ w5.cell? ⟨g,off+k*3+2,none⟩=some (ai3 xp xq xr)):=by rw[hW];exact jD rH.o.g7.2.1 yM.o
        clear rH Pf mV Pg yM hW;refine wpAnyH_done (by kernel_rfl) ?_ _
        clear hH;exact⟨_,_,_,_,_,_,_,_,_,_,_,_,_,_,_,_,_,_,_,_,_,_,rfl,Ev.o,Ha.o,tV.o,PY.o,BV.o⟩
      ·rintro a V9 ⟨v31,v32,v33,v34,v35,v36,v37,v38,v39,v40,v41,v42,v43,v44,v45,v46,v47,v48,v49,v50,v51,v52,rfl,Ev,Ha,tV,PY,BV⟩;clear HJ2 HA2 bH HU2 VR;refine rG (S:=λw'=>w'.cell? ⟨ba,0,none⟩=some (ai3 (some ⟨g,off,none⟩) N cp)/\ w'.cell? ⟨w.heap.size+1,0,none⟩=some (.int .i64 (k:Int))/\ w'.cell? ⟨w.heap.size+1+1,0,none⟩=some (.int .i64 (pp:Int))/\ (w'.cell? ⟨g,off+k*3,none⟩=some (ai4 xm)/\ w'.cell? ⟨g,off+k*3+1,none⟩=some (ai3 xa xn xc)/\ w'.cell? ⟨g,off+k*3+2,none⟩=some (ai3 xp xq xr))) (by rfl) (λ⟨_,_,h⟩=>h) (by kernel_rfl) (⟨Ev.o.ea.c1,Ev.o.e7.c1,Ev.o.e8.c1,BV.o⟩) (λhH=>?_);refine ah (λw6 hW=>?_);have uU:ai0 V9.heap.size V9 w6:=by rw[hW];exact(ai2 _ _).drew
       have Sw:Hid (w6.cell? ⟨g,off+k*3,none⟩=some (ai4 xm)/\ w6.cell? ⟨g,off+k*3+1,none⟩=some (ai3 xa xn xc)/\ w6.cell? ⟨g,off+k*3+2,none⟩=some (ai3 xp xq xr)):=by rw[hW];exact BV.o
       rw[<-hW]at hH;clear hW;have VS:=hid (Ev.o.below uU);have xX:=hid (Ha.o.below uU);have ZI:=hid (tV.o.below td th uU);have HU6:Hid (gL K w6 [ai4 xm,ai3 xa xn xc,ai3 xp xq xr] u):=PY.o.below uU;clear uU Ev Ha tV PY BV;refine aT 0 hH ?_;try simp only[ax]
       refine aT 1 hH ?_;try simp only[ax]
       refine aT 2 hH ?_;try simp only[ax]
       refine aT 3 hH ?_;try simp only[ax]
       refine aT 4 hH ?_;try simp only[ax]
       refine aT 5 hH ?_;try simp only[ax]
       refine aT 6 hH ?_;try simp only[ax]
       have e3:N-S2.length-1=pp:=by have:=LF.o.1;omega
       obtain⟨m2,Gu,n2,cap2,bo2,l2,cb2,hv2,hC2,hD2,hM2⟩:=HU6.o;cases hv2;have Sy:=hid ((VS.o.drop (aj2 k)).put (t:=u) hlt hC2 (hD2.mono (aj2 K)) hM2);rw[e3]at Sy;clear hC2 hD2 hM2 e3;have MC:=VS.o.spot VQ;obtain⟨⟨y0,y1,y2,d0,d1,d2⟩,f0,f1,f2⟩:=MC;have VT:∃L,aS w6 g L 70/\ et L:=by obtain⟨L,Y,h1,_⟩:=VS.o.ex;exact⟨L,h1.dY,h1.vk⟩
       obtain⟨LG,hg1,hg2⟩:=VT;refine ag 7 rfl (by kernel_rfl) (λKK hK=>?_);go_simp;clear d0 d1 d2 f0 f1 f2;clear hH;refine hK.o _ _ ⟨Sy.o.ea.c1,Sy.o.e7.c1,Sy.o.e8.c1,(tZ _ _ _ (.inl (by omega))).trans Sw.o.1,(tZ _ _ _ (.inl (by omega))).trans Sw.o.2.1,(tZ _ _ _ (.inl (by omega))).trans Sw.o.2.2⟩ λhH=>?_;clear hK KK
       try simp only[ax]
       refine ah (λw7 hW=>?_);have Ph:Hid (jW w g off cp N (w.heap.size+1) (w.heap.size+1+1) ba w.heap.size (.func (.func G) #[] #[]) X Q K p q (u::S2) k (k:Int) (pp:Int) w7):=by rw[hW];exact Sy.o
       have Nn:Hid (uP bt tm ta tn tc tp tq tr t.1 t.2 w7):=by rw[hW];exact xX.o.step (eD _ _ _ _ _ _) (λr e=>by cases e;exact(hg1.dD hg2).jK) (λr e=>by cases e;have:=HGT.o.1;omega)
       have VU:Hid (rN W.heap.size Fx Y w7):=by rw[hW];exact ZI.o.dy td th hg1 PX.o.1 (eD _ _ _ _ _ _)
       clear hW VS xX ZI Sy hg1 hg2 HU6 Sw;refine wpAnyH_done (by kernel_rfl) ?_ _
       clear hH;go_roundw
       case rel=>(repeat apply Exists.intro);exact⟨⟨z,u::S2,k,rfl,by rw[show((N-(u::S2).length:Nat):Int)=(pp:Int)from by have:=LF.o.1;rw[ai6];omega];exact Ph.o,Nn.o,VU.o,by rw[Hid,<-HSC.o,dB,if_pos (by rw[HZ.o];exact hz0)],by have:=HL.o;rw[Hid,ai6];omega,by rw[Hid];omega⟩,rfl⟩
       case measure=>rw[HLO.o,Ak Ph.o.e7];omega
     ·have hd8:decide ((0:Int)<=z)=true:=decide_eq_true (by omega)
      gi_step;refine cj (by rfl) (λ⟨_,_,h⟩=>h) ?_
      go_wp2_with fail
      gi_wp2
      exact⟨_,_,_,_,_,_,_,_,_,_,_,_,_,_,_,_,_,_,_,_,_,_,z,S2,k+1,rfl,by rw[e1,LF.o.2.1];exact HJ2.o,HA2.o,bH.o,by rw[Hid,<-HSC.o,tY LF.o.2.2,<-HUU.o,dB,if_neg (by rw[HZ.o];omega),HZ.o],HL.o⟩
  ·rintro a V2 ⟨v31,v32,v33,v34,v35,v36,v37,v38,v39,v40,v41,v42,v43,v44,v45,v46,v47,v48,v49,v50,v51,v52,met,S2,js,rfl,HJ,HA,HK,LP,HL⟩;clear J2 A2 K2
   gi_step;refine cj (by rfl) (λ⟨_,_,h⟩=>h) ?_
   go_wp2_with fail;refine nW (λV3 hW=>?_);have B3:ai0 V2.heap.size V2 V3:=by rw[hW];exact af _ _
   obtain⟨bn,hbn⟩:∃bn,bn=V2.heap.size:=⟨_,rfl⟩;have ZJ:Hid (aS V3 bn [ai4 false,ai3 none 0 0] 29):=by rw[hW,hbn];exact aS.cS V2 [ai4 false,ai3 none 0 0] 29
   have lA:=hid (HJ.o.below B3);have Pb:=hid (HA.o.below B3);have bU:=hid (HK.o.below td th B3);have hnW:W.heap.size<=bn:=by rw[hbn];exact aj0 th HK.o.kf.size
   have hgn:g<bn:=by rw[hbn];obtain⟨L,Y,h1,_⟩:=HJ.o.ex;exact h1.dY.lt
   have hFn:¬Fx bn:=λh=>by have:=td _ h;omega
   have hwn:w.heap.size<=bn:=by omega
   have JD:=hid (ah5 hgn (ah5 hFn hwn));rw[<-hbn];clear hW B3 hbn HJ HA HK hnW hgn hFn hwn;refine BS (λa V=>∃(v31 v32 v33 v34 v35 v36 v37 v38 v39 v40 v41 v42 v43 v44 v45 v46 v47 v48 v49 v50 v51 v52 v53 v54 v55 v56 v57 v58 v59 v60 v61:ah7) (jP:Nat) (nm:Bool) (na:Option Addr) (nn nc:Nat) (x:Int),a={ tmps:= #[ai3 ao n ae,ai3 bo m cb,.func (.func G) #[] #[],undef,undef,.pointer (some ⟨w.heap.size,0,none⟩),ai3 none 0 0,.pointer (some ⟨w.heap.size+1,0,none⟩),.pointer (some ⟨w.heap.size+1+1,0,none⟩),.pointer (some ⟨ba,0,none⟩),undef,.pointer (some ⟨bt,0,none⟩),.int .i64 met,.pointer (some ⟨bn,0,none⟩),ai3 ao n ae,.int .i64 (n:Int),ai3 ao n ae,.int .i64 (n:Int),ai3 bo m cb,.int .i64 (m:Int),.int .i64 (N:Int),u21,u22,u23,u24,u25,u26,ai3 bo m cb,.func (.func 170) #[] #[.pointer (some ⟨Bs,0,none⟩)],.int .i64 ((m-1-j:Nat):Int),.agg #[ai4 tm,ai3 ta tn tc,ai3 tp tq tr],v31,v32,v33,v34,v35,v36,v37,v38,v39,v40,v41,v42,v43,v44,v45,v46,v47,v48,v49,v50,v51,v52,v53,v54,v55,v56,v57,v58,v59,v60,v61,undef,undef,undef,undef,undef,undef,undef,undef,undef,undef,undef,undef,undef,undef,undef,undef,undef,undef,undef,undef],defers:=[] }/\ Hid (jW w g off cp N (w.heap.size+1) (w.heap.size+1+1) ba w.heap.size (.func (.func G) #[] #[]) X Q K p q S2 jP (jP:Int) ((N-S2.length:Nat):Int) V)/\ Hid (uP bt tm ta tn tc tp tq tr t.1 t.2 V)/\ Hid (rN W.heap.size Fx Y V)/\ Hid (aS V bn [ai4 nm,ai3 na nn nc] 29)/\ Hid (Cn V nm na nn nc x/\ Bd x K)/\ Hid (gv f ((p.take left).reverse,S) t=((p.take jP).reverse,if f x t.1=0 then S2 else(f x t.1,t.2)::S2))/\ Hid (S2.length+jP<=S.length+left)) ?_ ?_
   ·obtain⟨b,hb⟩:∃b,(met==0)=b:=⟨_,rfl⟩;rw[hb]at LP;cases b with
    |false=>
     gi_step;gi_step;refine cj (by rfl) (λ⟨_,_,h⟩=>h) ?_
     go_wp2_with fail
     gi_wp2
     exact⟨_,_,_,_,_,_,_,_,_,_,_,_,_,_,_,_,_,_,_,_,_,_,_,_,_,_,_,_,_,_,_,js,false,none,0,0,0,rfl,lA.o,Pb.o,bU.o,ZJ.o,⟨(ny _).cn,bd0 K⟩,by rw[Hid];unfold gv;simp only[LP.o,Bool.false_eq_true,if_false],by have:=HL.o;rw[Hid];omega⟩
    |true=>
     have hne:=xP LP.o;obtain⟨k,rfl⟩:∃k,js=k+1:=⟨js-1,by rcases Nat.eq_zero_or_pos js with e|e<;>first|(subst e;exact absurd rfl hne)|omega⟩;clear hne;have e1:((k+1:Nat):Int)=(k:Int)+1:=by omega
     rw[e1]at lA;have hkX:=lA.o.ll;have hkp:k<p.length:=by rw[<-lA.o.px.len];omega
     have hfit:=lA.o.fit;have hkN:k<N:=by omega
     have hwk:ah8.wrap (k:Int)=(k:Int):=ah9 _ ⟨by omega,by omega⟩;obtain⟨xm,xa,xn,xc,xp,xq,xr,hXv,hc,rL,hBd,_⟩:=lA.o.get (k:=k) (by omega);have HU:=hid (ah5 rL hBd);have MT:=hid hkp;have BU:=hid hc;clear hXv hc rL hBd hkX hfit hkp;have c0:=lA.o.e7.c1;have f0:=lA.o.e7.f1
     gi_step;gi_step;refine cj (by rfl) (λ⟨_,_,h⟩=>h) ?_
     go_wp2_with fail
     gi_step
     gi_step;refine cj (by rfl) (λ⟨_,_,h⟩=>h) ?_
     go_wp2_with fail;clear c0 f0;refine nW (λV4 hW=>?_);have rH:Hid (jW w g off cp N (w.heap.size+1) (w.heap.size+1+1) ba w.heap.size (.func (.func G) #[] #[]) X Q K p q S2 (k+1) (k:Int) ((N-S2.length:Nat):Int) V4):=by rw[hW];exact lA.o.Su _
     have Pf:Hid (uP bt tm ta tn tc tp tq tr t.1 t.2 V4):=by rw[hW];exact Pb.o.pL lA.o.e7 _
     have mV:Hid (rN W.heap.size Fx Y V4):=by rw[hW];exact bU.o.dy td th lA.o.e7 PX.o.2.1 (br _ _ 0 _)
     have Sz:Hid (aS V4 bn [ai4 false,ai3 none 0 0] 29):=by rw[hW];exact ZJ.o.dy (lA.o.e7.ne ZJ.o (by decide)) 0 _
     have Pg:Hid (Cn V4 xm xa xn xc (p.getD k (0,[])).1/\ Bd (p.getD k (0,[])).1 K):=by rw[hW];exact⟨HU.o.1.pL lA.o.e7 _,HU.o.2⟩
     have yM:Hid (V4.cell? ⟨g,off+k*3,none⟩=some (ai4 xm)/\ V4.cell? ⟨g,off+k*3+1,none⟩=some (ai3 xa xn xc)/\ V4.cell? ⟨g,off+k*3+2,none⟩=some (ai3 xp xq xr)):=by rw[hW];exact jD lA.o.g7.1 BU.o
     clear hW lA Pb bU ZJ HU BU;have c0:=rH.o.ea.c1;have c1:=rH.o.e7.c1;obtain⟨d0,d1,d2⟩:=yM.o;obtain⟨g0,g1⟩:=Sz.o.c2;have f0:=Sz.o.fz 0;have f1:=Sz.o.fz 1;refine cj (by rfl) (λ⟨_,_,h⟩=>h) ?_;go_wp2_with fail;clear c0 c1 d0 d1 d2 g0 g1 f0 f1
     gi_wp2
     refine Lv (M:=λa V=>∃(v31 v32 v33 v34 v35 v36 v37 v38 v39 v40 v41 v42 v43 v44 v45 v46 v47 v48 v49 v50 v51 v52 v53 v54 v55 v56 v57 v58 v59 v60 v61:ah7) (jP:Nat) (nm:Bool) (na:Option Addr) (nn nc:Nat) (x:Int),a={ tmps:= #[ai3 ao n ae,ai3 bo m cb,.func (.func G) #[] #[],undef,undef,.pointer (some ⟨w.heap.size,0,none⟩),ai3 none 0 0,.pointer (some ⟨w.heap.size+1,0,none⟩),.pointer (some ⟨w.heap.size+1+1,0,none⟩),.pointer (some ⟨ba,0,none⟩),undef,.pointer (some ⟨bt,0,none⟩),.int .i64 met,.pointer (some ⟨bn,0,none⟩),ai3 ao n ae,.int .i64 (n:Int),ai3 ao n ae,.int .i64 (n:Int),ai3 bo m cb,.int .i64 (m:Int),.int .i64 (N:Int),u21,u22,u23,u24,u25,u26,ai3 bo m cb,.func (.func 170) #[] #[.pointer (some ⟨Bs,0,none⟩)],.int .i64 ((m-1-j:Nat):Int),.agg #[ai4 tm,ai3 ta tn tc,ai3 tp tq tr],v31,v32,v33,v34,v35,v36,v37,v38,v39,v40,v41,v42,v43,v44,v45,v46,v47,v48,v49,v50,v51,v52,v53,v54,v55,v56,v57,v58,v59,v60,v61,undef,undef,undef,undef,undef,undef,undef,undef,undef,undef,undef,undef,undef,undef,undef,undef,undef,undef,undef,undef],defers:=[] }/\ Hid (jW w g off cp N (w.heap.size+1) (w.heap.size+1+1) ba w.heap.size (.func (.func G) #[] #[]) X Q K p q S2 jP (jP:Int) ((N-S2.length:Nat):Int) V)/\ Hid (uP bt tm ta tn tc tp tq tr t.1 t.2 V)/\ Hid (rN W.heap.size Fx Y V)/\ Hid (aS V bn [ai4 nm,ai3 na nn nc] 29)/\ Hid (Cn V nm na nn nc x/\ Bd x K)/\ Hid (gv f ((p.take left).reverse,S) t=((p.take jP).reverse,if f x t.1=0 then S2 else(f x t.1,t.2)::S2))/\ Hid (S2.length+jP<=S.length+left)) (λV5 hW=>?_);have HN5:Hid (aS V5 bn [ai4 xm,ai3 xa xn xc] 29):=by rw[hW];exact(Sz.o.set 0 _).set 1 _
     have Ev:Hid (jW w g off cp N (w.heap.size+1) (w.heap.size+1+1) ba w.heap.size (.func (.func G) #[] #[]) X Q K p q S2 (k+1) (k:Int) ((N-S2.length:Nat):Int) V5):=by rw[hW];exact rH.o.dy Sz.o (xN _ _ _ _) (aj3 JD.o.1) (by decide) JD.o.2.2 (fH _ _ 0 _ _)
     have Ha:Hid (uP bt tm ta tn tc tp tq tr t.1 t.2 V5):=by rw[hW];exact Pf.o.step (fH _ _ 0 _ _) (λr e=>by cases e;exact(Sz.o.dD (xN _ _ _ _)).jK) (λr e=>by cases e;exact Sz.o.ne Pf.o.dY (by decide))
     have tV:Hid (rN W.heap.size Fx Y V5):=by rw[hW];exact mV.o.dy td th Sz.o JD.o.2.1 (fH _ _ 0 _ _)
     have PY:Hid (Cn V5 xm xa xn xc (p.getD k (0,[])).1/\ Bd (p.getD k (0,[])).1 K):=by rw[hW];exact⟨Pg.o.1.cP (fH _ _ 0 _ _) (λr e=>by cases e;exact(Sz.o.dD (xN _ _ _ _)).jK),Pg.o.2⟩
     exact⟨_,_,_,_,_,_,_,_,_,_,_,_,_,_,_,_,_,_,_,_,_,_,_,_,_,_,_,_,_,_,_,k,xm,xa,xn,xc,(p.getD k (0,[])).1,rfl,Ev.o.drop (aj2 k),Ha.o,tV.o,HN5.o,PY.o,by rw[Hid];unfold gv;simp only[LP.o,if_true];rw[tY MT.o];rfl,by have:=HL.o;rw[Hid];omega⟩
   ·clear lA Pb bU ZJ LP;rintro a V5 ⟨v31,v32,v33,v34,v35,v36,v37,v38,v39,v40,v41,v42,v43,v44,v45,v46,v47,v48,v49,v50,v51,v52,v53,v54,v55,v56,v57,v58,v59,v60,v61,jP,nm,na,nn,nc,x,rfl,Ev,Ha,tV,HN5,Rj,HST,TD⟩;obtain⟨y,hy⟩:∃y,f x t.1=y:=⟨_,rfl⟩;have hyB:Bd y (K+1):=by rw[<-hy];exact HFB.o _ _ Rj.o.2 HD.o
    rw[hy]at HST;have HY:=hid hy;have HYB:=hid hyB;clear hy hyB;have c0:=Ev.o.e5.c1;obtain⟨c1,c2⟩:=HN5.o.c2;obtain⟨d0,d1,d2⟩:=Ha.o.dY.c3
    gi_step;refine cj (by rfl) (λ⟨_,_,h⟩=>h) ?_
    go_wp2_with (go_at_fn G;refine(Yk.o _ _ _ _ _ _ _ _ x t.1 _ (Rj.o.1.cx Rj.o.2 (by omega)) (Ha.o.cn.cx HD.o (by omega))).mono ?_;rintro e w6 ⟨rm,ra,rn,rc,rfl,hR,hB⟩;have VS:=hid (Ev.o.below hB);have xX:=hid (Ha.o.below hB);have ZI:=hid (tV.o.below td th hB);rw[HY.o]at hR;have HR6:=hid hR;clear hR hB Ev Ha tV HN5 Rj c0 c1 c2 d0 d1 d2;obtain⟨d0,d1,d2⟩:=xX.o.dY.c3;have f0:=xX.o.dY.fz 0;have f1:=xX.o.dY.fz 1);clear d0 d1 d2 f0 f1;refine nW (λV7 hW=>?_);have hni:∀r,some bt=some r->iL w6 r:=λr e=>by cases e;exact(xX.o.dY.dD (jS _ _ _ _ _ _ _)).jK
    have Sy:Hid (jW w g off cp N (w.heap.size+1) (w.heap.size+1+1) ba w.heap.size (.func (.func G) #[] #[]) X Q K p q S2 jP (jP:Int) ((N-S2.length:Nat):Int) V7):=by rw[hW];exact VS.o.dy xX.o.dY (jS _ _ _ _ _ _ _) (aj3 HGT.o.1) (by decide) HGT.o.2.2 (fH _ _ 0 _ _)
    have HA7:Hid (uP bt rm ra rn rc tp tq tr y t.2 V7):=by rw[hW];exact⟨(xX.o.dY.set 0 _).set 1 _,HR6.o.cP (fH _ _ 0 _ _) hni,xX.o.ml.cP (fH _ _ 0 _ _) hni⟩
    have HK7:Hid (rN W.heap.size Fx Y V7):=by rw[hW];exact ZI.o.dy td th xX.o.dY HGT.o.2.1 (fH _ _ 0 _ _)
    clear hW hni VS xX ZI HR6;obtain⟨s,hs⟩:∃s,y.sign=s:=⟨_,rfl⟩;obtain⟨d0,d1,d2⟩:=HA7.o.dY.c3
    gi_step;refine cj (by rfl) (λ⟨_,_,h⟩=>h) ?_
    go_wp2_with fail;refine(iZ s (HA7.o.cn.cx HYB.o (by omega)).nx hs).mono ?_;rintro e w8 ⟨rfl,hB⟩;have Ph:=hid (Sy.o.below hB);have Nn:=hid (HA7.o.below hB);have VU:=hid (HK7.o.below td th hB);clear hB Sy HA7 HK7 d0 d1 d2;have hsz:W.heap.size<=w8.heap.size:=aj0 th VU.o.kf.size;by_cases hy0:y=0
    ·have hs0:s=0:=by rw[<-hs,hy0];rfl
     subst hs0;have HY0:=hid hy0;clear hy0;have hd0:((0:Int) !=0)=false:=rfl;go_wp2_with fail
     gi_wp2
     exact⟨VU.o.kf,VU.o.ft,hsz,S2,jP,Ph.o,by rw[HF.o,HST.o,if_pos HY0.o],by have:=TD.o;have:=HLE.o;omega⟩
    ·have hs0:(s !=0)=true:=by rw[<-hs];simp;exact hy0
     have HY0:=hid hy0;clear hy0;have hlt:S2.length+jP<N:=by have:=TD.o;have:=HLE.o;have:=HJM.o;have:=HNM.o;omega
     obtain⟨pp,hpp⟩:∃pp,N-S2.length=pp+1:=⟨N-S2.length-1,by omega⟩;have e2:((N-S2.length:Nat):Int)=(pp:Int)+1:=by omega
     have e3:N-S2.length-1=pp:=by omega
     rw[e2]at Ph;have VQ:pp<N:=by omega
     have hwp:ah8.wrap (pp:Int)=(pp:Int):=ah9 _ ⟨by omega,by omega⟩;have LF:=hid (ah5 e3 hpp);clear hpp e2 e3;have HTC:=hid Nn.o;go_wp2_with fail;have c0:=Ph.o.e8.c1;have f0:=Ph.o.e8.f1
     gi_step
     gi_step;refine cj (by rfl) (λ⟨_,_,h⟩=>h) ?_
     go_wp2_with fail;clear c0 f0;refine nW (λV9 hW=>?_);have ZK:Hid (jW w g off cp N (w.heap.size+1) (w.heap.size+1+1) ba w.heap.size (.func (.func G) #[] #[]) X Q K p q S2 jP (jP:Int) (pp:Int) V9):=by rw[hW];exact Ph.o.Sv _
     have Qw:Hid (uP bt rm ra rn rc tp tq tr y t.2 V9):=by rw[hW];exact Nn.o.pL Ph.o.e8 _
     have HK9:Hid (rN W.heap.size Fx Y V9):=by rw[hW];exact VU.o.dy td th Ph.o.e8 PX.o.2.2 (br _ _ 0 _)
     have ah1:W.heap.size<=V9.heap.size:=aj0 th HK9.o.kf.size;clear hW Ph Nn VU hsz;have HP9:=hid (ZK.o.put (t:=(y,t.2)) hlt Qw.o.cn HYB.o Qw.o.ml);rw[LF.o.1]at HP9;have VT:∃L,aS V9 g L 70/\ et L:=by obtain⟨L,Y,h1,_⟩:=ZK.o.ex;exact⟨L,h1.dY,h1.vk⟩
     obtain⟨LG,hg1,hg2⟩:=VT;have MT:=hid (HK9.o.dy td th hg1 PX.o.1 (eD V9 g (off+pp*3) (ai4 rm) (ai3 ra rn rc) (ai3 tp tq tr)));clear hg1 hg2;have c0:=ZK.o.ea.c1;have c1:=ZK.o.e8.c1;obtain⟨d0,d1,d2⟩:=Qw.o.dY.c3;obtain⟨⟨y0,y1,y2,e0,e1,e2⟩,f0,f1,f2⟩:=ZK.o.spot VQ;refine cj (by rfl) (λ⟨_,_,h⟩=>h) ?_;go_wp2_with fail;refine⟨MT.o.kf,MT.o.ft,aj0 th MT.o.kf.size,(y,t.2)::S2,jP,?_,by rw[HF.o,HST.o,if_neg HY0.o],by have:=TD.o;have:=HLE.o;rw[ai6];omega⟩;rw[show((N-((y,t.2)::S2).length:Nat):Int)=(pp:Int)from by have:=LF.o.2;rw[ai6];omega];exact HP9.o
 case done=>
  rintro D V hD ⟨Vt,S,left,hS,hF,hle⟩ hK;rw[ai5 (by rw[List.length_reverse,Ff.o];exact aj1 _)]at hF;obtain⟨L,Y,h1,h2,h3,h4,h5⟩:=hS.ex;have hll:=hS.ll;have hfit:=hS.fit;have hYl:=h5.len;have G9:(X.take left).length=left:=by rw[ai8];omega
  have YF:=hid (G8 h1 h2 G9 h3 h4 (eC (λv a h=>G7 h) h5) (by omega) (by omega) hS.nc hN6);have hDg:D≠g:=λe=>by subst e;have:=h1.dY;unfold aS at this;rw[hK]at this;cases this
  have Q4:Hid (∀L2 V2,Rm g off cp L2 V2->jo 3 L2 off (X.take left++Y)->V.grownBy V2 (some g)->∀V3,V2.grownBy V3 (some D)->(∃o:Obj,V2.heap[D]? =some o/\ o.isCells=false)->Pw B (K+1) V3 (some ⟨g,off,none⟩) ((X.take left).length+Y.length) cp ((nZ f p q.reverse).1.reverse++(nZ f p q.reverse).2)/\ (∃row,w.grownBy V3 row/\ (row=eQ ao∨ai0 w.heap.size w V3))/\ (eQ (some ⟨g,off,none⟩)=eQ ao∨ ∀g',eQ (some ⟨g,off,none⟩)=some g'->w.heap.size<=g')):=by
   intro L2 V2 hR2 hS2 hg2 V3 hg3 hob;obtain⟨o,ho1,ho2⟩:=hob;have n2:∀r,some g=some r->iL V r:=λr e=>by cases e;exact(h1.dY.dD h1.vk).jK
   have n3:∀r,some D=some r->iL V2 r:=λr e=>by cases e;exact kA ho1 ho2
   have hBg:B<=g:=by
    rcases hgw with h|h
    ·obtain⟨X0,hr,_⟩:=hp;exact(hr.lt g h).1
    ·omega
   have PW:Rm g off cp L2 V3:=hR2.cP hg3 (λr e=>by cases e;exact hDg);have VV:w.grownBy V3 (some g):=ue (cD hS.gr hg2) (by omega) hg3;rw[hF];simp only[List.reverse_reverse];have hEx:Each 3 (X.take left):=λvs hv=>hS.hx vs (List.mem_of_mem_take hv)
   refine⟨⟨X.take left++Y,⟨.inr ⟨g,off,L2,rfl,hBg,PW.dY,PW.vk,PW.room,by have:=hS.nc;rw[G9];omega,PW.big,by rw[G9];omega,by rw[List.length_append],hEx.append h4,hS2⟩⟩,?_⟩,?_,?_⟩
   ·exact fT hg3 n3 (fT hg2 n2 (bV.append ((Aj hS.px (aj2 K)).take left) h5))
   ·rcases hgw with h|h
    ·exact⟨some g,VV,.inl h.symm⟩
    ·exact⟨some g,VV,.inr (gS VV h (aj1 _))⟩
   ·rcases hgw with h|h
    ·exact .inl h.symm
    ·exact .inr λg2 e=>by cases e;exact h
  have c0:=hS.ea.c1;have c1:=hS.e7.c1;have c2:=hS.e8.c1;have HKD:=hid hK;have hDV:D<V.heap.size:=(Array.getElem?_eq_some_iff.1 hK).1;clear hS hF hle hK h1 h2 h3 h4 h5 hYl hll hfit G9
  dsimp only
  go_wp2_with fail;refine YF.o.mono ?_;rintro e V2 ⟨L2,rfl,hR2,hS2,hgr⟩;have hK2:V2.heap[D]? =some (.deferred (some [])):=(hgr.block D hDV (λe=>hDg (Option.some.inj e))).trans HKD.o;have HF2:=hid (Q4.o L2 V2 hR2 hS2 hgr _ (grownBy_putObj' V2 D (.deferred none)) ⟨_,hK2,rfl⟩);clear hR2 hS2 hgr Q4 YF c0 c1 c2;go_wp2_with fail;refine⟨by simp,.inl ⟨_,_,rfl,run_takeDeferred hK2,?_⟩⟩;have HF3:=HF2.o;rw[ai8]at HF3;exact⟨_,results_tmp rfl _ _ _,_,_,_,rfl,HF3⟩
end Go.Proofs.YtmenbpmciblnlaaGreatDoor
