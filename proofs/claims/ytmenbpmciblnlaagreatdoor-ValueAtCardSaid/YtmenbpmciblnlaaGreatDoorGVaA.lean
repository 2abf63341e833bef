/- VaFar, VaPart, VaParts, VaWo, VaWorth, VaLow, VaBrok, VaAt, VaBig, VaPtR, VaGr -/
import Derived.Test.YtmenbpmciblnlaaGreatDoorGQ1
import Derived.Test.YtmenbpmciblnlaaGreatDoorGP6
import Derived.Test.YtmenbpmciblnlaaGreatDoorGVal
import Derived.Test.YtmenbpmciblnlaaGreatDoorGP8
set_option maxHeartbeats 0
set_option maxRecDepth 100000
open And renaming intro->a0a
open Go.Builtin renaming zeroCells->a0b
open Go.IntKind renaming i64->a0c
open Go.IntWalk renaming i64_in->a0d,wrap64_in->a0e
open Go.RowKit.Below renaming refl->a0f
open Go.Value renaming agg->a0g,cells->a0h,slice->a0i
open Go.World renaming cell?_of_block->a0j
open Int renaming gcd->a0t,le_of_lt->a0u,le_refl->a0v,le_trans->a0s,lt_of_le_of_lt->a0k,mul_le_mul->a0l,mul_le_mul_of_nonneg_left->a0p,mul_nonneg->a0m,natCast_mul->a0x,natCast_pow->a0r,ofNat_lt->a0q,one_dvd->a0w,pow_add->a0n,pow_pos->a0o
open List renaming any_eq_false->a0W,append_assoc->a0H,append_inj'->a0N,foldl_append->a0S,foldl_cons->a0K,getD->a0A,getElem?_append_left->a0B,getElem?_append_right->a0E,getElem?_eq_getElem->a0F,getElem?_eq_none->a0U,getElem?_eq_some_iff->a0z,getElem?_set_ne->a0I,getElem?_set_self->a0J,getElem_mem->a0V,length_append->a0C,length_cons->a0L,length_nil->a0Q,length_singleton->a0D,length_take->a0P,mem_append->a0M,mem_iff_getElem->a0R,mem_iff_getElem?->a0y,take_length->a0T,take_of_length_le->a0G,take_succ_eq_append_getElem->a0O
open Nat renaming add_zero->a1f,eq_zero_or_pos->a1d,le_refl->a1a,le_trans->a1e,lt_of_le_of_lt->a1l,lt_of_lt_of_le->a0X,mod_two_eq_zero_or_one->a0Y,mul_le_mul_left->a1h,mul_lt_mul_of_pos_right->a1j,pow_add->a1k,pow_le_pow_right->a1i,sub_self->a1b,succ_le_succ->a1g,zero_add->a0Z,zero_le->a1c
open Option.some renaming inj->a1m
open Rat renaming divInt->a1n,num_divInt_den->a1o
namespace Go.Proofs.YtmenbpmciblnlaaGreatDoor
open Go.RowKit
def Uc (v:Value):Bool:=match v with|a0i _ _ _=>true| _=>false
def shy (L:List Value):Prop:=(∀u∈L,isU u=false)/\∀j a b,L[j]? =some a->L[j+1]? =some b->(bF a=true∨bF b=true)/\ (Uc a&&Uc b)=false
structure qw (w w':World) (b:Nat):Prop where
 iW:∃L T,bD w b L T/\ shy L
 g:w.grownBy w' (some b)
theorem qw.pair {w w':World} {b b' off:Nat} {x y:Value} (h:qw w w' b') (hx:w.cell? ⟨b,off,none⟩=some x) (hy:w.cell? ⟨b,off+1,none⟩=some y) (hxy:(bF x=false/\ bF y=false)∨(Uc x&&Uc y)=true):b≠b':=by
 rintro rfl;obtain⟨L,T,hA,hL⟩:=h.iW;rw[hA.cell]at hx hy;have h2:=hL.2 off x y hx hy;rcases hxy with⟨e1,e2⟩|e
 ·rcases h2.1 with k|k
  ·rw[e1]at k;cases k
  ·rw[e2]at k;cases k
 ·rw[e]at h2;cases h2.2
theorem Ml.iN [Ol] {w w':World} {ao:Option Addr} {n cap:Nat} {ps:List (Int×Int)} {b:Nat} (h:Ml w ao n cap ps) (hF:qw w w' b):Ml w' ao n cap ps:=by
 have hk:∀ad,ao=some ad->0<n->w'.heap[ad.block]? =w.heap[ad.block]? :=λad had h0=>hF.g.block _ (h.blt h0 had) λe=>by
  obtain⟨g,off,h1,_,h3⟩:=h.at h0;rw[h1]at had;cases had;exact hF.pair (h3 0 h0).1 (h3 0 h0).2 (.inl ⟨rfl,rfl⟩) (a1m e)
 refine⟨h.len,h.le,h.big,h.wf,h.nil,λad had t ht=>?_,λh0 ad had=>(h.kp h0 ad had).keep (hk ad had h0)⟩;have hc:=h.cells ad had t ht;rw[<-hc.1,<-hc.2];exact⟨a0j (by rw[ig];exact hk ad had (by omega)),a0j (by rw[ig];exact hk ad had (by omega))⟩
theorem Sl.iN {w w':World} {ao:Option Addr} {n cap:Nat} {xs:List Nat} {b:Nat} (h:Sl w ao n cap xs) (hF:qw w w' b):Sl w' ao n cap xs:=
 ⟨h.len,h.le,h.big,h.wf,h.nil,λad had t ht=>hF.g.cell (h.cells ad had t ht) λe=>by
  obtain⟨L,T,hA,hL⟩:=hF.iW;have:=hL.1 _ (LQ hA (h.cells ad had t ht) (a1m e));simp[isU]at this⟩
theorem Cn.iN {w w':World} {m:Bool} {ao:Option Addr} {n cap:Nat} {z:Int} {b:Nat} (h:Cn w m ao n cap z) (hF:qw w w' b):Cn w' m ao n cap z:=⟨h.neg,h.sl.iN hF⟩
theorem Nx.iN {w w':World} {m:Bool} {ao:Option Addr} {n cap:Nat} {z:Int} {b:Nat} (h:Nx w m ao n cap z) (hF:qw w w' b):Nx w' m ao n cap z:=by
 obtain⟨⟨xs,hs,hz⟩,hl⟩:=h;exact⟨⟨xs,hs.iN hF,hz⟩,hl⟩
theorem kD.iN [Ol] {K:Nat} {w w':World} {vs:List Value} {t:Term} {b:Nat} (h:kD K w vs t) (hF:qw w w' b):kD K w' vs t:=by
 obtain⟨m,ao,n,cap,bo,k,cb,h1,h2,h3,h4⟩:=h;exact⟨m,ao,n,cap,bo,k,cb,h1,h2.iN hF,h3,h4.iN hF⟩
theorem Gl.QF [Ol] {sz:Nat} {w w':World} {ao:Option Addr} {n cap:Nat} {bS:List (List Value)} (h:Gl sz w ao n cap bS) (hs:w.heap.size<=w'.heap.size) (hk:∀ad,ao=some ad->0<n->w'.heap[ad.block]? =w.heap[ad.block]?):Gl sz w' ao n cap bS:=by
 refine⟨h.len,h.le,h.big,h.each,h.nil,h.spot,λad had h0=>a0X (h.lt ad had h0) hs,λad had t ht j hj=>?_,λh0 ad had=>(h.kp h0 ad had).keep (hk ad had h0)⟩;rw[<-h.cells ad had t ht j hj];exact a0j (by rw[ig];exact hk ad had (by omega))
theorem Pc.iN [Ol] {K:Nat} {w w':World} {ao:Option Addr} {n cap:Nat} {p:List Term} {b:Nat} (h:Pc K w ao n cap p) (hF:qw w w' b):Pc K w' ao n cap p:=by
 obtain⟨bS,h1,h2⟩:=h.ex;refine⟨bS,h1.QF hF.g.size λad had h0=>hF.g.block _ (h1.lt ad had h0) λe=>?_,h2.imp λv a h=>h.iN hF⟩;obtain⟨g,off,e1,_,e3⟩:=h1.at h0;rw[e1]at had;cases had;have hl:=h1.len
 match bS,p,h2,hl with
 |[],_,_,hl=>simp at hl;omega
 |v::vs,t::r,h2,_=>
  obtain⟨m,ao,n,cap,bo,k,cb,rfl,_⟩:=h2.1;have c1:=e3 w (a0f _ _) 0 h0 1 (by omega);have c2:=e3 w (a0f _ _) 0 h0 2 (by omega);exact hF.pair c1 c2 (.inr rfl) (a1m e)
theorem Pw.iN [Ol] {B K:Nat} {w w':World} {ao:Option Addr} {n cap:Nat} {p:List Term} {b:Nat} (h:Pw B K w ao n cap p) (hF:qw w w' b) (hne:∀r,blk ao=some r->r≠b):Pw B K w' ao n cap p:=by
 obtain⟨X,h1,h2⟩:=h;refine⟨X,h1.apart hF.g ?_,h2.imp λv a h=>h.iN hF⟩;cases hb:blk ao with
 |none=>exact .inl rfl
 |some r=>exact .inr λe=>hne r hb (a1m e)
theorem Tryz.NQ:(Tryz.prog.info? 199).map (λi=>(i.zero,i.size,i.bytes))=some (some (.agg #[.int .i64 0,a0i none 0 0]),2,32):=by kernel_rfl
theorem bD.Yz {w:World} {b:Nat} {L L':List Value} {T T':TypeId} (h:bD w b L T) (h':bD w b L' T'):(T:Nat)=T':=by
 unfold bD at h h';rw[h]at h';exact congrArg (λ(o:Option Obj)=>match o with|some (.cells _ T _)=>T| _=>0) h'
def alt (L:List Value):Prop:=∀j u,L[j]? =some u->(j%2=0->∃x,u= .int .i64 x)/\ (j%2=1->Uc u=true)
theorem alt.shy {L:List Value} (h:alt L):shy L:=by
 refine⟨λu hu=>?_,λj a b ha hb=>?_⟩
 ·obtain⟨j,hj⟩:=a0y.1 hu;have:=h j u hj;rcases a0Y j with e|e
  ·obtain⟨x,rfl⟩:=this.1 e;rfl
  ·have:=this.2 e;cases u<;>first|rfl|cases this
 ·rcases a0Y j with e|e
  ·obtain⟨x,rfl⟩:=(h j a ha).1 e;have:=(h (j+1) b hb).2 (by omega);cases b<;>first|exact⟨.inr rfl,rfl⟩|cases this
  ·have h1:=(h j a ha).2 e;obtain⟨x,rfl⟩:=(h (j+1) b hb).1 (by omega);cases a<;>first|exact⟨.inl rfl,rfl⟩|cases h1
theorem Dy (k:Nat):alt (a0b (a0g #[.int .i64 0,a0i none 0 0]).cells k).toList:=λj u hu=>by
 have hl:j<k*2:=by
  have:=(a0z.1 hu).1;simpa[a0b,a0h]using this
 have e:(a0b (a0g #[.int .i64 0,a0i none 0 0]).cells k).toList[j]? =some ((#[Value.int .i64 0,a0i none 0 0]:Array Value)[j%2]!):=by
  simp[a0b,a0h,hl]
 rw[e]at hu;cases hu;rcases a0Y j with e2|e2<;>rw[e2]
 ·exact⟨λ_=>⟨0,rfl⟩,λh=>by omega⟩
 ·exact⟨λh=>by omega,λ_=>rfl⟩
theorem AJ (k:Nat):(a0b (a0g #[.int .i64 0,a0i none 0 0]).cells k).toList.length=k*2:=by simp[a0b,a0h]
theorem alt.set {L:List Value} (h:alt L) {j:Nat} (hj:j%2=1) {v:Value} (hv:Uc v=true):alt (L.set j v):=λi u hu=>by
 rw[List.getElem?_set]at hu;split at hu
 ·split at hu
  ·cases hu;subst_vars;exact⟨λe=>by omega,λ_=>hv⟩
  ·cases hu
 ·exact h i u hu
def Ud [Ol] (B K:Nat) (w:World) (L:List Value) (acc:List (Int×List Term)):Prop:=
 (∀j,j<acc.length->∃o k c,L[j*2]? =some (.int .i64 (acc.getD j (0,[])).1)/\ L[j*2+1]? =some (a0i o k c)/\ Pw B K w o k c (acc.getD j (0,[])).2)/\
 ∀i j o k c o' k' c',i<j->j<acc.length->L[i*2+1]? =some (a0i o k c)->L[j*2+1]? =some (a0i o' k' c')->∀r,blk o=some r->blk o'≠some r
structure nI [Ol] (B K:Nat) (w:World) (v:Value) (acc:List (Int×List Term)) (g cap:Nat) (L:List Value):Prop where
 v:v=a0i (some ⟨g,0,none⟩) acc.length cap
 low:B<=g
 iW:bD w g L 199
 alt:alt L
 room:L.length=cap*2
 fit:acc.length<=cap
 big:cap<=maxLen
 pts:Ud B K w L acc
theorem Ud.keep [Ol] {B K:Nat} {w w':World} {L L':List Value} {acc:List (Int×List Term)} (h:Ud B K w L acc) (hL:∀i,i<acc.length*2->L'[i]? =L[i]?) (hw:∀o k c q,Pw B K w o k c q->(∃j,j<acc.length/\ L[j*2+1]? =some (a0i o k c))->Pw B K w' o k c q):Ud B K w' L' acc:=by
 refine⟨λj hj=>?_,λi j o k c o' k' c' hij hj h1 h2=>?_⟩
 ·obtain⟨o,k,c,h1,h2,h3⟩:=h.1 j hj;exact⟨o,k,c,by rw[hL _ (by omega)];exact h1,by rw[hL _ (by omega)];exact h2,hw _ _ _ _ h3 ⟨j,hj,h2⟩⟩
 ·rw[hL _ (by omega)]at h1 h2;exact h.2 i j o k c o' k' c' hij hj h1 h2
theorem nI.below [Ol] {B K:Nat} {w w':World} {v:Value} {acc:List (Int×List Term)} {g cap:Nat} {L:List Value} (h:nI B K w v acc g cap L) (hb:Below w.heap.size w w'):nI B K w' v acc g cap L:=
 ⟨h.v,h.low,h.iW.below hb,h.alt,h.room,h.fit,h.big,h.pts.keep (λ_ _=>rfl) λ_ _ _ _ h1 _=>h1.below hb⟩
theorem oM {α:Type} (l m:List α) (d:α) {j:Nat} (h:j<l.length):(l++m).getD j d=l.getD j d:=by
 simp[a0A,a0B h]
theorem ko {α:Type} (l:List α) (x d:α):(l++[x]).getD l.length d=x:=by simp[a0A]
theorem Ud.push [Ol] {B K:Nat} {w:World} {L:List Value} {acc:List (Int×List Term)} (h:Ud B K w L acc) {e:Int} (h0:L[acc.length*2]? =some (.int .i64 e)) (h1:L[acc.length*2+1]? =some (a0i none 0 0)):Ud B K w L (acc++[(e,[])]):=by
 refine⟨λj hj=>?_,λi j o k c o' k' c' hij hj a1 a2=>?_⟩
 ·rw[a0C,a0D]at hj;by_cases hja:j<acc.length
  ·rw[oM _ _ _ hja];exact h.1 j hja
  ·obtain rfl:j=acc.length:=by omega
   rw[ko];exact⟨none,0,0,h0,h1,[],Rw.zero _ _ _ _,trivial⟩
 ·rw[a0C,a0D]at hj;by_cases hja:j<acc.length
  ·exact h.2 i j o k c o' k' c' hij hja a1 a2
  ·obtain rfl:j=acc.length:=by omega
   rw[h1]at a2;cases a2;intro r _ hr;cases hr
def Vb [Ol] (B K:Nat) (w:World) (acc:List (Int×List Term)) (v':Value) (W:World):Prop:=
 (∃g cap L,nI B K W v' acc g cap L/\∀j,j+1=acc.length->L[j*2+1]? =some (a0i none 0 0))/\∃r,w.grownBy W r/\∀g,r=some g->B<=g/\∃L,bD w g L 199
theorem Dz [Ol] {B K:Nat} {v:Value} {acc:List (Int×List Term)} {w:World} (h:(acc=[]/\ v=a0i none 0 0)∨ ∃g cap L,nI B K w v acc g cap L) (hB:B<=w.heap.size) (hn:acc.length<1000000) (e:Int) (tt ty:TypeId):
  ∃v' W,(Builtin.append_ #[196,196] ty #[v,a0i (some ⟨w.heap.size,0,none⟩) 1 1]).run Tryz.prog (w.alloc (.cells #[.int .i64 e,a0i none 0 0] tt))= .ok v' W/\ Vb B K w (acc++[(e,[])]) v' W:=by
 obtain⟨i0,hi,hz0,hz1,hz2⟩:=info_parts Tryz.NQ;obtain⟨vs,hvs⟩:∃vs:List Value,vs=[.int .i64 e,a0i none 0 0]:=⟨_,rfl⟩;obtain⟨w1,hw1⟩:∃w1,w1=w.alloc (.cells #[.int .i64 e,a0i none 0 0] tt):=⟨_,rfl⟩;have hA1:bD w1 w.heap.size vs tt:=by rw[hw1,hvs];exact bD.new w _ tt
 have hB1:Below w.heap.size w w1:=by rw[hw1];exact af _ _
 have hs1:w1.heap.size=w.heap.size+1:=by rw[hw1];simp
 rw[<-hw1];have hv1:∀v∈vs,v.oneCell'=true:=by rw[hvs];intro v hv;simp at hv;rcases hv with rfl|rfl<;>rfl
 have hv2:vs.length=2:=by rw[hvs];rfl
 have hnews:∀j v,vs[j]? =some v->w1.cell? ((⟨w.heap.size,0,none⟩:Addr).add j)=some v:=λj v hj=>by rw[Addr.add_lit,hA1.cell,a0Z,hj]
 have hnl:vs.length=1*i0.size:=by rw[hz1,hv2]
 have hva:∀j u,vs[j]? =some u->(j%2=0->∃x,u= .int .i64 x)/\ (j%2=1->Uc u=true):=λj u hu=>by
  rw[hvs]at hu
  match j,hu with
  |0,hu=>cases hu;exact⟨λ_=>⟨e,rfl⟩,λh=>by omega⟩
  |1,hu=>cases hu;exact⟨λh=>by omega,λ_=>rfl⟩
  |j+2,hu=>simp at hu
 have hv0:vs[0]? =some (.int .i64 e):=by rw[hvs];rfl
 have NR:vs[1]? =some (a0i none 0 0):=by rw[hvs];rfl
 clear hw1 hvs;rcases h with⟨rfl,rfl⟩|⟨g,cap,L,hR⟩
 ·have hr:=run_append_nil (P:=Tryz.prog) w1 196 ty 199 i0 _ Tryz.underlying196 hi hz0 ⟨w.heap.size,0,none⟩ 1 1 vs hnl hnews (by omega) (by omega) (by rw[hz2];omega);obtain⟨c',hc'⟩:∃c',c'=grownCap w1 1 0 199:=⟨_,rfl⟩;have hge:1<=c':=by rw[hc'];exact grownCap_ge _ _ _ _
  have hle:c'<=maxLen:=by rw[hc'];exact grownCap_le_maxLen _ _ _ _ (by unfold maxLen;omega)
  rw[<-hc']at hr;obtain⟨Z,hZ⟩:∃Z,Z=(a0b (a0g #[.int .i64 0,a0i none 0 0]).cells (c'-1)).toList:=⟨_,rfl⟩;have hZa:alt Z:=by rw[hZ];exact Dy _
  have Vd:Z.length=(c'-1)*2:=by rw[hZ];exact AJ _
  have hMe:vs.toArray++a0b (a0g #[.int .i64 0,a0i none 0 0]).cells (c'-1)=(vs++Z).toArray:=by
   apply Array.ext';rw[hZ];simp
  rw[hMe]at hr;have Pv:Below w1.heap.size w1 (w1.drew.alloc (.cells (vs++Z).toArray 199)):=(a0f _ w1).drew.alloc (a1a _) _;refine⟨_,_,hr,⟨_,c',vs++Z,⟨rfl,by show B<=w1.heap.size;omega,bD.new _ _ _,λj u hu=>?_,by rw[a0C,hv2,Vd];omega,hge,hle,Ud.push (acc:=[]) ⟨λj hj=>by simp at hj,λi j o k c o' k' c' hij hj=>by simp at hj⟩ ?_ ?_⟩,λj hj=>?_⟩,none,eU _ (Below.steps hB1 Pv),λg h=>by cases h⟩
  ·by_cases hj:j<2
   ·rw[a0B (by omega)]at hu;exact hva j u hu
   ·rw[a0E (by omega),hv2]at hu;have:=hZa _ u hu;exact⟨λh=>this.1 (by omega),λh=>this.2 (by omega)⟩
  ·rw[a0B (by simp[hv2])];exact hv0
  ·rw[a0B (by simp[hv2])];exact NR
  ·obtain rfl:j=0:=by simpa using hj
   rw[a0B (by simp[hv2])];exact NR
 ·obtain rfl:=hR.v;obtain⟨n,hnn⟩:∃n,n=acc.length:=⟨_,rfl⟩;have hfit:=hR.fit;have u7:=hR.room;have NS:=hR.iW.below hB1;rw[<-hnn]at hfit hn ⊢;by_cases hr:n+1<=cap
  ·have hrun:=uE (P:=Tryz.prog) w1 196 ty 199 i0 Tryz.underlying196 hi g 0 n cap ⟨w.heap.size,0,none⟩ 1 1 vs hnl hnews hv1 hr (λj hj=>by
     rw[NS.cell,hz1,a0F (by omega)];rfl) (λj hj=>NS.fz _)
   rw[hz1,a0Z]at hrun;have hG:=uT g vs w1 (n*2);have hF:qw w1 (w1.setCells g (n*2) vs) g:=⟨⟨L,_,NS,hR.alt.shy⟩,hG⟩;have hL:∀i,i<acc.length*2->(pF L (n*2) vs)[i]? =L[i]? :=λi hi=>jQ _ _ _ _ (.inl (by omega))
   have hgT:∀o k c q,Pw B K w1 o k c q->∀r,blk o=some r->r≠g:=λo k c q h1 r hr e=>by
    obtain⟨X,h1,_⟩:=h1;rcases h1.ex with⟨rfl,_⟩|⟨g',off,L',rfl,_,hA',_⟩
    ·cases hr
    ·cases hr;subst e;exact absurd (NS.Yz hA') (by decide)
   refine⟨_,_,hrun,⟨g,cap,pF L (n*2) vs,⟨by rw[a0C,<-hnn];rfl,hR.low,NS.put vs _,λj u hu=>?_,by rw[iO];exact u7,by rw[a0C,<-hnn];exact hr,hR.big,Ud.push ((hR.below hB1).pts.keep hL λo k c q h1 _=>h1.iN hF (hgT o k c q h1)) ?_ ?_⟩,λj hj=>?_⟩,some g,dS (eU _ hB1) hG,λg' h=>by cases h;exact⟨hR.low,L,hR.iW⟩⟩
   ·by_cases hj:j<n*2∨n*2+vs.length<=j
    ·rw[jQ _ _ _ _ hj]at hu;exact hR.alt j u hu
    ·have hjl:j<L.length:=by
      have:=(a0z.1 hu).1;rwa[iO]at this
     rw[jV _ _ _ _ (by omega) (by omega) hjl]at hu;have:=hva _ u hu;exact⟨λh=>this.1 (by omega),λh=>this.2 (by omega)⟩
   ·rw[<-hnn,jV _ _ _ _ (by omega) (by omega) (by omega),a1b];exact hv0
   ·rw[<-hnn,jV _ _ _ _ (by omega) (by omega) (by omega),show n*2+1-n*2=1 by omega];exact NR
   ·obtain rfl:j=n:=by rw[a0C,a0D]at hj;omega
    rw[jV _ _ _ _ (by omega) (by omega) (by omega),show j*2+1-j*2=1 by omega];exact NR
  ·obtain rfl:n=cap:=by omega
   obtain⟨O,hO⟩:∃O,O=L.take (n*2):=⟨_,rfl⟩;have hOL:O=L:=by rw[hO];exact a0G (by omega)
   rw[hOL]at hO;have hr:=run_append_grow (P:=Tryz.prog) w1 196 ty 199 i0 _ Tryz.underlying196 hi hz0 ⟨g,0,none⟩ n n L (by rw[u7,hz1]) (λj v hj=>by rw[Addr.add_lit,NS.cell,a0Z,hj]) ⟨w.heap.size,0,none⟩ 1 1 vs hnl hnews (by omega) (by omega) (by rw[hz2];exact growslice_fits (by omega) (by omega));obtain⟨c',hc'⟩:∃c',c'=grownCap w1 (n+1) n 199:=⟨_,rfl⟩;have hge:n+1<=c':=by rw[hc'];exact grownCap_ge _ _ _ _
   have hle:c'<=maxLen:=by rw[hc'];exact grownCap_le_maxLen _ _ _ _ (by unfold maxLen;omega)
   rw[<-hc']at hr;obtain⟨Z,hZ⟩:∃Z,Z=(a0b (a0g #[.int .i64 0,a0i none 0 0]).cells (c'-(n+1))).toList:=⟨_,rfl⟩;have hZa:alt Z:=by rw[hZ];exact Dy _
   have Vd:Z.length=(c'-(n+1))*2:=by rw[hZ];exact AJ _
   have hMe:L.toArray++vs.toArray++a0b (a0g #[.int .i64 0,a0i none 0 0]).cells (c'-(n+1))=(L++vs++Z).toArray:=by
    apply Array.ext';rw[hZ];simp
   rw[hMe]at hr;have Pv:Below w1.heap.size w1 (w1.drew.alloc (.cells (L++vs++Z).toArray 199)):=(a0f _ w1).drew.alloc (a1a _) _;have hlv:(L++vs).length=(n+1)*2:=by rw[a0C,u7,hv2];omega
   refine⟨_,_,hr,⟨w1.heap.size,c',L++vs++Z,⟨by rw[a0C,<-hnn];rfl,by omega,bD.new _ _ _,λj u hu=>?_,by rw[a0C,hlv,Vd];omega,by rw[a0C,<-hnn];exact hge,hle,Ud.push (((hR.below hB1).below Pv).pts.keep (λi hi=>?_) λ_ _ _ _ h1 _=>h1) ?_ ?_⟩,λj hj=>?_⟩,none,eU _ (Below.steps hB1 Pv),λg h=>by cases h⟩
   ·by_cases hj:j<n*2
    ·rw[a0H,a0B (by omega)]at hu;exact hR.alt j u hu
    ·by_cases hj2:j<(n+1)*2
     ·rw[a0B (by omega),a0E (by omega),u7]at hu;have:=hva _ u hu;exact⟨λh=>this.1 (by omega),λh=>this.2 (by omega)⟩
     ·rw[a0E (by omega),hlv]at hu;have:=hZa _ u hu;exact⟨λh=>this.1 (by omega),λh=>this.2 (by omega)⟩
   ·rw[a0H,a0B (by omega)]
   ·rw[<-hnn,a0B (by omega),a0E (by omega),u7,a1b];exact hv0
   ·rw[<-hnn,a0B (by omega),a0E (by omega),u7,show n*2+1-n*2=1 by omega];exact NR
   ·obtain rfl:j=n:=by rw[a0C,a0D]at hj;omega
    rw[a0B (by omega),a0E (by omega),u7,show j*2+1-j*2=1 by omega];exact NR
theorem nI.last [Ol] {B K:Nat} {w W:World} {v:Value} {a:List (Int×List Term)} {e:Int} {q q':List Term} {g cap:Nat} {L:List Value} (h:nI B K w v (a++[(e,q)]) g cap L) {po:Option Addr} {pn pc:Nat} (hx:L[a.length*2+1]? =some (a0i po pn pc)) (hp:Pw B K w po pn pc q)
  {ro:Option Addr} {rn rc:Nat} (hr:Pw B K W ro rn rc q') (hG:w.grownBy W (blk po)) (hd:blk ro=blk po∨ ∀g',blk ro=some g'->w.heap.size<=g'):nI B K (W.setCell ⟨g,a.length*2+1,none⟩ (a0i ro rn rc)) v (a++[(e,q')]) g cap (L.set (a.length*2+1) (a0i ro rn rc)):=by
 have hT:∀{V:World} {L':List Value} {o:Option Addr} {k c:Nat} {z:List Term},bD V g L' 199->Pw B K V o k c z->∀r,blk o=some r->r≠g:=λ{V L' o k c z} hA h1 r hr e=>by
  obtain⟨X,h1,_⟩:=h1;rcases h1.ex with⟨rfl,_⟩|⟨g',off,L',rfl,_,hA',_⟩
  ·cases hr
  ·cases hr;subst e;exact absurd (hA.Yz hA') (by decide)
 have hAW:bD W g L 199:=h.iW.apart hG λe2=>hT h.iW hp g e2.symm rfl
 have hF:qw W (W.setCell ⟨g,a.length*2+1,none⟩ (a0i ro rn rc)) g:=⟨⟨L,_,hAW,h.alt.shy⟩,bV _ _ _ _⟩;have hll:a.length*2+1<L.length:=(a0z.1 hx).1;have hlt:=hp.lt;have hlen:(a++[(e,q')]).length=(a++[(e,q)]).length:=by simp
 refine⟨by rw[hlen];exact h.v,h.low,hAW.set _ _,h.alt.set (by omega) rfl,by rw[List.length_set];exact h.room,by rw[hlen];exact h.fit,h.big,λj hj=>?_,λi j o k c o' k' c' hij hj a1 a2=>?_⟩
 ·rw[hlen,a0C,a0D]at hj;by_cases hja:j<a.length
  ·obtain⟨o,k,c,h1,h2,h3⟩:=h.pts.1 j (by simp;omega);rw[oM _ _ _ hja]at h1 h3 ⊢;refine⟨o,k,c,by rw[a0I (by omega)];exact h1,by rw[a0I (by omega)];exact h2,?_⟩;have h4:=h3.stepG hG hp.uF λr hr e2=>h.pts.2 j a.length o k c po pn pc hja (by simp) h2 hx r e2 hr
   exact h4.iN hF (hT hAW h4)
  ·obtain rfl:j=a.length:=by omega
   rw[ko];obtain⟨o,k,c,h1,_,_⟩:=h.pts.1 a.length (by simp);rw[ko]at h1;exact⟨ro,rn,rc,by rw[a0I (by omega)];exact h1,by rw[a0J hll],hr.iN hF (hT hAW hr)⟩
 ·rw[hlen,a0C,a0D]at hj;rw[a0I (by omega)]at a1;by_cases hja:j<a.length
  ·rw[a0I (by omega)]at a2;exact h.pts.2 i j o k c o' k' c' hij (by simp;omega) a1 a2
  ·obtain rfl:j=a.length:=by omega
   rw[a0J hll]at a2;cases a2;intro r hr1 hr2;obtain⟨o2,k2,c2,_,h2,h3⟩:=h.pts.1 i (by simp;omega);rw[a1]at h2;cases h2;rcases hd with e2|e2
   ·exact h.pts.2 i a.length o k c po pn pc hij (by simp) a1 hx r hr1 (e2▸hr2)
   ·have:=e2 r hr2;have:=(h3.lt r hr1).2;omega
open Lib (hid)
def lV [Ol] (B K:Nat) (w:World) (acc:List (Int×List Term)) (v:Value) (w':World):Prop:=
 ((acc=[]/\ v=a0i none 0 0)∨(acc≠[]/\∃g c L,nI B K w' v acc g c L))/\ Below B w w'
theorem lV.below [Ol] {B K:Nat} {w w1 w2:World} {acc:List (Int×List Term)} {v:Value} (h:lV B K w acc v w1) (hb:Below w1.heap.size w1 w2) (hB:B<=w1.heap.size):lV B K w acc v w2:=
 ⟨h.1.imp id λ⟨h0,g,c,L,h⟩=>⟨h0,g,c,L,h.below hb⟩,h.2.trans (hb.mono hB)⟩
theorem Ml.init [Ol] {w:World} {ao:Option Addr} {n cap:Nat} {xs:List (Int×Int)} {a:Int×Int} (h:Ml w ao (n+1) cap (xs++[a])):Ml w ao n cap xs:=
 ⟨by have:=h.len;simp at this;omega,by have:=h.le;omega,by have:=h.big;omega,λp hp=>h.wf p (by simp[hp]),h.nil,λad had t ht=>by
  have hl:xs.length=n:=by have:=h.len;simp at this;omega
  have:=h.cells ad had t (by omega);rwa[oM _ _ _ (by omega)]at this,λh0 ad had=>h.kp (by omega) ad had⟩
theorem tT {v:Int} {acc:List (Int×List Term)} {t:Term} {e:Int} (he:aJ t.2 v=e) (h:∀a e0 q,acc=a++[(e0,q)]->e0≠e):kr v acc t=acc++[(e,[(t.1,gN v t.2)])]:=by
 unfold kr;rcases iQ acc with rfl|⟨a,⟨e0,q⟩,rfl⟩
 ·simp[he]
 ·have:=h a e0 q rfl;simp[he,this]
theorem AL {v:Int} {a:List (Int×List Term)} {t:Term} {e:Int} {q:List Term} (he:aJ t.2 v=e):kr v (a++[(e,q)]) t=a++[(e,q++[(t.1,gN v t.2)])]:=by
 unfold kr;simp[he]
theorem NT (v:Int) (t:Term) (acc:List (Int×List Term)):(kr v acc t).length<=acc.length+1:=by
 unfold kr;split
 ·split<;>simp
 ·simp
theorem ve (v:Int):∀(l:List Term) (acc:List (Int×List Term)),(l.foldl (kr v) acc).length<=acc.length+l.length
 |[],acc=>by simp
 |t::l,acc=>by
  have:=ve v l (kr v acc t);have:=NT v t acc;simp only[a0K,a0L];omega
theorem AO (v:Int) (m:Nat):∀(l:List Term) (acc:List (Int×List Term)),(∀g∈acc,g.2.length+l.length<=m)->l.length<=m->∀g∈l.foldl (kr v) acc,g.2.length<=m
 |[],acc,h,_=>λg hg=>by have:=h g hg;omega
 |t::l,acc,h,hl=>by
  simp only[a0L]at hl h;refine AO v m l (kr v acc t) (λg hg=>?_) (by omega);rcases iQ acc with rfl|⟨a,⟨e0,q⟩,rfl⟩
  ·rw[tT rfl (λa e0 q h=>by simp at h)]at hg;simp at hg;subst hg;simp;omega
  ·by_cases he:e0=aJ t.2 v
   ·subst he;rw[AL rfl]at hg;rcases a0M.1 hg with h1|h1
    ·have:=h g (by simp[h1]);omega
    ·simp at h1;subst h1;have:=h (aJ t.2 v,q) (by simp);simp at this ⊢;omega
   ·rw[tT rfl (λa' e1 q' h h3=>he (by have h2:=(a0N h rfl).2;cases h2;exact h3))]at hg;rcases a0M.1 hg with h1|h1
    ·have:=h g h1;omega
    ·simp at h1;subst h1;simp;omega
theorem Kj [Ol] {K:Nat} {ao:Option Addr} {n cap:Nat} {p:List Term} {w:World} (v:Int) (hp:Pc K w ao n cap p) (hf:fall p) (hcl:∀t∈p,fe t.2<=v) (hn:n<=100000):
  Calls Tryz.prog 149 #[a0i ao n cap,.int .i64 v] w (λe w'=>∃x,e= .returned x/\ lV w.heap.size K w (bA v p) x w'):=by
 have HP:=hid hp;have uj:Hid (p.length=n):=hp.len;have HM:=hid (bU hf);have HC:=hid hcl;clear hp hf hcl;go_enter Tryz.func149,Tryz.ntmps149;have Ci:Hid (lV w.heap.size K w (bA v (p.take 0)) (a0i none 0 0) w):=⟨.inl ⟨by simp[bA],rfl⟩,a0f _ _⟩;go_wp2_with fail;go_loopw [5,13] (λs i wr=>∃(k:Nat),i= .int .i64 k/\ k<=n/\ Hid (lV w.heap.size K w (bA v (p.take k)) s wr)) (λ_ i _=>n-(intOf i).toNat)
 case atStart=>exact⟨0,rfl,a1c _,Ci.out⟩
 case round=>
  clear Ci;obtain⟨k,rfl,hk,HS⟩:=hrel;by_cases hkn:k<n
  ·obtain⟨b,off,xm,xa,xn,xc,xp,xq,xr,Cj,hbl,hc,Jz,hBd,zw⟩:=HP.out.at (k:=k) hkn;subst Cj;have hbw:Below w.heap.size w wr:=HS.out.2;obtain⟨c0,c1,c2⟩:=hc wr hbw;have hkl:k<p.length:=by rw[uj.out];exact hkn
   obtain⟨t,ht⟩:∃t,t=p.getD k (0,[]):=⟨_,rfl⟩;rw[<-ht]at Jz hBd zw;have htp:t∈p:=by rw[ht];exact getD_in _ hkl
   have hpk:p[k]=t:=by rw[ht];simp[a0A,hkl]
   have hnx:bA v (p.take (k+1))=kr v (bA v (p.take k)) t:=by rw[a0O hkl,ou,hpk]
   have hal:(bA v (p.take k)).length<=k:=by
    have:=ve v (p.take k) [];rw[a0P]at this;simp only[a0Q]at this;unfold bA;omega
   have HT:Hid (∀V,Below w.heap.size w V->Cn V xm xa xn xc t.1/\ Ml V xp xq xr t.2):=λV hV=>⟨Jz.below hV,zw.below hV⟩
   have BZ:=hid hBd;have hlo:=Rv (HM.out t htp) (HC.out t htp);have HN:=hid (a0a hnx (a0a hlo hal));have hki:(k:Int)<(n:Int):=by omega
   clear hc Jz hBd zw hbl ht htp hpk hnx hkl hlo hal;go_upto_region 5 with(fail)
   refine aj (λW1 hW=>?_);obtain⟨b7,yo⟩:∃b7,b7=wr.heap.size:=⟨_,rfl⟩;have a1:bD W1 b7 [.bool xm,a0i xa xn xc,a0i xp xq xr] 70/\ Below wr.heap.size wr W1:=by rw[hW,yo];exact jC wr [.bool xm,a0i xa xn xc,a0i xp xq xr] 70
   rw[<-yo];have Ao:=hid (HS.out.below a1.2 hbw.size);have HB1:=hid a1.2;have hbr:wr.heap.size<=b7:=by omega
   have HA1:=hid a1.1;have hbB:w.heap.size<=b7:=by rw[yo];exact hbw.size
   clear hW a1 c0 c1 c2 hbw yo;have hlo:=HN.out.2.1;rcases iQ t.2 with h0|⟨xs,⟨u,x⟩,h0⟩
   obtain rfl:xq=0:=by have:=(HT.out w (a0f _ _)).2.len;rw[h0]at this;simpa using this.symm
   have HE:Hid (aJ t.2 v=0/\ gN v t.2=t.2):=by rw[h0];exact⟨rfl,rfl⟩
   obtain⟨d0,d1,d2⟩:=HA1.out.c3;clear h0 hlo
   focus go_upto_region 10 with(fail)
   refine aj (λW2 hW=>?_);have HA2:Hid (bD W2 b7 [.bool xm,a0i xa xn xc,a0i xp 0 xr] 70):=by rw[hW];exact HA1.out
   have HB2:Hid (Below wr.heap.size wr W2):=by rw[hW];exact HB1.out
   have HT2:Hid (∀V,Below w.heap.size w V->Cn V xm xa xn xc t.1/\ Ml V xp 0 xr (gN v t.2)):=λV hV=>by rw[HE.out.2];exact HT.out V hV
   have HX:=hid HE.out.1;clear hW HE d0 d1 d2 HT HA1 Ao HB1
   rotate_left
   rw[h0]at hlo;have hxl:xs.length+1=xq:=by have:=(HT.out w (a0f _ _)).2.len;rw[h0]at this;simpa using this
   obtain⟨j,hj⟩:∃j,j=xs.length:=⟨_,rfl⟩;obtain rfl:xq=j+1:=by omega
   obtain⟨pb,po,hpo,_,hpc⟩:=(HT.out W1 Ao.out.2).2.at (by omega);subst hpo;have hw:=hpc j (by omega);rw[h0,hj,ko,<-hj]at hw;obtain⟨w0,w1⟩:=hw;obtain⟨d0,d1,d2⟩:=HA1.out.c3;have hbig:j+1<=8796093022208:=(HT.out w (a0f _ _)).2.big;have hj0:(0:Int)<=(j:Int):=by omega
   have hji:(j:Int)<(j:Int)+1:=by omega
   have hjb: -9223372036854775808<=(j:Int)/\ (j:Int)<=9223372036854775807:=⟨by omega,by omega⟩;have HWR:Hid (a0c.wrap ((j:Int)+1-1)=(j:Int)/\ wrap64 (j:Int)=(j:Int)):=⟨by rw[show(j:Int)+1-1=j by omega];exact a0d _ hjb,a0e _ hjb⟩;clear hjb;have hjr:j<=xr:=Nat.le_of_succ_le (HT.out w (a0f _ _)).2.le;have HXL:=hid (a0a hxl hj);clear hpc hxl hj hbig;have H0:=hid h0;clear h0;by_cases huv:u=v
   have HE:Hid (aJ t.2 v=x/\ gN v t.2=xs):=by
    rw[H0.out];have:DC v (xs++[(u,x)])=(x,xs):=by simp[DC,huv]
    rw[this]at hlo;exact⟨(congrArg Prod.fst hlo).symm,(congrArg Prod.snd hlo).symm⟩
   have d9:=HA1.out.fz 2;clear hlo;obtain rfl:v=u:=huv.symm;obtain⟨hwr,hwr2⟩:=HWR.out
   focus go_upto_region 10 with(fail)
   refine aj (λW2 hW=>?_);have HA2:Hid (bD W2 b7 [.bool xm,a0i xa xn xc,a0i (some ⟨pb,po,none⟩) j xr] 70):=by rw[hW];exact HA1.out.set 2 _
   have HB2:Hid (Below wr.heap.size wr W2):=by rw[hW];exact HB1.out.setCell hbr _
   have HT2:Hid (∀V,Below w.heap.size w V->Cn V xm xa xn xc t.1/\ Ml V (some ⟨pb,po,none⟩) j xr (gN v t.2)):=λV hV=>by
    have h:=HT.out V hV;rw[H0.out]at h;rw[HE.out.2];exact⟨h.1,h.2.init⟩
   have HX:=hid HE.out.1;clear hW HE d0 d1 d2 d9 HT HA1 Ao HB1 w0 w1 H0 hj0 hji hwr hwr2 HWR hjr HXL
   rotate_left
   have HE:Hid (aJ t.2 v=0/\ gN v t.2=t.2):=by
    have e2:DC v (xs++[(u,x)])=(0,xs++[(u,x)]):=by simp[DC,huv]
    rw[e2]at hlo;rw[H0.out];exact⟨(congrArg Prod.fst hlo).symm,(congrArg Prod.snd hlo).symm⟩
   clear hlo;obtain⟨hwr,hwr2⟩:=HWR.out
   focus go_upto_region 10 with(fail)
   refine aj (λW2 hW=>?_);have HA2:Hid (bD W2 b7 [.bool xm,a0i xa xn xc,a0i (some ⟨pb,po,none⟩) (j+1) xr] 70):=by rw[hW];exact HA1.out
   have HB2:Hid (Below wr.heap.size wr W2):=by rw[hW];exact HB1.out
   have HT2:Hid (∀V,Below w.heap.size w V->Cn V xm xa xn xc t.1/\ Ml V (some ⟨pb,po,none⟩) (j+1) xr (gN v t.2)):=λV hV=>by rw[HE.out.2];exact HT.out V hV
   have HX:=hid HE.out.1;clear hW HE d0 d1 d2 w0 w1 H0 hj0 hji hwr hwr2 HWR hjr HXL HT HA1 Ao HB1
   all_goals
    obtain⟨a,haa⟩:∃a,a=bA v (p.take k):=⟨_,rfl⟩;have hbw:Below w.heap.size w W2:=HS.out.2.trans (HB2.out.mono HS.out.2.size);have hsr:=HS.out.1;rw[<-haa]at hsr HN;clear haa;have hbs:=hbw.size;have hal:=HN.out.2.2;rcases hsr with⟨ha,hs⟩|⟨hne,g0,cc0,L0,hR0⟩
    subst hs;obtain⟨v8,W8,UE,⟨g,cc,L,hR,hz⟩,r,hG,Rs⟩:=Dz (K:=K) (.inl ⟨ha,rfl⟩) hbs (by omega) (aJ t.2 v) 199 196;rw[HX.out]at UE;have M9:=hR.v;rw[a0C,a0D]at M9;obtain⟨la,hla⟩:∃la,la=a.length:=⟨_,rfl⟩;rw[<-hla]at M9;subst M9;have jl:Hid (Below w.heap.size w W8):=hbw.grown hG hbs λr h=>(Rs r h).1
    have HA8:Hid (bD W8 b7 _ 70):=HA2.out.apart hG λe=>by
     obtain⟨_,L2,hA⟩:=Rs b7 e.symm;exact absurd (HA2.out.Yz hA) (by decide)
    have HF:Hid (∃a1 e1 q1,a1.length=la/\ nI w.heap.size K W8 (a0i (some ⟨g,0,none⟩) (la+1) cc) (a1++[(e1,q1)]) g cc L/\ bA v (p.take (k+1))=a1++[(e1,q1++[(t.1,gN v t.2)])]/\∀o k c,L[a1.length*2+1]? =some (a0i o k c)->∀r,blk o=some r->r<b7):=⟨a,_,[],hla.symm,hR,by rw[HN.out.1,tT rfl (λa' e0 q h=>by rw[ha]at h;simp at h)];rfl,λo k c h r hr=>by rw[hz _ (by simp)]at h;cases h;cases hr⟩;have Ve:Hid (la<=k):=hla▸hal;clear hbw hbs hal ha hR hG Rs hla HB2 HA2 hz
    focus go_upto_region 12 with(at_builtin;refine kZ rfl (.tmp 58) (.tmp 61) 196 196 rfl _ _ rfl rfl UE ?_)
    clear UE
    rotate_left
    rcases iQ a with h|⟨a0,⟨e0,q0⟩,h⟩
    exact absurd h hne;subst h;have hR:=hR0.below HB2.out;have M9:=hR.v;rw[a0C,a0D]at M9 hal;obtain⟨E5,hla⟩:∃E5,E5=a0.length:=⟨_,rfl⟩;rw[<-hla]at M9 hal;subst M9
    have hce:W2.cell? ⟨g0,E5*2,none⟩=some (.int .i64 e0):=by
     obtain⟨_,_,_,h,_⟩:=hR.pts.1 a0.length (by simp);rw[ko]at h;rw[hR.iW.cell,hla];exact h
    have hl0:(0:Int)<=(E5:Int):=by omega
    have hl1:(E5:Int)<(E5:Int)+1:=by omega
    have hq0:((E5:Int)+1==0)=false:=by simp;omega
    have hlb: -9223372036854775808<=(E5:Int)/\ (E5:Int)<=9223372036854775807:=⟨by omega,by omega⟩;have HWL:Hid (a0c.wrap ((E5:Int)+1-1)=(E5:Int)/\ wrap64 (E5:Int)=(E5:Int)):=⟨by rw[show(E5:Int)+1-1=E5 by omega];exact a0d _ hlb,a0e _ hlb⟩;clear hlb;by_cases hee:e0=aJ t.2 v;have h9:e0=_:=hee.trans HX.out;have jl:=hid hbw
    have HF:Hid (∃a1 e1 q1,a1.length=E5/\ nI w.heap.size K W2 (a0i (some ⟨g0,0,none⟩) (E5+1) cc0) (a1++[(e1,q1)]) g0 cc0 L0/\ bA v (p.take (k+1))=a1++[(e1,q1++[(t.1,gN v t.2)])]/\∀o k c,L0[a1.length*2+1]? =some (a0i o k c)->∀r,blk o=some r->r<b7):=⟨a0,e0,q0,hla.symm,hR,by rw[HN.out.1,AL hee.symm],λo k c h r hr=>by
     obtain⟨o',k',c',_,h2,h3⟩:=hR0.pts.1 a0.length (by simp);rw[h2]at h;cases h;have:=(h3.lt r hr).2;omega⟩
    have Ve:Hid (E5<=k):=by rw[Hid];omega
    obtain⟨W8,hW8⟩:∃W8,W8=W2:=⟨_,rfl⟩;rw[<-hW8]at jl HF HA2 hce ⊢;have HA8:=HA2;clear hbw hbs hal hR hR0 hla HB2 HA2 hee HN hne hW8;subst h9;obtain⟨hwl,Ry⟩:=HWL.out
    focus go_upto_region 12 with(fail)
    clear hce hwl Ry hl0 hl1 hq0 HWL;obtain⟨g,rfl⟩:∃g,g=g0:=⟨_,rfl⟩;obtain⟨cc,rfl⟩:∃g,g=cc0:=⟨_,rfl⟩;obtain⟨L,rfl⟩:∃g,g=L0:=⟨_,rfl⟩;obtain⟨la,rfl⟩:∃g,g=E5:=⟨_,rfl⟩
    rotate_left
    have hb9:(e0 !=aJ t.2 v)=true:=by simpa using hee
    rw[HX.out]at hb9;obtain⟨v8,W8,UE,⟨g,cc,L,hR2,hz⟩,r,hG,Rs⟩:=Dz (K:=K) (.inr ⟨g0,cc0,L0,hR⟩) hbs (by rw[a0C,a0D];omega) (aJ t.2 v) 199 196;rw[HX.out]at UE;have M9:=hR2.v;rw[a0C,a0D]at M9;obtain⟨la,hlb⟩:∃la,la=(a0++[(e0,q0)]).length:=⟨_,rfl⟩;rw[<-hlb]at M9;subst M9;have jl:Hid (Below w.heap.size w W8):=hbw.grown hG hbs λr h=>(Rs r h).1
    have HA8:Hid (bD W8 b7 _ 70):=HA2.out.apart hG λe=>by
     obtain⟨_,_,hA⟩:=Rs b7 e.symm;exact absurd (HA2.out.Yz hA) (by decide)
    have HF:Hid (∃a1 e1 q1,a1.length=la/\ nI w.heap.size K W8 (a0i (some ⟨g,0,none⟩) (la+1) cc) (a1++[(e1,q1)]) g cc L/\ bA v (p.take (k+1))=a1++[(e1,q1++[(t.1,gN v t.2)])]/\∀o k c,L[a1.length*2+1]? =some (a0i o k c)->∀r,blk o=some r->r<b7):=⟨_,_,[],hlb.symm,hR2,by rw[HN.out.1,tT rfl (λa' e1 q h h3=>hee (by have h2:=(a0N h rfl).2;cases h2;exact h3))];rfl,λo k c h r hr=>by rw[hz _ (by simp)]at h;cases h;cases hr⟩;have Ve:Hid (la<=k):=by rw[hlb,a0C,a0D,<-hla];exact hal
    clear hbw hbs hal hR hR0 hR2 hG Rs hlb HB2 HA2 hee HN hne hla hz;obtain⟨hwl,Ry⟩:=HWL.out
    focus go_upto_region 12 with(at_builtin;refine kZ rfl (.tmp 58) (.tmp 61) 196 196 rfl _ _ rfl rfl UE ?_)
    clear UE hce hwl Ry hl0 hl1 hb9 hq0 HWL
    all_goals
     clear HX;obtain⟨a1,e1,q1,hl1,hR,hnx,hzb⟩:=HF.out;obtain⟨qo,qn,qc,_,hx1,hq1⟩:=hR.pts.1 a1.length (by simp);rw[ko]at hq1;have hbs:=jl.out.size;have ae5:=hR.iW.lt
     have Jg:qn<1000000:=by
      have h1:=AO v (k+1) (p.take (k+1)) [] (λg h=>by cases h) (by rw[a0P];omega) (e1,q1++[(t.1,gN v t.2)]) (by rw[show(p.take (k+1)).foldl (kr v) []=bA v (p.take (k+1))from rfl,hnx];simp);have h2:q1.length=qn:=hq1.len;simp at h1;omega
     have HZB:Hid (∀r,blk qo=some r->r<b7):=hzb _ _ _ hx1;have HQ:=hid (a0a hx1 (a0a hR (a0a hnx hl1)));have HCE:Hid (W8.cell? ⟨g,la*2+1,none⟩=some (a0i qo qn qc)):=by rw[Hid,hR.iW.cell,<-hl1];exact hx1
     have hl0:(0:Int)<=(la:Int):=by omega
     have hli:(la:Int)<(la:Int)+1:=by omega
     have hlb: -9223372036854775808<=(la:Int)/\ (la:Int)<=9223372036854775807:=⟨by omega,by have:=Ve.out;omega⟩;have hwl:a0c.wrap ((la:Int)+1-1)=(la:Int):=by rw[show(la:Int)+1-1=la by omega];exact a0d _ hlb
     have Ry:wrap64 (la:Int)=(la:Int):=a0e _ hlb;clear hx1 hR hnx hl1 hlb HF hzb;go_upto_region 13 with(fail)
     clear hwl Ry;refine wp_region_held_drew (S:=λw'=>w'.cell? ⟨b7,0,none⟩=some (.bool xm)/\ w'.cell? ⟨b7,1,none⟩=some (a0i xa xn xc)/\ w'.cell? ⟨b7,2,none⟩=some _) (by kernel_rfl) (bD.c3 (T:=70) (HA8.out.below (a0f _ _).drew)) (λhH=>?_);refine ai (λV hW=>?_);have dr:=(a0f W8.heap.size W8).drew;have YA:=hid (HA8.out.below dr);rw[<-hW]at YA;have HBV:Hid (Below w.heap.size w V):=by rw[hW];exact jl.out.trans (dr.mono hbs)
     have hcV:V.cell? ⟨g,la*2+1,none⟩=some (a0i qo qn qc):=by rw[hW,dr.cell ae5];exact HCE.out
     have ZU:Hid (L[la*2+1]? =some (a0i qo qn qc)/\ nI w.heap.size K V (a0i (some ⟨g,0,none⟩) (la+1) cc) (a1++[(e1,q1)]) g cc L/\ bA v (p.take (k+1))=a1++[(e1,q1++[(t.1,gN v t.2)])]/\ a1.length=la):=by
      obtain⟨x1,x2,x3,x4⟩:=HQ.out;exact⟨x4▸x1,by rw[hW];exact x2.below dr,x3,x4⟩
     have hqV:Pw w.heap.size K V qo qn qc q1:=by rw[hW];exact hq1.below dr
     rw[<-hW]at hH;have hbV:w.heap.size<=V.heap.size:=HBV.out.size;have hgV:g<V.heap.size:=ZU.out.2.1.iW.lt;clear dr HA8 jl HCE HQ hq1 hbs ae5;clear hW;obtain⟨v9,W9,Rs,hp9⟩:=Gy (t:=(t.1,gN v t.2)) hqV hbV Jg (HT2.out _ HBV.out).1 BZ.out (HT2.out _ HBV.out).2 70 23;have HPU:=hid (a0a hqV hp9);clear hqV hp9 Jg;have hal:∀vs,Below V.heap.size V (V.alloc (.cells vs 70)):=λvs=>af V _
     have ai9:∀vs,(V.alloc (.cells vs 70)).cell? ⟨g,la*2+1,none⟩=some (a0i qo qn qc):=λvs=>by rw[(hal vs).cell hgV];exact hcV
     refine aQ 0 hH ?_;try simp only[ax]
     refine aQ 1 hH ?_;try simp only[ax]
     refine aQ 2 hH ?_;try simp only[ax]
     refine aQ 3 hH ?_;try simp only[ax]
     refine aQ 5 hH ?_;try simp only[ax]
     refine wpAnyH_ready (rs:=[4,6]) (by kernel_rfl) (by simp) (aO rfl (λKK hK=>?_) (aO rfl (λKK hK=>?_) (AllReadyH.nil)));go_simp;clear hH;refine hK.out _ _ (bD.c3 (T:=70) YA.out) λhH=>?_;clear hK KK
     try simp only[ax]
     refine ah 6 rfl (by kernel_rfl) (λKK hK=>?_);go_simp;clear hH;refine hK.out _ _ (bD.c3 (T:=70) (YA.out.below (hal _))) λhH=>?_;clear hK KK
     try simp only[ax]
     rotate_left
     go_simp;clear hH;refine hK.out _ _ (bD.c3 (T:=70) (YA.out.below (hal _))) λhH=>?_;clear hK KK
     try simp only[ax]
     refine ah 4 rfl (by kernel_rfl) (λKK hK=>?_);go_simp;clear hH;refine hK.out _ _ (bD.c3 (T:=70) (YA.out.below (hal _))) λhH=>?_;clear hK KK
     try simp only[ax]
     all_goals
      clear ai9 hal;refine ah 7 rfl (by kernel_rfl) (λKK hK=>?_);refine Aj rfl (.tmp 72) (.tmp 74) _ _ rfl rfl rfl Rs ?_;clear Rs;obtain⟨hq9,po8,pc8,rfl,hp1,hp2,hp3⟩:=HPU.out;clear HPU
      have hqg:blk qo≠some g:=λe=>by
       obtain⟨X,h1,_⟩:=hq9;rcases h1.ex with⟨rfl,_⟩|⟨g',off,L',rfl,_,hA',_⟩
       ·cases e
       ·cases e;exact absurd (ZU.out.2.1.iW.Yz hA') (by decide)
      have hgb:g≠b7:=λe=>absurd ((e▸ZU.out.2.1.iW:bD V b7 L _).Yz YA.out) (by decide)
      have HA9:=hid (YA.out.apart hp2 λe=>Nat.lt_irrefl _ (HZB.out b7 e.symm));have hgr:W9.heap[g]? =V.heap[g]? :=hp2.block g hgV λe=>hqg e.symm
      have aj0:W9.cell? ⟨g,la*2+1,none⟩=some (a0i qo qn qc):=by rw[a0j (w:=V) hgr];exact hcV
      have aj1:W9.frozen? ⟨g,la*2+1,none⟩=false:=by rw[World.frozen?_of_block (w:=V) hgr];exact ZU.out.2.1.iW.fz _
      have zC:Hid (lV w.heap.size K w (bA v (p.take (k+1))) (a0i (some ⟨g,0,none⟩) (la+1) cc) (W9.setCell ⟨g,la*2+1,none⟩ (a0i po8 (qn+1) pc8))):=by
       obtain⟨y1,y2,y3,y4⟩:=ZU.out;refine⟨.inr ⟨by rw[y3];simp,g,cc,L.set (a1.length*2+1) (a0i po8 (qn+1) pc8),?_⟩,(HBV.out.grown hp2 hbV λr h=>(hq9.lt r h).1).setCell y2.low _⟩;rw[y3,<-y4];rw[<-y4]at y1 y2;exact y2.last y1 hq9 hp1 hp2 hp3
      clear hp1 hp2 hp3 hq9 hqg hgr ZU;clear hH;refine hK.out _ _ (bD.c3 (T:=70) HA9.out) λhH=>?_;clear hK KK
      try simp only[ax]
      refine aQ 8 hH ?_;try simp only[ax]
      refine aQ 9 hH ?_;try simp only[ax]
      refine ah 10 rfl (by kernel_rfl) (λKK hK=>?_);go_simp;clear hH;refine hK.out _ _ (bD.c3 (T:=70) (HA9.out.keep (Below.heap_setCell _ _ _ _ (Ne.symm hgb)))) λhH=>?_;clear hK KK
      try simp only[ax]
      refine wpAnyH_done (by kernel_rfl) ?_ _
      clear hH aj0 aj1 hcV;go_wp2_with fail;go_roundw
      case rel=>exact⟨k+1,by go_num,by omega,zC.out⟩
      case measure=>simp[intOf];omega
  ·obtain rfl:k=n:=by omega
   have HR:Hid (∃x,u5=x/\ lV w.heap.size K w (bA v p) x wr):=by
    have h:=HS.out;rw[a0G (by rw[uj.out];exact a1a _)]at h;exact⟨_,rfl,h⟩
   clear HS;go_wp2_with fail;go_ret;obtain⟨x,rfl,h⟩:=HR.out;exact⟨_,rfl,h⟩
def Big (p:List Term) (μ δ:Nat->Int) (J:Nat):Prop:=(fA p:Int)*mh (fD p) μ 201*mh (fD p) δ 201<4294967296^J/\ mh (fD p) δ 201<4294967296^J
section
variable {ρ:Nat->Rat} {μ δ:Nat->Int} {p q:List Term} {J:Nat}
theorem Big.part (h:Big p μ δ J) (hμ:∀u,0<μ u) (hδ:∀u,0<δ u) (hd:∀u,fD q u<=fD p u) (hs:fA q<=fA p):Big q μ δ J:=by
 have a:=AP hd hμ 201;have b:=AP hd hδ 201;have a0:=mF hμ (fD q) 201;have b0:=mF hδ (fD q) 201;refine⟨a0k ?_ h.1,a0k b h.2⟩;have c:(fA q:Int)*mh (fD q) μ 201<=(fA p:Int)*mh (fD p) μ 201:=a0l (by omega) a (by omega) (by omega);exact a0l c b (by omega) (a0m (by omega) (by omega))
theorem DF {a:Int} (h:0<a) {m n:Nat} (hm:m<=n):a^m<=a^n:=by
 obtain⟨c,rfl⟩:∃c,n=m+c:=⟨n-m,by omega⟩;rw[a0n];have h1:0<a^m:=a0o h;have h2:0<a^c:=a0o h;have:=a0p (show 1<=a^c by omega) (show 0<=a^m by omega);omega
theorem Hu {x:Int} (h:(x.natAbs:Int)<4294967296^J):Bd x J:=by
 unfold Bd;apply a0q.1;rw[a0r];exact h
theorem Rz (hf:fall p) (hc:0<bC p) (hμ:∀u,0<μ u) (hδ:∀u,0<δ u) (hJ:Big p μ δ J) {S:Nat} {e x d:Int} {s:Rat} (hS:S<=fA p) (he:0<=e)
  (h:Hn (μ (bC p).toNat) (δ (bC p).toNat) (mh (wJ p (bC p)) μ 201) (mh (wJ p (bC p)) δ 201) (fV p (bC p)) S e s x d):Bd x J/\ Bd d J:=by
 have e1:=E8 hf μ hc;have e2:=E8 hf δ hc;have hn:=h.num;have hd:=h.den (mF hδ _ _) (hδ _);have hp:=h.pos;have m1:=DF (hμ (bC p).toNat) (show(fV p (bC p)-e).toNat<=(fV p (bC p)).toNat by omega);have m2:=DF (hδ (bC p).toNat) (show(fV p (bC p)-e).toNat<=(fV p (bC p)).toNat by omega);have l1:=mF hμ (wJ p (bC p)) 201;have l2:=mF hδ (wJ p (bC p)) 201
 have hd2:d<=mh (fD p) δ 201:=by
  rw[e2];exact a0s hd (a0p m2 (by omega))
 have p0:0<μ (bC p).toNat^(fV p (bC p)-e).toNat:=a0o (hμ _)
 have hx:(S:Int)*mh (wJ p (bC p)) μ 201*μ (bC p).toNat^(fV p (bC p)-e).toNat<=(fA p:Int)*mh (fD p) μ 201:=by
  rw[e1,<-Int.mul_assoc];exact a0l (Int.mul_le_mul_of_nonneg_right (by omega) (by omega)) m1 (by omega) (a0m (by omega) (by omega))
 have hE:=mF hμ (fD p) 201;have hx2:=a0s hn (a0l hx hd2 (by omega) (a0m (by omega) (by omega)));exact⟨Hu (a0k hx2 hJ.1),Hu (by have:=hJ.2;omega)⟩
theorem Kk (hf:fall p) (hc:0<bC p) (e:Int):bC (iB p (bC p) e)<bC p:=by
 have hq:=Db hf (bC p) e;have hb:=nU hq;rcases Int.lt_or_le (bC (iB p (bC p) e)) (bC p)with h|h
 ·exact h
 ·have h1:=CW hq (by omega);have h2:=Hw hf e (bC (iB p (bC p) e)).toNat;unfold wJ fD at h2;rw[show(((bC (iB p (bC p) e)).toNat:Nat):Int)=bC (iB p (bC p) e)by omega,if_neg (by omega)]at h2;omega
theorem RA (e:Int) (v:Int) (u:Nat):fD (iB p v e) u<=fD p u:=by
 have:=DI p v e u;split at this<;>omega
theorem RB (v e:Int):fA (iB p v e)<=fA p:=by
 have:=NU v e p;omega
theorem rX (hf:fall p) (hn:p≠[]) (v:Int) (hv:bC p=v):0<(bA v p).length/\ ((bA v p).getD 0 (0,[])).1=fV p v/\∀i j,i<j->j<(bA v p).length->((bA v p).getD j (0,[])).1<((bA v p).getD i (0,[])).1:=by
 have hP:=xS (v:=v) hf λt ht=>by rw[<-hv];exact mr hf ht
 have hd:∀i j,i<j->j<(bA v p).length->((bA v p).getD j (0,[])).1<((bA v p).getD i (0,[])).1:=λi j hij hj=>by
  have:=List.pairwise_iff_getElem.1 hP.down i j (by omega) hj hij;simpa[a0A,a0F hj,a0F (show i<(bA v p).length by omega)]using this
 obtain⟨t,ht,he⟩:=Qg (bU hf) hn v;obtain⟨g,hg,hge⟩:=hP.all t ht;obtain⟨j,hj,hjg⟩:=a0R.1 hg;have hl:0<(bA v p).length:=by omega
 have hjv:((bA v p).getD j (0,[])).1=fV p v:=by simp[a0A,a0F hj,hjg,hge,he]
 refine⟨hl,?_,hd⟩;have h0:(bA v p).getD 0 (0,[])∈bA v p:=by simp[a0A,a0F hl]
 obtain⟨s,hs,hse⟩:=hP.some _ h0;have h1:=nV hs v;rcases a1d j with rfl|h2
 ·exact hjv
 ·have:=hd 0 j h2 hj;omega
structure Wl (ρ:Nat->Rat) (μ δ:Nat->Int) (p:List Term) (k:Nat) (e x d:Int):Prop where
 hn:Hn (μ (bC p).toNat) (δ (bC p).toNat) (mh (wJ p (bC p)) μ 201) (mh (wJ p (bC p)) δ 201) (fV p (bC p)) (qX ((bA (bC p) p).take k)) e (((bA (bC p) p).take k).foldl (ow ρ (bC p)) (0,fV p (bC p))).1 x d
 sd:(((bA (bC p) p).take k).foldl (ow ρ (bC p)) (0,fV p (bC p))).2=e
 e0:0<=e
 le:∀j,k<=j->j<(bA (bC p) p).length->((bA (bC p) p).getD j (0,[])).1<=e
theorem NV (l:List (Int×List Term)) (k:Nat):qX (l.take k)<=qX l:=by
 have h:=pQ (l.drop k) (l.take k);rw[List.take_append_drop]at h;omega
theorem Wl.bd {k:Nat} {e x d:Int} (h:Wl ρ μ δ p k e x d) (hf:fall p) (hc:0<bC p) (hμ:∀u,0<μ u) (hδ:∀u,0<δ u) (hJ:Big p μ δ J):Bd x J/\ Bd d J:=
 Rz hf hc hμ hδ hJ (by have:=NV (bA (bC p) p) k;rw[AQ]at this;exact this) h.e0 h.hn
theorem Wl.start (hf:fall p) (hn:p≠[]):Wl ρ μ δ p 0 (fV p (bC p)) 0 1:=by
 obtain⟨h1,h2,h3⟩:=rX hf hn _ rfl;refine⟨Hn.start _ _ _ _ _,rfl,xk _ _,λj _ hj=>?_⟩;rcases a1d j with rfl|h4
 ·omega
 ·have:=h3 0 j h4 hj;omega
theorem DJ (hf:fall p) {k:Nat} (hk:k<(bA (bC p) p).length):((bA (bC p) p).getD k (0,[])).2=iB p (bC p) ((bA (bC p) p).getD k (0,[])).1/\ 0<=((bA (bC p) p).getD k (0,[])).1:=by
 have hP:=xS (v:=bC p) hf λt ht=>mr hf ht
 have h0:(bA (bC p) p).getD k (0,[])∈bA (bC p) p:=by simp[a0A,a0F hk]
 obtain⟨s,hs,hse⟩:=hP.some _ h0;exact⟨(hP.Vf _ h0).1,by rw[<-hse];exact(fE (bU hf _ hs) _).1⟩
theorem Wl.next {k:Nat} {e x d:Int} (h:Wl ρ μ δ p k e x d) (hf:fall p) (hμ:∀u,0<μ u) (hδ:∀u,0<δ u) (hle:∀u,Le (ρ u) (μ u)) (hk:k<(bA (bC p) p).length) {ν:Int} (hr:a1n ν (δ (bC p).toNat)=ρ (bC p).toNat) {e1:Int} {q1:List Term} (hg:(bA (bC p) p).getD k (0,[])=(e1,q1)) {y c:Int} (h0:0<c) (ht:a1n y c=rv ρ q1) (hd:c ∣ mh (fD q1) δ 201) {N:Nat} (hN:(N:Int)=e-e1):
  Wl ρ μ δ p (k+1) e1 (x*ν^N*c.tdiv ((a0t (d*δ (bC p).toNat^N) c:Nat):Int)+y*(d*δ (bC p).toNat^N).tdiv ((a0t (d*δ (bC p).toNat^N) c:Nat):Int)) (d*δ (bC p).toNat^N*c.tdiv ((a0t (d*δ (bC p).toNat^N) c:Nat):Int)):=by
 have hpc:=DJ hf hk;rw[hg]at hpc;obtain⟨hq,he1⟩:=hpc;simp only at hq he1;have hle1:=h.le k (a1a _) hk;rw[hg]at hle1;have hNe:N=(e-e1).toNat:=by omega
 have tk:(bA (bC p) p).take (k+1)=(bA (bC p) p).take k++[(e1,q1)]:=by
  rw[a0O hk,<-hg];simp[a0A,a0F hk]
 have h1:=h.hn.times (hδ _) hr (hle _) (e1:=e1) hle1;rw[<-hNe]at h1;have hdl:∀u,fD q1 u<=wJ p (bC p) u:=λu=>by rw[hq];exact Hw hf e1 u
 have h2:=h1.plus (k:=fA q1) h0 ht (Int.dvd_trans hd (E9 hdl δ 201)) (a0u (mF hμ _ _)) (hμ _) (Xd hle hμ _ λt ht u=>a1e (RD ht u) (hdl u));refine⟨?_,?_,he1,λj hj hjl=>?_⟩
 ·rw[tk,a0S,pQ];simp only[a0K,List.foldl_nil,ow,qX,a1f];rw[h.sd,<-hNe];exact h2
 ·rw[tk,a0S];rfl
 ·have hp:=(rX hf (λhp=>by rw[hp]at hk;simp[bA]at hk) _ rfl).2.2 k j (by omega) hjl;rw[hg]at hp;omega
theorem Wl.last {e x d:Int} (h:Wl ρ μ δ p (bA (bC p) p).length e x d) (hf:fall p) (hc:0<bC p) (hμ:∀u,0<μ u) (hδ:∀u,0<δ u) (hle:∀u,Le (ρ u) (μ u)) (hJ:Big p μ δ J) {ν:Int} (hr:a1n ν (δ (bC p).toNat)=ρ (bC p).toNat) {N:Nat} (hN:(N:Int)=e):
  a1n (x*ν^N) (d*δ (bC p).toNat^N)=rv ρ p/\ 0<d*δ (bC p).toNat^N/\ d*δ (bC p).toNat^N ∣ mh (fD p) δ 201/\ Bd (x*ν^N) J/\ Bd (d*δ (bC p).toNat^N) J:=by
 have h0:=h.e0;have h1:=h.hn.times (hδ _) hr (hle _) (e1:=0) h0;rw[show(e-0).toNat=N by omega]at h1;have hb:=Rz hf hc hμ hδ hJ (by rw[a0T,AQ];exact a1a _) (a0v 0) h1;have hP:=xS (v:=bC p) hf λt ht=>mr hf ht
 have hbd:=nU hf;refine⟨?_,h1.pos,?_,hb⟩
 ·rw[h1.val,a0T]
  have h2:=yL ρ (bC p) (bA (bC p) p) (0,fV p (bC p)) hP.down (λg hg=>by
   obtain⟨s,hs,hse⟩:=hP.some g hg;rw[<-hse];exact⟨(fE (bU hf _ hs) _).1,nV hs _⟩) (xk _ _)
  have h3:=h.sd;rw[a0T]at h3;rw[h3,show e.toNat=N by omega,Kl ρ ⟨by omega,hbd.2⟩ (bU hf)]at h2;rw[h2]
  grind
 ·have:=h1.dvd;rwa[show(fV p (bC p)-0).toNat=(fV p (bC p)).toNat by omega,<-E8 hf δ hc]at this
end
open Lib (hid)
structure Qp [Ol] (w:World) (ao:Option Addr) (n cap:Nat) (ρ:Nat->Rat) (δ:Nat->Int) (j:Nat):Prop where
 ex:∃bS,Gl 4 w ao n cap bS/\∀i,i<n->∃m a k c m2 a2 k2 c2 x,bS.getD i []=[.bool m,a0i a k c,.bool m2,a0i a2 k2 c2]/\ Rx w m a k c m2 a2 k2 c2 x (δ (i+1)) (ρ (i+1)) j/\ a1n x (δ (i+1))=ρ (i+1)
theorem Rx.below' {w w':World} {m:Bool} {ao:Option Addr} {n cap:Nat} {k:Bool} {bo:Option Addr} {l cb:Nat} {x d:Int} {q:Rat} {j:Nat} (h:Rx w m ao n cap k bo l cb x d q j) (hb:Below w.heap.size w w'):Rx w' m ao n cap k bo l cb x d q j:=⟨h.num.below hb,h.den.below hb,h.val,h.bn,h.bd⟩
theorem Qp.below [Ol] {w w':World} {ao:Option Addr} {n cap:Nat} {ρ:Nat->Rat} {δ:Nat->Int} {j:Nat} (h:Qp w ao n cap ρ δ j) (hb:Below w.heap.size w w'):Qp w' ao n cap ρ δ j:=by
 obtain⟨bS,h1,h2⟩:=h.ex;refine⟨bS,h1.below hb,λi hi=>?_⟩;obtain⟨m,a,k,c,m2,a2,k2,c2,x,h3,h4,h5⟩:=h2 i hi;exact⟨m,a,k,c,m2,a2,k2,c2,x,h3,h4.below' hb,h5⟩
theorem Qp.iW [Ol] {w:World} {ao:Option Addr} {n cap:Nat} {ρ:Nat->Rat} {δ:Nat->Int} {j:Nat} (h:Qp w ao n cap ρ δ j) {i:Nat} (hi:i<n):∃b off m a k c m2 a2 k2 c2 x,ao=some ⟨b,off,none⟩/\ b<w.heap.size/\ (∀V:World,Below w.heap.size w V->V.cell? ⟨b,off+i*4,none⟩=some (.bool m)/\ V.cell? ⟨b,off+i*4+1,none⟩=some (a0i a k c)/\ V.cell? ⟨b,off+i*4+2,none⟩=some (.bool m2)/\ V.cell? ⟨b,off+i*4+3,none⟩=some (a0i a2 k2 c2))/\ Rx w m a k c m2 a2 k2 c2 x (δ (i+1)) (ρ (i+1)) j/\ a1n x (δ (i+1))=ρ (i+1):=by
 obtain⟨bS,h1,h2⟩:=h.ex;obtain⟨m,a,k,c,m2,a2,k2,c2,x,h3,h4,h5⟩:=h2 i hi;obtain⟨b,off,e1,e2,e3⟩:=h1.at (by omega);refine⟨b,off,m,a,k,c,m2,a2,k2,c2,x,e1,e2,λV hV=>?_,h4,h5⟩;have f:=e3 V hV i hi;rw[h3]at f;exact⟨by simpa using f 0 (by omega),by simpa using f 1 (by omega),by simpa using f 2 (by omega),by simpa using f 3 (by omega)⟩
theorem bD.q4 {w:World} {b:Nat} {v0 v1 v2 v3:Value} {T:TypeId} (h:bD w b [v0,v1,v2,v3] T):w.cell? ⟨b,0,none⟩=some v0/\ w.cell? ⟨b,1,none⟩=some v1/\ w.cell? ⟨b,2,none⟩=some v2/\ w.cell? ⟨b,3,none⟩=some v3:=⟨h.cell 0,h.cell 1,h.cell 2,h.cell 3⟩
theorem bD.r4 {w:World} {b:Nat} {vs:List Value} {T:TypeId} (h:bD w b vs T):w.frozen? ⟨b,0,none⟩=false/\ w.frozen? ⟨b,1,none⟩=false/\ w.frozen? ⟨b,2,none⟩=false/\ w.frozen? ⟨b,3,none⟩=false:=⟨h.fz 0,h.fz 1,h.fz 2,h.fz 3⟩
theorem tV (m:Bool) (a:Option Addr) (n c:Nat) (k:Bool) (b:Option Addr) (l d:Nat):shy [.bool m,a0i a n c,.bool k,a0i b l d]:=by
 refine⟨λu hu=>?_,λj x y hx hy=>?_⟩
 ·simp at hu;rcases hu with rfl|rfl|rfl|rfl<;>rfl
 ·match j,hx,hy with
  |0,hx,hy=>cases hx;cases hy;exact⟨.inl rfl,rfl⟩
  |1,hx,hy=>cases hx;cases hy;exact⟨.inl rfl,rfl⟩
  |2,hx,hy=>cases hx;cases hy;exact⟨.inl rfl,rfl⟩
  |3,hx,hy=>simp at hy
  |j+4,hx,hy=>simp at hx
theorem nI.iN [Ol] {B K:Nat} {w w':World} {v:Value} {acc:List (Int×List Term)} {g cap:Nat} {L:List Value} {b:Nat} (h:nI B K w v acc g cap L) (hF:qw w w' b) (hb:b<B):nI B K w' v acc g cap L:=
 ⟨h.v,h.low,h.iW.apart hF.g λe=>by have:=h.low;have:=a1m e;omega,h.alt,h.room,h.fit,h.big,h.pts.keep (λ_ _=>rfl) λ_ _ _ _ h1 _=>h1.iN hF λr hr e=>by have:=(h1.lt r hr).1;omega⟩
theorem Cb.iN {w w':World} {m:Bool} {ao:Option Addr} {n cap:Nat} {z:Int} {k b:Nat} (h:Cb w m ao n cap z k) (hF:qw w w' b):Cb w' m ao n cap z k:=⟨⟨h.cx.cn.iN hF,h.cx.le⟩,h.bd⟩
theorem Cb.below' {w w':World} {m:Bool} {ao:Option Addr} {n cap:Nat} {z:Int} {k:Nat} (h:Cb w m ao n cap z k) (hb:Below w.heap.size w w'):Cb w' m ao n cap z k:=⟨⟨h.cx.cn.below hb,h.cx.le⟩,h.bd⟩
theorem oV {w:World} {m:Bool} {ao:Option Addr} {n cap:Nat} {k:Bool} {bo:Option Addr} {l cb:Nat} {x d:Int} {j:Nat} (h1:Cb w m ao n cap x j) (h2:Cb w k bo l cb d j):Rx w m ao n cap k bo l cb x d (qv x d) j:=⟨h1.cx.nx,h2.cx.nx,rfl,h1.bd,h2.bd⟩
def RF (w:World) (q:Rat) (D:Int) (J:Nat) (e:Ending) (w':World):Prop:=∃x d,LU w x d J e w'/\ 0<d/\ a1n x d=q/\ d ∣ D
def zI [Ol] (ρ:Nat->Rat) (μ δ:Nat->Int) (K J j:Nat) (po:Option Addr) (pn pc:Nat) (C:Nat):Prop:=
 ∀{ao:Option Addr} {n cap:Nat} {p:List Term} {w:World},C<=pn->Pc K w ao n cap p->fall p->bC p<=C->(∀u,fD p u<=999)->n<=100000->Qp w po pn pc ρ δ j->Big p μ δ J->
  Calls Tryz.prog 95 #[a0i ao n cap,a0i po pn pc] w (RF w (rv ρ p) (mh (fD p) δ 201) J)
theorem NW {w:World} {b:Nat} {v0 v1 v2 v3:Value} {T:TypeId} (h:bD w b [v0,v1,v2,v3] T) (hs:shy [v0,v1,v2,v3]) (u0 u1 u2 u3:Value):
  qw w ((((w.setCell ⟨b,0,none⟩ u0).setCell ⟨b,1,none⟩ u1).setCell ⟨b,2,none⟩ u2).setCell ⟨b,3,none⟩ u3) b/\ bD ((((w.setCell ⟨b,0,none⟩ u0).setCell ⟨b,1,none⟩ u1).setCell ⟨b,2,none⟩ u2).setCell ⟨b,3,none⟩ u3) b [u0,u1,u2,u3] T:=
 ⟨⟨⟨_,_,h,hs⟩,dS (dS (dS (bV _ _ _ _) (bV _ _ _ _)) (bV _ _ _ _)) (bV _ _ _ _)⟩,(((h.set 0 u0).set 1 u1).set 2 u2).set 3 u3⟩
theorem ja {B:Nat} {w0 w:World} (h:Below B w0 w) {b:Nat} (hb:B<=b) (u0 u1 u2 u3:Value):Below B w0 ((((w.setCell ⟨b,0,none⟩ u0).setCell ⟨b,1,none⟩ u1).setCell ⟨b,2,none⟩ u2).setCell ⟨b,3,none⟩ u3):=(((h.setCell hb u0).setCell hb u1).setCell hb u2).setCell hb u3
theorem RG {p:List Term} (hf:fall p) (hn:p≠[]) (hc:bC p=0):∃c,p=[(c,[])]:=by
 have h:=MS hf hc
 match p,hf,hn,h with
 |[(c,m)],_,_,h=>exact⟨c,by have:=h (c,m) (by simp);simp at this;rw[this]⟩
 |(c,m)::(d,k)::r,hf,_,h=>
  have h1:=h (c,m) (by simp);have h2:=h (d,k) (by simp);have h3:=hf.2.2.1 (d,k) (by simp);simp only at h1 h2 h3;rw[h1,h2]at h3;exact(uU h3).elim
theorem LV (c:Int):(qv c 0).num=c/\ ((qv c 0).den:Int)=1:=by
 have h:=ae6 (n:=c) (d:=1) (by omega) (by simp);rw[kW,EA rfl];exact⟨h.1,by rw[show(a1n c 1).den=1 from h.2];rfl⟩
theorem YB (ρ:Nat->Rat) (c:Int):rv ρ [(c,[])]=a1n c 1:=by
 rw[zV];show(c:Rat)*rM ρ []+0=c;rw[PU]
 grind
theorem Km [Ol] {ρ:Nat->Rat} {μ δ:Nat->Int} {K J j:Nat} {po:Option Addr} {pn pc:Nat} (hμ:∀u,0<μ u) (hδ:∀u,0<δ u) (hle:∀u,Le (ρ u) (μ u)) (hK:1<=K/\ K<=J/\ J<=30000/\ 1<=j/\ j<=30) (C:Nat) (IH:∀C',C'<C->zI ρ μ δ K J j po pn pc C'):zI ρ μ δ K J j po pn pc C:=by
 intro ao n cap p w hC hp hf hcl hdg hn hq hJ;have HP:=hid hp;have uj:Hid (p.length=n):=hp.len;have HQ:=hid hq;have HG:=hid (a0a hf (a0a hcl (a0a hdg hJ)));have HI:=hid IH;have HL:=hid (a0a hμ (a0a hδ hle));clear hp hf hcl hdg hq hJ IH hμ hδ hle;go_enter Tryz.func95,Tryz.ntmps95;obtain⟨b4,hb4⟩:∃b4,b4=w.heap.size:=⟨_,rfl⟩;go_upto_region 1 with(fail)
 refine aj (λW0 hW=>?_);have a0:bD W0 b4 [.bool false,a0i none 0 0,.bool false,a0i none 0 0] 31/\ Below w.heap.size w W0:=by rw[hW,hb4];exact jC w _ 31
 rw[<-hb4];have hbw:w.heap.size<=b4:=by omega
 clear hW hb4;go_wp2_with fail;refine(AR (j:=1) (vU W0).nx (show Bd 0 1 by unfold Bd;decide) (a1a _) (by omega)).mono ?_;rintro e w1 ⟨m1,a1,n1,c1,k1,d1,l1,e1,rfl,hX,hB⟩
 have HX:Hid (Cb w1 m1 a1 n1 c1 0 J/\ Cb w1 k1 d1 l1 e1 1 J):=by
  have e0:=LV 0;have x1:=hX.num;have x2:=hX.den;rw[e0.1]at x1;rw[e0.2]at x2;exact⟨⟨x1,(show Bd 0 1 by unfold Bd;decide).mono (by omega)⟩,⟨x2,(show Bd 1 1 by unfold Bd;decide).mono (by omega)⟩⟩
 obtain⟨b5,hb5⟩:∃b5,b5=w1.heap.size:=⟨_,rfl⟩;go_upto_region 2 with(fail)
 refine aj (λW2 hW=>?_);have a2:bD W2 b5 [.bool m1,a0i a1 n1 c1,.bool k1,a0i d1 l1 e1] 31/\ Below w1.heap.size w1 W2:=by rw[hW,hb5];exact jC w1 _ 31
 rw[<-hb5];have hbb:b4<b5:=by have:=a0.1.lt;have:=hB.size;omega
 have HS:Hid (bD W2 b5 [.bool m1,a0i a1 n1 c1,.bool k1,a0i d1 l1 e1] 31/\ bD W2 b4 [.bool false,a0i none 0 0,.bool false,a0i none 0 0] 31/\ Cb W2 m1 a1 n1 c1 0 J/\ Cb W2 k1 d1 l1 e1 1 J/\ Below w.heap.size w W2):=
  ⟨a2.1,(a0.1.below hB).below a2.2,HX.out.1.below' a2.2,HX.out.2.below' a2.2,Below.steps (Below.steps a0.2 hB) a2.2⟩
 have YC:b5<W2.heap.size:=a2.1.lt;clear hW hb5 a2 a0 hX hB HX;by_cases hn0:n=0
 ·subst hn0;obtain⟨c0,c1',c2,c3⟩:=HS.out.1.q4;obtain⟨f0,f1,f2,f3⟩:=HS.out.2.1.q4;obtain⟨g0,g1,g2,g3⟩:=HS.out.2.1.r4;go_wp2_with fail;refine bodyPost_ret (v:= .agg #[.bool m1,a0i a1 n1 c1,.bool k1,a0i d1 l1 e1]) (by simp[results,Tryz.results95,go_sem,f0,f1,f2,f3]) rfl ?_;have uo:=NW HS.out.2.1 (tV _ _ _ _ _ _ _ _) (.bool m1) (a0i a1 n1 c1) (.bool k1) (a0i d1 l1 e1);have hp0:p=[]:=List.eq_nil_of_length_eq_zero uj.out;exact⟨0,1,⟨_,_,_,_,_,_,_,_,rfl,HS.out.2.2.1.iN uo.1,HS.out.2.2.2.1.iN uo.1,ja HS.out.2.2.2.2 hbw _ _ _ _⟩,by decide,by rw[hp0];show a1n 0 1=0;decide+kernel,a0w _⟩
 ·obtain⟨b,off,xm,xa,xn,xc,xp,xq,xr,Cj,hbl,hc,Jz,hBd,zw⟩:=HP.out.at (k:=0) (by omega);subst Cj;rw[Nat.zero_mul,a1f]at hc;obtain⟨x0,x1,x2⟩:=hc W2 HS.out.2.2.2.2;have hpn:p≠[]:=λe=>by have:=uj.out;rw[e]at this;simp at this;omega
  have HM:Hid (Ml W2 xp xq xr (p.getD 0 (0,[])).2/\ fe (orM (p.getD 0 (0,[])).2)=bC p):=by
   refine⟨zw.below HS.out.2.2.2.2,?_⟩;have hf:=HG.out.1;cases p with
   |nil=>exact absurd rfl hpn
   |cons t r=>show fe (orM t.2)=fe t.2;rw[qg hf.2.1]
  have HN:=hid hpn;have HC0:Hid (∀V,Below w.heap.size w V->Cn V xm xa xn xc (p.getD 0 (0,[])).1):=λV hV=>Jz.below hV
  have BZ:=hid hBd;have WR:=hid hc;have hd:((n:Int)==0)=false:=by simpa using(show¬(n:Int)=0 by omega)
  have hzz:bC p=0∨ ∃vn:Nat,bC p=(vn:Int)+1:=by
   have:=(nU HG.out.1).1;rcases Int.lt_or_eq_of_le this with h|h
   ·exact .inr ⟨(bC p-1).toNat,by omega⟩
   ·exact .inl h.symm
  clear hc Jz hBd zw hpn;rcases hzz with hz|⟨vn,hz⟩
  ·rw[hz]at HM;have HZ:=hid hz;clear hz;go_wp2_with fail;refine(xu HM.out.1 0 HM.out.2).mono ?_;rintro e w3 ⟨rfl,hB⟩;clear hd x0 x1 x2;have Cq:Hid (bD w3 b4 [.bool false,a0i none 0 0,.bool false,a0i none 0 0] 31/\ Below w.heap.size w w3):=⟨HS.out.2.1.below hB,Below.steps HS.out.2.2.2.2 hB⟩;clear hB HS HM YC;obtain⟨x0,x1,x2⟩:=WR.out w3 Cq.out.2;go_wp2_with fail;refine(AR (j:=K) ((HC0.out w3 Cq.out.2).cx BZ.out (by omega)).nx BZ.out (by omega) (by omega)).mono ?_;rintro e w4 ⟨m2,a2,n2,c2,k2,d2,l2,e2,rfl,hX,hB⟩;have h4:=Cq.out.1.below hB;have HX:=hid hX;have HB:=hid (Below.steps Cq.out.2 hB);have H4:=hid h4;obtain⟨f0,f1,f2,f3⟩:=h4.q4;obtain⟨g0,g1,g2,g3⟩:=h4.r4;clear hX hB h4 x0 x1 x2;go_wp2_with fail;refine bodyPost_ret (v:= .agg #[.bool m2,a0i a2 n2 c2,.bool k2,a0i d2 l2 e2]) (by simp[results,Tryz.results95,go_sem,f0,f1,f2,f3]) rfl ?_;have uo:=NW H4.out (tV _ _ _ _ _ _ _ _) (.bool m2) (a0i a2 n2 c2) (.bool k2) (a0i d2 l2 e2);obtain⟨c,hc⟩:=RG HG.out.1 HN.out HZ.out;subst hc;have e0:=LV c;have x1:Cx w4 m2 a2 n2 c2 (qv c 0).num:=HX.out.num;have x2:Cx w4 k2 d2 l2 e2 ((qv c 0).den:Int):=HX.out.den;rw[e0.1]at x1;rw[e0.2]at x2;have hbc:Bd c K:=BZ.out;have y1:Cb w4 m2 a2 n2 c2 c J:=⟨x1,hbc.mono (by omega)⟩;have y2:Cb w4 k2 d2 l2 e2 1 J:=⟨x2,(show Bd 1 1 by unfold Bd;decide).mono (by omega)⟩;exact⟨c,1,⟨_,_,_,_,_,_,_,_,rfl,y1.iN uo.1,y2.iN uo.1,ja HB.out hbw _ _ _ _⟩,by decide,(YB ρ c).symm,a0w _⟩
  ·rw[hz]at HM;have HZ:=hid hz;have hvp:vn<pn:=by have:=HG.out.2.1;omega
   clear hz;go_wp2_with fail;refine(xu HM.out.1 ((vn:Int)+1) HM.out.2).mono ?_;rintro e w3 ⟨rfl,hB⟩;clear hd x0 x1 x2
   have Cq:Hid (bD w3 b5 [.bool m1,a0i a1 n1 c1,.bool k1,a0i d1 l1 e1] 31/\ bD w3 b4 [.bool false,a0i none 0 0,.bool false,a0i none 0 0] 31/\ Cb w3 m1 a1 n1 c1 0 J/\ Cb w3 k1 d1 l1 e1 1 J/\ Below w.heap.size w w3):=
    ⟨HS.out.1.below hB,HS.out.2.1.below hB,HS.out.2.2.1.below' hB,HS.out.2.2.2.1.below' hB,Below.steps HS.out.2.2.2.2 hB⟩
   have aj2:b5<w3.heap.size:=a0X YC hB.size;clear hB HS HM YC;have hvz:((vn:Int)+1==0)=false:=by simp;omega
   go_wp2_with fail;refine(Kj ((vn:Int)+1) (HP.out.below Cq.out.2.2.2.2) HG.out.1 (λt ht=>by rw[<-HZ.out];exact mr HG.out.1 ht) (by omega)).mono ?_;rintro e w4 ⟨x,rfl,hP⟩;have hpf:=rX HG.out.1 HN.out _ HZ.out;have hB4:Below w3.heap.size w3 w4:=hP.2;rcases hP.1 with⟨h,_⟩|⟨_,g,cc,L,hR⟩
   ·rw[h]at hpf;exact absurd hpf.1 (by simp)
   ·obtain⟨M,hM⟩:∃M,M=(bA ((vn:Int)+1) p).length:=⟨_,rfl⟩;have hx:=hR.v;rw[<-hM]at hx;subst hx;obtain⟨E0,hE0⟩:∃E0,fV p ((vn:Int)+1)=E0:=⟨_,rfl⟩;have hM0:0<M:=by omega
    have hM9:M<=100000:=by
     have h9:(bA ((vn:Int)+1) p).length<=0+p.length:=ve ((vn:Int)+1) p [];rw[uj.out]at h9;omega
    have hc0:w4.cell? ⟨g,0,none⟩=some (.int .i64 E0):=by
     obtain⟨_,_,_,h1,_⟩:=hR.pts.1 0 (by omega);rw[hpf.2.1,hE0]at h1;rw[hR.iW.cell];exact h1
    have CX:=hid hM
    have kT:Hid (bD w4 b5 [.bool m1,a0i a1 n1 c1,.bool k1,a0i d1 l1 e1] 31/\ bD w4 b4 [.bool false,a0i none 0 0,.bool false,a0i none 0 0] 31/\ Cb w4 m1 a1 n1 c1 0 J/\ Cb w4 k1 d1 l1 e1 1 J/\ nI w3.heap.size K w4 (a0i (some ⟨g,0,none⟩) M cc) (bA ((vn:Int)+1) p) g cc L/\ Below w.heap.size w w4):=by
     obtain⟨h1,h2,h3,h4,h5⟩:=Cq.out;exact⟨h1.below hB4,h2.below hB4,h3.below' hB4,h4.below' hB4,hR,Below.steps h5 hB4⟩
    have HW0:Hid (Wl ρ μ δ p 0 E0 0 1):=by
     have:=Wl.start (ρ:=ρ) (μ:=μ) (δ:=δ) HG.out.1 HN.out;rw[HZ.out,hE0]at this;exact this
    clear hP hR hpf hB4 Cq hM hE0 HC0 WR BZ;have hMi:(0:Int)<(M:Int):=by omega
    go_wp2_with fail;clear hc0 hMi hvz;go_loopw [8,38] (λex i wr=>∃(k:Nat) (E x d:Int) (m1:Bool) (a1:Option Addr) (n1 c1:Nat) (k1:Bool) (d1:Option Addr) (l1 e1:Nat),i= .int .i64 k/\ ex= .int .i64 E/\ k<=M/\ Hid (bD wr b5 [.bool m1,a0i a1 n1 c1,.bool k1,a0i d1 l1 e1] 31/\ bD wr b4 [.bool false,a0i none 0 0,.bool false,a0i none 0 0] 31/\ Cb wr m1 a1 n1 c1 x J/\ Cb wr k1 d1 l1 e1 d J/\ nI w3.heap.size K wr (a0i (some ⟨g,0,none⟩) M cc) (bA ((vn:Int)+1) p) g cc L/\ Below w.heap.size w wr)/\ Hid (Wl ρ μ δ p k E x d)) (λ_ i _=>M-(intOf i).toNat)
    case atStart=>exact⟨0,E0,0,1,_,_,_,_,_,_,_,_,rfl,rfl,a1c _,kT.out,HW0.out⟩
    case round=>
     clear kT HW0;obtain⟨k,E,x,d,m1,a1,n1,c1,k1,d1,l1,e1,rfl,rfl,hk,HS,HW⟩:=hrel;obtain⟨pb,pf,pm,pa,pk,Wy,Wz,WA,WB,pc2,ν,hpo,hpl,hpc,hpr,hpv⟩:=HQ.out.iW hvp;subst hpo;have Pm:Hid (∀V,Below w.heap.size w V->Rx V pm pa pk Wy Wz WA WB pc2 ν (δ (vn+1)) (ρ (vn+1)) j):=λV hV=>hpr.below' hV
     have ZV:Hid (a1n ν (δ (bC p).toNat)=ρ (bC p).toNat/\ Bd ν j/\ Bd (δ (vn+1)) j):=⟨by rw[HZ.out,show((vn:Int)+1).toNat=vn+1 by omega];exact hpv,hpr.bn,hpr.bd⟩;have Vg:=hid hpc;clear hpr hpv hpc
     have hEd:0<=E/\ E<=999:=by
      have h1:=HW.out.e0;have h2:=HW.out.hn.le;have h3:=HG.out.2.2.1 (vn+1);rw[HZ.out]at h2;unfold fD at h3;rw[show((vn+1:Nat):Int)=(vn:Int)+1 by omega]at h3;omega
     have hv0:(0:Int)<=(vn:Int):=by omega
     have hv1:(vn:Int)<(pn:Int):=by omega
     have hvb: -9223372036854775808<=(vn:Int)/\ (vn:Int)<=9223372036854775807:=by
      have:=(nU HG.out.1).2;rw[HZ.out]at this;omega
     have HVW:Hid (a0c.wrap ((vn:Int)+1-1)=(vn:Int)/\ wrap64 (vn:Int)=(vn:Int)/\ a0c.wrap (vn:Int)=(vn:Int)):=⟨by rw[show(vn:Int)+1-1=vn by omega];exact a0d _ hvb,a0e _ hvb,a0d _ hvb⟩;clear hvb;by_cases hkM:k<M
     ·obtain⟨qo,qn,qc,h1,h2,h3⟩:=HS.out.2.2.2.2.1.pts.1 k (by rw[<-CX.out];exact hkM);obtain⟨⟨f1,q1⟩,hg⟩:∃y,(bA ((vn:Int)+1) p).getD k (0,[])=y:=⟨_,rfl⟩;rw[hg]at h1 h3;have aj3:wr.cell? ⟨g,k*2,none⟩=some (.int .i64 f1):=by rw[HS.out.2.2.2.2.1.iW.cell];exact h1
      have aj4:wr.cell? ⟨g,k*2+1,none⟩=some (a0i qo qn qc):=by rw[HS.out.2.2.2.2.1.iW.cell];exact h2
      have hkl:k<(bA (bC p) p).length:=by rw[HZ.out,<-CX.out];exact hkM
      have hg2:(bA (bC p) p).getD k (0,[])=(f1,q1):=by rw[HZ.out];exact hg
      have hpq:=DJ HG.out.1 hkl;rw[hg2]at hpq;have hfe:=HW.out.le k (a1a _) hkl;rw[hg2]at hfe;obtain⟨hq1,hf0⟩:=hpq;simp only at hq1 hf0 hfe;obtain⟨N,hN⟩:∃N:Nat,(N:Int)=E-f1:=⟨(E-f1).toNat,by omega⟩
      have HNW:Hid (a0c.wrap (E-f1)=(N:Int)/\ wrap64 (E-f1)=(N:Int)):=by
       rw[Hid,hN];exact⟨a0d _ ⟨by omega,by omega⟩,a0e _ ⟨by omega,by omega⟩⟩
      have hN9:N<=999:=by omega
      have aL:=hid (a0a hkl (a0a hg2 (a0a hq1 hN)))
      have ZW:qn<=100000:=by
       have h4:=AO ((vn:Int)+1) n p [] (λg h=>by cases h) (by rw[uj.out];exact a1a _) (f1,q1) (by rw[<-hg];exact getD_in _ (show k<(bA ((vn:Int)+1) p).length by rw[<-CX.out];exact hkM));have h5:q1.length=qn:=h3.len;simp only at h4;omega
      have HIH:Hid (∀V,Pc K V qo qn qc q1->Below w.heap.size w V->Calls Tryz.prog 95 #[a0i qo qn qc,a0i (some ⟨pb,pf,none⟩) pn pc] V (RF V (rv ρ q1) (mh (fD q1) δ 201) J)):=λV hP hV=>by
       have hlw:=Kk HG.out.1 (by rw[HZ.out];omega) f1;rw[<-hq1]at hlw;have hfq:fall q1:=by rw[hq1];exact Db HG.out.1 _ _
       have hcq:=(nU hfq).1;have hdq:∀u,fD q1 u<=fD p u:=λu=>by rw[hq1];exact RA _ _ u
       have hcl:=HG.out.2.1;exact(HI.out (bC q1).toNat (by omega)) (by omega) hP hfq (by omega) (λu=>a1e (hdq u) (HG.out.2.2.1 u)) ZW (HQ.out.below hV) (HG.out.2.2.2.part HL.out.1 HL.out.2.1 hdq (by rw[hq1];exact RB _ _))
      have hki:(k:Int)<(M:Int):=by omega
      clear h1 h2 hg hkl hg2 hq1 hfe hN;go_upto_region 12 with(fail)
      clear aj3 aj4;obtain⟨b10,Ch⟩:∃b,b=wr.heap.size:=⟨_,rfl⟩;refine aj (λW5 hW=>?_);have Vh:bD W5 b10 [.int .i64 f1,a0i qo qn qc] 199/\ Below wr.heap.size wr W5:=by rw[hW,Ch];exact jC wr _ 199
      rw[<-Ch];clear hW Ch;have Yx:=hid (h3.pc.below Vh.2)
      have jB:Hid (bD W5 b5 [.bool m1,a0i a1 n1 c1,.bool k1,a0i d1 l1 e1] 31/\ bD W5 b4 [.bool false,a0i none 0 0,.bool false,a0i none 0 0] 31/\ Cb W5 m1 a1 n1 c1 x J/\ Cb W5 k1 d1 l1 e1 d J/\ nI w3.heap.size K W5 (a0i (some ⟨g,0,none⟩) M cc) (bA ((vn:Int)+1) p) g cc L/\ Below w.heap.size w W5):=by
       obtain⟨y1,y2,y3,y4,y5,y6⟩:=HS.out;exact⟨y1.below Vh.2,y2.below Vh.2,y3.below' Vh.2,y4.below' Vh.2,y5.below Vh.2,Below.steps y6 Vh.2⟩
      have H10:=hid Vh.1;clear h3 Vh HS;have dr:=(a0f W5.heap.size W5).drew;refine wp_region_held_drew (S:=λw'=>(w'.cell? ⟨b10,0,none⟩=some (.int .i64 f1)/\ w'.cell? ⟨b10,1,none⟩=some (a0i qo qn qc))/\ w'.cell? ⟨pb,pf+vn*4,none⟩=some (.bool pm)/\ w'.cell? ⟨pb,pf+vn*4+1,none⟩=some (a0i pa pk Wy)/\ w'.cell? ⟨pb,pf+vn*4+2,none⟩=some (.bool Wz)/\ w'.cell? ⟨pb,pf+vn*4+3,none⟩=some (a0i WA WB pc2)) (by kernel_rfl) ⟨bD.c2 (T:=199) (H10.out.below dr),Vg.out _ (jB.out.2.2.2.2.2.trans (dr.mono jB.out.2.2.2.2.2.size))⟩ (λhH=>?_);refine ai (λV hW=>?_);have HQ6:Hid (Pc K V qo qn qc q1):=by rw[hW];exact Yx.out.below dr
      have nZ:Hid (bD V b5 [.bool m1,a0i a1 n1 c1,.bool k1,a0i d1 l1 e1] 31/\ bD V b4 [.bool false,a0i none 0 0,.bool false,a0i none 0 0] 31/\ Cb V m1 a1 n1 c1 x J/\ Cb V k1 d1 l1 e1 d J/\ nI w3.heap.size K V (a0i (some ⟨g,0,none⟩) M cc) (bA ((vn:Int)+1) p) g cc L/\ Below w.heap.size w V):=by
       rw[hW];obtain⟨y1,y2,y3,y4,y5,y6⟩:=jB.out;exact⟨y1.below dr,y2.below dr,y3.below' dr,y4.below' dr,y5.below dr,y6.trans (dr.mono y6.size)⟩
      have H11:Hid (bD V b10 [.int .i64 f1,a0i qo qn qc] 199):=by rw[hW];exact H10.out.below dr
      rw[<-hW]at hH;clear dr Yx jB H10;clear hW;obtain⟨hw1,hw2,hw3⟩:=HVW.out;obtain⟨hn1,hn2⟩:=HNW.out;refine aQ 1 hH ?_;try simp only[ax]
      refine aQ 2 hH ?_;try simp only[ax]
      refine aQ 3 hH ?_;try simp only[ax]
      refine aQ 4 hH ?_;try simp only[ax]
      refine aQ 5 hH ?_;try simp only[ax]
      refine aQ 6 hH ?_;try simp only[ax]
      refine aQ 7 hH ?_;try simp only[ax]
      refine aQ 8 hH ?_;try simp only[ax]
      refine aQ 9 hH ?_;try simp only[ax]
      refine aQ 11 hH ?_;try simp only[ax]
      refine aQ 12 hH ?_;try simp only[ax]
      refine aQ 13 hH ?_;try simp only[ax]
      refine ah 0 rfl (by kernel_rfl) (λKK hK=>?_);obtain⟨y0,y1,y2,y3⟩:=nZ.out.1.q4;go_simp;clear y0 y1 y2 y3 hw1 hw2 hw3 hn1 hn2;clear hH;refine hK.out _ _ (⟨bD.c2 (T:=199) H11.out,Vg.out _ nZ.out.2.2.2.2.2⟩) λhH=>?_;clear hK KK
      try simp only[ax]
      refine ah 10 rfl (by kernel_rfl) (λKK hK=>?_);go_simp;have hjn:j*N+1<=j*999+1:=a1g (a1h _ hN9);refine(AU (N:=N) (J:=j*999+1) (oV nZ.out.2.2.1 nZ.out.2.2.2.1) (Pm.out _ nZ.out.2.2.2.2.2) ((ZV.out.2.1.pow N).mono hjn) ((ZV.out.2.2.pow N).mono hjn) (by omega) (by omega)).mono ?_;rintro e w7 ⟨m2,a2,n2,c2,k2,d2,l2,e2,rfl,hX1,hX2,hB⟩;have HT7:=hid (a0a hX1 hX2)
      have fu:Hid (bD w7 b5 [.bool m1,a0i a1 n1 c1,.bool k1,a0i d1 l1 e1] 31/\ bD w7 b4 [.bool false,a0i none 0 0,.bool false,a0i none 0 0] 31/\ Cb w7 m1 a1 n1 c1 x J/\ Cb w7 k1 d1 l1 e1 d J/\ nI w3.heap.size K w7 (a0i (some ⟨g,0,none⟩) M cc) (bA ((vn:Int)+1) p) g cc L/\ Below w.heap.size w w7):=by
       obtain⟨y1,y2,y3,y4,y5,y6⟩:=nZ.out;exact⟨y1.below hB,y2.below hB,y3.below' hB,y4.below' hB,y5.below hB,Below.steps y6 hB⟩
      have HQ7:=hid (HQ6.out.below hB);have H12:=hid (H11.out.below hB);clear hB hX1 hX2 nZ HQ6 H11 hjn;go_wp2_with fail;clear hH;refine hK.out _ _ (⟨bD.c2 (T:=199) H12.out,Vg.out _ fu.out.2.2.2.2.2⟩) λhH=>?_;clear hK KK
      try simp only[ax]
      refine ah 14 rfl (by kernel_rfl) (λKK hK=>?_);go_simp;refine(HIH.out w7 HQ7.out fu.out.2.2.2.2.2).mono ?_;rintro e w8 ⟨y,c,⟨m3,a3,n3,c3,k3,d3,l3,e3,rfl,hY1,hY2,hB⟩,h0,ht,hdv⟩;have HY:=hid (a0a hY1 hY2);have HD:=hid (a0a h0 (a0a ht hdv));have HT8:=hid (a0a (HT7.out.1.below' hB) (HT7.out.2.below' hB))
      have JK:Hid (bD w8 b5 [.bool m1,a0i a1 n1 c1,.bool k1,a0i d1 l1 e1] 31/\ bD w8 b4 [.bool false,a0i none 0 0,.bool false,a0i none 0 0] 31/\ Cb w8 m1 a1 n1 c1 x J/\ Cb w8 k1 d1 l1 e1 d J/\ nI w3.heap.size K w8 (a0i (some ⟨g,0,none⟩) M cc) (bA ((vn:Int)+1) p) g cc L/\ Below w.heap.size w w8):=by
       obtain⟨y1,y2,y3,y4,y5,y6⟩:=fu.out;exact⟨y1.below hB,y2.below hB,y3.below' hB,y4.below' hB,y5.below hB,Below.steps y6 hB⟩
      have H13:=hid (H12.out.below hB);clear hB hY1 hY2 h0 ht hdv HT7 fu HQ7 H12;go_wp2_with fail;clear hH;refine hK.out _ _ (⟨bD.c2 (T:=199) H13.out,Vg.out _ JK.out.2.2.2.2.2⟩) λhH=>?_;clear hK KK
      try simp only[ax]
      refine ah 15 rfl (by kernel_rfl) (λKK hK=>?_);go_simp;refine(NY (oV HT8.out.1 HT8.out.2) (oV HY.out.1 HY.out.2) HD.out.1 (by omega)).mono ?_;rintro e w9 ⟨m4,a4,n4,c4,k4,d4,l4,e4,rfl,hZ1,hZ2,hB⟩;obtain⟨hkl,hg2,hq1,hN⟩:=aL.out;have hwn:=HW.out.next HG.out.1 HL.out.1 HL.out.2.1 HL.out.2.2 hkl ZV.out.1 hg2 HD.out.1 HD.out.2.1 HD.out.2.2 hN;rw[show(bC p).toNat=vn+1 by rw[HZ.out];omega]at hwn;have hbw2:=hwn.bd HG.out.1 (by rw[HZ.out];omega) HL.out.1 HL.out.2.1 HG.out.2.2.2;obtain⟨X9,hX9⟩:∃X,X=x*ν^N*c.tdiv ((a0t (d*δ (vn+1)^N) c:Nat):Int)+y*(d*δ (vn+1)^N).tdiv ((a0t (d*δ (vn+1)^N) c:Nat):Int):=⟨_,rfl⟩;obtain⟨D9,hD9⟩:∃X,X=d*δ (vn+1)^N*c.tdiv ((a0t (d*δ (vn+1)^N) c:Nat):Int):=⟨_,rfl⟩;rw[<-hX9,<-hD9]at hwn hbw2;rw[<-hX9]at hZ1;rw[<-hD9]at hZ2;have HW9:=hid hwn;have JH:Hid (Cb w9 m4 a4 n4 c4 X9 J/\ Cb w9 k4 d4 l4 e4 D9 J):=⟨⟨hZ1.cx,hbw2.1⟩,⟨hZ2.cx,hbw2.2⟩⟩
      have zC:Hid (bD w9 b5 [.bool m1,a0i a1 n1 c1,.bool k1,a0i d1 l1 e1] 31/\ bD w9 b4 [.bool false,a0i none 0 0,.bool false,a0i none 0 0] 31/\ Cb w9 m1 a1 n1 c1 x J/\ Cb w9 k1 d1 l1 e1 d J/\ nI w3.heap.size K w9 (a0i (some ⟨g,0,none⟩) M cc) (bA ((vn:Int)+1) p) g cc L/\ Below w.heap.size w w9):=by
       obtain⟨y1,y2,y3,y4,y5,y6⟩:=JK.out;exact⟨y1.below hB,y2.below hB,y3.below' hB,y4.below' hB,y5.below hB,Below.steps y6 hB⟩
      have H14:=hid (H13.out.below hB);clear hB hZ1 hZ2 hwn hbw2 hX9 hD9 hkl hg2 hq1 hN HT8 HY HD JK H13 HW aL;go_wp2_with fail;clear hH;refine hK.out _ _ (⟨bD.c2 (T:=199) H14.out,Vg.out _ zC.out.2.2.2.2.2⟩) λhH=>?_;clear hK KK
      try simp only[ax]
      have uo:=NW zC.out.1 (tV _ _ _ _ _ _ _ _) (.bool m4) (a0i a4 n4 c4) (.bool k4) (a0i d4 l4 e4);have Ch:b5≠b10:=λe=>absurd ((e▸zC.out.1:bD w9 b10 _ 31).Yz H14.out) (by decide)
      obtain⟨y0,y1,y2,y3⟩:=zC.out.1.q4;obtain⟨z0,z1,z2,z3⟩:=zC.out.1.r4;have RH:=hid uo;clear uo;refine ah 16 rfl (by kernel_rfl) (λKK hK=>?_);go_simp;clear y0 y1 y2 y3 z0 z1 z2 z3;have Ae:=ja zC.out.2.2.2.2.2 (show w.heap.size<=b5 by omega) (.bool m4) (a0i a4 n4 c4) (.bool k4) (a0i d4 l4 e4);have h10:=H14.out.apart RH.out.1.g λe=>Ch (a1m e).symm
      have h4':=zC.out.2.1.apart RH.out.1.g λe=>by have:=a1m e;omega
      have Xe:=hid (a0a RH.out.2 (a0a h4' (a0a (JH.out.1.iN RH.out.1) (a0a (JH.out.2.iN RH.out.1) (a0a (zC.out.2.2.2.2.1.iN RH.out.1 aj2) Ae)))));have H15:=hid h10;clear Ae h10 h4' RH zC JH H14 Ch;clear hH;refine hK.out _ _ (⟨bD.c2 (T:=199) H15.out,Vg.out _ Xe.out.2.2.2.2.2⟩) λhH=>?_;clear hK KK
      try simp only[ax]
      obtain⟨y0,y1⟩:=bD.c2 H15.out;refine wpAnyH_done (by kernel_rfl) ?_ _
      clear hH;go_wp2_with fail;go_roundw
      case rel=>exact⟨k+1,f1,X9,D9,_,_,_,_,_,_,_,_,by go_num,rfl,by omega,Xe.out,HW9.out⟩
      case measure=>simp[intOf];omega
     ·obtain rfl:k=M:=by omega
      obtain⟨N,hN⟩:∃N:Nat,(N:Int)=E:=⟨E.toNat,by omega⟩;have hwl:Wl ρ μ δ p (bA (bC p) p).length E x d:=by rw[HZ.out,<-CX.out];exact HW.out
      have hlast:=hwl.last HG.out.1 (by rw[HZ.out];omega) HL.out.1 HL.out.2.1 HL.out.2.2 HG.out.2.2.2 ZV.out.1 hN;rw[show(bC p).toNat=vn+1 by rw[HZ.out];omega]at hlast;have Ve:=hid hlast;have hN9:N<=999:=by omega
      subst hN;have hkk:¬(k:Int)<(k:Int):=by omega
      clear hwl hlast HW HI;go_upto_region 15 with(fail)
      have dr:=(a0f wr.heap.size wr).drew;have hs5:=HS.out.1.below dr;refine wp_region_held_drew (S:=λw'=>(w'.cell? ⟨b5,0,none⟩=some (.bool m1)/\ w'.cell? ⟨b5,1,none⟩=some (a0i a1 n1 c1)/\ w'.cell? ⟨b5,2,none⟩=some (.bool k1)/\ w'.cell? ⟨b5,3,none⟩=some (a0i d1 l1 e1))/\ w'.cell? ⟨pb,pf+vn*4,none⟩=some (.bool pm)/\ w'.cell? ⟨pb,pf+vn*4+1,none⟩=some (a0i pa pk Wy)/\ w'.cell? ⟨pb,pf+vn*4+2,none⟩=some (.bool Wz)/\ w'.cell? ⟨pb,pf+vn*4+3,none⟩=some (a0i WA WB pc2)) (by kernel_rfl) ⟨hs5.q4,Vg.out _ (HS.out.2.2.2.2.2.trans (dr.mono HS.out.2.2.2.2.2.size))⟩ (λhH=>?_);clear hs5;refine ai (λV hW=>?_)
      have nZ:Hid (bD V b5 [.bool m1,a0i a1 n1 c1,.bool k1,a0i d1 l1 e1] 31/\ bD V b4 [.bool false,a0i none 0 0,.bool false,a0i none 0 0] 31/\ Cb V m1 a1 n1 c1 x J/\ Cb V k1 d1 l1 e1 d J/\ Below w.heap.size w V):=by
       rw[hW];obtain⟨y1,y2,y3,y4,y5,y6⟩:=HS.out;exact⟨y1.below dr,y2.below dr,y3.below' dr,y4.below' dr,y6.trans (dr.mono y6.size)⟩
      rw[<-hW]at hH;clear dr HS;clear hW;obtain⟨hw1,hw2,hw3⟩:=HVW.out;refine aQ 0 hH ?_;try simp only[ax]
      refine aQ 1 hH ?_;try simp only[ax]
      refine aQ 2 hH ?_;try simp only[ax]
      refine aQ 3 hH ?_;try simp only[ax]
      refine aQ 4 hH ?_;try simp only[ax]
      refine aQ 5 hH ?_;try simp only[ax]
      refine aQ 6 hH ?_;try simp only[ax]
      refine ah 7 rfl (by kernel_rfl) (λKK hK=>?_);go_simp;clear hw1 hw2 hw3;have hjn:j*N+1<=j*999+1:=a1g (a1h _ hN9);refine(AU (N:=N) (J:=j*999+1) (oV nZ.out.2.2.1 nZ.out.2.2.2.1) (Pm.out _ nZ.out.2.2.2.2) ((ZV.out.2.1.pow N).mono hjn) ((ZV.out.2.2.pow N).mono hjn) (by omega) (by omega)).mono ?_;rintro e w7 ⟨m2,a2,n2,c2,k2,d2,l2,e2,rfl,hX1,hX2,hB⟩;have YD:Hid (Cb w7 m2 a2 n2 c2 (x*ν^N) J/\ Cb w7 k2 d2 l2 e2 (d*δ (vn+1)^N) J):=⟨⟨hX1.cx,Ve.out.2.2.2.1⟩,⟨hX2.cx,Ve.out.2.2.2.2⟩⟩
      have fu:Hid (bD w7 b5 [.bool m1,a0i a1 n1 c1,.bool k1,a0i d1 l1 e1] 31/\ bD w7 b4 [.bool false,a0i none 0 0,.bool false,a0i none 0 0] 31/\ Below w.heap.size w w7):=by
       obtain⟨y1,y2,y3,y4,y5⟩:=nZ.out;exact⟨y1.below hB,y2.below hB,Below.steps y5 hB⟩
      clear hB hX1 hX2 nZ hjn;go_wp2_with fail;clear hH;refine hK.out _ _ (⟨fu.out.1.q4,Vg.out _ fu.out.2.2⟩) λhH=>?_;clear hK KK
      try simp only[ax]
      have uo:=NW fu.out.2.1 (tV _ _ _ _ _ _ _ _) (.bool m2) (a0i a2 n2 c2) (.bool k2) (a0i d2 l2 e2);have Ae:=ja fu.out.2.2 hbw (.bool m2) (a0i a2 n2 c2) (.bool k2) (a0i d2 l2 e2);obtain⟨y0,y1,y2,y3⟩:=fu.out.2.1.q4;obtain⟨z0,z1,z2,z3⟩:=fu.out.2.1.r4;have RH:=hid uo;have oP:=hid Ae;have H5:=hid (fu.out.1.apart uo.1.g λe=>by have:=a1m e;omega);clear uo Ae;refine ah 8 rfl (by kernel_rfl) (λKK hK=>?_);go_simp;clear y0 y1 y2 y3 z0 z1 z2 z3;clear hH;refine hK.out _ _ (⟨H5.out.q4,Vg.out _ oP.out⟩) λhH=>?_;clear hK KK
      try simp only[ax]
      obtain⟨f0,f1,f2,f3⟩:=RH.out.2.q4;refine wpAnyH_done (by kernel_rfl) ?_ _
      clear hH;go_wp2_with fail;refine bodyPost_ret (v:= .agg #[.bool m2,a0i a2 n2 c2,.bool k2,a0i d2 l2 e2]) (by simp[results,Tryz.results95,go_sem,f0,f1,f2,f3]) rfl ?_;exact⟨_,_,⟨_,_,_,_,_,_,_,_,rfl,YD.out.1.iN RH.out.1,YD.out.2.iN RH.out.1,oP.out⟩,Ve.out.2.1,Ve.out.1,Ve.out.2.2.1⟩
theorem NZ [Ol] {ρ:Nat->Rat} {μ δ:Nat->Int} {K J j:Nat} {po:Option Addr} {pn pc:Nat} (hμ:∀u,0<μ u) (hδ:∀u,0<δ u) (hle:∀u,Le (ρ u) (μ u)) (hK:1<=K/\ K<=J/\ J<=30000/\ 1<=j/\ j<=30) (C:Nat):zI ρ μ δ K J j po pn pc C:=
 @Nat.strongRecOn (zI ρ μ δ K J j po pn pc) C (λC IH=>Km hμ hδ hle hK C IH)
structure Pt [Ol] (w:World) (ao:Option Addr) (n cap:Nat) (qs:List Rat) (j:Nat):Prop where
 len:qs.length=n
 ex:∃bS,Gl 4 w ao n cap bS/\∀i,i<n->∃m a k c m2 a2 k2 c2 x d,bS.getD i []=[.bool m,a0i a k c,.bool m2,a0i a2 k2 c2]/\ Rx w m a k c m2 a2 k2 c2 x d (qs.getD i 0) j
theorem Pt.below [Ol] {w w':World} {ao:Option Addr} {n cap:Nat} {qs:List Rat} {j:Nat} (h:Pt w ao n cap qs j) (hb:Below w.heap.size w w'):Pt w' ao n cap qs j:=by
 obtain⟨bS,h1,h2⟩:=h.ex;refine⟨h.len,bS,h1.below hb,λi hi=>?_⟩;obtain⟨m,a,k,c,m2,a2,k2,c2,x,d,h3,h4⟩:=h2 i hi;exact⟨m,a,k,c,m2,a2,k2,c2,x,d,h3,h4.below' hb⟩
theorem Pt.iW [Ol] {w:World} {ao:Option Addr} {n cap:Nat} {qs:List Rat} {j:Nat} (h:Pt w ao n cap qs j) {i:Nat} (hi:i<n):∃b off m a k c m2 a2 k2 c2 x d,ao=some ⟨b,off,none⟩/\ b<w.heap.size/\ (∀V:World,Below w.heap.size w V->V.cell? ⟨b,off+i*4,none⟩=some (.bool m)/\ V.cell? ⟨b,off+i*4+1,none⟩=some (a0i a k c)/\ V.cell? ⟨b,off+i*4+2,none⟩=some (.bool m2)/\ V.cell? ⟨b,off+i*4+3,none⟩=some (a0i a2 k2 c2))/\ Rx w m a k c m2 a2 k2 c2 x d (qs.getD i 0) j:=by
 obtain⟨bS,h1,h2⟩:=h.ex;obtain⟨m,a,k,c,m2,a2,k2,c2,x,d,h3,h4⟩:=h2 i hi;obtain⟨b,off,e1,e2,e3⟩:=h1.at (by omega);refine⟨b,off,m,a,k,c,m2,a2,k2,c2,x,d,e1,e2,λV hV=>?_,h4⟩;have f:=e3 V hV i hi;rw[h3]at f;exact⟨by simpa using f 0 (by omega),by simpa using f 1 (by omega),by simpa using f 2 (by omega),by simpa using f 3 (by omega)⟩
def YE (v:Value):Bool:=match v with| .bool _=>true| _=>false
def Fa (L:List Value):Prop:=∀i u,L[i]? =some u->(i%2=0->YE u=true)/\ (i%2=1->Uc u=true)
theorem Fa.clean {L:List Value} (h:Fa L):Clean L:=λu hu=>by
 obtain⟨j,hj⟩:=a0y.1 hu;have:=h j u hj;rcases a0Y j with e|e
 ·have:=this.1 e;cases u<;>first|rfl|cases this
 ·have:=this.2 e;cases u<;>first|rfl|cases this
theorem Fa.shy {L:List Value} (h:Fa L):shy L:=by
 refine⟨λu hu=>?_,λj a b ha hb=>?_⟩
 ·have:=h.clean u hu;cases u<;>first|rfl|cases this
 ·refine⟨.inl (h.clean a (List.mem_of_getElem? ha)),?_⟩;rcases a0Y j with e|e
  ·have:=(h j a ha).1 e;cases a<;>first|rfl|cases this
  ·have:=(h (j+1) b hb).1 (by omega);cases b<;>first|(cases a<;>rfl)|cases this
theorem Fa.put {L:List Value} (h:Fa L) (k:Nat) {v0 v1 v2 v3:Value} (h0:YE v0=true) (h1:Uc v1=true) (h2:YE v2=true) (h3:Uc v3=true):Fa (pF L (k*4) [v0,v1,v2,v3]):=λi u hu=>by
 by_cases hi:i<k*4∨k*4+[v0,v1,v2,v3].length<=i
 ·rw[jQ _ _ _ _ hi]at hu;exact h i u hu
 ·have hl:i<L.length:=by
   have:=(a0z.1 hu).1;rwa[iO]at this
  simp only[a0L,a0Q]at hi;rw[jV _ _ _ _ (by omega) (by simp;omega) hl]at hu;obtain⟨t,ht⟩:∃t,i=k*4+t:=⟨i-k*4,by omega⟩;subst ht;rw[show k*4+t-k*4=t by omega]at hu
  match t,hu with
  |0,hu=>cases hu;exact⟨λ_=>h0,λe=>by omega⟩
  |1,hu=>cases hu;exact⟨λe=>by omega,λ_=>h1⟩
  |2,hu=>cases hu;exact⟨λ_=>h2,λe=>by omega⟩
  |3,hu=>cases hu;exact⟨λe=>by omega,λ_=>h3⟩
  |t+4,hu=>simp at hu
structure Low (w:World) (b:Nat) (L:List Value) (c:Nat) (qs:List Rat) (k j:Nat):Prop where
 iW:bD w b L 31
 len:L.length=c*4
 alt:Fa L
 done:∀i,i<k->∃m a n cc m2 a2 n2 c2,L[i*4]? =some (.bool m)/\ L[i*4+1]? =some (a0i a n cc)/\ L[i*4+2]? =some (.bool m2)/\ L[i*4+3]? =some (a0i a2 n2 c2)/\ Rc w m a n cc m2 a2 n2 c2 (qs.getD i 0) j
theorem Rc.below' {w w':World} {m:Bool} {ao:Option Addr} {n cap:Nat} {k:Bool} {bo:Option Addr} {l cb:Nat} {q:Rat} {j:Nat} (h:Rc w m ao n cap k bo l cb q j) (hb:Below w.heap.size w w'):Rc w' m ao n cap k bo l cb q j:=⟨⟨h.num.cn.below hb,h.num.le⟩,⟨h.den.cn.below hb,h.den.le⟩,h.bn,h.bd⟩
theorem Rc.iN {w w':World} {m:Bool} {ao:Option Addr} {n cap:Nat} {k:Bool} {bo:Option Addr} {l cb:Nat} {q:Rat} {j b:Nat} (h:Rc w m ao n cap k bo l cb q j) (hF:qw w w' b):Rc w' m ao n cap k bo l cb q j:=⟨⟨h.num.cn.iN hF,h.num.le⟩,⟨h.den.cn.iN hF,h.den.le⟩,h.bn,h.bd⟩
theorem Low.below {w w':World} {b:Nat} {L:List Value} {c:Nat} {qs:List Rat} {k j:Nat} (h:Low w b L c qs k j) (hb:Below w.heap.size w w'):Low w' b L c qs k j:=
 ⟨h.iW.below hb,h.len,h.alt,λi hi=>by
  obtain⟨m,a,n,cc,m2,a2,n2,c2,h1,h2,h3,h4,h5⟩:=h.done i hi;exact⟨m,a,n,cc,m2,a2,n2,c2,h1,h2,h3,h4,h5.below' hb⟩⟩
theorem Low.put {w:World} {b:Nat} {L:List Value} {c:Nat} {qs:List Rat} {k j:Nat} (h:Low w b L c qs k j) (hk:k<c) {m:Bool} {a:Option Addr} {n cc:Nat} {m2:Bool} {a2:Option Addr} {n2 c2:Nat} (hr:Rc w m a n cc m2 a2 n2 c2 (qs.getD k 0) j):
  Low ((((w.setCell ⟨b,k*4,none⟩ (.bool m)).setCell ⟨b,k*4+1,none⟩ (a0i a n cc)).setCell ⟨b,k*4+2,none⟩ (.bool m2)).setCell ⟨b,k*4+3,none⟩ (a0i a2 n2 c2)) b (pF L (k*4) [.bool m,a0i a n cc,.bool m2,a0i a2 n2 c2]) c qs (k+1) j:=by
 have hF:qw w ((((w.setCell ⟨b,k*4,none⟩ (.bool m)).setCell ⟨b,k*4+1,none⟩ (a0i a n cc)).setCell ⟨b,k*4+2,none⟩ (.bool m2)).setCell ⟨b,k*4+3,none⟩ (a0i a2 n2 c2)) b:=
  ⟨⟨L,_,h.iW,h.alt.shy⟩,dS (dS (dS (bV _ _ _ _) (bV _ _ _ _)) (bV _ _ _ _)) (bV _ _ _ _)⟩
 have hl:=h.len;refine⟨(((h.iW.set _ _).set _ _).set _ _).set _ _,by rw[iO];exact hl,h.alt.put k rfl rfl rfl rfl,λi hi=>?_⟩;by_cases hik:i<k
 ·obtain⟨m',a',n',cc',m2',a2',n2',c2',h1,h2,h3,h4,h5⟩:=h.done i hik;exact⟨m',a',n',cc',m2',a2',n2',c2',by rw[jQ _ _ _ _ (.inl (by omega))];exact h1,by rw[jQ _ _ _ _ (.inl (by omega))];exact h2,by rw[jQ _ _ _ _ (.inl (by omega))];exact h3,by rw[jQ _ _ _ _ (.inl (by omega))];exact h4,h5.iN hF⟩
 ·obtain rfl:i=k:=by omega
  refine⟨m,a,n,cc,m2,a2,n2,c2,?_,?_,?_,?_,hr.iN hF⟩
  ·rw[jV _ _ _ _ (by omega) (by simp) (by omega),a1b];rfl
  ·rw[jV _ _ _ _ (by omega) (by simp) (by omega),show i*4+1-i*4=1 by omega];rfl
  ·rw[jV _ _ _ _ (by omega) (by simp) (by omega),show i*4+2-i*4=2 by omega];rfl
  ·rw[jV _ _ _ _ (by omega) (by simp) (by omega),show i*4+3-i*4=3 by omega];rfl
def kM (qs:List Rat) (u:Nat):Rat:=qs.getD (u-1) 0
def Cg (qs:List Rat) (u:Nat):Int:=((kM qs u).den:Int)
def Cf (qs:List Rat) (u:Nat):Int:=max 1 ((kM qs u).num.natAbs:Int)
theorem zJ (qs:List Rat) (u:Nat):0<Cg qs u:=by
 unfold Cg;have:=(kM qs u).den_pos;omega
theorem Fb (qs:List Rat) (u:Nat):0<Cf qs u:=by unfold Cf;omega
theorem YF (qs:List Rat) (u:Nat):Le (kM qs u) (Cf qs u):=by
 refine Le.mk' (x:=(kM qs u).num) (zJ qs u) (a1o _) ?_;have h:=zJ qs u;have h1:((kM qs u).num.natAbs:Int)<=Cf qs u:=by unfold Cf;omega
 have h2:=a0p (show 1<=Cg qs u by omega) (show 0<=Cf qs u by have:=Fb qs u;omega);omega
theorem Low.qp [Ol] {w:World} {b:Nat} {L:List Value} {c:Nat} {qs:List Rat} {j:Nat} (h:Low w b L c qs c j) (hc:c<=1000):Qp w (some ⟨b,0,none⟩) c c (kM qs) (Cg qs) j:=by
 obtain⟨bS,hv⟩:∃bS:List (List Value),bS=(List.range c).map λi=>(L.drop (i*4)).take 4:=⟨_,rfl⟩
 have hl:=h.len;have hg:∀i,i<c->bS.getD i []=(L.drop (i*4)).take 4:=λi hi=>by rw[hv];simp[a0A,hi]
 have hgt:∀i t,i<c->t<4->(bS.getD i [])[t]? =L[i*4+t]? :=λi t hi ht=>by rw[hg i hi,List.getElem?_take,if_pos ht,List.getElem?_drop]
 have h4:∀i,i<c->∀{m a n cc m2 a2 n2 c2},L[i*4]? =some (Value.bool m)->L[i*4+1]? =some (a0i a n cc)->L[i*4+2]? =some (Value.bool m2)->L[i*4+3]? =some (a0i a2 n2 c2)->bS.getD i []=[.bool m,a0i a n cc,.bool m2,a0i a2 n2 c2]:=λi hi {m a n cc m2 a2 n2 c2} h1 h2 h3 h4=>by
  apply List.ext_getElem?;intro t
  match t with
  |0=>rw[hgt i 0 hi (by omega)];exact h1
  |1=>rw[hgt i 1 hi (by omega)];exact h2
  |2=>rw[hgt i 2 hi (by omega)];exact h3
  |3=>rw[hgt i 3 hi (by omega)];exact h4
  |t+4=>
   rw[a0U,a0U]
   ·simp
   ·rw[hg i hi,a0P];omega
 refine⟨bS,Gl.of_cells (by rw[hv];simp) (a1a _) (by omega) (λvs hvs=>?_) (λ_=>h.iW.lt) (λ_=>Kp.C9 (h.iW.fT h.alt.clean)) λt ht jj hj=>?_,λi hi=>?_⟩
 ·rw[hv]at hvs;obtain⟨i,hi,rfl⟩:=List.mem_map.1 hvs;have hi2:=List.mem_range.1 hi;obtain⟨m,a,n,cc,m2,a2,n2,c2,h1,h2,h3,h5,_⟩:=h.done i hi2;rw[<-hg i hi2,h4 i hi2 h1 h2 h3 h5];refine⟨rfl,λv hv=>?_⟩;simp at hv;rcases hv with rfl|rfl|rfl|rfl<;>rfl
 ·rw[a0Z,h.iW.cell,hgt t jj ht hj]
 ·obtain⟨m,a,n,cc,m2,a2,n2,c2,h1,h2,h3,h5,h6⟩:=h.done i hi;have e:kM qs (i+1)=qs.getD i 0:=by unfold kM;rw[Nat.add_sub_cancel]
  have ed:Cg qs (i+1)=((qs.getD i 0).den:Int):=by unfold Cg;rw[e]
  refine⟨m,a,n,cc,m2,a2,n2,c2,(qs.getD i 0).num,h4 i hi h1 h2 h3 h5,?_,?_⟩
  ·rw[e,ed];exact⟨h6.num.nx,h6.den.nx,LW _,h6.bn,h6.bd⟩
  ·rw[e,ed];exact a1o _
open Lib (hid)
theorem Tryz.N7:(Tryz.prog.info? 31).map (λi=>(i.zero,i.size,i.bytes))=some (some (.agg #[.bool false,a0i none 0 0,.bool false,a0i none 0 0]),4,64):=by kernel_rfl
theorem N8 (n:Nat):Fa (madeCells #[.bool false,a0i none 0 0,.bool false,a0i none 0 0] n).toList:=λi u hu=>by
 have hl:i<n:=by
  have:=(a0z.1 hu).1;simpa[madeCells]using this
 have e:(madeCells #[Value.bool false,a0i none 0 0,.bool false,a0i none 0 0] n).toList[i]? =some ((#[Value.bool false,a0i none 0 0,.bool false,a0i none 0 0]:Array Value)[i%4]!):=by
  simp[madeCells,hl]
 rw[e]at hu;cases hu;have h4:i%4=0∨i%4=1∨i%4=2∨i%4=3:=by omega
 rcases h4 with h|h|h|h<;>rw[h]
 ·exact⟨λ_=>rfl,λe=>by omega⟩
 ·exact⟨λe=>by omega,λ_=>rfl⟩
 ·exact⟨λ_=>rfl,λe=>by omega⟩
 ·exact⟨λe=>by omega,λ_=>rfl⟩
theorem Low.start {w:World} {b c:Nat} {qs:List Rat} {j:Nat} (h:bD w b (madeCells #[.bool false,a0i none 0 0,.bool false,a0i none 0 0] (c*4)).toList 31):Low w b (madeCells #[.bool false,a0i none 0 0,.bool false,a0i none 0 0] (c*4)).toList c qs 0 j:=
 ⟨h,by simp[madeCells],N8 _,λi hi=>by omega⟩
theorem DK [Ol] {K:Nat} {w:World} {ao:Option Addr} {n cap:Nat} {p:List Term} (z:Int) (hp:Pc K w ao n cap p) (hf:fall p) (hK:K<=1000) (hz:bC p=z):Calls Tryz.prog 94 #[a0i ao n cap] w (cu (.int .i64 z) w):=
 JD z hp.raw (λt ht=>a1e (hp.lens t ht) hK) (by rw[UU hf];exact hz)
section
variable {K J j:Nat} {ao po:Option Addr} {n cap pn pc:Nat} {w:World} {qs:List Rat}
def Vi (w:World) (q:Rat) (J:Nat) (e:Ending) (w':World):Prop:=∃x d m ao n cap k bo l cb,e= .returned (.tuple #[.agg #[.bool m,a0i ao n cap,.bool k,a0i bo l cb],.int .i64 0])/\ Cb w' m ao n cap x J/\ Cb w' k bo l cb d J/\ 0<d/\ a1n x d=q/\ Below w.heap.size w w'
theorem yg [Ol] {ps:List Raw} (hp:Pr w ao n cap ps) (hl:∀t∈ps,t.1.2.length<=1000) (h:kX ps=false):
  Calls Tryz.prog 40 #[a0i ao n cap,a0i po pn pc] w (cu (.tuple #[.agg #[.bool false,a0i none 0 0,.bool false,a0i none 0 0],.int .i64 2]) w):=by
 have HP:=hid (a0a hp (a0a hl h));clear hp hl h;go_enter Tryz.func40,Tryz.ntmps40;obtain⟨b4,hb4⟩:∃b4,b4=w.heap.size:=⟨_,rfl⟩;go_upto_region 1 with(fail)
 refine aj (λW0 hW=>?_);have a0:bD W0 b4 [.bool false,a0i none 0 0,.bool false,a0i none 0 0] 31/\ Below w.heap.size w W0:=by rw[hW,hb4];exact jC w _ 31
 rw[<-hb4];have hbw:w.heap.size<=b4:=by omega
 clear hW hb4;go_wp2_with fail;refine(oW false (HP.out.1.below a0.2) HP.out.2.1 HP.out.2.2).mono ?_;rintro e w1 ⟨rfl,hB⟩;have h4:=a0.1.below hB;have HB:=hid (Below.steps a0.2 hB);have H4:=hid h4;obtain⟨f0,f1,f2,f3⟩:=h4.q4;obtain⟨g0,g1,g2,g3⟩:=h4.r4;clear a0 hB h4;go_wp2_with fail;refine bodyPost_ret (v:= .tuple #[.agg #[.bool false,a0i none 0 0,.bool false,a0i none 0 0],.int .i64 2]) (by simp[results,Tryz.results40,go_sem,f0,f1,f2,f3]) rfl ?_;exact⟨rfl,ja HB.out hbw _ _ _ _⟩
theorem vK [Ol] {p:List Term} (hp:Pc K w ao n cap p) (hf:fall p) (hK:K<=1000) (hc:(pn:Int)<bC p):
  Calls Tryz.prog 40 #[a0i ao n cap,a0i po pn pc] w (cu (.tuple #[.agg #[.bool false,a0i none 0 0,.bool false,a0i none 0 0],.int .i64 5]) w):=by
 obtain⟨z,hz⟩:∃z,bC p=z:=⟨_,rfl⟩;have HP:=hid (a0a hp (a0a hf hz));rw[hz]at hc;clear hp hf hz;go_enter Tryz.func40,Tryz.ntmps40;obtain⟨b4,hb4⟩:∃b4,b4=w.heap.size:=⟨_,rfl⟩;go_upto_region 1 with(fail)
 refine aj (λW0 hW=>?_);have a0:bD W0 b4 [.bool false,a0i none 0 0,.bool false,a0i none 0 0] 31/\ Below w.heap.size w W0:=by rw[hW,hb4];exact jC w _ 31
 rw[<-hb4];have hbw:w.heap.size<=b4:=by omega
 clear hW hb4;go_wp2_with fail;refine(Am (HP.out.1.below a0.2) HP.out.2.1 hK).mono ?_;rintro e w1 ⟨rfl,hB⟩;have HB:=hid (Below.steps a0.2 hB);have H4:=hid (a0.1.below hB);clear a0 hB;go_wp2_with fail;refine(DK z (HP.out.1.below HB.out) HP.out.2.1 hK HP.out.2.2).mono ?_;rintro e w2 ⟨rfl,hB⟩;have h4:=H4.out.below hB;have HB2:=hid (Below.steps HB.out hB);have H5:=hid h4;obtain⟨f0,f1,f2,f3⟩:=h4.q4;obtain⟨g0,g1,g2,g3⟩:=h4.r4;clear hB h4 H4 HB;go_wp2_with fail;refine bodyPost_ret (v:= .tuple #[.agg #[.bool false,a0i none 0 0,.bool false,a0i none 0 0],.int .i64 5]) (by simp[results,Tryz.results40,go_sem,f0,f1,f2,f3]) rfl ?_;exact⟨rfl,ja HB2.out hbw _ _ _ _⟩
theorem yh [Ol] {p:List Term} (hp:Pc K w ao n cap p) (hf:fall p) (hK:1<=K/\ K<=1000/\ K<=J/\ J<=30000/\ 1<=j/\ j<=30) (hc:bC p<=(pn:Int)) (hdg:∀u,fD p u<=999) (hn:n<=100000) (hq:Pt w po pn pc qs j) (hJ:Big p (Cf qs) (Cg qs) J):
  Calls Tryz.prog 40 #[a0i ao n cap,a0i po pn pc] w (Vi w (rv (kM qs) p) J):=by
 obtain⟨i0,hi,hz0,hz1,hz2⟩:=info_parts Tryz.N7;have hcb:=nU hf;obtain⟨c,hcc⟩:∃c:Nat,bC p=(c:Int):=⟨(bC p).toNat,by omega⟩;have hcp:c<=pn:=by omega
 have hc2:c<=200:=by omega
 have hmk:∀W:World,(Instr.makeSlice 24 (.int .i64 (c:Int)) (.int .i64 (c:Int))).run Tryz.prog W= .ok (a0i (some ⟨W.heap.size,0,none⟩) c c) (W.alloc (.cells (madeCells #[.bool false,a0i none 0 0,.bool false,a0i none 0 0] (c*4)).toList.toArray 31)):=by
  intro W;have h:=run_make (P:=Tryz.prog) W 24 31 i0 _ Tryz.underlying24 hi hz0 .i64 .i64 (c:Int) (c:Int) (by omega) (by omega) (by rw[hz2];omega) (by omega);rw[h,hz1];simp[a0h]
 have HP:=hid (a0a hp (a0a hf hcc));have HG:=hid (a0a hdg (a0a hq hJ));clear hi hz0 hz1 hz2 hp hf hdg hq hJ hcc hcb hc;go_enter Tryz.func40,Tryz.ntmps40;obtain⟨b4,hb4⟩:∃b4,b4=w.heap.size:=⟨_,rfl⟩;go_upto_region 1 with(fail)
 refine aj (λW0 hW=>?_);have a0:bD W0 b4 [.bool false,a0i none 0 0,.bool false,a0i none 0 0] 31/\ Below w.heap.size w W0:=by rw[hW,hb4];exact jC w _ 31
 rw[<-hb4];have hbw:w.heap.size<=b4:=by omega
 clear hW hb4;go_wp2_with fail;refine(Am (HP.out.1.below a0.2) HP.out.2.1 hK.2.1).mono ?_;rintro e w1 ⟨rfl,hB⟩;have HB:=hid (Below.steps a0.2 hB);have H4:=hid (a0.1.below hB);clear a0 hB;go_wp2_with fail;refine(DK (c:Int) (HP.out.1.below HB.out) HP.out.2.1 hK.2.1 HP.out.2.2).mono ?_;rintro e w2 ⟨rfl,hB⟩;have HS2:Hid (bD w2 b4 [.bool false,a0i none 0 0,.bool false,a0i none 0 0] 31/\ Below w.heap.size w w2):=⟨H4.out.below hB,Below.steps HB.out hB⟩;clear hB H4 HB;have hgt:¬(pn:Int)<(c:Int):=by omega
 have hg1:decide (pn<c)=false:=decide_eq_false (by omega);obtain⟨b7,yo⟩:∃b,b=w2.heap.size:=⟨_,rfl⟩;go_upto_region 7 with(fail)
 refine aj (λW3 hW=>?_);have a7:bD W3 b7 (madeCells #[.bool false,a0i none 0 0,.bool false,a0i none 0 0] (c*4)).toList 31/\ Below w2.heap.size w2 W3:=by rw[hW,yo];exact jC w2 _ 31
 rw[<-yo];have al8:b4<b7:=by have:=HS2.out.1.lt;omega
 have Cq:Hid (bD W3 b4 [.bool false,a0i none 0 0,.bool false,a0i none 0 0] 31/\ Low W3 b7 _ c qs 0 j/\ Below w.heap.size w W3):=⟨HS2.out.1.below a7.2,Low.start a7.1,Below.steps HS2.out.2 a7.2⟩;clear hW yo a7 HS2 hgt hg1 hmk;go_wp2_with fail;go_loopw [8,24] (λ_ i wr=>∃(k:Nat) (L:List Value),i= .int .i64 k/\ k<=c/\ Hid (bD wr b4 [.bool false,a0i none 0 0,.bool false,a0i none 0 0] 31/\ Low wr b7 L c qs k j/\ Below w.heap.size w wr)) (λ_ i _=>c-(intOf i).toNat)
 case atStart=>exact⟨0,_,rfl,a1c _,Cq.out⟩
 case round=>
  clear Cq;obtain⟨k,L,rfl,hk,HS⟩:=hrel;by_cases hkc:k<c
  ·obtain⟨pb,pf,pm,pa,pk,Wy,Wz,WA,WB,pc2,x,d,hpo,hpl,hpc,hpr⟩:=HG.out.2.1.iW (i:=k) (by omega);subst hpo;obtain⟨x0,x1,x2,x3⟩:=hpc wr HS.out.2.2;have Pm:=hid (hpr.below' HS.out.2.2);have hki:(k:Int)<(c:Int):=by omega
   have hkp:(k:Int)<(pn:Int):=by omega
   have hk0:(0:Int)<=(k:Int):=by omega
   have hll:=HS.out.2.1.len;have hu:∀t,t<4->∃u,L[k*4+t]? =some u:=λt ht=>⟨_,a0F (by omega)⟩
   obtain⟨u0,hu0⟩:=hu 0 (by omega);obtain⟨u1,hu1⟩:=hu 1 (by omega);obtain⟨u2,hu2⟩:=hu 2 (by omega);obtain⟨u3,hu3⟩:=hu 3 (by omega);rw[a1f]at hu0;have HU:=hid (a0a hu0 (a0a hu1 (a0a hu2 hu3)));clear hpc hpr hu hu0 hu1 hu2 hu3 hll;go_wp2_with fail;refine(Hy Pm.out (by omega) (by omega)).mono ?_;rintro e w5 ⟨m2,a2,n2,c2,k2,d2,l2,e2,rfl,hX,hB⟩;have h7:=HS.out.2.1.below hB;have ZX:=hid h7;have HX:=hid hX;have jB:Hid (bD w5 b4 [.bool false,a0i none 0 0,.bool false,a0i none 0 0] 31/\ Below w.heap.size w w5):=⟨HS.out.1.below hB,Below.steps HS.out.2.2 hB⟩;have y0:w5.cell? ⟨b7,k*4,none⟩=some u0:=by rw[h7.iW.cell];exact HU.out.1
   have y1:w5.cell? ⟨b7,k*4+1,none⟩=some u1:=by rw[h7.iW.cell];exact HU.out.2.1
   have y2:w5.cell? ⟨b7,k*4+2,none⟩=some u2:=by rw[h7.iW.cell];exact HU.out.2.2.1
   have y3:w5.cell? ⟨b7,k*4+3,none⟩=some u3:=by rw[h7.iW.cell];exact HU.out.2.2.2
   have z0:=h7.iW.fz (k*4);have z1:=h7.iW.fz (k*4+1);have z2:=h7.iW.fz (k*4+2);have z3:=h7.iW.fz (k*4+3);clear hX hB h7 HS x0 x1 x2 x3;go_wp2_with fail;have hn7:=ZX.out.put hkc HX.out;have hb9:Below w.heap.size w _:=(((jB.out.2.setCell (p:=⟨b7,k*4,none⟩) (show w.heap.size<=b7 by omega) (.bool m2)).setCell (p:=⟨b7,k*4+1,none⟩) (show w.heap.size<=b7 by omega) (a0i a2 n2 c2)).setCell (p:=⟨b7,k*4+2,none⟩) (show w.heap.size<=b7 by omega) (.bool k2)).setCell (p:=⟨b7,k*4+3,none⟩) (show w.heap.size<=b7 by omega) (a0i d2 l2 e2);have h49:=(((jB.out.1.far (c:=b7) (by omega) (k*4) (.bool m2)).far (c:=b7) (by omega) (k*4+1) (a0i a2 n2 c2)).far (c:=b7) (by omega) (k*4+2) (.bool k2)).far (c:=b7) (by omega) (k*4+3) (a0i d2 l2 e2);have zC:=hid (a0a h49 (a0a hn7 hb9));clear hn7 hb9 h49;go_roundw
   case rel=>exact⟨k+1,_,by go_num,by omega,zC.out⟩
   case measure=>simp[intOf];omega
  ·obtain rfl:k=c:=by omega
   have hq:=HS.out.2.1.qp (by omega);have HQ:=hid hq;have hkk:¬(k:Int)<(k:Int):=by omega
   clear hq;go_wp2_with fail;refine(NZ (K:=K) (J:=J) (j:=j) (λu=>Fb qs u) (λu=>zJ qs u) (λu=>YF qs u) ⟨hK.1,hK.2.2⟩ k (a1a _) (HP.out.1.below HS.out.2.2) HP.out.2.1 (by rw[HP.out.2.2];exact a0v _) HG.out.1 hn HQ.out HG.out.2.2).mono ?_;rintro e w5 ⟨x,d,⟨m2,a2,n2,c2,k2,d2,l2,e2,rfl,hX1,hX2,hB⟩,h0,hv,_⟩;have h4:=HS.out.1.below hB;have H4:=hid h4;have HX:=hid (a0a hX1 (a0a hX2 (a0a h0 (a0a hv (Below.steps HS.out.2.2 hB)))));obtain⟨f0,f1,f2,f3⟩:=h4.q4;obtain⟨g0,g1,g2,g3⟩:=h4.r4;clear hX1 hX2 hB h0 hv h4 HS HQ;go_wp2_with fail;refine bodyPost_ret (v:= .tuple #[.agg #[.bool m2,a0i a2 n2 c2,.bool k2,a0i d2 l2 e2],.int .i64 0]) (by simp[results,Tryz.results40,go_sem,f0,f1,f2,f3]) rfl ?_;have uo:=NW H4.out (tV _ _ _ _ _ _ _ _) (.bool m2) (a0i a2 n2 c2) (.bool k2) (a0i d2 l2 e2);exact⟨x,d,_,_,_,_,_,_,_,_,rfl,HX.out.1.iN uo.1,HX.out.2.1.iN uo.1,HX.out.2.2.1,HX.out.2.2.2.1,ja HX.out.2.2.2.2 hbw _ _ _ _⟩
end
open Lib (hid)
section
variable {K J j:Nat} {ao po:Option Addr} {n cap pn pc:Nat} {w:World} {qs:List Rat}
theorem La [Ol] {p:List Term} (hp:Pc K w ao n cap p) (hf:fall p) (hK:1<=K/\ K<=1000/\ K<=J/\ J<=30000/\ 1<=j/\ j<=30) (hc:bC p<=(pn:Int)) (hdg:∀u,fD p u<=999) (hn:n<=100000) (hq:Pt w po pn pc qs j) (hJ:Big p (Cf qs) (Cg qs) J):
  Calls Tryz.prog 10 #[a0i ao n cap,a0i po pn pc] w (ae7 w (rv (kM qs) p) J 0):=by
 have HB:=λ(V:World) (hV:Below w.heap.size w V)=>yh (hp.below hV) hf hK hc hdg hn (hq.below hV) hJ
 have XA:=hid HB;clear HB hp hf hc hdg hn hq hJ;go_enter Tryz.func10,Tryz.ntmps10;obtain⟨b4,hb4⟩:∃b4,b4=w.heap.size:=⟨_,rfl⟩;go_upto_region 1 with(fail)
 refine aj (λW0 hW=>?_);have a0:bD W0 b4 [.bool false,a0i none 0 0,.bool false,a0i none 0 0] 31/\ Below w.heap.size w W0:=by rw[hW,hb4];exact jC w _ 31
 rw[<-hb4];have hbw:w.heap.size<=b4:=by omega
 clear hW hb4;go_wp2_with fail;refine(XA.out W0 a0.2).mono ?_;rintro e w1 ⟨x,d,m1,a1,n1,c1,k1,d1,l1,e1,rfl,hX1,hX2,h0,hv,hB⟩;obtain⟨b6,hb6⟩:∃b,b=w1.heap.size:=⟨_,rfl⟩;go_upto_region 2 with(fail)
 refine aj (λW2 hW=>?_);have a6:bD W2 b6 [.bool m1,a0i a1 n1 c1,.bool k1,a0i d1 l1 e1] 31/\ Below w1.heap.size w1 W2:=by rw[hW,hb6];exact jC w1 _ 31
 rw[<-hb6]
 have HR:Hid (Rx W2 m1 a1 n1 c1 k1 d1 l1 e1 x d (rv (kM qs) p) J):=by
  have h:=oV (hX1.below' a6.2) (hX2.below' a6.2);have e:qv x d=rv (kM qs) p:=by rw[<-hv,PO (by omega)]
  rw[e]at h;exact h
 have HS:Hid (bD W2 b4 [.bool false,a0i none 0 0,.bool false,a0i none 0 0] 31/\ Below w.heap.size w W2):=⟨(a0.1.below hB).below a6.2,Below.steps (Below.steps a0.2 hB) a6.2⟩;obtain⟨x0,x1,x2,x3⟩:=a6.1.q4;clear hW hb6 a6 a0 hB hX1 hX2 h0 hv;go_wp2_with fail;refine(Hy HR.out (by omega) (by omega)).mono ?_;rintro e w3 ⟨m2,a2,n2,c2,k2,d2,l2,e2,rfl,hX,hB⟩;have h4:=HS.out.1.below hB;have H4:=hid h4;have HX:=hid (a0a hX (Below.steps HS.out.2 hB));obtain⟨f0,f1,f2,f3⟩:=h4.q4;obtain⟨g0,g1,g2,g3⟩:=h4.r4;clear hX hB h4 HS x0 x1 x2 x3;go_wp2_with fail;refine bodyPost_ret (v:= .tuple #[.agg #[.bool m2,a0i a2 n2 c2,.bool k2,a0i d2 l2 e2],.int .i64 0]) (by simp[results,Tryz.results10,go_sem,f0,f1,f2,f3]) rfl ?_;have uo:=NW H4.out (tV _ _ _ _ _ _ _ _) (.bool m2) (a0i a2 n2 c2) (.bool k2) (a0i d2 l2 e2);exact⟨_,_,_,_,_,_,_,_,rfl,HX.out.1.iN uo.1,ja HX.out.2 hbw _ _ _ _⟩
theorem K8 {er:Int} (her:(er !=0)=true) (h:∀V:World,Below w.heap.size w V->Calls Tryz.prog 40 #[a0i ao n cap,a0i po pn pc] V (cu (.tuple #[.agg #[.bool false,a0i none 0 0,.bool false,a0i none 0 0],.int .i64 er]) V)):
  Calls Tryz.prog 10 #[a0i ao n cap,a0i po pn pc] w (cu (.tuple #[.agg #[.bool false,a0i none 0 0,.bool false,a0i none 0 0],.int .i64 er]) w):=by
 have XA:=hid h;clear h;go_enter Tryz.func10,Tryz.ntmps10;obtain⟨b4,hb4⟩:∃b4,b4=w.heap.size:=⟨_,rfl⟩;go_upto_region 1 with(fail)
 refine aj (λW0 hW=>?_);have a0:bD W0 b4 [.bool false,a0i none 0 0,.bool false,a0i none 0 0] 31/\ Below w.heap.size w W0:=by rw[hW,hb4];exact jC w _ 31
 rw[<-hb4];have hbw:w.heap.size<=b4:=by omega
 clear hW hb4;go_wp2_with fail;refine(XA.out W0 a0.2).mono ?_;rintro e w1 ⟨rfl,hB⟩;obtain⟨b6,hb6⟩:∃b,b=w1.heap.size:=⟨_,rfl⟩;go_upto_region 2 with(fail)
 refine aj (λW2 hW=>?_);have a6:Below w1.heap.size w1 W2:=by rw[hW];exact(jC w1 [.bool false,a0i none 0 0,.bool false,a0i none 0 0] 31).2
 rw[<-hb6];have h4:=(a0.1.below hB).below a6;have H4:=hid h4;have HB:=hid (Below.steps (Below.steps a0.2 hB) a6);obtain⟨f0,f1,f2,f3⟩:=h4.q4;obtain⟨g0,g1,g2,g3⟩:=h4.r4;clear hW hb6 a6 a0 hB h4;go_wp2_with fail;refine bodyPost_ret (v:= .tuple #[.agg #[.bool false,a0i none 0 0,.bool false,a0i none 0 0],.int .i64 er]) (by simp[results,Tryz.results10,go_sem,f0,f1,f2,f3]) rfl ?_;exact⟨rfl,ja HB.out hbw _ _ _ _⟩
end
def Lo (D:Nat) (p:List Term):Prop:=∀t∈p,∀x∈t.2,x.2<=(D:Int)
theorem Ej {D:Nat}:∀{m:List (Int×Int)},(∀x∈m,x.2<=(D:Int))->∀v,aJ m v<=(D:Int)
 |[],_,_=>by simp[aJ]
 |x::r,h,v=>by
  unfold aJ;split
  ·exact h x (by simp)
  ·exact Ej (λy hy=>h y (by simp[hy])) v
theorem Lo.deg {D:Nat} {p:List Term} (h:Lo D p) (u:Nat):fD p u<=D:=by
 unfold fD;rcases qd p (u:Int)with h0|⟨t,ht,h1⟩
 ·omega
 ·have:=Ej (h t ht) (u:Int);omega
theorem Fe {f:Nat->Nat} {μ:Nat->Int} {M:Int} {D k:Nat} (hM:1<=M) (hμ:∀u,0<μ u/\ μ u<=M) (hf:∀u,f u<=D) (hk:∀u,k<=u->μ u=1):∀n,0<mh f μ n/\ mh f μ n<=M^(D*min n k)
 |0=>by simp[mh]
 |n+1=>by
  obtain⟨h1,h2⟩:=Fe hM hμ hf hk n;simp only[mh];have hp:0<μ n^f n:=a0o (hμ n).1;refine⟨Int.mul_pos h1 hp,?_⟩;by_cases h:k<=n
  ·rw[hk n h,Int.one_pow,Int.mul_one,show min (n+1) k=min n k by omega];exact h2
  ·have e:D*min (n+1) k=D*min n k+D:=by rw[show min (n+1) k=min n k+1 by omega,Nat.mul_succ]
   rw[e,a0n]
   have h3:μ n^f n<=M^D:=by
    obtain⟨a,ha⟩:∃a:Nat,μ n=a:=⟨(μ n).toNat,by have:=(hμ n).1;omega⟩;obtain⟨b,hb⟩:∃b:Nat,M=b:=⟨M.toNat,by omega⟩;have hab:a<=b:=by have:=(hμ n).2;omega
    have hb1:1<=b:=by omega
    rw[ha,hb,<-a0r,<-a0r];exact Int.ofNat_le.2 (a1e (Nat.pow_le_pow_left hab _) (a1i hb1 (hf n)))
   exact a0l h2 h3 (a0u hp) (a0u (a0o (by omega)))
theorem LX {qs:List Rat} {u:Nat} (h:qs.length<u):kM qs u=0:=by
 unfold kM;rw[a0A,a0U (by omega)];rfl
def Lq (j:Nat) (qs:List Rat):Prop:=qs.length<=10/\∀q∈qs,Bd q.num j/\ Bd (q.den:Int) j
theorem Lq.iW {j:Nat} {qs:List Rat} (h:Lq j qs) (u:Nat):Bd (kM qs u).num j/\ Bd ((kM qs u).den:Int) j∨kM qs u=0:=by
 by_cases hu:u-1<qs.length
 ·left
  have e:kM qs u=qs[u-1]:=by unfold kM;simp[a0A,hu]
  rw[e];exact h.2 _ (a0V hu)
 ·right
  unfold kM;rw[a0A,a0U (by omega)];rfl
theorem Big.deg {p:List Term} {qs:List Rat} {D j K J:Nat} (h:∀u,fD p u<=D) (hq:Lq j qs) (hs:fA p<4294967296^K) (hK:1<=K) (hJ:K+D*11*j+D*11*j<=J):Big p (Cf qs) (Cg qs) J:=by
 have h1:∀n:Nat,1<=4294967296^n:=λn=>Nat.one_le_pow _ _ (by omega)
 obtain⟨M,hM⟩:∃M:Int,M=((4294967296^j:Nat):Int):=⟨_,rfl⟩;have hM1:1<=M:=by have:=h1 j;omega
 have hm:∀u,0<Cf qs u/\ Cf qs u<=M:=λu=>⟨Fb qs u,by
  rcases hq.iW u with⟨h2,_⟩|h2
  ·unfold Cf;unfold Bd at h2;omega
  ·unfold Cf;rw[h2];show max 1 (0:Int)<=M;omega⟩
 have hd:∀u,0<Cg qs u/\ Cg qs u<=M:=λu=>⟨zJ qs u,by
  rcases hq.iW u with⟨_,h2⟩|h2
  ·unfold Cg;unfold Bd at h2;omega
  ·unfold Cg;rw[h2];show(1:Int)<=M;omega⟩
 have hmo:∀u,11<=u->Cf qs u=1:=λu hu=>by unfold Cf;rw[LX (by have:=hq.1;omega)];rfl
 have hdo:∀u,11<=u->Cg qs u=1:=λu hu=>by unfold Cg;rw[LX (by have:=hq.1;omega)];rfl
 obtain⟨a1,a2⟩:=Fe hM1 hm h hmo 201;obtain⟨b1,b2⟩:=Fe hM1 hd h hdo 201
 have e:M^(D*min 201 11)=((4294967296^(D*11*j):Nat):Int):=by
  rw[hM,<-a0r,<-Nat.pow_mul,show j*(D*min 201 11)=D*11*j by rw[show min 201 11=11 from rfl,Nat.mul_comm]]
 rw[e]at a2 b2;obtain⟨X,hX⟩:∃X:Nat,mh (fD p) (Cf qs) 201=(X:Int):=⟨(mh (fD p) (Cf qs) 201).toNat,by omega⟩;obtain⟨Y,hY⟩:∃Y:Nat,mh (fD p) (Cg qs) 201=(Y:Int):=⟨(mh (fD p) (Cg qs) 201).toNat,by omega⟩;have hX2:X<=4294967296^(D*11*j):=by omega
 have hY2:Y<=4294967296^(D*11*j):=by omega
 have hY0:0<Y:=by omega
 have key:fA p*X*Y<4294967296^J:=by
  have s1:fA p*X<=fA p*4294967296^(D*11*j):=a1h _ hX2;have s2:fA p*X*Y<=fA p*4294967296^(D*11*j)*4294967296^(D*11*j):=Nat.mul_le_mul s1 hY2
  have s3:fA p*4294967296^(D*11*j)*4294967296^(D*11*j)<4294967296^K*4294967296^(D*11*j)*4294967296^(D*11*j):=
   a1j (a1j hs (h1 _)) (h1 _)
  rw[<-a1k,<-a1k]at s3;exact a0X (a1l s2 s3) (a1i (by omega) hJ)
 have eJ:(4294967296:Int)^J=((4294967296^J:Nat):Int):=(a0r 4294967296 J).symm;unfold Big;rw[hX,hY,eJ];refine⟨by rw[<-a0x,<-a0x];exact a0q.2 key,?_⟩;have:Y<4294967296^J:=a1l hY2 (Nat.pow_lt_pow_right (by omega) (by omega));exact a0q.2 this
theorem Big.of {p:List Term} {qs:List Rat} {D j K J:Nat} (h:Lo D p) (hq:Lq j qs) (hs:fA p<4294967296^K) (hK:1<=K) (hJ:K+D*11*j+D*11*j<=J):Big p (Cf qs) (Cg qs) J:=Big.deg h.deg hq hs hK hJ
abbrev oC:=(Bool×List Nat)×(Bool×List Nat)
def kS:oC:=((false,[]),(false,[]))
def Jt (r:oC):Rat:=qv (dK r.1.1 (val r.1.2)) (dK r.2.1 (val r.2.2))
structure F4 [Ol] (w:World) (ao:Option Addr) (n cap:Nat) (rs:List oC):Prop where
 len:rs.length=n
 ex:∃bS,Gl 4 w ao n cap bS/\∀i,i<n->∃a k c a2 k2 c2,bS.getD i []=[.bool (rs.getD i kS).1.1,a0i a k c,.bool (rs.getD i kS).2.1,a0i a2 k2 c2]/\ Sl w a k c (rs.getD i kS).1.2/\ Sl w a2 k2 c2 (rs.getD i kS).2.2
theorem F4.below [Ol] {w w':World} {ao:Option Addr} {n cap:Nat} {rs:List oC} (h:F4 w ao n cap rs) (hb:Below w.heap.size w w'):F4 w' ao n cap rs:=by
 obtain⟨bS,h1,h2⟩:=h.ex;refine⟨h.len,bS,h1.below hb,λi hi=>?_⟩;obtain⟨a,k,c,a2,k2,c2,h3,h4,h5⟩:=h2 i hi;exact⟨a,k,c,a2,k2,c2,h3,h4.below hb,h5.below hb⟩
theorem F4.nil [Ol] (w:World):F4 w none 0 0 []:=⟨rfl,[],Gl.zero 4 w,λi hi=>by omega⟩
theorem F4.iW [Ol] {w:World} {ao:Option Addr} {n cap:Nat} {rs:List oC} (h:F4 w ao n cap rs) {i:Nat} (hi:i<n):∃b off a k c a2 k2 c2,ao=some ⟨b,off,none⟩/\ b<w.heap.size/\ (∀V:World,Below w.heap.size w V->V.cell? ⟨b,off+i*4,none⟩=some (.bool (rs.getD i kS).1.1)/\ V.cell? ⟨b,off+i*4+1,none⟩=some (a0i a k c)/\ V.cell? ⟨b,off+i*4+2,none⟩=some (.bool (rs.getD i kS).2.1)/\ V.cell? ⟨b,off+i*4+3,none⟩=some (a0i a2 k2 c2))/\ k=(rs.getD i kS).1.2.length/\ k2=(rs.getD i kS).2.2.length:=by
 obtain⟨bS,h1,h2⟩:=h.ex;obtain⟨a,k,c,a2,k2,c2,h3,h4,h5⟩:=h2 i hi;obtain⟨b,off,e1,e2,e3⟩:=h1.at (by omega);refine⟨b,off,a,k,c,a2,k2,c2,e1,e2,λV hV=>?_,h4.len.symm,h5.len.symm⟩;have f:=e3 V hV i hi;rw[h3]at f;exact⟨f 0 (by omega),f 1 (by omega),f 2 (by omega),f 3 (by omega)⟩
def Kn (r:oC):Prop:=r.1.2.length<=3/\ r.2.2.length<=3
theorem N9 {rs:List oC} {i:Nat} (hi:i<rs.length):(rs.map Jt).getD i 0=Jt (rs.getD i kS):=by
 simp[a0A,hi]
theorem F4.pt [Ol] {w:World} {ao:Option Addr} {n cap:Nat} {rs:List oC} (h:F4 w ao n cap rs) (hs:∀r∈rs,Kn r):Pt w ao n cap (rs.map Jt) 3:=by
 obtain⟨bS,h1,h2⟩:=h.ex;refine⟨by rw[List.length_map];exact h.len,bS,h1,λi hi=>?_⟩;obtain⟨a,k,c,a2,k2,c2,h3,h4,h5⟩:=h2 i hi;have hil:i<rs.length:=by rw[h.len];exact hi
 have hm:rs.getD i kS∈rs:=by simp[a0A,hil]
 have hq:=hs _ hm;have l1:=h4.len;have l2:=h5.len;have x1:In w (rs.getD i kS).1.1 a k c (dK (rs.getD i kS).1.1 (val (rs.getD i kS).1.2)):=⟨_,h4,rfl⟩;have x2:In w (rs.getD i kS).2.1 a2 k2 c2 (dK (rs.getD i kS).2.1 (val (rs.getD i kS).2.2)):=⟨_,h5,rfl⟩;refine⟨_,_,_,_,_,_,_,_,_,_,h3,⟨⟨x1,by have:=hq.1;omega⟩,⟨x2,by have:=hq.2;omega⟩,?_,x1.bd (by have:=hq.1;omega),x2.bd (by have:=hq.2;omega)⟩⟩;rw[N9 hil];rfl
theorem Rx.low {w:World} {m:Bool} {ao:Option Addr} {n cap:Nat} {k:Bool} {bo:Option Addr} {l cb:Nat} {x d:Int} {q:Rat} {j:Nat} (hx:Rx w m ao n cap k bo l cb x d q j) (h1:1<=j):Bd q.num j/\ Bd (q.den:Int) j:=by
 have hv:=hx.val;exact⟨by rw[<-hv,kW];exact xI hx.bn (kg d),by rw[<-hv,kW];exact xJ (jc hx.bd h1) (kg d)⟩
theorem Pt.lq [Ol] {w:World} {ao:Option Addr} {n cap:Nat} {qs:List Rat} {j:Nat} (h:Pt w ao n cap qs j) (h1:1<=j) (hn:n<=10):Lq j qs:=by
 refine⟨by rw[h.len];exact hn,λq hq=>?_⟩;obtain⟨i,hi,rfl⟩:=a0R.1 hq;obtain⟨bS,_,h2⟩:=h.ex;obtain⟨m,a,k,c,m2,a2,k2,c2,x,d,_,h4⟩:=h2 i (by rw[<-h.len];exact hi);have e:qs.getD i 0=qs[i]:=by simp[a0A,hi]
 rw[e]at h4;exact h4.low h1
def hiM (m:List (Int×Int)):Bool:=m.any λx=>decide ((12:Int)<x.2)
def Xf (r:oC):Bool:=decide ((3:Int)<r.1.2.length)||decide ((3:Int)<r.2.2.length)
def iU (ps:List Raw) (rs:List oC):Bool:=qh ps 12||decide ((10:Int)<rs.length)||(ps.any λt=>hiM t.2)||rs.any Xf
theorem qb {ps:List Raw} {rs:List oC} (h:iU ps rs=false):qh ps 12=false/\ rs.length<=10/\ (∀t∈ps,∀x∈t.2,x.2<=12)/\∀r∈rs,Kn r:=by
 unfold iU at h;simp only[Bool.or_eq_false_iff]at h;obtain⟨⟨⟨h1,h2⟩,h3⟩,h4⟩:=h;refine⟨h1,by have:=of_decide_eq_false h2;omega,λt ht x hx=>?_,λr hr=>?_⟩
 ·have:=a0W.1 (by simpa using a0W.1 h3 t ht:hiM t.2=false) x hx;simp at this;exact this
 ·have:Xf r=false:=by simpa using a0W.1 h4 r hr
  unfold Xf at this;simp only[Bool.or_eq_false_iff,decide_eq_false_iff_not]at this;unfold Kn;omega
open Lib (hid)
theorem oN {α:Type} (f:α->Bool) {l:List α} {k:Nat} (hk:k<l.length):(l.take (k+1)).any f=((l.take k).any f||f l[k]):=by
 rw[a0O hk,List.any_append];simp
theorem rY {α:Type} (f:α->Bool) {l:List α} {k:Nat} (hk:k<l.length) (h:f l[k]=true):l.any f=true:=List.any_eq_true.2 ⟨_,a0V hk,h⟩
theorem lt_of_cell {w:World} {b o:Nat} {v:Value} (h:w.cell? ⟨b,o,none⟩=some v):b<w.heap.size:=World.block_lt_of_cell? w _ h
theorem nR [Ol] (z:Bool) {ao bo:Option Addr} {n cap m cb:Nat} {ps:List Raw} {rs:List oC} {w:World} (hp:Pr w ao n cap ps) (hq:F4 w bo m cb rs) (h:iU ps rs=z):
  Calls Tryz.prog 8 #[a0i ao n cap,a0i bo m cb] w (cu (.bool z) w):=by
 obtain⟨g,hg⟩:∃g,qh ps 12=g:=⟨_,rfl⟩;have HP:Hid (∀V,Below w.heap.size w V->Pr V ao n cap ps):=λV hV=>hp.below hV
 have HQ:=hid hq;have uj:Hid (ps.length=n):=hp.len;have Jh:Hid (rs.length=m):=hq.len;have HG:=hid hg;have HZ:=hid h;have hnb:n<=4398046511104:=by obtain⟨_,hG,_⟩:=hp.ex;exact hG.big
 have hmb:m<=4398046511104:=by obtain⟨_,hG,_⟩:=hq.ex;exact hG.big
 clear hp hq hg h;go_enter Tryz.func8,Tryz.ntmps8;go_wp2_with fail;refine(JF g 12 (HP.out w (a0f _ _)) HG.out).mono ?_;rintro e w1 ⟨rfl,hB⟩;have HB:=hid hB;clear hB;by_cases hg1:g=true
 ·subst hg1;go_wp2_with fail;go_ret;exact⟨by rw[<-HZ.out];unfold iU;rw[HG.out];rfl,HB.out⟩
 obtain rfl:g=false:=by simpa using hg1
 clear hg1;by_cases hm:10<m
 ·have U9:(10:Int)<(m:Int):=by omega
  go_wp2_with fail;go_ret;exact⟨by rw[<-HZ.out];unfold iU;rw[HG.out,Jh.out,decide_eq_true U9];rfl,HB.out⟩
 have U9:¬(10:Int)<(m:Int):=by omega
 have HM:=hid U9;go_wp2_with fail;clear U9;go_loopw [17] (λi wr=>∃k:Nat,i= .int .i64 k/\ k<=n/\ Hid ((ps.take k).any (λt=>hiM t.2)=false/\ Below w.heap.size w wr)) (λi _=>n-(intOf i).toNat)
 case atStart=>exact⟨0,rfl,a1c _,rfl,HB.out⟩
 case round=>
  clear HB;obtain⟨k,rfl,hk,HS⟩:=hrel;by_cases hkn:k<n
  ·obtain⟨b,off,xa,xn,xc,xp,xq,xr,Cj,hbl,hc,_,zw⟩:=(HP.out w (a0f _ _)).at hkn;subst Cj;have hkl:k<ps.length:=by rw[uj.out];exact hkn
   have hpk:ps.getD k iq=ps[k]:=by simp[a0A,hkl]
   rw[hpk]at zw;obtain⟨ms,hms⟩:∃ms,ps[k].2=ms:=⟨_,rfl⟩;rw[hms]at zw;have hqb:xq<=8796093022208:=zw.big;have CX:=hid zw;have HMS:Hid ((ps.take (k+1)).any (λt=>hiM t.2)=hiM ms/\ (hiM ms=true->ps.any (λt=>hiM t.2)=true)):=⟨by rw[oN _ hkl,HS.out.1,hms];rfl,λh=>rY _ hkl (by rw[hms];exact h)⟩;have hki:(k:Int)<(n:Int):=by omega
   have HC:Hid (∀V:World,Below w.heap.size w V->V.cell? ⟨b,off+k*3+2,none⟩=some (a0i xp xq xr)):=λV hV=>(hc V hV).2.2
   have Xg:=hid HS.out.2;clear hc zw hms hpk hbl HS;have c2:=HC.out wr Xg.out;go_wp2_with fail;clear c2;go_loopw [26] (λi wr=>∃j:Nat,i= .int .i64 j/\ j<=xq/\ Hid ((ms.take j).any (λx=>decide ((12:Int)<x.2))=false/\ Below w.heap.size w wr)) (λi _=>xq-(intOf i).toNat)
   case atStart=>exact⟨0,rfl,a1c _,rfl,Xg.out⟩
   case round=>
    clear Xg;obtain⟨j,rfl,hj,HJ⟩:=hrel;by_cases hjq:j<xq
    ·obtain⟨b2,off2,Cj,_,hpc⟩:=CX.out.at (by omega);subst Cj;have hp1:=(hpc j hjq).2;have hjl:j<ms.length:=by rw[CX.out.len];exact hjq
     have hmj:ms.getD j (0,0)=ms[j]:=by simp[a0A,hjl]
     rw[hmj]at hp1;obtain⟨e,he⟩:∃e,(ms[j]).2=e:=⟨_,rfl⟩;rw[he]at hp1;have hlt:=lt_of_cell hp1;have HX:Hid ((ms.take (j+1)).any (λx=>decide ((12:Int)<x.2))=decide ((12:Int)<e)/\ (decide ((12:Int)<e)=true->hiM ms=true)):=⟨by rw[oN _ hjl,HJ.out.1,he];rfl,λh=>rY _ hjl (by rw[he];exact h)⟩;have c1:wr.cell? ⟨b2,off2+j*2+1,none⟩=some (.int .i64 e):=by rw[HJ.out.2.cell (p:=⟨b2,off2+j*2+1,none⟩) hlt];exact hp1
     have c2:=HC.out wr HJ.out.2;have HB2:=hid HJ.out.2;have hji:(j:Int)<(xq:Int):=by omega
     clear hpc hp1 hmj he hlt HJ;by_cases h12:(12:Int)<e
     ·have HZT:Hid (z=true):=by
       rw[Hid,<-HZ.out];unfold iU;rw[HMS.out.2 (HX.out.2 (decide_eq_true h12))];simp
      go_wp2_with fail;go_ret;exact⟨by rw[HZT.out];rfl,HB2.out⟩
     ·have HXF:Hid (decide ((12:Int)<e)=false):=decide_eq_false h12;go_wp2_with fail;go_roundw
      case rel=>exact⟨j+1,by go_num,by omega,HX.out.1.trans HXF.out,HB2.out⟩
      case measure=>simp[intOf];omega
    ·obtain rfl:j=xq:=by omega
     have HF:Hid (hiM ms=false):=by
      have h:=HJ.out.1;rw[a0G (by rw[CX.out.len];exact a1a _)]at h;exact h
     have HB2:=hid HJ.out.2;have hjj:¬(j:Int)<(j:Int):=by omega
     clear HJ;go_wp2_with fail;go_roundw
     case rel=>exact⟨k+1,by go_num,by omega,HMS.out.1.trans HF.out,HB2.out⟩
     case measure=>simp[intOf];omega
  ·obtain rfl:k=n:=by omega
   have HF:Hid (ps.any (λt=>hiM t.2)=false):=by
    have h:=HS.out.1;rw[a0G (by rw[uj.out];exact a1a _)]at h;exact h
   have HB2:=hid HS.out.2;have hkk:¬(k:Int)<(k:Int):=by omega
   clear HS;go_wp2_with fail;clear hkk;go_loopw [43] (λi wr=>∃j:Nat,i= .int .i64 j/\ j<=m/\ Hid ((rs.take j).any Xf=false/\ Below w.heap.size w wr)) (λi _=>m-(intOf i).toNat)
   case atStart=>exact⟨0,rfl,a1c _,rfl,HB2.out⟩
   case round=>
    clear HB2;obtain⟨j,rfl,hj,HJ⟩:=hrel;by_cases hjm:j<m
    ·obtain⟨b,off,a,kk,c,a2,k2,c2,Cj,_,hc,hk1,hk2⟩:=HQ.out.iW hjm;subst Cj;obtain⟨c0,c1,c2',c3⟩:=hc wr HJ.out.2;have hjl:j<rs.length:=by rw[Jh.out];exact hjm
     have hrj:rs.getD j kS=rs[j]:=by simp[a0A,hjl]
     rw[hrj]at hk1 hk2;have HX:Hid ((rs.take (j+1)).any Xf=(decide ((3:Int)<kk)||decide ((3:Int)<k2))/\ ((decide ((3:Int)<kk)||decide ((3:Int)<k2))=true->rs.any Xf=true)):=⟨by rw[oN _ hjl,HJ.out.1,Xf,<-hk1,<-hk2];rfl,λh=>rY _ hjl (by rw[Xf,<-hk1,<-hk2];exact h)⟩;have HB2:=hid HJ.out.2;have hji:(j:Int)<(m:Int):=by omega
     clear hc hk1 hk2 hrj HJ c0 c2';by_cases h1:(3:Int)<(kk:Int)
     ·have HZT:Hid (z=true):=by
       rw[Hid,<-HZ.out];unfold iU;rw[HX.out.2 (by rw[decide_eq_true h1];rfl)];simp
      have h1n:3<kk:=by omega
      go_wp2_with fail;go_ret;exact⟨by rw[HZT.out];rfl,HB2.out⟩
     ·have h1n:¬3<kk:=by omega
      by_cases h2:(3:Int)<(k2:Int)
      ·have HZT:Hid (z=true):=by
        rw[Hid,<-HZ.out];unfold iU;rw[HX.out.2 (by rw[decide_eq_true h2];simp)];simp
       have h2n:3<k2:=by omega
       go_wp2_with fail;go_ret;exact⟨by rw[HZT.out];rfl,HB2.out⟩
      ·have h2n:¬3<k2:=by omega
       have HXF:Hid ((decide ((3:Int)<kk)||decide ((3:Int)<k2))=false):=by rw[Hid,decide_eq_false h1,decide_eq_false h2];rfl
       go_wp2_with fail;go_roundw
       case rel=>exact⟨j+1,by go_num,by omega,HX.out.1.trans HXF.out,HB2.out⟩
       case measure=>simp[intOf];omega
    ·obtain rfl:j=m:=by omega
     have HZF:Hid (z=false):=by
      have h:=HJ.out.1;rw[a0G (by rw[Jh.out];exact a1a _)]at h;rw[Hid,<-HZ.out];unfold iU;rw[HG.out,HF.out,h,Jh.out,decide_eq_false (show¬(10:Int)<(j:Int)by have:=HM.out;omega)];rfl
     have HB2:=hid HJ.out.2;have hjj:¬(j:Int)<(j:Int):=by omega
     clear HJ;go_wp2_with fail;go_ret;exact⟨by rw[HZF.out];rfl,HB2.out⟩
end Go.Proofs.YtmenbpmciblnlaaGreatDoor
