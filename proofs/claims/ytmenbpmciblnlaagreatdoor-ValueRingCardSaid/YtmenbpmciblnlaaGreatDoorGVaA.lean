import Derived.Test.YtmenbpmciblnlaaGreatDoorGQ1
import Derived.Test.YtmenbpmciblnlaaGreatDoorGP6
import Derived.Test.YtmenbpmciblnlaaGreatDoorGVal
import Derived.Test.YtmenbpmciblnlaaGreatDoorGP8
set_option maxHeartbeats 0
set_option maxRecDepth 100000
open And renaming intro->ah5
open Go renaming Value->ah7,World->ah6
open Go.Builtin renaming zeroCells->ah8
open Go.IntKind renaming i64->ah9
open Go.IntWalk renaming i64_in->ai0,wrap64_in->ai1
open Go.RowKit renaming Below->ai2
open Go.RowKit.Below renaming refl->ai3
open Go.Value renaming agg->ai4,bool->ai6,cells->ai5,slice->ai7
open Go.World renaming cell?_of_block->ai8
open Int renaming gcd->aj8,le_of_lt->aj9,le_refl->ak0,le_trans->aj7,lt_of_le_of_lt->ai9,mul_le_mul->aj0,mul_le_mul_of_nonneg_left->aj4,mul_nonneg->aj1,natCast_mul->ak2,natCast_pow->aj6,ofNat_lt->aj5,one_dvd->ak1,pow_add->aj2,pow_pos->aj3
open List renaming any_eq_false->am7,append_assoc->al2,append_inj'->al8,foldl_append->am3,foldl_cons->al5,getD->ak5,getElem?_append_left->ak6,getElem?_append_right->ak9,getElem?_eq_getElem->al0,getElem?_eq_none->am5,getElem?_eq_some_iff->ak4,getElem?_set_ne->al3,getElem?_set_self->al4,getElem_mem->am6,length_append->ak7,length_cons->al6,length_nil->am1,length_singleton->ak8,length_take->am0,mem_append->al7,mem_iff_getElem->am2,mem_iff_getElem?->ak3,take_length->am4,take_of_length_le->al1,take_succ_eq_append_getElem->al9
open Nat renaming add_zero->an6,eq_zero_or_pos->an4,le_refl->an1,le_trans->an5,lt_of_le_of_lt->ao6,lt_of_lt_of_le->am8,mod_two_eq_zero_or_one->am9,mul_le_mul_left->an8,mul_lt_mul_of_pos_right->ao0,pow_add->ao5,pow_le_pow_right->an9,sub_self->an2,succ_le_succ->an7,zero_add->an0,zero_le->an3
open Option.some renaming inj->ao7
open Rat renaming divInt->ao8,num_divInt_den->ao9
namespace Go.Proofs.YtmenbpmciblnlaaGreatDoor
open Go.RowKit
def PU (v:ah7):Bool:=match v with|ai7 _ _ _=>true| _=>false
def LA (L:List ah7):Prop:=(∀u∈L,isU u=false)/\∀j a b,L[j]? =some a->L[j+1]? =some b->(bB a=true∨bB b=true)/\ (PU a&&PU b)=false
structure ot (w w':ah6) (b:Nat):Prop where
 dY:∃L T,aS w b L T/\ LA L
 g:w.grownBy w' (some b)
theorem ot.pair {w w':ah6} {b b' off:Nat} {x y:ah7} (h:ot w w' b') (hx:w.cell? ⟨b,off,none⟩=some x) (hy:w.cell? ⟨b,off+1,none⟩=some y) (hxy:(bB x=false/\ bB y=false)∨(PU x&&PU y)=true):b≠b':=by
 rintro rfl;obtain⟨L,T,hA,hL⟩:=h.dY;rw[hA.cell]at hx hy;have h2:=hL.2 off x y hx hy;rcases hxy with⟨e1,e2⟩|e
 ·rcases h2.1 with k|k
  ·rw[e1]at k;cases k
  ·rw[e2]at k;cases k
 ·rw[e]at h2;cases h2.2
theorem Ml.gu [Ol] {w w':ah6} {ao:Z'} {n ae:Nat} {ps:List (Int×Int)} {b:Nat} (h:Ml w ao n ae ps) (hF:ot w w' b):Ml w' ao n ae ps:=by
 have hk:∀ad,ao=some ad->0<n->w'.heap[ad.block]? =w.heap[ad.block]? :=λad had h0=>hF.g.block _ (h.Hh h0 had) λe=>by
  obtain⟨g,off,h1,_,h3⟩:=h.at h0;rw[h1]at had;cases had;exact hF.pair (h3 0 h0).1 (h3 0 h0).2 (.inl ⟨rfl,rfl⟩) (ao7 e)
 refine⟨h.len,h.le,h.big,h.wf,h.nil,λad had t ht=>?_,λh0 ad had=>(h.kp h0 ad had).ct (hk ad had h0)⟩;have hc:=h.cells ad had t ht;rw[<-hc.1,<-hc.2];exact⟨ai8 (by rw[eA];exact hk ad had (by omega)),ai8 (by rw[eA];exact hk ad had (by omega))⟩
theorem Sl.gu {w w':ah6} {ao:Z'} {n ae:Nat} {xs:List Nat} {b:Nat} (h:Sl w ao n ae xs) (hF:ot w w' b):Sl w' ao n ae xs:=
 ⟨h.len,h.le,h.big,h.wf,h.nil,λad had t ht=>hF.g.cell (h.cells ad had t ht) λe=>by
  obtain⟨L,T,hA,hL⟩:=hF.dY;have:=hL.1 _ (Q5 hA (h.cells ad had t ht) (ao7 e));simp[isU]at this⟩
theorem Cn.gu {w w':ah6} {m:Bool} {ao:Z'} {n ae:Nat} {z:Int} {b:Nat} (h:Cn w m ao n ae z) (hF:ot w w' b):Cn w' m ao n ae z:=⟨h.neg,h.sl.gu hF⟩
theorem gL.gu [Ol] {K:Nat} {w w':ah6} {vs:List ah7} {t:ai} {b:Nat} (h:gL K w vs t) (hF:ot w w' b):gL K w' vs t:=by
 obtain⟨m,ao,n,ae,bo,k,cb,h1,h2,h3,h4⟩:=h;exact⟨m,ao,n,ae,bo,k,cb,h1,h2.gu hF,h3,h4.gu hF⟩
theorem Gl.MG [Ol] {sz:Nat} {w w':ah6} {ao:Z'} {n ae:Nat} {bF:List (List ah7)} (h:Gl sz w ao n ae bF) (hs:w.heap.size<=w'.heap.size) (hk:∀ad,ao=some ad->0<n->w'.heap[ad.block]? =w.heap[ad.block]?):Gl sz w' ao n ae bF:=by
 refine⟨h.len,h.le,h.big,h.each,h.nil,h.spot,λad had h0=>am8 (h.lt ad had h0) hs,λad had t ht j hj=>?_,λh0 ad had=>(h.kp h0 ad had).ct (hk ad had h0)⟩;rw[<-h.cells ad had t ht j hj];exact ai8 (by rw[eA];exact hk ad had (by omega))
theorem Pc.gu [Ol] {K:Nat} {w w':ah6} {ao:Z'} {n ae:Nat} {p:List ai} {b:Nat} (h:Pc K w ao n ae p) (hF:ot w w' b):Pc K w' ao n ae p:=by
 obtain⟨bF,h1,h2⟩:=h.ex;refine⟨bF,h1.MG hF.g.size λad had h0=>hF.g.block _ (h1.lt ad had h0) λe=>?_,h2.imp λv a h=>h.gu hF⟩;obtain⟨g,off,e1,_,e3⟩:=h1.at h0;rw[e1]at had;cases had;have hl:=h1.len
 match bF,p,h2,hl with
 |[],_,_,hl=>simp at hl;omega
 |v::vs,t::r,h2,_=>
  obtain⟨m,ao,n,ae,bo,k,cb,rfl,_⟩:=h2.1;have c1:=e3 w (ai3 _ _) 0 h0 1 (by omega);have c2:=e3 w (ai3 _ _) 0 h0 2 (by omega);exact hF.pair c1 c2 (.inr rfl) (ao7 e)
theorem Pw.gu [Ol] {B K:Nat} {w w':ah6} {ao:Z'} {n ae:Nat} {p:List ai} {b:Nat} (h:Pw B K w ao n ae p) (hF:ot w w' b) (hne:∀r,eQ ao=some r->r≠b):Pw B K w' ao n ae p:=by
 obtain⟨X,h1,h2⟩:=h;refine⟨X,h1.apart hF.g ?_,h2.imp λv a h=>h.gu hF⟩;cases hb:eQ ao with
 |none=>exact .inl rfl
 |some r=>exact .inr λe=>hne r hb (ao7 e)
theorem Tryz.J4:(Tryz.prog.info? 199).map (λi=>(i.zero,i.size,i.bytes))=some (some (.agg #[.int .i64 0,ai7 none 0 0]),2,32):=by kernel_rfl
theorem aS.UI {w:ah6} {b:Nat} {L L':List ah7} {T T':TypeId} (h:aS w b L T) (h':aS w b L' T'):(T:Nat)=T':=by
 unfold aS at h h';rw[h]at h';exact congrArg (λ(o:Option Obj)=>match o with|some (.cells _ T _)=>T| _=>0) h'
def yb (L:List ah7):Prop:=∀j u,L[j]? =some u->(j%2=0->∃x,u= .int .i64 x)/\ (j%2=1->PU u=true)
theorem yb.LA {L:List ah7} (h:yb L):LA L:=by
 refine⟨λu hu=>?_,λj a b ha hb=>?_⟩
 ·obtain⟨j,hj⟩:=ak3.1 hu;have:=h j u hj;rcases am9 j with e|e
  ·obtain⟨x,rfl⟩:=this.1 e;rfl
  ·have:=this.2 e;cases u<;>first|rfl|cases this
 ·rcases am9 j with e|e
  ·obtain⟨x,rfl⟩:=(h j a ha).1 e;have:=(h (j+1) b hb).2 (by omega);cases b<;>first|exact⟨.inr rfl,rfl⟩|cases this
  ·have h1:=(h j a ha).2 e;obtain⟨x,rfl⟩:=(h (j+1) b hb).1 (by omega);cases a<;>first|exact⟨.inl rfl,rfl⟩|cases h1
theorem zt (k:Nat):yb (ah8 (ai4 #[.int .i64 0,ai7 none 0 0]).cells k).toList:=λj u hu=>by
 have hl:j<k*2:=by
  have:=(ak4.1 hu).1;simpa[ah8,ai5]using this
 have e:(ah8 (ai4 #[.int .i64 0,ai7 none 0 0]).cells k).toList[j]? =some ((#[Value.int .i64 0,ai7 none 0 0]:Array ah7)[j%2]!):=by
  simp[ah8,ai5,hl]
 rw[e]at hu;cases hu;rcases am9 j with e2|e2<;>rw[e2]
 ·exact⟨λ_=>⟨0,rfl⟩,λh=>by omega⟩
 ·exact⟨λh=>by omega,λ_=>rfl⟩
theorem wK (k:Nat):(ah8 (ai4 #[.int .i64 0,ai7 none 0 0]).cells k).toList.length=k*2:=by simp[ah8,ai5]
theorem yb.set {L:List ah7} (h:yb L) {j:Nat} (hj:j%2=1) {v:ah7} (hv:PU v=true):yb (L.set j v):=λi u hu=>by
 rw[List.getElem?_set]at hu;split at hu
 ·split at hu
  ·cases hu;subst_vars;exact⟨λe=>by omega,λ_=>hv⟩
  ·cases hu
 ·exact h i u hu
def PV [Ol] (B K:Nat) (w:ah6) (L:List ah7) (acc:List (Int×List ai)):Prop:=
 (∀j,j<acc.length->∃o k c,L[j*2]? =some (.int .i64 (acc.getD j (0,[])).1)/\ L[j*2+1]? =some (ai7 o k c)/\ Pw B K w o k c (acc.getD j (0,[])).2)/\
 ∀i j o k c o' k' c',i<j->j<acc.length->L[i*2+1]? =some (ai7 o k c)->L[j*2+1]? =some (ai7 o' k' c')->∀r,eQ o=some r->eQ o'≠some r
structure kV [Ol] (B K:Nat) (w:ah6) (v:ah7) (acc:List (Int×List ai)) (g ae:Nat) (L:List ah7):Prop where
 v:v=ai7 (some ⟨g,0,none⟩) acc.length ae
 xU:B<=g
 dY:aS w g L 199
 yb:yb L
 room:L.length=ae*2
 fit:acc.length<=ae
 big:ae<=maxLen
 pts:PV B K w L acc
theorem PV.ct [Ol] {B K:Nat} {w w':ah6} {L L':List ah7} {acc:List (Int×List ai)} (h:PV B K w L acc) (hL:∀i,i<acc.length*2->L'[i]? =L[i]?) (hw:∀o k c q,Pw B K w o k c q->(∃j,j<acc.length/\ L[j*2+1]? =some (ai7 o k c))->Pw B K w' o k c q):PV B K w' L' acc:=by
 refine⟨λj hj=>?_,λi j o k c o' k' c' hij hj h1 h2=>?_⟩
 ·obtain⟨o,k,c,h1,h2,h3⟩:=h.1 j hj;exact⟨o,k,c,by rw[hL _ (by omega)];exact h1,by rw[hL _ (by omega)];exact h2,hw _ _ _ _ h3 ⟨j,hj,h2⟩⟩
 ·rw[hL _ (by omega)]at h1 h2;exact h.2 i j o k c o' k' c' hij hj h1 h2
theorem kV.below [Ol] {B K:Nat} {w w':ah6} {v:ah7} {acc:List (Int×List ai)} {g ae:Nat} {L:List ah7} (h:kV B K w v acc g ae L) (hb:ai2 w.heap.size w w'):kV B K w' v acc g ae L:=
 ⟨h.v,h.xU,h.dY.below hb,h.yb,h.room,h.fit,h.big,h.pts.ct (λ_ _=>rfl) λ_ _ _ _ h1 _=>h1.below hb⟩
theorem lT {α:Type} (l m:List α) (d:α) {j:Nat} (h:j<l.length):(l++m).getD j d=l.getD j d:=by
 simp[ak5,ak6 h]
theorem iH {α:Type} (l:List α) (x d:α):(l++[x]).getD l.length d=x:=by simp[ak5]
theorem PV.push [Ol] {B K:Nat} {w:ah6} {L:List ah7} {acc:List (Int×List ai)} (h:PV B K w L acc) {e:Int} (h0:L[acc.length*2]? =some (.int .i64 e)) (h1:L[acc.length*2+1]? =some (ai7 none 0 0)):PV B K w L (acc++[(e,[])]):=by
 refine⟨λj hj=>?_,λi j o k c o' k' c' hij hj a1 a2=>?_⟩
 ·rw[ak7,ak8]at hj;by_cases hja:j<acc.length
  ·rw[lT _ _ _ hja];exact h.1 j hja
  ·obtain rfl:j=acc.length:=by omega
   rw[iH];exact⟨none,0,0,h0,h1,[],Rw.zero _ _ _ _,trivial⟩
 ·rw[ak7,ak8]at hj;by_cases hja:j<acc.length
  ·exact h.2 i j o k c o' k' c' hij hja a1 a2
  ·obtain rfl:j=acc.length:=by omega
   rw[h1]at a2;cases a2;intro r _ hr;cases hr
def Q6 [Ol] (B K:Nat) (w:ah6) (acc:List (Int×List ai)) (v':ah7) (W:ah6):Prop:=
 (∃g ae L,kV B K W v' acc g ae L/\∀j,j+1=acc.length->L[j*2+1]? =some (ai7 none 0 0))/\∃r,w.grownBy W r/\∀g,r=some g->B<=g/\∃L,aS w g L 199
theorem zu [Ol] {B K:Nat} {v:ah7} {acc:List (Int×List ai)} {w:ah6} (h:(acc=[]/\ v=ai7 none 0 0)∨ ∃g ae L,kV B K w v acc g ae L) (hB:B<=w.heap.size) (hn:acc.length<1000000) (e:Int) (tt ty:TypeId):
  ∃v' W,(Builtin.append_ #[196,196] ty #[v,ai7 (some ⟨w.heap.size,0,none⟩) 1 1]).run Tryz.prog (w.alloc (.cells #[.int .i64 e,ai7 none 0 0] tt))= .ok v' W/\ Q6 B K w (acc++[(e,[])]) v' W:=by
 obtain⟨i0,hi,hz0,hz1,hz2⟩:=info_parts Tryz.J4;obtain⟨vs,hvs⟩:∃vs:List ah7,vs=[.int .i64 e,ai7 none 0 0]:=⟨_,rfl⟩;obtain⟨w1,hw1⟩:∃w1,w1=w.alloc (.cells #[.int .i64 e,ai7 none 0 0] tt):=⟨_,rfl⟩;have hA1:aS w1 w.heap.size vs tt:=by rw[hw1,hvs];exact aS.cS w _ tt
 have hB1:ai2 w.heap.size w w1:=by rw[hw1];exact af _ _
 have hs1:w1.heap.size=w.heap.size+1:=by rw[hw1];simp
 rw[<-hw1];have hv1:∀v∈vs,v.oneCell'=true:=by rw[hvs];intro v hv;simp at hv;rcases hv with rfl|rfl<;>rfl
 have hv2:vs.length=2:=by rw[hvs];rfl
 have hnews:∀j v,vs[j]? =some v->w1.cell? ((⟨w.heap.size,0,none⟩:Addr).add j)=some v:=λj v hj=>by rw[Addr.add_lit,hA1.cell,an0,hj]
 have hnl:vs.length=1*i0.size:=by rw[hz1,hv2]
 have hva:∀j u,vs[j]? =some u->(j%2=0->∃x,u= .int .i64 x)/\ (j%2=1->PU u=true):=λj u hu=>by
  rw[hvs]at hu
  match j,hu with
  |0,hu=>cases hu;exact⟨λ_=>⟨e,rfl⟩,λh=>by omega⟩
  |1,hu=>cases hu;exact⟨λh=>by omega,λ_=>rfl⟩
  |j+2,hu=>simp at hu
 have hv0:vs[0]? =some (.int .i64 e):=by rw[hvs];rfl
 have J5:vs[1]? =some (ai7 none 0 0):=by rw[hvs];rfl
 clear hw1 hvs;rcases h with⟨rfl,rfl⟩|⟨g,ae,L,hR⟩
 ·have hr:=run_append_nil (P:=Tryz.prog) w1 196 ty 199 i0 _ Tryz.underlying196 hi hz0 ⟨w.heap.size,0,none⟩ 1 1 vs hnl hnews (by omega) (by omega) (by rw[hz2];omega);obtain⟨c',hc'⟩:∃c',c'=grownCap w1 1 0 199:=⟨_,rfl⟩;have hge:1<=c':=by rw[hc'];exact grownCap_ge _ _ _ _
  have hle:c'<=maxLen:=by rw[hc'];exact grownCap_le_maxLen _ _ _ _ (by unfold maxLen;omega)
  rw[<-hc']at hr;obtain⟨Z,hZ⟩:∃Z,Z=(ah8 (ai4 #[.int .i64 0,ai7 none 0 0]).cells (c'-1)).toList:=⟨_,rfl⟩;have hZa:yb Z:=by rw[hZ];exact zt _
  have Q7:Z.length=(c'-1)*2:=by rw[hZ];exact wK _
  have hMe:vs.toArray++ah8 (ai4 #[.int .i64 0,ai7 none 0 0]).cells (c'-1)=(vs++Z).toArray:=by
   apply Array.ext';rw[hZ];simp
  rw[hMe]at hr;have Io:ai2 w1.heap.size w1 (w1.drew.alloc (.cells (vs++Z).toArray 199)):=(ai3 _ w1).drew.alloc (an1 _) _;refine⟨_,_,hr,⟨_,c',vs++Z,⟨rfl,by show B<=w1.heap.size;omega,aS.cS _ _ _,λj u hu=>?_,by rw[ak7,hv2,Q7];omega,hge,hle,PV.push (acc:=[]) ⟨λj hj=>by simp at hj,λi j o k c o' k' c' hij hj=>by simp at hj⟩ ?_ ?_⟩,λj hj=>?_⟩,none,cu _ (Below.ar hB1 Io),λg h=>by cases h⟩
  ·by_cases hj:j<2
   ·rw[ak6 (by omega)]at hu;exact hva j u hu
   ·rw[ak9 (by omega),hv2]at hu;have:=hZa _ u hu;exact⟨λh=>this.1 (by omega),λh=>this.2 (by omega)⟩
  ·rw[ak6 (by simp[hv2])];exact hv0
  ·rw[ak6 (by simp[hv2])];exact J5
  ·obtain rfl:j=0:=by simpa using hj
   rw[ak6 (by simp[hv2])];exact J5
 ·obtain rfl:=hR.v;obtain⟨n,hnn⟩:∃n,n=acc.length:=⟨_,rfl⟩;have hfit:=hR.fit;have rf:=hR.room;have J6:=hR.dY.below hB1;rw[<-hnn]at hfit hn ⊢;by_cases hr:n+1<=ae
  ·have hrun:=lU (P:=Tryz.prog) w1 196 ty 199 i0 Tryz.underlying196 hi g 0 n ae ⟨w.heap.size,0,none⟩ 1 1 vs hnl hnews hv1 hr (λj hj=>by
     rw[J6.cell,hz1,al0 (by omega)];rfl) (λj hj=>J6.fz _)
   rw[hz1,an0]at hrun;have hG:=ju g vs w1 (n*2);have hF:ot w1 (w1.setCells g (n*2) vs) g:=⟨⟨L,_,J6,hR.yb.LA⟩,hG⟩;have hL:∀i,i<acc.length*2->(lV L (n*2) vs)[i]? =L[i]? :=λi hi=>iw _ _ _ _ (.inl (by omega))
   have hgT:∀o k c q,Pw B K w1 o k c q->∀r,eQ o=some r->r≠g:=λo k c q h1 r hr e=>by
    obtain⟨X,h1,_⟩:=h1;rcases h1.ex with⟨rfl,_⟩|⟨g',off,L',rfl,_,hA',_⟩
    ·cases hr
    ·cases hr;subst e;exact absurd (J6.UI hA') (by decide)
   refine⟨_,_,hrun,⟨g,ae,lV L (n*2) vs,⟨by rw[ak7,<-hnn];rfl,hR.xU,J6.put vs _,λj u hu=>?_,by rw[dJ];exact rf,by rw[ak7,<-hnn];exact hr,hR.big,PV.push ((hR.below hB1).pts.ct hL λo k c q h1 _=>h1.gu hF (hgT o k c q h1)) ?_ ?_⟩,λj hj=>?_⟩,some g,cD (cu _ hB1) hG,λg' h=>by cases h;exact⟨hR.xU,L,hR.dY⟩⟩
   ·by_cases hj:j<n*2∨n*2+vs.length<=j
    ·rw[iw _ _ _ _ hj]at hu;exact hR.yb j u hu
    ·have hjl:j<L.length:=by
      have:=(ak4.1 hu).1;rwa[dJ]at this
     rw[iz _ _ _ _ (by omega) (by omega) hjl]at hu;have:=hva _ u hu;exact⟨λh=>this.1 (by omega),λh=>this.2 (by omega)⟩
   ·rw[<-hnn,iz _ _ _ _ (by omega) (by omega) (by omega),an2];exact hv0
   ·rw[<-hnn,iz _ _ _ _ (by omega) (by omega) (by omega),show n*2+1-n*2=1 by omega];exact J5
   ·obtain rfl:j=n:=by rw[ak7,ak8]at hj;omega
    rw[iz _ _ _ _ (by omega) (by omega) (by omega),show j*2+1-j*2=1 by omega];exact J5
  ·obtain rfl:n=ae:=by omega
   obtain⟨O,hO⟩:∃O,O=L.take (n*2):=⟨_,rfl⟩;have hOL:O=L:=by rw[hO];exact al1 (by omega)
   rw[hOL]at hO;have hr:=run_append_grow (P:=Tryz.prog) w1 196 ty 199 i0 _ Tryz.underlying196 hi hz0 ⟨g,0,none⟩ n n L (by rw[rf,hz1]) (λj v hj=>by rw[Addr.add_lit,J6.cell,an0,hj]) ⟨w.heap.size,0,none⟩ 1 1 vs hnl hnews (by omega) (by omega) (by rw[hz2];exact growslice_fits (by omega) (by omega));obtain⟨c',hc'⟩:∃c',c'=grownCap w1 (n+1) n 199:=⟨_,rfl⟩;have hge:n+1<=c':=by rw[hc'];exact grownCap_ge _ _ _ _
   have hle:c'<=maxLen:=by rw[hc'];exact grownCap_le_maxLen _ _ _ _ (by unfold maxLen;omega)
   rw[<-hc']at hr;obtain⟨Z,hZ⟩:∃Z,Z=(ah8 (ai4 #[.int .i64 0,ai7 none 0 0]).cells (c'-(n+1))).toList:=⟨_,rfl⟩;have hZa:yb Z:=by rw[hZ];exact zt _
   have Q7:Z.length=(c'-(n+1))*2:=by rw[hZ];exact wK _
   have hMe:L.toArray++vs.toArray++ah8 (ai4 #[.int .i64 0,ai7 none 0 0]).cells (c'-(n+1))=(L++vs++Z).toArray:=by
    apply Array.ext';rw[hZ];simp
   rw[hMe]at hr;have Io:ai2 w1.heap.size w1 (w1.drew.alloc (.cells (L++vs++Z).toArray 199)):=(ai3 _ w1).drew.alloc (an1 _) _;have hlv:(L++vs).length=(n+1)*2:=by rw[ak7,rf,hv2];omega
   refine⟨_,_,hr,⟨w1.heap.size,c',L++vs++Z,⟨by rw[ak7,<-hnn];rfl,by omega,aS.cS _ _ _,λj u hu=>?_,by rw[ak7,hlv,Q7];omega,by rw[ak7,<-hnn];exact hge,hle,PV.push (((hR.below hB1).below Io).pts.ct (λi hi=>?_) λ_ _ _ _ h1 _=>h1) ?_ ?_⟩,λj hj=>?_⟩,none,cu _ (Below.ar hB1 Io),λg h=>by cases h⟩
   ·by_cases hj:j<n*2
    ·rw[al2,ak6 (by omega)]at hu;exact hR.yb j u hu
    ·by_cases hj2:j<(n+1)*2
     ·rw[ak6 (by omega),ak9 (by omega),rf]at hu;have:=hva _ u hu;exact⟨λh=>this.1 (by omega),λh=>this.2 (by omega)⟩
     ·rw[ak9 (by omega),hlv]at hu;have:=hZa _ u hu;exact⟨λh=>this.1 (by omega),λh=>this.2 (by omega)⟩
   ·rw[al2,ak6 (by omega)]
   ·rw[<-hnn,ak6 (by omega),ak9 (by omega),rf,an2];exact hv0
   ·rw[<-hnn,ak6 (by omega),ak9 (by omega),rf,show n*2+1-n*2=1 by omega];exact J5
   ·obtain rfl:j=n:=by rw[ak7,ak8]at hj;omega
    rw[ak6 (by omega),ak9 (by omega),rf,show j*2+1-j*2=1 by omega];exact J5
theorem kV.last [Ol] {B K:Nat} {w W:ah6} {v:ah7} {a:List (Int×List ai)} {e:Int} {q q':List ai} {g ae:Nat} {L:List ah7} (h:kV B K w v (a++[(e,q)]) g ae L) {po:Z'} {pn pc:Nat} (hx:L[a.length*2+1]? =some (ai7 po pn pc)) (hp:Pw B K w po pn pc q)
  {ro:Option Addr} {rn rc:Nat} (hr:Pw B K W ro rn rc q') (hG:w.grownBy W (eQ po)) (hd:eQ ro=eQ po∨ ∀g',eQ ro=some g'->w.heap.size<=g'):kV B K (W.setCell ⟨g,a.length*2+1,none⟩ (ai7 ro rn rc)) v (a++[(e,q')]) g ae (L.set (a.length*2+1) (ai7 ro rn rc)):=by
 have hT:∀{V:ah6} {L':List ah7} {o:Option Addr} {k c:Nat} {z:List ai},aS V g L' 199->Pw B K V o k c z->∀r,eQ o=some r->r≠g:=λ{V L' o k c z} hA h1 r hr e=>by
  obtain⟨X,h1,_⟩:=h1;rcases h1.ex with⟨rfl,_⟩|⟨g',off,L',rfl,_,hA',_⟩
  ·cases hr
  ·cases hr;subst e;exact absurd (hA.UI hA') (by decide)
 have hAW:aS W g L 199:=h.dY.apart hG λe2=>hT h.dY hp g e2.symm rfl
 have hF:ot W (W.setCell ⟨g,a.length*2+1,none⟩ (ai7 ro rn rc)) g:=⟨⟨L,_,hAW,h.yb.LA⟩,br _ _ _ _⟩;have hll:a.length*2+1<L.length:=(ak4.1 hx).1;have hlt:=hp.lt;have hlen:(a++[(e,q')]).length=(a++[(e,q)]).length:=by simp
 refine⟨by rw[hlen];exact h.v,h.xU,hAW.set _ _,h.yb.set (by omega) rfl,by rw[List.length_set];exact h.room,by rw[hlen];exact h.fit,h.big,λj hj=>?_,λi j o k c o' k' c' hij hj a1 a2=>?_⟩
 ·rw[hlen,ak7,ak8]at hj;by_cases hja:j<a.length
  ·obtain⟨o,k,c,h1,h2,h3⟩:=h.pts.1 j (by simp;omega);rw[lT _ _ _ hja]at h1 h3 ⊢;refine⟨o,k,c,by rw[al3 (by omega)];exact h1,by rw[al3 (by omega)];exact h2,?_⟩;have h4:=h3.cP hG hp.jK λr hr e2=>h.pts.2 j a.length o k c po pn pc hja (by simp) h2 hx r e2 hr
   exact h4.gu hF (hT hAW h4)
  ·obtain rfl:j=a.length:=by omega
   rw[iH];obtain⟨o,k,c,h1,_,_⟩:=h.pts.1 a.length (by simp);rw[iH]at h1;exact⟨ro,rn,rc,by rw[al3 (by omega)];exact h1,by rw[al4 hll],hr.gu hF (hT hAW hr)⟩
 ·rw[hlen,ak7,ak8]at hj;rw[al3 (by omega)]at a1;by_cases hja:j<a.length
  ·rw[al3 (by omega)]at a2;exact h.pts.2 i j o k c o' k' c' hij (by simp;omega) a1 a2
  ·obtain rfl:j=a.length:=by omega
   rw[al4 hll]at a2;cases a2;intro r hr1 hr2;obtain⟨o2,k2,c2,_,h2,h3⟩:=h.pts.1 i (by simp;omega);rw[a1]at h2;cases h2;rcases hd with e2|e2
   ·exact h.pts.2 i a.length o k c po pn pc hij (by simp) a1 hx r hr1 (e2▸hr2)
   ·have:=e2 r hr2;have:=(h3.lt r hr1).2;omega
open Lib (hid)
def jL [Ol] (B K:Nat) (w:ah6) (acc:List (Int×List ai)) (v:ah7) (w':ah6):Prop:=
 ((acc=[]/\ v=ai7 none 0 0)∨(acc≠[]/\∃g c L,kV B K w' v acc g c L))/\ ai2 B w w'
theorem jL.below [Ol] {B K:Nat} {w w1 w2:ah6} {acc:List (Int×List ai)} {v:ah7} (h:jL B K w acc v w1) (hb:ai2 w1.heap.size w1 w2) (hB:B<=w1.heap.size):jL B K w acc v w2:=
 ⟨h.1.imp id λ⟨h0,g,c,L,h⟩=>⟨h0,g,c,L,h.below hb⟩,h.2.trans (hb.mono hB)⟩
theorem Ml.ae8 [Ol] {w:ah6} {ao:Z'} {n ae:Nat} {xs:List (Int×Int)} {a:Int×Int} (h:Ml w ao (n+1) ae (xs++[a])):Ml w ao n ae xs:=
 ⟨by have:=h.len;simp at this;omega,by have:=h.le;omega,by have:=h.big;omega,λp hp=>h.wf p (by simp[hp]),h.nil,λad had t ht=>by
  have hl:xs.length=n:=by have:=h.len;simp at this;omega
  have:=h.cells ad had t (by omega);rwa[lT _ _ _ (by omega)]at this,λh0 ad had=>h.kp (by omega) ad had⟩
theorem qd {v:Int} {acc:List (Int×List ai)} {t:ai} {e:Int} (he:aI t.2 v=e) (h:∀a e0 q,acc=a++[(e0,q)]->e0≠e):iI v acc t=acc++[(e,[(t.1,fy v t.2)])]:=by
 unfold iI;rcases fX acc with rfl|⟨a,⟨e0,q⟩,rfl⟩
 ·simp[he]
 ·have:=h a e0 q rfl;simp[he,this]
theorem wL {v:Int} {a:List (Int×List ai)} {t:ai} {e:Int} {q:List ai} (he:aI t.2 v=e):iI v (a++[(e,q)]) t=a++[(e,q++[(t.1,fy v t.2)])]:=by
 unfold iI;simp[he]
theorem J7 (v:Int) (t:ai) (acc:List (Int×List ai)):(iI v acc t).length<=acc.length+1:=by
 unfold iI;split
 ·split<;>simp
 ·simp
theorem rh (v:Int):∀(l:List ai) (acc:List (Int×List ai)),(l.foldl (iI v) acc).length<=acc.length+l.length
 |[],acc=>by simp
 |t::l,acc=>by
  have:=rh v l (iI v acc t);have:=J7 v t acc;simp only[al5,al6];omega
theorem wM (v:Int) (m:Nat):∀(l:List ai) (acc:List (Int×List ai)),(∀g∈acc,g.2.length+l.length<=m)->l.length<=m->∀g∈l.foldl (iI v) acc,g.2.length<=m
 |[],acc,h,_=>λg hg=>by have:=h g hg;omega
 |t::l,acc,h,hl=>by
  simp only[al6]at hl h;refine wM v m l (iI v acc t) (λg hg=>?_) (by omega);rcases fX acc with rfl|⟨a,⟨e0,q⟩,rfl⟩
  ·rw[qd rfl (λa e0 q h=>by simp at h)]at hg;simp at hg;subst hg;simp;omega
  ·by_cases he:e0=aI t.2 v
   ·subst he;rw[wL rfl]at hg;rcases al7.1 hg with h1|h1
    ·have:=h g (by simp[h1]);omega
    ·simp at h1;subst h1;have:=h (aI t.2 v,q) (by simp);simp at this ⊢;omega
   ·rw[qd rfl (λa' e1 q' h h3=>he (by have h2:=(al8 h rfl).2;cases h2;exact h3))]at hg;rcases al7.1 hg with h1|h1
    ·have:=h g h1;omega
    ·simp at h1;subst h1;simp;omega
theorem F5 [Ol] {K:Nat} {ao:Z'} {n ae:Nat} {p:List ai} {w:ah6} (v:Int) (hp:Pc K w ao n ae p) (hf:bD p) (hcl:∀t∈p,fU t.2<=v) (hn:n<=100000):
  Calls Tryz.prog 149 #[ai7 ao n ae,.int .i64 v] w (λe w'=>∃x,e= .returned x/\ jL w.heap.size K w (bs v p) x w'):=by
 have HP:=hid hp;have rK:Hid (p.length=n):=hp.len;have HM:=hid (bG hf);have HC:=hid hcl;clear hp hf hcl;go_enter Tryz.func149,Tryz.ntmps149;have vp:Hid (jL w.heap.size K w (bs v (p.take 0)) (ai7 none 0 0) w):=⟨.inl ⟨by simp[bs],rfl⟩,ai3 _ _⟩;go_wp2_with fail;go_loopw [5,13] (λs i wr=>∃(k:Nat),i= .int .i64 k/\ k<=n/\ Hid (jL w.heap.size K w (bs v (p.take k)) s wr)) (λ_ i _=>n-(intOf i).toNat)
 case atStart=>exact⟨0,rfl,an3 _,vp.o⟩
 case round=>
  clear vp;obtain⟨k,rfl,hk,HS⟩:=hrel;by_cases hkn:k<n
  ·obtain⟨b,off,xm,xa,xn,xc,xp,xq,xr,yx,hbl,hc,rL,hBd,lZ⟩:=HP.o.at (k:=k) hkn;subst yx;have hbw:ai2 w.heap.size w wr:=HS.o.2;obtain⟨c0,c1,c2⟩:=hc wr hbw;have hkl:k<p.length:=by rw[rK.o];exact hkn
   obtain⟨t,ht⟩:∃t,t=p.getD k (0,[]):=⟨_,rfl⟩;rw[<-ht]at rL hBd lZ;have htp:t∈p:=by rw[ht];exact gK _ hkl
   have hpk:p[k]=t:=by rw[ht];simp[ak5,hkl]
   have hnx:bs v (p.take (k+1))=iI v (bs v (p.take k)) t:=by rw[al9 hkl,lK,hpk]
   have hal:(bs v (p.take k)).length<=k:=by
    have:=rh v (p.take k) [];rw[am0]at this;simp only[am1]at this;unfold bs;omega
   have HT:Hid (∀V,ai2 w.heap.size w V->Cn V xm xa xn xc t.1/\ Ml V xp xq xr t.2):=λV hV=>⟨rL.below hV,lZ.below hV⟩
   have AO:=hid hBd;have hlo:=Nl (HM.o t htp) (HC.o t htp);have HN:=hid (ah5 hnx (ah5 hlo hal));have hki:(k:Int)<(n:Int):=by omega
   clear hc rL hBd lZ hbl ht htp hpk hnx hkl hlo hal;go_upto_region 5 with(fail)
   refine aj (λW1 hW=>?_);obtain⟨b7,sX⟩:∃b7,b7=wr.heap.size:=⟨_,rfl⟩;have a1:aS W1 b7 [ai6 xm,ai7 xa xn xc,ai7 xp xq xr] 70/\ ai2 wr.heap.size wr W1:=by rw[hW,sX];exact gp wr [ai6 xm,ai7 xa xn xc,ai7 xp xq xr] 70
   rw[<-sX];have nd:=hid (HS.o.below a1.2 hbw.size);have HB1:=hid a1.2;have hbr:wr.heap.size<=b7:=by omega
   have HA1:=hid a1.1;have hbB:w.heap.size<=b7:=by rw[sX];exact hbw.size
   clear hW a1 c0 c1 c2 hbw sX;have hlo:=HN.o.2.1;rcases fX t.2 with h0|⟨xs,⟨u,x⟩,h0⟩
   obtain rfl:xq=0:=by have:=(HT.o w (ai3 _ _)).2.len;rw[h0]at this;simpa using this.symm
   have HE:Hid (aI t.2 v=0/\ fy v t.2=t.2):=by rw[h0];exact⟨rfl,rfl⟩
   obtain⟨d0,d1,d2⟩:=HA1.o.c3;clear h0 hlo
   focus go_upto_region 10 with(fail)
   refine aj (λW2 hW=>?_);have HA2:Hid (aS W2 b7 [ai6 xm,ai7 xa xn xc,ai7 xp 0 xr] 70):=by rw[hW];exact HA1.o
   have HB2:Hid (ai2 wr.heap.size wr W2):=by rw[hW];exact HB1.o
   have HT2:Hid (∀V,ai2 w.heap.size w V->Cn V xm xa xn xc t.1/\ Ml V xp 0 xr (fy v t.2)):=λV hV=>by rw[HE.o.2];exact HT.o V hV
   have HX:=hid HE.o.1;clear hW HE d0 d1 d2 HT HA1 nd HB1
   rotate_left
   rw[h0]at hlo;have hxl:xs.length+1=xq:=by have:=(HT.o w (ai3 _ _)).2.len;rw[h0]at this;simpa using this
   obtain⟨j,hj⟩:∃j,j=xs.length:=⟨_,rfl⟩;obtain rfl:xq=j+1:=by omega
   obtain⟨pb,po,hpo,_,hpc⟩:=(HT.o W1 nd.o.2).2.at (by omega);subst hpo;have hw:=hpc j (by omega);rw[h0,hj,iH,<-hj]at hw;obtain⟨w0,w1⟩:=hw;obtain⟨d0,d1,d2⟩:=HA1.o.c3;have hbig:j+1<=8796093022208:=(HT.o w (ai3 _ _)).2.big;have hj0:(0:Int)<=(j:Int):=by omega
   have hji:(j:Int)<(j:Int)+1:=by omega
   have hjb: -9223372036854775808<=(j:Int)/\ (j:Int)<=9223372036854775807:=⟨by omega,by omega⟩;have HWR:Hid (ah9.wrap ((j:Int)+1-1)=(j:Int)/\ wrap64 (j:Int)=(j:Int)):=⟨by rw[show(j:Int)+1-1=j by omega];exact ai0 _ hjb,ai1 _ hjb⟩;clear hjb;have hjr:j<=xr:=Nat.le_of_succ_le (HT.o w (ai3 _ _)).2.le;have HXL:=hid (ah5 hxl hj);clear hpc hxl hj hbig;have H0:=hid h0;clear h0;by_cases huv:u=v
   have HE:Hid (aI t.2 v=x/\ fy v t.2=xs):=by
    rw[H0.o];have:zw v (xs++[(u,x)])=(x,xs):=by simp[zw,huv]
    rw[this]at hlo;exact⟨(congrArg Prod.fst hlo).symm,(congrArg Prod.snd hlo).symm⟩
   have d9:=HA1.o.fz 2;clear hlo;obtain rfl:v=u:=huv.symm;obtain⟨hwr,hwr2⟩:=HWR.o
   focus go_upto_region 10 with(fail)
   refine aj (λW2 hW=>?_);have HA2:Hid (aS W2 b7 [ai6 xm,ai7 xa xn xc,ai7 (some ⟨pb,po,none⟩) j xr] 70):=by rw[hW];exact HA1.o.set 2 _
   have HB2:Hid (ai2 wr.heap.size wr W2):=by rw[hW];exact HB1.o.setCell hbr _
   have HT2:Hid (∀V,ai2 w.heap.size w V->Cn V xm xa xn xc t.1/\ Ml V (some ⟨pb,po,none⟩) j xr (fy v t.2)):=λV hV=>by
    have h:=HT.o V hV;rw[H0.o]at h;rw[HE.o.2];exact⟨h.1,h.2.ae8⟩
   have HX:=hid HE.o.1;clear hW HE d0 d1 d2 d9 HT HA1 nd HB1 w0 w1 H0 hj0 hji hwr hwr2 HWR hjr HXL
   rotate_left
   have HE:Hid (aI t.2 v=0/\ fy v t.2=t.2):=by
    have e2:zw v (xs++[(u,x)])=(0,xs++[(u,x)]):=by simp[zw,huv]
    rw[e2]at hlo;rw[H0.o];exact⟨(congrArg Prod.fst hlo).symm,(congrArg Prod.snd hlo).symm⟩
   clear hlo;obtain⟨hwr,hwr2⟩:=HWR.o
   focus go_upto_region 10 with(fail)
   refine aj (λW2 hW=>?_);have HA2:Hid (aS W2 b7 [ai6 xm,ai7 xa xn xc,ai7 (some ⟨pb,po,none⟩) (j+1) xr] 70):=by rw[hW];exact HA1.o
   have HB2:Hid (ai2 wr.heap.size wr W2):=by rw[hW];exact HB1.o
   have HT2:Hid (∀V,ai2 w.heap.size w V->Cn V xm xa xn xc t.1/\ Ml V (some ⟨pb,po,none⟩) (j+1) xr (fy v t.2)):=λV hV=>by rw[HE.o.2];exact HT.o V hV
   have HX:=hid HE.o.1;clear hW HE d0 d1 d2 w0 w1 H0 hj0 hji hwr hwr2 HWR hjr HXL HT HA1 nd HB1
   all_goals
    obtain⟨a,haa⟩:∃a,a=bs v (p.take k):=⟨_,rfl⟩;have hbw:ai2 w.heap.size w W2:=HS.o.2.trans (HB2.o.mono HS.o.2.size);have hsr:=HS.o.1;rw[<-haa]at hsr HN;clear haa;have hbs:=hbw.size;have hal:=HN.o.2.2;rcases hsr with⟨ha,hs⟩|⟨hne,g0,cc0,L0,hR0⟩
    subst hs;obtain⟨v8,W8,QA,⟨g,cc,L,hR,hz⟩,r,hG,Ni⟩:=zu (K:=K) (.inl ⟨ha,rfl⟩) hbs (by omega) (aI t.2 v) 199 196;rw[HX.o]at QA;have Jz:=hR.v;rw[ak7,ak8]at Jz;obtain⟨la,hla⟩:∃la,la=a.length:=⟨_,rfl⟩;rw[<-hla]at Jz;subst Jz;have ik:Hid (ai2 w.heap.size w W8):=hbw.grown hG hbs λr h=>(Ni r h).1
    have Nn:Hid (aS W8 b7 _ 70):=HA2.o.apart hG λe=>by
     obtain⟨_,L2,hA⟩:=Ni b7 e.symm;exact absurd (HA2.o.UI hA) (by decide)
    have HF:Hid (∃a1 e1 q1,a1.length=la/\ kV w.heap.size K W8 (ai7 (some ⟨g,0,none⟩) (la+1) cc) (a1++[(e1,q1)]) g cc L/\ bs v (p.take (k+1))=a1++[(e1,q1++[(t.1,fy v t.2)])]/\∀o k c,L[a1.length*2+1]? =some (ai7 o k c)->∀r,eQ o=some r->r<b7):=⟨a,_,[],hla.symm,hR,by rw[HN.o.1,qd rfl (λa' e0 q h=>by rw[ha]at h;simp at h)];rfl,λo k c h r hr=>by rw[hz _ (by simp)]at h;cases h;cases hr⟩;have Q8:Hid (la<=k):=hla▸hal;clear hbw hbs hal ha hR hG Ni hla HB2 HA2 hz
    focus go_upto_region 12 with(at_builtin;refine fP rfl (.tmp 58) (.tmp 61) 196 196 rfl _ _ rfl rfl QA ?_)
    clear QA
    rotate_left
    rcases fX a with h|⟨a0,⟨e0,q0⟩,h⟩
    exact absurd h hne;subst h;have hR:=hR0.below HB2.o;have Jz:=hR.v;rw[ak7,ak8]at Jz hal;obtain⟨A7,hla⟩:∃A7,A7=a0.length:=⟨_,rfl⟩;rw[<-hla]at Jz hal;subst Jz
    have hce:W2.cell? ⟨g0,A7*2,none⟩=some (.int .i64 e0):=by
     obtain⟨_,_,_,h,_⟩:=hR.pts.1 a0.length (by simp);rw[iH]at h;rw[hR.dY.cell,hla];exact h
    have hl0:(0:Int)<=(A7:Int):=by omega
    have hl1:(A7:Int)<(A7:Int)+1:=by omega
    have hq0:((A7:Int)+1==0)=false:=by simp;omega
    have hlb: -9223372036854775808<=(A7:Int)/\ (A7:Int)<=9223372036854775807:=⟨by omega,by omega⟩;have YK:Hid (ah9.wrap ((A7:Int)+1-1)=(A7:Int)/\ wrap64 (A7:Int)=(A7:Int)):=⟨by rw[show(A7:Int)+1-1=A7 by omega];exact ai0 _ hlb,ai1 _ hlb⟩;clear hlb;by_cases hee:e0=aI t.2 v;have h9:e0=_:=hee.trans HX.o;have ik:=hid hbw
    have HF:Hid (∃a1 e1 q1,a1.length=A7/\ kV w.heap.size K W2 (ai7 (some ⟨g0,0,none⟩) (A7+1) cc0) (a1++[(e1,q1)]) g0 cc0 L0/\ bs v (p.take (k+1))=a1++[(e1,q1++[(t.1,fy v t.2)])]/\∀o k c,L0[a1.length*2+1]? =some (ai7 o k c)->∀r,eQ o=some r->r<b7):=⟨a0,e0,q0,hla.symm,hR,by rw[HN.o.1,wL hee.symm],λo k c h r hr=>by
     obtain⟨o',k',c',_,h2,h3⟩:=hR0.pts.1 a0.length (by simp);rw[h2]at h;cases h;have:=(h3.lt r hr).2;omega⟩
    have Q8:Hid (A7<=k):=by rw[Hid];omega
    obtain⟨W8,hW8⟩:∃W8,W8=W2:=⟨_,rfl⟩;rw[<-hW8]at ik HF HA2 hce ⊢;have Nn:=HA2;clear hbw hbs hal hR hR0 hla HB2 HA2 hee HN hne hW8;subst h9;obtain⟨hwl,Np⟩:=YK.o
    focus go_upto_region 12 with(fail)
    clear hce hwl Np hl0 hl1 hq0 YK;obtain⟨g,rfl⟩:∃g,g=g0:=⟨_,rfl⟩;obtain⟨cc,rfl⟩:∃g,g=cc0:=⟨_,rfl⟩;obtain⟨L,rfl⟩:∃g,g=L0:=⟨_,rfl⟩;obtain⟨la,rfl⟩:∃g,g=A7:=⟨_,rfl⟩
    rotate_left
    have Cs:(e0 !=aI t.2 v)=true:=by simpa using hee
    rw[HX.o]at Cs;obtain⟨v8,W8,QA,⟨g,cc,L,hR2,hz⟩,r,hG,Ni⟩:=zu (K:=K) (.inr ⟨g0,cc0,L0,hR⟩) hbs (by rw[ak7,ak8];omega) (aI t.2 v) 199 196;rw[HX.o]at QA;have Jz:=hR2.v;rw[ak7,ak8]at Jz;obtain⟨la,hlb⟩:∃la,la=(a0++[(e0,q0)]).length:=⟨_,rfl⟩;rw[<-hlb]at Jz;subst Jz;have ik:Hid (ai2 w.heap.size w W8):=hbw.grown hG hbs λr h=>(Ni r h).1
    have Nn:Hid (aS W8 b7 _ 70):=HA2.o.apart hG λe=>by
     obtain⟨_,_,hA⟩:=Ni b7 e.symm;exact absurd (HA2.o.UI hA) (by decide)
    have HF:Hid (∃a1 e1 q1,a1.length=la/\ kV w.heap.size K W8 (ai7 (some ⟨g,0,none⟩) (la+1) cc) (a1++[(e1,q1)]) g cc L/\ bs v (p.take (k+1))=a1++[(e1,q1++[(t.1,fy v t.2)])]/\∀o k c,L[a1.length*2+1]? =some (ai7 o k c)->∀r,eQ o=some r->r<b7):=⟨_,_,[],hlb.symm,hR2,by rw[HN.o.1,qd rfl (λa' e1 q h h3=>hee (by have h2:=(al8 h rfl).2;cases h2;exact h3))];rfl,λo k c h r hr=>by rw[hz _ (by simp)]at h;cases h;cases hr⟩;have Q8:Hid (la<=k):=by rw[hlb,ak7,ak8,<-hla];exact hal
    clear hbw hbs hal hR hR0 hR2 hG Ni hlb HB2 HA2 hee HN hne hla hz;obtain⟨hwl,Np⟩:=YK.o
    focus go_upto_region 12 with(at_builtin;refine fP rfl (.tmp 58) (.tmp 61) 196 196 rfl _ _ rfl rfl QA ?_)
    clear QA hce hwl Np hl0 hl1 Cs hq0 YK
    all_goals
     clear HX;obtain⟨a1,e1,q1,hl1,hR,hnx,hzb⟩:=HF.o;obtain⟨qo,qn,qc,_,hx1,hq1⟩:=hR.pts.1 a1.length (by simp);rw[iH]at hq1;have hbs:=ik.o.size;have YL:=hR.dY.lt
     have Jo:qn<1000000:=by
      have h1:=wM v (k+1) (p.take (k+1)) [] (λg h=>by cases h) (by rw[am0];omega) (e1,q1++[(t.1,fy v t.2)]) (by rw[show(p.take (k+1)).foldl (iI v) []=bs v (p.take (k+1))from rfl,hnx];simp);have h2:q1.length=qn:=hq1.len;simp at h1;omega
     have HZB:Hid (∀r,eQ qo=some r->r<b7):=hzb _ _ _ hx1;have HQ:=hid (ah5 hx1 (ah5 hR (ah5 hnx hl1)));have HCE:Hid (W8.cell? ⟨g,la*2+1,none⟩=some (ai7 qo qn qc)):=by rw[Hid,hR.dY.cell,<-hl1];exact hx1
     have hl0:(0:Int)<=(la:Int):=by omega
     have hli:(la:Int)<(la:Int)+1:=by omega
     have hlb: -9223372036854775808<=(la:Int)/\ (la:Int)<=9223372036854775807:=⟨by omega,by have:=Q8.o;omega⟩;have hwl:ah9.wrap ((la:Int)+1-1)=(la:Int):=by rw[show(la:Int)+1-1=la by omega];exact ai0 _ hlb
     have Np:wrap64 (la:Int)=(la:Int):=ai1 _ hlb;clear hx1 hR hnx hl1 hlb HF hzb;go_upto_region 13 with(fail)
     clear hwl Np;refine wp_region_held_drew (S:=λw'=>w'.cell? ⟨b7,0,none⟩=some (ai6 xm)/\ w'.cell? ⟨b7,1,none⟩=some (ai7 xa xn xc)/\ w'.cell? ⟨b7,2,none⟩=some _) (by kernel_rfl) (aS.c3 (T:=70) (Nn.o.below (ai3 _ _).drew)) (λhH=>?_);refine ah (λV hW=>?_);have dr:=(ai3 W8.heap.size W8).drew;have UJ:=hid (Nn.o.below dr);rw[<-hW]at UJ;have HBV:Hid (ai2 w.heap.size w V):=by rw[hW];exact ik.o.trans (dr.mono hbs)
     have hcV:V.cell? ⟨g,la*2+1,none⟩=some (ai7 qo qn qc):=by rw[hW,dr.cell YL];exact HCE.o
     have WE:Hid (L[la*2+1]? =some (ai7 qo qn qc)/\ kV w.heap.size K V (ai7 (some ⟨g,0,none⟩) (la+1) cc) (a1++[(e1,q1)]) g cc L/\ bs v (p.take (k+1))=a1++[(e1,q1++[(t.1,fy v t.2)])]/\ a1.length=la):=by
      obtain⟨x1,x2,x3,x4⟩:=HQ.o;exact⟨x4▸x1,by rw[hW];exact x2.below dr,x3,x4⟩
     have hqV:Pw w.heap.size K V qo qn qc q1:=by rw[hW];exact hq1.below dr
     rw[<-hW]at hH;have hbV:w.heap.size<=V.heap.size:=HBV.o.size;have hgV:g<V.heap.size:=WE.o.2.1.dY.lt;clear dr Nn ik HCE HQ hq1 hbs YL hW;obtain⟨v9,W9,Ni,hp9⟩:=CM (t:=(t.1,fy v t.2)) hqV hbV Jo (HT2.o _ HBV.o).1 AO.o (HT2.o _ HBV.o).2 70 23;have HPU:=hid (ah5 hqV hp9);clear hqV hp9 Jo;have hal:∀vs,ai2 V.heap.size V (V.alloc (.cells vs 70)):=λvs=>af V _
     have ab5:∀vs,(V.alloc (.cells vs 70)).cell? ⟨g,la*2+1,none⟩=some (ai7 qo qn qc):=λvs=>by rw[(hal vs).cell hgV];exact hcV
     refine aT 0 hH ?_;try simp only[ax]
     refine aT 1 hH ?_;try simp only[ax]
     refine aT 2 hH ?_;try simp only[ax]
     refine aT 3 hH ?_;try simp only[ax]
     refine aT 5 hH ?_;try simp only[ax]
     refine wpAnyH_ready (rs:=[4,6]) (by kernel_rfl) (by simp) (aM rfl (λKK hK=>?_) (aM rfl (λKK hK=>?_) AllReadyH.nil));go_simp;clear hH;refine hK.o _ _ (aS.c3 (T:=70) UJ.o) λhH=>?_;clear hK KK
     try simp only[ax]
     refine ag 6 rfl (by kernel_rfl) (λKK hK=>?_);go_simp;clear hH;refine hK.o _ _ (aS.c3 (T:=70) (UJ.o.below (hal _))) λhH=>?_;clear hK KK
     try simp only[ax]
     rotate_left
     go_simp;clear hH;refine hK.o _ _ (aS.c3 (T:=70) (UJ.o.below (hal _))) λhH=>?_;clear hK KK
     try simp only[ax]
     refine ag 4 rfl (by kernel_rfl) (λKK hK=>?_);go_simp;clear hH;refine hK.o _ _ (aS.c3 (T:=70) (UJ.o.below (hal _))) λhH=>?_;clear hK KK
     try simp only[ax]
     all_goals
      clear ab5 hal;refine ag 7 rfl (by kernel_rfl) (λKK hK=>?_);refine wq rfl (.tmp 72) (.tmp 74) _ _ rfl rfl rfl Ni ?_;clear Ni;obtain⟨hq9,po8,pc8,rfl,hp1,hp2,hp3⟩:=HPU.o;clear HPU
      have hqg:eQ qo≠some g:=λe=>by
       obtain⟨X,h1,_⟩:=hq9;rcases h1.ex with⟨rfl,_⟩|⟨g',off,L',rfl,_,hA',_⟩
       ·cases e
       ·cases e;exact absurd (WE.o.2.1.dY.UI hA') (by decide)
      have hgb:g≠b7:=λe=>absurd ((e▸WE.o.2.1.dY:aS V b7 L _).UI UJ.o) (by decide)
      have Qw:=hid (UJ.o.apart hp2 λe=>Nat.lt_irrefl _ (HZB.o b7 e.symm));have hgr:W9.heap[g]? =V.heap[g]? :=hp2.block g hgV λe=>hqg e.symm
      have ab6:W9.cell? ⟨g,la*2+1,none⟩=some (ai7 qo qn qc):=by rw[ai8 (w:=V) hgr];exact hcV
      have ab7:W9.frozen? ⟨g,la*2+1,none⟩=false:=by rw[World.frozen?_of_block (w:=V) hgr];exact WE.o.2.1.dY.fz _
      have vq:Hid (jL w.heap.size K w (bs v (p.take (k+1))) (ai7 (some ⟨g,0,none⟩) (la+1) cc) (W9.setCell ⟨g,la*2+1,none⟩ (ai7 po8 (qn+1) pc8))):=by
       obtain⟨y1,y2,y3,y4⟩:=WE.o;refine⟨.inr ⟨by rw[y3];simp,g,cc,L.set (a1.length*2+1) (ai7 po8 (qn+1) pc8),?_⟩,(HBV.o.grown hp2 hbV λr h=>(hq9.lt r h).1).setCell y2.xU _⟩;rw[y3,<-y4];rw[<-y4]at y1 y2;exact y2.last y1 hq9 hp1 hp2 hp3
      clear hp1 hp2 hp3 hq9 hqg hgr WE;clear hH;refine hK.o _ _ (aS.c3 (T:=70) Qw.o) λhH=>?_;clear hK KK
      try simp only[ax]
      refine aT 8 hH ?_;try simp only[ax]
      refine aT 9 hH ?_;try simp only[ax]
      refine ag 10 rfl (by kernel_rfl) (λKK hK=>?_);go_simp;clear hH;refine hK.o _ _ (aS.c3 (T:=70) (Qw.o.ct (Below.heap_setCell _ _ _ _ (Ne.symm hgb)))) λhH=>?_;clear hK KK
      try simp only[ax]
      refine wpAnyH_done (by kernel_rfl) ?_ _
      clear hH ab6 ab7 hcV;go_wp2_with fail;go_roundw
      case rel=>exact⟨k+1,by go_num,by omega,vq.o⟩
      case measure=>simp[intOf];omega
  ·obtain rfl:k=n:=by omega
   have HR:Hid (∃x,u5=x/\ jL w.heap.size K w (bs v p) x wr):=by
    have h:=HS.o;rw[al1 (by rw[rK.o];exact an1 _)]at h;exact⟨_,rfl,h⟩
   clear HS;go_wp2_with fail;go_ret;obtain⟨x,rfl,h⟩:=HR.o;exact⟨_,rfl,h⟩
def ye (p:List ai) (μ δ:Nat->Int) (J:Nat):Prop:=(bY p:Int)*jU (dK p) μ 201*jU (dK p) δ 201<4294967296^J/\ jU (dK p) δ 201<4294967296^J
section
variable {ρ:Nat->Rat} {μ δ:Nat->Int} {p q:List ai} {J:Nat}
theorem ye.part (h:ye p μ δ J) (hμ:∀u,0<μ u) (hδ:∀u,0<δ u) (hd:∀u,dK q u<=dK p u) (hs:bY q<=bY p):ye q μ δ J:=by
 have a:=wN hd hμ 201;have b:=wN hd hδ 201;have a0:=kh hμ (dK q) 201;have b0:=kh hδ (dK q) 201;refine⟨ai9 ?_ h.1,ai9 b h.2⟩;have c:(bY q:Int)*jU (dK q) μ 201<=(bY p:Int)*jU (dK p) μ 201:=aj0 (by omega) a (by omega) (by omega);exact aj0 c b (by omega) (aj1 (by omega) (by omega))
theorem zz {a:Int} (h:0<a) {m n:Nat} (hm:m<=n):a^m<=a^n:=by
 obtain⟨c,rfl⟩:∃c,n=m+c:=⟨n-m,by omega⟩;rw[aj2];have h1:0<a^m:=aj3 h;have h2:0<a^c:=aj3 h;have:=aj4 (show 1<=a^c by omega) (show 0<=a^m by omega);omega
theorem Dc {x:Int} (h:(x.natAbs:Int)<4294967296^J):Bd x J:=by
 unfold Bd;apply aj5.1;rw[aj6];exact h
theorem Nq (hf:bD p) (hc:0<bA p) (hμ:∀u,0<μ u) (hδ:∀u,0<δ u) (hJ:ye p μ δ J) {S:Nat} {e x d:Int} {s:Rat} (hS:S<=bY p) (he:0<=e)
  (h:Hn (μ (bA p).toNat) (δ (bA p).toNat) (jU (sA p (bA p)) μ 201) (jU (sA p (bA p)) δ 201) (iN p (bA p)) S e s x d):Bd x J/\ Bd d J:=by
 have e1:=A8 hf μ hc;have e2:=A8 hf δ hc;have hn:=h.num;have hd:=h.den (kh hδ _ _) (hδ _);have hp:=h.TK;have m1:=zz (hμ (bA p).toNat) (show(iN p (bA p)-e).toNat<=(iN p (bA p)).toNat by omega);have m2:=zz (hδ (bA p).toNat) (show(iN p (bA p)-e).toNat<=(iN p (bA p)).toNat by omega);have l1:=kh hμ (sA p (bA p)) 201;have l2:=kh hδ (sA p (bA p)) 201
 have hd2:d<=jU (dK p) δ 201:=by
  rw[e2];exact aj7 hd (aj4 m2 (by omega))
 have p0:0<μ (bA p).toNat^(iN p (bA p)-e).toNat:=aj3 (hμ _)
 have hx:(S:Int)*jU (sA p (bA p)) μ 201*μ (bA p).toNat^(iN p (bA p)-e).toNat<=(bY p:Int)*jU (dK p) μ 201:=by
  rw[e1,<-Int.mul_assoc];exact aj0 (Int.mul_le_mul_of_nonneg_right (by omega) (by omega)) m1 (by omega) (aj1 (by omega) (by omega))
 have hE:=kh hμ (dK p) 201;have hx2:=aj7 hn (aj0 hx hd2 (by omega) (aj1 (by omega) (by omega)));exact⟨Dc (ai9 hx2 hJ.1),Dc (by have:=hJ.2;omega)⟩
theorem F6 (hf:bD p) (hc:0<bA p) (e:Int):bA (fQ p (bA p) e)<bA p:=by
 have hq:=zA hf (bA p) e;have hb:=nK hq;rcases Int.lt_or_le (bA (fQ p (bA p) e)) (bA p)with h|h
 ·exact h
 ·have h1:=yP hq (by omega);have h2:=Dd hf e (bA (fQ p (bA p) e)).toNat;unfold sA dK at h2;rw[show(((bA (fQ p (bA p) e)).toNat:Nat):Int)=bA (fQ p (bA p) e)by omega,if_neg (by omega)]at h2;omega
theorem Nr (e:Int) (v:Int) (u:Nat):dK (fQ p v e) u<=dK p u:=by
 have:=zB p v e u;split at this<;>omega
theorem Ns (v e:Int):bY (fQ p v e)<=bY p:=by
 have:=J8 v e p;omega
theorem oY (hf:bD p) (hn:p≠[]) (v:Int) (hv:bA p=v):0<(bs v p).length/\ ((bs v p).getD 0 (0,[])).1=iN p v/\∀i j,i<j->j<(bs v p).length->((bs v p).getD j (0,[])).1<((bs v p).getD i (0,[])).1:=by
 have hP:=tK (v:=v) hf λt ht=>by rw[<-hv];exact np hf ht
 have hd:∀i j,i<j->j<(bs v p).length->((bs v p).getD j (0,[])).1<((bs v p).getD i (0,[])).1:=λi j hij hj=>by
  have:=List.pairwise_iff_getElem.1 hP.down i j (by omega) hj hij;simpa[ak5,al0 hj,al0 (show i<(bs v p).length by omega)]using this
 obtain⟨t,ht,he⟩:=Nt (bG hf) hn v;obtain⟨g,hg,hge⟩:=hP.all t ht;obtain⟨j,hj,hjg⟩:=am2.1 hg;have hl:0<(bs v p).length:=by omega
 have hjv:((bs v p).getD j (0,[])).1=iN p v:=by simp[ak5,al0 hj,hjg,hge,he]
 refine⟨hl,?_,hd⟩;have h0:(bs v p).getD 0 (0,[])∈bs v p:=by simp[ak5,al0 hl]
 obtain⟨s,hs,hse⟩:=hP.some _ h0;have h1:=lL hs v;rcases an4 j with rfl|h2
 ·exact hjv
 ·have:=hd 0 j h2 hj;omega
structure Wl (ρ:Nat->Rat) (μ δ:Nat->Int) (p:List ai) (k:Nat) (e x d:Int):Prop where
 hn:Hn (μ (bA p).toNat) (δ (bA p).toNat) (jU (sA p (bA p)) μ 201) (jU (sA p (bA p)) δ 201) (iN p (bA p)) (ou ((bs (bA p) p).take k)) e (((bs (bA p) p).take k).foldl (lM ρ (bA p)) (0,iN p (bA p))).1 x d
 sd:(((bs (bA p) p).take k).foldl (lM ρ (bA p)) (0,iN p (bA p))).2=e
 e0:0<=e
 le:∀j,k<=j->j<(bs (bA p) p).length->((bs (bA p) p).getD j (0,[])).1<=e
theorem J9 (l:List (Int×List ai)) (k:Nat):ou (l.take k)<=ou l:=by
 have h:=mN (l.drop k) (l.take k);rw[List.take_append_drop]at h;omega
theorem Wl.bd {k:Nat} {e x d:Int} (h:Wl ρ μ δ p k e x d) (hf:bD p) (hc:0<bA p) (hμ:∀u,0<μ u) (hδ:∀u,0<δ u) (hJ:ye p μ δ J):Bd x J/\ Bd d J:=
 Nq hf hc hμ hδ hJ (by have:=J9 (bs (bA p) p) k;rw[wO]at this;exact this) h.e0 h.hn
theorem Wl.start (hf:bD p) (hn:p≠[]):Wl ρ μ δ p 0 (iN p (bA p)) 0 1:=by
 obtain⟨h1,h2,h3⟩:=oY hf hn _ rfl;refine⟨Hn.start _ _ _ _ _,rfl,tL _ _,λj _ hj=>?_⟩;rcases an4 j with rfl|h4
 ·omega
 ·have:=h3 0 j h4 hj;omega
theorem zC (hf:bD p) {k:Nat} (hk:k<(bs (bA p) p).length):((bs (bA p) p).getD k (0,[])).2=fQ p (bA p) ((bs (bA p) p).getD k (0,[])).1/\ 0<=((bs (bA p) p).getD k (0,[])).1:=by
 have hP:=tK (v:=bA p) hf λt ht=>np hf ht
 have h0:(bs (bA p) p).getD k (0,[])∈bs (bA p) p:=by simp[ak5,al0 hk]
 obtain⟨s,hs,hse⟩:=hP.some _ h0;exact⟨(hP.Q9 _ h0).1,by rw[<-hse];exact(eE (bG hf _ hs) _).1⟩
theorem Wl.next {k:Nat} {e x d:Int} (h:Wl ρ μ δ p k e x d) (hf:bD p) (hμ:∀u,0<μ u) (hδ:∀u,0<δ u) (hle:∀u,Le (ρ u) (μ u)) (hk:k<(bs (bA p) p).length) {ν:Int} (hr:ao8 ν (δ (bA p).toNat)=ρ (bA p).toNat) {e1:Int} {q1:List ai} (hg:(bs (bA p) p).getD k (0,[])=(e1,q1)) {y c:Int} (h0:0<c) (ht:ao8 y c=rv ρ q1) (hd:c ∣ jU (dK q1) δ 201) {N:Nat} (hN:(N:Int)=e-e1):
  Wl ρ μ δ p (k+1) e1 (x*ν^N*c.tdiv ((aj8 (d*δ (bA p).toNat^N) c:Nat):Int)+y*(d*δ (bA p).toNat^N).tdiv ((aj8 (d*δ (bA p).toNat^N) c:Nat):Int)) (d*δ (bA p).toNat^N*c.tdiv ((aj8 (d*δ (bA p).toNat^N) c:Nat):Int)):=by
 have hpc:=zC hf hk;rw[hg]at hpc;obtain⟨hq,he1⟩:=hpc;simp only at hq he1;have hle1:=h.le k (an1 _) hk;rw[hg]at hle1;have hNe:N=(e-e1).toNat:=by omega
 have tk:(bs (bA p) p).take (k+1)=(bs (bA p) p).take k++[(e1,q1)]:=by
  rw[al9 hk,<-hg];simp[ak5,al0 hk]
 have h1:=h.hn.Ao (hδ _) hr (hle _) (e1:=e1) hle1;rw[<-hNe]at h1;have hdl:∀u,dK q1 u<=sA p (bA p) u:=λu=>by rw[hq];exact Dd hf e1 u
 have h2:=h1.ae7 (k:=bY q1) h0 ht (Int.dvd_trans hd (Ba hdl δ 201)) (aj9 (kh hμ _ _)) (hμ _) (Tm hle hμ _ λt ht u=>an5 (Nu ht u) (hdl u));refine⟨?_,?_,he1,λj hj hjl=>?_⟩
 ·rw[tk,am3,mN];simp only[al5,List.foldl_nil,lM,ou,an6];rw[h.sd,<-hNe];exact h2
 ·rw[tk,am3];rfl
 ·have hp:=(oY hf (λhp=>by rw[hp]at hk;simp[bs]at hk) _ rfl).2.2 k j (by omega) hjl;rw[hg]at hp;omega
theorem Wl.last {e x d:Int} (h:Wl ρ μ δ p (bs (bA p) p).length e x d) (hf:bD p) (hc:0<bA p) (hμ:∀u,0<μ u) (hδ:∀u,0<δ u) (hle:∀u,Le (ρ u) (μ u)) (hJ:ye p μ δ J) {ν:Int} (hr:ao8 ν (δ (bA p).toNat)=ρ (bA p).toNat) {N:Nat} (hN:(N:Int)=e):
  ao8 (x*ν^N) (d*δ (bA p).toNat^N)=rv ρ p/\ 0<d*δ (bA p).toNat^N/\ d*δ (bA p).toNat^N ∣ jU (dK p) δ 201/\ Bd (x*ν^N) J/\ Bd (d*δ (bA p).toNat^N) J:=by
 have h0:=h.e0;have h1:=h.hn.Ao (hδ _) hr (hle _) (e1:=0) h0;rw[show(e-0).toNat=N by omega]at h1;have hb:=Nq hf hc hμ hδ hJ (by rw[am4,wO];exact an1 _) (ak0 0) h1;have hP:=tK (v:=bA p) hf λt ht=>np hf ht
 have hbd:=nK hf;refine⟨?_,h1.TK,?_,hb⟩
 ·rw[h1.au,am4]
  have h2:=uB ρ (bA p) (bs (bA p) p) (0,iN p (bA p)) hP.down (λg hg=>by
   obtain⟨s,hs,hse⟩:=hP.some g hg;rw[<-hse];exact⟨(eE (bG hf _ hs) _).1,lL hs _⟩) (tL _ _)
  have h3:=h.sd;rw[am4]at h3;rw[h3,show e.toNat=N by omega,F7 ρ ⟨by omega,hbd.2⟩ (bG hf)]at h2;rw[h2]
  grind
 ·have:=h1.dvd;rwa[show(iN p (bA p)-0).toNat=(iN p (bA p)).toNat by omega,<-A8 hf δ hc]at this
end
open Lib (hid)
structure Qp [Ol] (w:ah6) (ao:Option Addr) (n ae:Nat) (ρ:Nat->Rat) (δ:Nat->Int) (j:Nat):Prop where
 ex:∃bF,Gl 4 w ao n ae bF/\∀i,i<n->∃m a k c m2 a2 k2 c2 x,bF.getD i []=[ai6 m,ai7 a k c,ai6 m2,ai7 a2 k2 c2]/\ Rx w m a k c m2 a2 k2 c2 x (δ (i+1)) (ρ (i+1)) j/\ ao8 x (δ (i+1))=ρ (i+1)
theorem Rx.aW {w w':ah6} {m:Bool} {ao:Z'} {n ae:Nat} {k:Bool} {bo:Z'} {l cb:Nat} {x d:Int} {q:Rat} {j:Nat} (h:Rx w m ao n ae k bo l cb x d q j) (hb:ai2 w.heap.size w w'):Rx w' m ao n ae k bo l cb x d q j:=⟨h.num.below hb,h.den.below hb,h.au,h.bn,h.bd⟩
theorem Qp.below [Ol] {w w':ah6} {ao:Z'} {n ae:Nat} {ρ:Nat->Rat} {δ:Nat->Int} {j:Nat} (h:Qp w ao n ae ρ δ j) (hb:ai2 w.heap.size w w'):Qp w' ao n ae ρ δ j:=by
 obtain⟨bF,h1,h2⟩:=h.ex;refine⟨bF,h1.below hb,λi hi=>?_⟩;obtain⟨m,a,k,c,m2,a2,k2,c2,x,h3,h4,h5⟩:=h2 i hi;exact⟨m,a,k,c,m2,a2,k2,c2,x,h3,h4.aW hb,h5⟩
theorem Qp.dY [Ol] {w:ah6} {ao:Z'} {n ae:Nat} {ρ:Nat->Rat} {δ:Nat->Int} {j:Nat} (h:Qp w ao n ae ρ δ j) {i:Nat} (hi:i<n):∃b off m a k c m2 a2 k2 c2 x,ao=some ⟨b,off,none⟩/\ b<w.heap.size/\ (∀V:ah6,ai2 w.heap.size w V->V.cell? ⟨b,off+i*4,none⟩=some (ai6 m)/\ V.cell? ⟨b,off+i*4+1,none⟩=some (ai7 a k c)/\ V.cell? ⟨b,off+i*4+2,none⟩=some (ai6 m2)/\ V.cell? ⟨b,off+i*4+3,none⟩=some (ai7 a2 k2 c2))/\ Rx w m a k c m2 a2 k2 c2 x (δ (i+1)) (ρ (i+1)) j/\ ao8 x (δ (i+1))=ρ (i+1):=by
 obtain⟨bF,h1,h2⟩:=h.ex;obtain⟨m,a,k,c,m2,a2,k2,c2,x,h3,h4,h5⟩:=h2 i hi;obtain⟨b,off,e1,e2,e3⟩:=h1.at (by omega);refine⟨b,off,m,a,k,c,m2,a2,k2,c2,x,e1,e2,λV hV=>?_,h4,h5⟩;have f:=e3 V hV i hi;rw[h3]at f;exact⟨by simpa using f 0 (by omega),by simpa using f 1 (by omega),by simpa using f 2 (by omega),by simpa using f 3 (by omega)⟩
theorem aS.q4 {w:ah6} {b:Nat} {v0 v1 v2 v3:ah7} {T:TypeId} (h:aS w b [v0,v1,v2,v3] T):w.cell? ⟨b,0,none⟩=some v0/\ w.cell? ⟨b,1,none⟩=some v1/\ w.cell? ⟨b,2,none⟩=some v2/\ w.cell? ⟨b,3,none⟩=some v3:=⟨h.cell 0,h.cell 1,h.cell 2,h.cell 3⟩
theorem aS.r4 {w:ah6} {b:Nat} {vs:List ah7} {T:TypeId} (h:aS w b vs T):w.frozen? ⟨b,0,none⟩=false/\ w.frozen? ⟨b,1,none⟩=false/\ w.frozen? ⟨b,2,none⟩=false/\ w.frozen? ⟨b,3,none⟩=false:=⟨h.fz 0,h.fz 1,h.fz 2,h.fz 3⟩
theorem qf (m:Bool) (a:Z') (n c:Nat) (k:Bool) (b:Z') (l d:Nat):LA [ai6 m,ai7 a n c,ai6 k,ai7 b l d]:=by
 refine⟨λu hu=>?_,λj x y hx hy=>?_⟩
 ·simp at hu;rcases hu with rfl|rfl|rfl|rfl<;>rfl
 ·match j,hx,hy with
  |0,hx,hy=>cases hx;cases hy;exact⟨.inl rfl,rfl⟩
  |1,hx,hy=>cases hx;cases hy;exact⟨.inl rfl,rfl⟩
  |2,hx,hy=>cases hx;cases hy;exact⟨.inl rfl,rfl⟩
  |3,hx,hy=>simp at hy
  |j+4,hx,hy=>simp at hx
theorem kV.gu [Ol] {B K:Nat} {w w':ah6} {v:ah7} {acc:List (Int×List ai)} {g ae:Nat} {L:List ah7} {b:Nat} (h:kV B K w v acc g ae L) (hF:ot w w' b) (hb:b<B):kV B K w' v acc g ae L:=
 ⟨h.v,h.xU,h.dY.apart hF.g λe=>by have:=h.xU;have:=ao7 e;omega,h.yb,h.room,h.fit,h.big,h.pts.ct (λ_ _=>rfl) λ_ _ _ _ h1 _=>h1.gu hF λr hr e=>by have:=(h1.lt r hr).1;omega⟩
theorem Cb.gu {w w':ah6} {m:Bool} {ao:Z'} {n ae:Nat} {z:Int} {k b:Nat} (h:Cb w m ao n ae z k) (hF:ot w w' b):Cb w' m ao n ae z k:=⟨⟨h.cx.cn.gu hF,h.cx.le⟩,h.bd⟩
theorem Cb.aW {w w':ah6} {m:Bool} {ao:Z'} {n ae:Nat} {z:Int} {k:Nat} (h:Cb w m ao n ae z k) (hb:ai2 w.heap.size w w'):Cb w' m ao n ae z k:=⟨⟨h.cx.cn.below hb,h.cx.le⟩,h.bd⟩
theorem oZ {w:ah6} {m:Bool} {ao:Z'} {n ae:Nat} {k:Bool} {bo:Z'} {l cb:Nat} {x d:Int} {j:Nat} (h1:Cb w m ao n ae x j) (h2:Cb w k bo l cb d j):Rx w m ao n ae k bo l cb x d (qv x d) j:=⟨h1.cx.nx,h2.cx.nx,rfl,h1.bd,h2.bd⟩
def Nv (w:ah6) (q:Rat) (D:Int) (J:Nat) (e:Ending) (w':ah6):Prop:=∃x d,De w x d J e w'/\ 0<d/\ ao8 x d=q/\ d ∣ D
def vz [Ol] (ρ:Nat->Rat) (μ δ:Nat->Int) (K J j:Nat) (po:Option Addr) (pn pc:Nat) (C:Nat):Prop:=
 ∀{ao:Option Addr} {n ae:Nat} {p:List ai} {w:ah6},C<=pn->Pc K w ao n ae p->bD p->bA p<=C->(∀u,dK p u<=999)->n<=100000->Qp w po pn pc ρ δ j->ye p μ δ J->
  Calls Tryz.prog 95 #[ai7 ao n ae,ai7 po pn pc] w (Nv w (rv ρ p) (jU (dK p) δ 201) J)
theorem Ka {w:ah6} {b:Nat} {v0 v1 v2 v3:ah7} {T:TypeId} (h:aS w b [v0,v1,v2,v3] T) (hs:LA [v0,v1,v2,v3]) (u0 u1 u2 u3:ah7):
  ot w ((((w.setCell ⟨b,0,none⟩ u0).setCell ⟨b,1,none⟩ u1).setCell ⟨b,2,none⟩ u2).setCell ⟨b,3,none⟩ u3) b/\ aS ((((w.setCell ⟨b,0,none⟩ u0).setCell ⟨b,1,none⟩ u1).setCell ⟨b,2,none⟩ u2).setCell ⟨b,3,none⟩ u3) b [u0,u1,u2,u3] T:=
 ⟨⟨⟨_,_,h,hs⟩,cD (cD (cD (br _ _ _ _) (br _ _ _ _)) (br _ _ _ _)) (br _ _ _ _)⟩,(((h.set 0 u0).set 1 u1).set 2 u2).set 3 u3⟩
theorem gi {B:Nat} {w0 w:ah6} (h:ai2 B w0 w) {b:Nat} (hb:B<=b) (u0 u1 u2 u3:ah7):ai2 B w0 ((((w.setCell ⟨b,0,none⟩ u0).setCell ⟨b,1,none⟩ u1).setCell ⟨b,2,none⟩ u2).setCell ⟨b,3,none⟩ u3):=(((h.setCell hb u0).setCell hb u1).setCell hb u2).setCell hb u3
theorem Nw {p:List ai} (hf:bD p) (hn:p≠[]) (hc:bA p=0):∃c,p=[(c,[])]:=by
 have h:=Kb hf hc
 match p,hf,hn,h with
 |[(c,m)],_,_,h=>exact⟨c,by have:=h (c,m) (by simp);simp at this;rw[this]⟩
 |(c,m)::(d,k)::r,hf,_,h=>
  have h1:=h (c,m) (by simp);have h2:=h (d,k) (by simp);have h3:=hf.2.2.1 (d,k) (by simp);simp only at h1 h2 h3;rw[h1,h2]at h3;exact(qT h3).elim
theorem Ip (c:Int):(qv c 0).num=c/\ ((qv c 0).den:Int)=1:=by
 have h:=YM (n:=c) (d:=1) (by omega) (by simp);rw[gY,Iq rfl];exact⟨h.1,by rw[show(ao8 c 1).den=1 from h.2];rfl⟩
theorem UK (ρ:Nat->Rat) (c:Int):rv ρ [(c,[])]=ao8 c 1:=by
 rw[Df];show(c:Rat)*rM ρ []+0=c;rw[UL]
 grind
theorem F8 [Ol] {ρ:Nat->Rat} {μ δ:Nat->Int} {K J j:Nat} {po:Z'} {pn pc:Nat} (hμ:∀u,0<μ u) (hδ:∀u,0<δ u) (hle:∀u,Le (ρ u) (μ u)) (hK:1<=K/\ K<=J/\ J<=30000/\ 1<=j/\ j<=30) (C:Nat) (IH:∀C',C'<C->vz ρ μ δ K J j po pn pc C'):vz ρ μ δ K J j po pn pc C:=by
 intro ao n ae p w hC hp hf hcl hdg hn hq hJ;have HP:=hid hp;have rK:Hid (p.length=n):=hp.len;have HQ:=hid hq;have HG:=hid (ah5 hf (ah5 hcl (ah5 hdg hJ)));have HI:=hid IH;have HL:=hid (ah5 hμ (ah5 hδ hle));clear hp hf hcl hdg hq hJ IH hμ hδ hle;go_enter Tryz.func95,Tryz.ntmps95;obtain⟨b4,hb4⟩:∃b4,b4=w.heap.size:=⟨_,rfl⟩;go_upto_region 1 with(fail)
 refine aj (λW0 hW=>?_);have a0:aS W0 b4 [ai6 false,ai7 none 0 0,ai6 false,ai7 none 0 0] 31/\ ai2 w.heap.size w W0:=by rw[hW,hb4];exact gp w _ 31
 rw[<-hb4];have hbw:w.heap.size<=b4:=by omega
 clear hW hb4;go_wp2_with fail;refine(wP (j:=1) (ny W0).nx (show Bd 0 1 by unfold Bd;decide) (an1 _) (by omega)).mono ?_;rintro e w1 ⟨m1,a1,n1,c1,k1,d1,l1,e1,rfl,hX,hB⟩
 have HX:Hid (Cb w1 m1 a1 n1 c1 0 J/\ Cb w1 k1 d1 l1 e1 1 J):=by
  have e0:=Ip 0;have x1:=hX.num;have x2:=hX.den;rw[e0.1]at x1;rw[e0.2]at x2;exact⟨⟨x1,(show Bd 0 1 by unfold Bd;decide).mono (by omega)⟩,⟨x2,(show Bd 1 1 by unfold Bd;decide).mono (by omega)⟩⟩
 obtain⟨b5,hb5⟩:∃b5,b5=w1.heap.size:=⟨_,rfl⟩;go_upto_region 2 with(fail)
 refine aj (λW2 hW=>?_);have a2:aS W2 b5 [ai6 m1,ai7 a1 n1 c1,ai6 k1,ai7 d1 l1 e1] 31/\ ai2 w1.heap.size w1 W2:=by rw[hW,hb5];exact gp w1 _ 31
 rw[<-hb5];have hbb:b4<b5:=by have:=a0.1.lt;have:=hB.size;omega
 have HS:Hid (aS W2 b5 [ai6 m1,ai7 a1 n1 c1,ai6 k1,ai7 d1 l1 e1] 31/\ aS W2 b4 [ai6 false,ai7 none 0 0,ai6 false,ai7 none 0 0] 31/\ Cb W2 m1 a1 n1 c1 0 J/\ Cb W2 k1 d1 l1 e1 1 J/\ ai2 w.heap.size w W2):=
  ⟨a2.1,(a0.1.below hB).below a2.2,HX.o.1.aW a2.2,HX.o.2.aW a2.2,Below.ar (Below.ar a0.2 hB) a2.2⟩
 have UM:b5<W2.heap.size:=a2.1.lt;clear hW hb5 a2 a0 hX hB HX;by_cases hn0:n=0
 ·subst hn0;obtain⟨c0,c1',c2,c3⟩:=HS.o.1.q4;obtain⟨f0,f1,f2,f3⟩:=HS.o.2.1.q4;obtain⟨g0,g1,g2,g3⟩:=HS.o.2.1.r4;go_wp2_with fail;refine bodyPost_ret (v:= .agg #[ai6 m1,ai7 a1 n1 c1,ai6 k1,ai7 d1 l1 e1]) (by simp[results,Tryz.results95,go_sem,f0,f1,f2,f3]) rfl ?_;have Dh:=Ka HS.o.2.1 (qf _ _ _ _ _ _ _ _) (ai6 m1) (ai7 a1 n1 c1) (ai6 k1) (ai7 d1 l1 e1);have hp0:p=[]:=List.eq_nil_of_length_eq_zero rK.o;exact⟨0,1,⟨_,_,_,_,_,_,_,_,rfl,HS.o.2.2.1.gu Dh.1,HS.o.2.2.2.1.gu Dh.1,gi HS.o.2.2.2.2 hbw _ _ _ _⟩,by decide,by rw[hp0];show ao8 0 1=0;decide+kernel,ak1 _⟩
 ·obtain⟨b,off,xm,xa,xn,xc,xp,xq,xr,yx,hbl,hc,rL,hBd,lZ⟩:=HP.o.at (k:=0) (by omega);subst yx;rw[Nat.zero_mul,an6]at hc;obtain⟨x0,x1,x2⟩:=hc W2 HS.o.2.2.2.2;have hpn:p≠[]:=λe=>by have:=rK.o;rw[e]at this;simp at this;omega
  have HM:Hid (Ml W2 xp xq xr (p.getD 0 (0,[])).2/\ fU (ET (p.getD 0 (0,[])).2)=bA p):=by
   refine⟨lZ.below HS.o.2.2.2.2,?_⟩;have hf:=HG.o.1;cases p with
   |nil=>exact absurd rfl hpn
   |cons t r=>show fU (ET t.2)=fU t.2;rw[qg hf.2.1]
  have HN:=hid hpn;have HC0:Hid (∀V,ai2 w.heap.size w V->Cn V xm xa xn xc (p.getD 0 (0,[])).1):=λV hV=>rL.below hV
  have AO:=hid hBd;have Tb:=hid hc;have hd:((n:Int)==0)=false:=by simpa using(show¬(n:Int)=0 by omega)
  have hzz:bA p=0∨ ∃vn:Nat,bA p=(vn:Int)+1:=by
   have:=(nK HG.o.1).1;rcases Int.lt_or_eq_of_le this with h|h
   ·exact .inr ⟨(bA p-1).toNat,by omega⟩
   ·exact .inl h.symm
  clear hc rL hBd lZ hpn;rcases hzz with hz|⟨vn,hz⟩
  ·rw[hz]at HM;have HZ:=hid hz;clear hz;go_wp2_with fail;refine(tM HM.o.1 0 HM.o.2).mono ?_;rintro e w3 ⟨rfl,hB⟩;clear hd x0 x1 x2;have uS:Hid (aS w3 b4 [ai6 false,ai7 none 0 0,ai6 false,ai7 none 0 0] 31/\ ai2 w.heap.size w w3):=⟨HS.o.2.1.below hB,Below.ar HS.o.2.2.2.2 hB⟩;clear hB HS HM UM;obtain⟨x0,x1,x2⟩:=Tb.o w3 uS.o.2;go_wp2_with fail;refine(wP (j:=K) ((HC0.o w3 uS.o.2).cx AO.o (by omega)).nx AO.o (by omega) (by omega)).mono ?_;rintro e w4 ⟨m2,a2,n2,c2,k2,d2,l2,e2,rfl,hX,hB⟩;have h4:=uS.o.1.below hB;have HX:=hid hX;have HB:=hid (Below.ar uS.o.2 hB);have H4:=hid h4;obtain⟨f0,f1,f2,f3⟩:=h4.q4;obtain⟨g0,g1,g2,g3⟩:=h4.r4;clear hX hB h4 x0 x1 x2;go_wp2_with fail;refine bodyPost_ret (v:= .agg #[ai6 m2,ai7 a2 n2 c2,ai6 k2,ai7 d2 l2 e2]) (by simp[results,Tryz.results95,go_sem,f0,f1,f2,f3]) rfl ?_;have Dh:=Ka H4.o (qf _ _ _ _ _ _ _ _) (ai6 m2) (ai7 a2 n2 c2) (ai6 k2) (ai7 d2 l2 e2);obtain⟨c,hc⟩:=Nw HG.o.1 HN.o HZ.o;subst hc;have e0:=Ip c;have x1:Cx w4 m2 a2 n2 c2 (qv c 0).num:=HX.o.num;have x2:Cx w4 k2 d2 l2 e2 ((qv c 0).den:Int):=HX.o.den;rw[e0.1]at x1;rw[e0.2]at x2;have hbc:Bd c K:=AO.o;have y1:Cb w4 m2 a2 n2 c2 c J:=⟨x1,hbc.mono (by omega)⟩;have y2:Cb w4 k2 d2 l2 e2 1 J:=⟨x2,(show Bd 1 1 by unfold Bd;decide).mono (by omega)⟩;exact⟨c,1,⟨_,_,_,_,_,_,_,_,rfl,y1.gu Dh.1,y2.gu Dh.1,gi HB.o hbw _ _ _ _⟩,by decide,(UK ρ c).symm,ak1 _⟩
  ·rw[hz]at HM;have HZ:=hid hz;have hvp:vn<pn:=by have:=HG.o.2.1;omega
   clear hz;go_wp2_with fail;refine(tM HM.o.1 ((vn:Int)+1) HM.o.2).mono ?_;rintro e w3 ⟨rfl,hB⟩;clear hd x0 x1 x2
   have uS:Hid (aS w3 b5 [ai6 m1,ai7 a1 n1 c1,ai6 k1,ai7 d1 l1 e1] 31/\ aS w3 b4 [ai6 false,ai7 none 0 0,ai6 false,ai7 none 0 0] 31/\ Cb w3 m1 a1 n1 c1 0 J/\ Cb w3 k1 d1 l1 e1 1 J/\ ai2 w.heap.size w w3):=
    ⟨HS.o.1.below hB,HS.o.2.1.below hB,HS.o.2.2.1.aW hB,HS.o.2.2.2.1.aW hB,Below.ar HS.o.2.2.2.2 hB⟩
   have ab8:b5<w3.heap.size:=am8 UM hB.size;clear hB HS HM UM;have hvz:((vn:Int)+1==0)=false:=by simp;omega
   go_wp2_with fail;refine(F5 ((vn:Int)+1) (HP.o.below uS.o.2.2.2.2) HG.o.1 (λt ht=>by rw[<-HZ.o];exact np HG.o.1 ht) (by omega)).mono ?_;rintro e w4 ⟨x,rfl,hP⟩;have hpf:=oY HG.o.1 HN.o _ HZ.o;have hB4:ai2 w3.heap.size w3 w4:=hP.2;rcases hP.1 with⟨h,_⟩|⟨_,g,cc,L,hR⟩
   ·rw[h]at hpf;exact absurd hpf.1 (by simp)
   ·obtain⟨M,hM⟩:∃M,M=(bs ((vn:Int)+1) p).length:=⟨_,rfl⟩;have hx:=hR.v;rw[<-hM]at hx;subst hx;obtain⟨E0,hE0⟩:∃E0,iN p ((vn:Int)+1)=E0:=⟨_,rfl⟩;have hM0:0<M:=by omega
    have hM9:M<=100000:=by
     have h9:(bs ((vn:Int)+1) p).length<=0+p.length:=rh ((vn:Int)+1) p [];rw[rK.o]at h9;omega
    have hc0:w4.cell? ⟨g,0,none⟩=some (.int .i64 E0):=by
     obtain⟨_,_,_,h1,_⟩:=hR.pts.1 0 (by omega);rw[hpf.2.1,hE0]at h1;rw[hR.dY.cell];exact h1
    have EL:=hid hM
    have jR:Hid (aS w4 b5 [ai6 m1,ai7 a1 n1 c1,ai6 k1,ai7 d1 l1 e1] 31/\ aS w4 b4 [ai6 false,ai7 none 0 0,ai6 false,ai7 none 0 0] 31/\ Cb w4 m1 a1 n1 c1 0 J/\ Cb w4 k1 d1 l1 e1 1 J/\ kV w3.heap.size K w4 (ai7 (some ⟨g,0,none⟩) M cc) (bs ((vn:Int)+1) p) g cc L/\ ai2 w.heap.size w w4):=by
     obtain⟨h1,h2,h3,h4,h5⟩:=uS.o;exact⟨h1.below hB4,h2.below hB4,h3.aW hB4,h4.aW hB4,hR,Below.ar h5 hB4⟩
    have HW0:Hid (Wl ρ μ δ p 0 E0 0 1):=by
     have:=Wl.start (ρ:=ρ) (μ:=μ) (δ:=δ) HG.o.1 HN.o;rw[HZ.o,hE0]at this;exact this
    clear hP hR hpf hB4 uS hM hE0 HC0 Tb AO;have hMi:(0:Int)<(M:Int):=by omega
    go_wp2_with fail;clear hc0 hMi hvz;go_loopw [8,38] (λex i wr=>∃(k:Nat) (E x d:Int) (m1:Bool) (a1:Option Addr) (n1 c1:Nat) (k1:Bool) (d1:Option Addr) (l1 e1:Nat),i= .int .i64 k/\ ex= .int .i64 E/\ k<=M/\ Hid (aS wr b5 [ai6 m1,ai7 a1 n1 c1,ai6 k1,ai7 d1 l1 e1] 31/\ aS wr b4 [ai6 false,ai7 none 0 0,ai6 false,ai7 none 0 0] 31/\ Cb wr m1 a1 n1 c1 x J/\ Cb wr k1 d1 l1 e1 d J/\ kV w3.heap.size K wr (ai7 (some ⟨g,0,none⟩) M cc) (bs ((vn:Int)+1) p) g cc L/\ ai2 w.heap.size w wr)/\ Hid (Wl ρ μ δ p k E x d)) (λ_ i _=>M-(intOf i).toNat)
    case atStart=>exact⟨0,E0,0,1,_,_,_,_,_,_,_,_,rfl,rfl,an3 _,jR.o,HW0.o⟩
    case round=>
     clear jR HW0;obtain⟨k,E,x,d,m1,a1,n1,c1,k1,d1,l1,e1,rfl,rfl,hk,HS,HW⟩:=hrel;obtain⟨pb,pf,pm,pa,pk,pcc,pm2,pa2,pk2,pc2,ν,hpo,hpl,hpc,hpr,hpv⟩:=HQ.o.dY hvp;subst hpo;have QE:Hid (∀V,ai2 w.heap.size w V->Rx V pm pa pk pcc pm2 pa2 pk2 pc2 ν (δ (vn+1)) (ρ (vn+1)) j):=λV hV=>hpr.aW hV
     have WG:Hid (ao8 ν (δ (bA p).toNat)=ρ (bA p).toNat/\ Bd ν j/\ Bd (δ (vn+1)) j):=⟨by rw[HZ.o,show((vn:Int)+1).toNat=vn+1 by omega];exact hpv,hpr.bn,hpr.bd⟩;have Ra:=hid hpc;clear hpr hpv hpc
     have hEd:0<=E/\ E<=999:=by
      have h1:=HW.o.e0;have h2:=HW.o.hn.le;have h3:=HG.o.2.2.1 (vn+1);rw[HZ.o]at h2;unfold dK at h3;rw[show((vn+1:Nat):Int)=(vn:Int)+1 by omega]at h3;omega
     have hv0:(0:Int)<=(vn:Int):=by omega
     have hv1:(vn:Int)<(pn:Int):=by omega
     have hvb: -9223372036854775808<=(vn:Int)/\ (vn:Int)<=9223372036854775807:=by
      have:=(nK HG.o.1).2;rw[HZ.o]at this;omega
     have HVW:Hid (ah9.wrap ((vn:Int)+1-1)=(vn:Int)/\ wrap64 (vn:Int)=(vn:Int)/\ ah9.wrap (vn:Int)=(vn:Int)):=⟨by rw[show(vn:Int)+1-1=vn by omega];exact ai0 _ hvb,ai1 _ hvb,ai0 _ hvb⟩;clear hvb;by_cases hkM:k<M
     ·obtain⟨qo,qn,qc,h1,h2,h3⟩:=HS.o.2.2.2.2.1.pts.1 k (by rw[<-EL.o];exact hkM);obtain⟨⟨f1,q1⟩,hg⟩:∃y,(bs ((vn:Int)+1) p).getD k (0,[])=y:=⟨_,rfl⟩;rw[hg]at h1 h3;have ab9:wr.cell? ⟨g,k*2,none⟩=some (.int .i64 f1):=by rw[HS.o.2.2.2.2.1.dY.cell];exact h1
      have ac0:wr.cell? ⟨g,k*2+1,none⟩=some (ai7 qo qn qc):=by rw[HS.o.2.2.2.2.1.dY.cell];exact h2
      have hkl:k<(bs (bA p) p).length:=by rw[HZ.o,<-EL.o];exact hkM
      have hg2:(bs (bA p) p).getD k (0,[])=(f1,q1):=by rw[HZ.o];exact hg
      have hpq:=zC HG.o.1 hkl;rw[hg2]at hpq;have hfe:=HW.o.le k (an1 _) hkl;rw[hg2]at hfe;obtain⟨hq1,hf0⟩:=hpq;simp only at hq1 hf0 hfe;obtain⟨N,hN⟩:∃N:Nat,(N:Int)=E-f1:=⟨(E-f1).toNat,by omega⟩
      have HNW:Hid (ah9.wrap (E-f1)=(N:Int)/\ wrap64 (E-f1)=(N:Int)):=by
       rw[Hid,hN];exact⟨ai0 _ ⟨by omega,by omega⟩,ai1 _ ⟨by omega,by omega⟩⟩
      have hN9:N<=999:=by omega
      have aL:=hid (ah5 hkl (ah5 hg2 (ah5 hq1 hN)))
      have WH:qn<=100000:=by
       have h4:=wM ((vn:Int)+1) n p [] (λg h=>by cases h) (by rw[rK.o];exact an1 _) (f1,q1) (by rw[<-hg];exact gK _ (show k<(bs ((vn:Int)+1) p).length by rw[<-EL.o];exact hkM));have h5:q1.length=qn:=h3.len;simp only at h4;omega
      have HIH:Hid (∀V,Pc K V qo qn qc q1->ai2 w.heap.size w V->Calls Tryz.prog 95 #[ai7 qo qn qc,ai7 (some ⟨pb,pf,none⟩) pn pc] V (Nv V (rv ρ q1) (jU (dK q1) δ 201) J)):=λV hP hV=>by
       have hlw:=F6 HG.o.1 (by rw[HZ.o];omega) f1;rw[<-hq1]at hlw;have Di:bD q1:=by rw[hq1];exact zA HG.o.1 _ _
       have hcq:=(nK Di).1;have hdq:∀u,dK q1 u<=dK p u:=λu=>by rw[hq1];exact Nr _ _ u
       have hcl:=HG.o.2.1;exact(HI.o (bA q1).toNat (by omega)) (by omega) hP Di (by omega) (λu=>an5 (hdq u) (HG.o.2.2.1 u)) WH (HQ.o.below hV) (HG.o.2.2.2.part HL.o.1 HL.o.2.1 hdq (by rw[hq1];exact Ns _ _))
      have hki:(k:Int)<(M:Int):=by omega
      clear h1 h2 hg hkl hg2 hq1 hfe hN;go_upto_region 12 with(fail)
      clear ab9 ac0;obtain⟨b10,Kc⟩:∃b,b=wr.heap.size:=⟨_,rfl⟩;refine aj (λW5 hW=>?_);have Rb:aS W5 b10 [.int .i64 f1,ai7 qo qn qc] 199/\ ai2 wr.heap.size wr W5:=by rw[hW,Kc];exact gp wr _ 199
      rw[<-Kc];clear hW Kc;have PT:=hid (h3.pc.below Rb.2)
      have iy:Hid (aS W5 b5 [ai6 m1,ai7 a1 n1 c1,ai6 k1,ai7 d1 l1 e1] 31/\ aS W5 b4 [ai6 false,ai7 none 0 0,ai6 false,ai7 none 0 0] 31/\ Cb W5 m1 a1 n1 c1 x J/\ Cb W5 k1 d1 l1 e1 d J/\ kV w3.heap.size K W5 (ai7 (some ⟨g,0,none⟩) M cc) (bs ((vn:Int)+1) p) g cc L/\ ai2 w.heap.size w W5):=by
       obtain⟨y1,y2,y3,y4,y5,y6⟩:=HS.o;exact⟨y1.below Rb.2,y2.below Rb.2,y3.aW Rb.2,y4.aW Rb.2,y5.below Rb.2,Below.ar y6 Rb.2⟩
      have H10:=hid Rb.1;clear h3 Rb HS;have dr:=(ai3 W5.heap.size W5).drew;refine wp_region_held_drew (S:=λw'=>(w'.cell? ⟨b10,0,none⟩=some (.int .i64 f1)/\ w'.cell? ⟨b10,1,none⟩=some (ai7 qo qn qc))/\ w'.cell? ⟨pb,pf+vn*4,none⟩=some (ai6 pm)/\ w'.cell? ⟨pb,pf+vn*4+1,none⟩=some (ai7 pa pk pcc)/\ w'.cell? ⟨pb,pf+vn*4+2,none⟩=some (ai6 pm2)/\ w'.cell? ⟨pb,pf+vn*4+3,none⟩=some (ai7 pa2 pk2 pc2)) (by kernel_rfl) ⟨aS.c2 (T:=199) (H10.o.below dr),Ra.o _ (iy.o.2.2.2.2.2.trans (dr.mono iy.o.2.2.2.2.2.size))⟩ (λhH=>?_);refine ah (λV hW=>?_);have HQ6:Hid (Pc K V qo qn qc q1):=by rw[hW];exact PT.o.below dr
      have mj:Hid (aS V b5 [ai6 m1,ai7 a1 n1 c1,ai6 k1,ai7 d1 l1 e1] 31/\ aS V b4 [ai6 false,ai7 none 0 0,ai6 false,ai7 none 0 0] 31/\ Cb V m1 a1 n1 c1 x J/\ Cb V k1 d1 l1 e1 d J/\ kV w3.heap.size K V (ai7 (some ⟨g,0,none⟩) M cc) (bs ((vn:Int)+1) p) g cc L/\ ai2 w.heap.size w V):=by
       rw[hW];obtain⟨y1,y2,y3,y4,y5,y6⟩:=iy.o;exact⟨y1.below dr,y2.below dr,y3.aW dr,y4.aW dr,y5.below dr,y6.trans (dr.mono y6.size)⟩
      have H11:Hid (aS V b10 [.int .i64 f1,ai7 qo qn qc] 199):=by rw[hW];exact H10.o.below dr
      rw[<-hW]at hH;clear dr PT iy H10;clear hW;obtain⟨hw1,hw2,hw3⟩:=HVW.o;obtain⟨hn1,hn2⟩:=HNW.o;refine aT 1 hH ?_;try simp only[ax]
      refine aT 2 hH ?_;try simp only[ax]
      refine aT 3 hH ?_;try simp only[ax]
      refine aT 4 hH ?_;try simp only[ax]
      refine aT 5 hH ?_;try simp only[ax]
      refine aT 6 hH ?_;try simp only[ax]
      refine aT 7 hH ?_;try simp only[ax]
      refine aT 8 hH ?_;try simp only[ax]
      refine aT 9 hH ?_;try simp only[ax]
      refine aT 11 hH ?_;try simp only[ax]
      refine aT 12 hH ?_;try simp only[ax]
      refine aT 13 hH ?_;try simp only[ax]
      refine ag 0 rfl (by kernel_rfl) (λKK hK=>?_);obtain⟨y0,y1,y2,y3⟩:=mj.o.1.q4;go_simp;clear y0 y1 y2 y3 hw1 hw2 hw3 hn1 hn2;clear hH;refine hK.o _ _ (⟨aS.c2 (T:=199) H11.o,Ra.o _ mj.o.2.2.2.2.2⟩) λhH=>?_;clear hK KK
      try simp only[ax]
      refine ag 10 rfl (by kernel_rfl) (λKK hK=>?_);go_simp;have hjn:j*N+1<=j*999+1:=an7 (an8 _ hN9);refine(wQ (N:=N) (J:=j*999+1) (oZ mj.o.2.2.1 mj.o.2.2.2.1) (QE.o _ mj.o.2.2.2.2.2) ((WG.o.2.1.TN N).mono hjn) ((WG.o.2.2.TN N).mono hjn) (by omega) (by omega)).mono ?_;rintro e w7 ⟨m2,a2,n2,c2,k2,d2,l2,e2,rfl,hX1,hX2,hB⟩;have HT7:=hid (ah5 hX1 hX2)
      have dU:Hid (aS w7 b5 [ai6 m1,ai7 a1 n1 c1,ai6 k1,ai7 d1 l1 e1] 31/\ aS w7 b4 [ai6 false,ai7 none 0 0,ai6 false,ai7 none 0 0] 31/\ Cb w7 m1 a1 n1 c1 x J/\ Cb w7 k1 d1 l1 e1 d J/\ kV w3.heap.size K w7 (ai7 (some ⟨g,0,none⟩) M cc) (bs ((vn:Int)+1) p) g cc L/\ ai2 w.heap.size w w7):=by
       obtain⟨y1,y2,y3,y4,y5,y6⟩:=mj.o;exact⟨y1.below hB,y2.below hB,y3.aW hB,y4.aW hB,y5.below hB,Below.ar y6 hB⟩
      have HQ7:=hid (HQ6.o.below hB);have H12:=hid (H11.o.below hB);clear hB hX1 hX2 mj HQ6 H11 hjn;go_wp2_with fail;clear hH;refine hK.o _ _ (⟨aS.c2 (T:=199) H12.o,Ra.o _ dU.o.2.2.2.2.2⟩) λhH=>?_;clear hK KK
      try simp only[ax]
      refine ag 14 rfl (by kernel_rfl) (λKK hK=>?_);go_simp;refine(HIH.o w7 HQ7.o dU.o.2.2.2.2.2).mono ?_;rintro e w8 ⟨y,c,⟨m3,a3,n3,c3,k3,d3,l3,e3,rfl,hY1,hY2,hB⟩,h0,ht,hdv⟩;have HY:=hid (ah5 hY1 hY2);have HD:=hid (ah5 h0 (ah5 ht hdv));have HT8:=hid (ah5 (HT7.o.1.aW hB) (HT7.o.2.aW hB))
      have Fh:Hid (aS w8 b5 [ai6 m1,ai7 a1 n1 c1,ai6 k1,ai7 d1 l1 e1] 31/\ aS w8 b4 [ai6 false,ai7 none 0 0,ai6 false,ai7 none 0 0] 31/\ Cb w8 m1 a1 n1 c1 x J/\ Cb w8 k1 d1 l1 e1 d J/\ kV w3.heap.size K w8 (ai7 (some ⟨g,0,none⟩) M cc) (bs ((vn:Int)+1) p) g cc L/\ ai2 w.heap.size w w8):=by
       obtain⟨y1,y2,y3,y4,y5,y6⟩:=dU.o;exact⟨y1.below hB,y2.below hB,y3.aW hB,y4.aW hB,y5.below hB,Below.ar y6 hB⟩
      have H13:=hid (H12.o.below hB);clear hB hY1 hY2 h0 ht hdv HT7 dU HQ7 H12;go_wp2_with fail;clear hH;refine hK.o _ _ (⟨aS.c2 (T:=199) H13.o,Ra.o _ Fh.o.2.2.2.2.2⟩) λhH=>?_;clear hK KK
      try simp only[ax]
      refine ag 15 rfl (by kernel_rfl) (λKK hK=>?_);go_simp;refine(Kd (oZ HT8.o.1 HT8.o.2) (oZ HY.o.1 HY.o.2) HD.o.1 (by omega)).mono ?_;rintro e w9 ⟨m4,a4,n4,c4,k4,d4,l4,e4,rfl,hZ1,hZ2,hB⟩;obtain⟨hkl,hg2,hq1,hN⟩:=aL.o;have hwn:=HW.o.next HG.o.1 HL.o.1 HL.o.2.1 HL.o.2.2 hkl WG.o.1 hg2 HD.o.1 HD.o.2.1 HD.o.2.2 hN;rw[show(bA p).toNat=vn+1 by rw[HZ.o];omega]at hwn;have hbw2:=hwn.bd HG.o.1 (by rw[HZ.o];omega) HL.o.1 HL.o.2.1 HG.o.2.2.2;obtain⟨X9,hX9⟩:∃X,X=x*ν^N*c.tdiv ((aj8 (d*δ (vn+1)^N) c:Nat):Int)+y*(d*δ (vn+1)^N).tdiv ((aj8 (d*δ (vn+1)^N) c:Nat):Int):=⟨_,rfl⟩;obtain⟨D9,hD9⟩:∃X,X=d*δ (vn+1)^N*c.tdiv ((aj8 (d*δ (vn+1)^N) c:Nat):Int):=⟨_,rfl⟩;rw[<-hX9,<-hD9]at hwn hbw2;rw[<-hX9]at hZ1;rw[<-hD9]at hZ2;have HW9:=hid hwn;have Fc:Hid (Cb w9 m4 a4 n4 c4 X9 J/\ Cb w9 k4 d4 l4 e4 D9 J):=⟨⟨hZ1.cx,hbw2.1⟩,⟨hZ2.cx,hbw2.2⟩⟩
      have vq:Hid (aS w9 b5 [ai6 m1,ai7 a1 n1 c1,ai6 k1,ai7 d1 l1 e1] 31/\ aS w9 b4 [ai6 false,ai7 none 0 0,ai6 false,ai7 none 0 0] 31/\ Cb w9 m1 a1 n1 c1 x J/\ Cb w9 k1 d1 l1 e1 d J/\ kV w3.heap.size K w9 (ai7 (some ⟨g,0,none⟩) M cc) (bs ((vn:Int)+1) p) g cc L/\ ai2 w.heap.size w w9):=by
       obtain⟨y1,y2,y3,y4,y5,y6⟩:=Fh.o;exact⟨y1.below hB,y2.below hB,y3.aW hB,y4.aW hB,y5.below hB,Below.ar y6 hB⟩
      have H14:=hid (H13.o.below hB);clear hB hZ1 hZ2 hwn hbw2 hX9 hD9 hkl hg2 hq1 hN HT8 HY HD Fh H13 HW aL;go_wp2_with fail;clear hH;refine hK.o _ _ (⟨aS.c2 (T:=199) H14.o,Ra.o _ vq.o.2.2.2.2.2⟩) λhH=>?_;clear hK KK
      try simp only[ax]
      have Dh:=Ka vq.o.1 (qf _ _ _ _ _ _ _ _) (ai6 m4) (ai7 a4 n4 c4) (ai6 k4) (ai7 d4 l4 e4);have Kc:b5≠b10:=λe=>absurd ((e▸vq.o.1:aS w9 b10 _ 31).UI H14.o) (by decide)
      obtain⟨y0,y1,y2,y3⟩:=vq.o.1.q4;obtain⟨z0,z1,z2,z3⟩:=vq.o.1.r4;have Ir:=hid Dh;clear Dh;refine ag 16 rfl (by kernel_rfl) (λKK hK=>?_);go_simp;clear y0 y1 y2 y3 z0 z1 z2 z3;have vY:=gi vq.o.2.2.2.2.2 (show w.heap.size<=b5 by omega) (ai6 m4) (ai7 a4 n4 c4) (ai6 k4) (ai7 d4 l4 e4);have h10:=H14.o.apart Ir.o.1.g λe=>Kc (ao7 e).symm
      have h4':=vq.o.2.1.apart Ir.o.1.g λe=>by have:=ao7 e;omega
      have Tn:=hid (ah5 Ir.o.2 (ah5 h4' (ah5 (Fc.o.1.gu Ir.o.1) (ah5 (Fc.o.2.gu Ir.o.1) (ah5 (vq.o.2.2.2.2.1.gu Ir.o.1 ab8) vY)))));have H15:=hid h10;clear vY h10 h4' Ir vq Fc H14 Kc;clear hH;refine hK.o _ _ (⟨aS.c2 (T:=199) H15.o,Ra.o _ Tn.o.2.2.2.2.2⟩) λhH=>?_;clear hK KK
      try simp only[ax]
      obtain⟨y0,y1⟩:=aS.c2 H15.o;refine wpAnyH_done (by kernel_rfl) ?_ _
      clear hH;go_wp2_with fail;go_roundw
      case rel=>exact⟨k+1,f1,X9,D9,_,_,_,_,_,_,_,_,by go_num,rfl,by omega,Tn.o,HW9.o⟩
      case measure=>simp[intOf];omega
     ·obtain rfl:k=M:=by omega
      obtain⟨N,hN⟩:∃N:Nat,(N:Int)=E:=⟨E.toNat,by omega⟩;have hwl:Wl ρ μ δ p (bs (bA p) p).length E x d:=by rw[HZ.o,<-EL.o];exact HW.o
      have hlast:=hwl.last HG.o.1 (by rw[HZ.o];omega) HL.o.1 HL.o.2.1 HL.o.2.2 HG.o.2.2.2 WG.o.1 hN;rw[show(bA p).toNat=vn+1 by rw[HZ.o];omega]at hlast;have Q8:=hid hlast;have hN9:N<=999:=by omega
      subst hN;have hkk:¬(k:Int)<(k:Int):=by omega
      clear hwl hlast HW HI;go_upto_region 15 with(fail)
      have dr:=(ai3 wr.heap.size wr).drew;have hs5:=HS.o.1.below dr;refine wp_region_held_drew (S:=λw'=>(w'.cell? ⟨b5,0,none⟩=some (ai6 m1)/\ w'.cell? ⟨b5,1,none⟩=some (ai7 a1 n1 c1)/\ w'.cell? ⟨b5,2,none⟩=some (ai6 k1)/\ w'.cell? ⟨b5,3,none⟩=some (ai7 d1 l1 e1))/\ w'.cell? ⟨pb,pf+vn*4,none⟩=some (ai6 pm)/\ w'.cell? ⟨pb,pf+vn*4+1,none⟩=some (ai7 pa pk pcc)/\ w'.cell? ⟨pb,pf+vn*4+2,none⟩=some (ai6 pm2)/\ w'.cell? ⟨pb,pf+vn*4+3,none⟩=some (ai7 pa2 pk2 pc2)) (by kernel_rfl) ⟨hs5.q4,Ra.o _ (HS.o.2.2.2.2.2.trans (dr.mono HS.o.2.2.2.2.2.size))⟩ (λhH=>?_);clear hs5;refine ah (λV hW=>?_)
      have mj:Hid (aS V b5 [ai6 m1,ai7 a1 n1 c1,ai6 k1,ai7 d1 l1 e1] 31/\ aS V b4 [ai6 false,ai7 none 0 0,ai6 false,ai7 none 0 0] 31/\ Cb V m1 a1 n1 c1 x J/\ Cb V k1 d1 l1 e1 d J/\ ai2 w.heap.size w V):=by
       rw[hW];obtain⟨y1,y2,y3,y4,y5,y6⟩:=HS.o;exact⟨y1.below dr,y2.below dr,y3.aW dr,y4.aW dr,y6.trans (dr.mono y6.size)⟩
      rw[<-hW]at hH;clear dr HS;clear hW;obtain⟨hw1,hw2,hw3⟩:=HVW.o;refine aT 0 hH ?_;try simp only[ax]
      refine aT 1 hH ?_;try simp only[ax]
      refine aT 2 hH ?_;try simp only[ax]
      refine aT 3 hH ?_;try simp only[ax]
      refine aT 4 hH ?_;try simp only[ax]
      refine aT 5 hH ?_;try simp only[ax]
      refine aT 6 hH ?_;try simp only[ax]
      refine ag 7 rfl (by kernel_rfl) (λKK hK=>?_);go_simp;clear hw1 hw2 hw3;have hjn:j*N+1<=j*999+1:=an7 (an8 _ hN9);refine(wQ (N:=N) (J:=j*999+1) (oZ mj.o.2.2.1 mj.o.2.2.2.1) (QE.o _ mj.o.2.2.2.2) ((WG.o.2.1.TN N).mono hjn) ((WG.o.2.2.TN N).mono hjn) (by omega) (by omega)).mono ?_;rintro e w7 ⟨m2,a2,n2,c2,k2,d2,l2,e2,rfl,hX1,hX2,hB⟩;have UN:Hid (Cb w7 m2 a2 n2 c2 (x*ν^N) J/\ Cb w7 k2 d2 l2 e2 (d*δ (vn+1)^N) J):=⟨⟨hX1.cx,Q8.o.2.2.2.1⟩,⟨hX2.cx,Q8.o.2.2.2.2⟩⟩
      have dU:Hid (aS w7 b5 [ai6 m1,ai7 a1 n1 c1,ai6 k1,ai7 d1 l1 e1] 31/\ aS w7 b4 [ai6 false,ai7 none 0 0,ai6 false,ai7 none 0 0] 31/\ ai2 w.heap.size w w7):=by
       obtain⟨y1,y2,y3,y4,y5⟩:=mj.o;exact⟨y1.below hB,y2.below hB,Below.ar y5 hB⟩
      clear hB hX1 hX2 mj hjn;go_wp2_with fail;clear hH;refine hK.o _ _ (⟨dU.o.1.q4,Ra.o _ dU.o.2.2⟩) λhH=>?_;clear hK KK
      try simp only[ax]
      have Dh:=Ka dU.o.2.1 (qf _ _ _ _ _ _ _ _) (ai6 m2) (ai7 a2 n2 c2) (ai6 k2) (ai7 d2 l2 e2);have vY:=gi dU.o.2.2 hbw (ai6 m2) (ai7 a2 n2 c2) (ai6 k2) (ai7 d2 l2 e2);obtain⟨y0,y1,y2,y3⟩:=dU.o.2.1.q4;obtain⟨z0,z1,z2,z3⟩:=dU.o.2.1.r4;have Ir:=hid Dh;have lY:=hid vY;have H5:=hid (dU.o.1.apart Dh.1.g λe=>by have:=ao7 e;omega);clear Dh vY;refine ag 8 rfl (by kernel_rfl) (λKK hK=>?_);go_simp;clear y0 y1 y2 y3 z0 z1 z2 z3;clear hH;refine hK.o _ _ (⟨H5.o.q4,Ra.o _ lY.o⟩) λhH=>?_;clear hK KK
      try simp only[ax]
      obtain⟨f0,f1,f2,f3⟩:=Ir.o.2.q4;refine wpAnyH_done (by kernel_rfl) ?_ _
      clear hH;go_wp2_with fail;refine bodyPost_ret (v:= .agg #[ai6 m2,ai7 a2 n2 c2,ai6 k2,ai7 d2 l2 e2]) (by simp[results,Tryz.results95,go_sem,f0,f1,f2,f3]) rfl ?_;exact⟨_,_,⟨_,_,_,_,_,_,_,_,rfl,UN.o.1.gu Ir.o.1,UN.o.2.gu Ir.o.1,lY.o⟩,Q8.o.2.1,Q8.o.1,Q8.o.2.2.1⟩
theorem Ke [Ol] {ρ:Nat->Rat} {μ δ:Nat->Int} {K J j:Nat} {po:Z'} {pn pc:Nat} (hμ:∀u,0<μ u) (hδ:∀u,0<δ u) (hle:∀u,Le (ρ u) (μ u)) (hK:1<=K/\ K<=J/\ J<=30000/\ 1<=j/\ j<=30) (C:Nat):vz ρ μ δ K J j po pn pc C:=
 @Nat.strongRecOn (vz ρ μ δ K J j po pn pc) C (λC IH=>F8 hμ hδ hle hK C IH)
structure Pt [Ol] (w:ah6) (ao:Option Addr) (n ae:Nat) (qs:List Rat) (j:Nat):Prop where
 len:qs.length=n
 ex:∃bF,Gl 4 w ao n ae bF/\∀i,i<n->∃m a k c m2 a2 k2 c2 x d,bF.getD i []=[ai6 m,ai7 a k c,ai6 m2,ai7 a2 k2 c2]/\ Rx w m a k c m2 a2 k2 c2 x d (qs.getD i 0) j
theorem Pt.below [Ol] {w w':ah6} {ao:Z'} {n ae:Nat} {qs:List Rat} {j:Nat} (h:Pt w ao n ae qs j) (hb:ai2 w.heap.size w w'):Pt w' ao n ae qs j:=by
 obtain⟨bF,h1,h2⟩:=h.ex;refine⟨h.len,bF,h1.below hb,λi hi=>?_⟩;obtain⟨m,a,k,c,m2,a2,k2,c2,x,d,h3,h4⟩:=h2 i hi;exact⟨m,a,k,c,m2,a2,k2,c2,x,d,h3,h4.aW hb⟩
theorem Pt.dY [Ol] {w:ah6} {ao:Z'} {n ae:Nat} {qs:List Rat} {j:Nat} (h:Pt w ao n ae qs j) {i:Nat} (hi:i<n):∃b off m a k c m2 a2 k2 c2 x d,ao=some ⟨b,off,none⟩/\ b<w.heap.size/\ (∀V:ah6,ai2 w.heap.size w V->V.cell? ⟨b,off+i*4,none⟩=some (ai6 m)/\ V.cell? ⟨b,off+i*4+1,none⟩=some (ai7 a k c)/\ V.cell? ⟨b,off+i*4+2,none⟩=some (ai6 m2)/\ V.cell? ⟨b,off+i*4+3,none⟩=some (ai7 a2 k2 c2))/\ Rx w m a k c m2 a2 k2 c2 x d (qs.getD i 0) j:=by
 obtain⟨bF,h1,h2⟩:=h.ex;obtain⟨m,a,k,c,m2,a2,k2,c2,x,d,h3,h4⟩:=h2 i hi;obtain⟨b,off,e1,e2,e3⟩:=h1.at (by omega);refine⟨b,off,m,a,k,c,m2,a2,k2,c2,x,d,e1,e2,λV hV=>?_,h4⟩;have f:=e3 V hV i hi;rw[h3]at f;exact⟨by simpa using f 0 (by omega),by simpa using f 1 (by omega),by simpa using f 2 (by omega),by simpa using f 3 (by omega)⟩
def UO (v:ah7):Bool:=match v with|ai6 _=>true| _=>false
def Bb (L:List ah7):Prop:=∀i u,L[i]? =some u->(i%2=0->UO u=true)/\ (i%2=1->PU u=true)
theorem Bb.pP {L:List ah7} (h:Bb L):et L:=λu hu=>by
 obtain⟨j,hj⟩:=ak3.1 hu;have:=h j u hj;rcases am9 j with e|e
 ·have:=this.1 e;cases u<;>first|rfl|cases this
 ·have:=this.2 e;cases u<;>first|rfl|cases this
theorem Bb.LA {L:List ah7} (h:Bb L):LA L:=by
 refine⟨λu hu=>?_,λj a b ha hb=>?_⟩
 ·have:=h.pP u hu;cases u<;>first|rfl|cases this
 ·refine⟨.inl (h.pP a (List.mem_of_getElem? ha)),?_⟩;rcases am9 j with e|e
  ·have:=(h j a ha).1 e;cases a<;>first|rfl|cases this
  ·have:=(h (j+1) b hb).1 (by omega);cases b<;>first|(cases a<;>rfl)|cases this
theorem Bb.put {L:List ah7} (h:Bb L) (k:Nat) {v0 v1 v2 v3:ah7} (h0:UO v0=true) (h1:PU v1=true) (h2:UO v2=true) (h3:PU v3=true):Bb (lV L (k*4) [v0,v1,v2,v3]):=λi u hu=>by
 by_cases hi:i<k*4∨k*4+[v0,v1,v2,v3].length<=i
 ·rw[iw _ _ _ _ hi]at hu;exact h i u hu
 ·have hl:i<L.length:=by
   have:=(ak4.1 hu).1;rwa[dJ]at this
  simp only[al6,am1]at hi;rw[iz _ _ _ _ (by omega) (by simp;omega) hl]at hu;obtain⟨t,ht⟩:∃t,i=k*4+t:=⟨i-k*4,by omega⟩;subst ht;rw[show k*4+t-k*4=t by omega]at hu
  match t,hu with
  |0,hu=>cases hu;exact⟨λ_=>h0,λe=>by omega⟩
  |1,hu=>cases hu;exact⟨λe=>by omega,λ_=>h1⟩
  |2,hu=>cases hu;exact⟨λ_=>h2,λe=>by omega⟩
  |3,hu=>cases hu;exact⟨λe=>by omega,λ_=>h3⟩
  |t+4,hu=>simp at hu
structure LC (w:ah6) (b:Nat) (L:List ah7) (c:Nat) (qs:List Rat) (k j:Nat):Prop where
 dY:aS w b L 31
 len:L.length=c*4
 yb:Bb L
 done:∀i,i<k->∃m a n cc m2 a2 n2 c2,L[i*4]? =some (ai6 m)/\ L[i*4+1]? =some (ai7 a n cc)/\ L[i*4+2]? =some (ai6 m2)/\ L[i*4+3]? =some (ai7 a2 n2 c2)/\ Rc w m a n cc m2 a2 n2 c2 (qs.getD i 0) j
theorem Rc.aW {w w':ah6} {m:Bool} {ao:Z'} {n ae:Nat} {k:Bool} {bo:Z'} {l cb:Nat} {q:Rat} {j:Nat} (h:Rc w m ao n ae k bo l cb q j) (hb:ai2 w.heap.size w w'):Rc w' m ao n ae k bo l cb q j:=⟨⟨h.num.cn.below hb,h.num.le⟩,⟨h.den.cn.below hb,h.den.le⟩,h.bn,h.bd⟩
theorem Rc.gu {w w':ah6} {m:Bool} {ao:Z'} {n ae:Nat} {k:Bool} {bo:Z'} {l cb:Nat} {q:Rat} {j b:Nat} (h:Rc w m ao n ae k bo l cb q j) (hF:ot w w' b):Rc w' m ao n ae k bo l cb q j:=⟨⟨h.num.cn.gu hF,h.num.le⟩,⟨h.den.cn.gu hF,h.den.le⟩,h.bn,h.bd⟩
theorem LC.below {w w':ah6} {b:Nat} {L:List ah7} {c:Nat} {qs:List Rat} {k j:Nat} (h:LC w b L c qs k j) (hb:ai2 w.heap.size w w'):LC w' b L c qs k j:=
 ⟨h.dY.below hb,h.len,h.yb,λi hi=>by
  obtain⟨m,a,n,cc,m2,a2,n2,c2,h1,h2,h3,h4,h5⟩:=h.done i hi;exact⟨m,a,n,cc,m2,a2,n2,c2,h1,h2,h3,h4,h5.aW hb⟩⟩
theorem LC.put {w:ah6} {b:Nat} {L:List ah7} {c:Nat} {qs:List Rat} {k j:Nat} (h:LC w b L c qs k j) (hk:k<c) {m:Bool} {a:Z'} {n cc:Nat} {m2:Bool} {a2:Z'} {n2 c2:Nat} (hr:Rc w m a n cc m2 a2 n2 c2 (qs.getD k 0) j):
  LC ((((w.setCell ⟨b,k*4,none⟩ (ai6 m)).setCell ⟨b,k*4+1,none⟩ (ai7 a n cc)).setCell ⟨b,k*4+2,none⟩ (ai6 m2)).setCell ⟨b,k*4+3,none⟩ (ai7 a2 n2 c2)) b (lV L (k*4) [ai6 m,ai7 a n cc,ai6 m2,ai7 a2 n2 c2]) c qs (k+1) j:=by
 have hF:ot w ((((w.setCell ⟨b,k*4,none⟩ (ai6 m)).setCell ⟨b,k*4+1,none⟩ (ai7 a n cc)).setCell ⟨b,k*4+2,none⟩ (ai6 m2)).setCell ⟨b,k*4+3,none⟩ (ai7 a2 n2 c2)) b:=
  ⟨⟨L,_,h.dY,h.yb.LA⟩,cD (cD (cD (br _ _ _ _) (br _ _ _ _)) (br _ _ _ _)) (br _ _ _ _)⟩
 have hl:=h.len;refine⟨(((h.dY.set _ _).set _ _).set _ _).set _ _,by rw[dJ];exact hl,h.yb.put k rfl rfl rfl rfl,λi hi=>?_⟩;by_cases hik:i<k
 ·obtain⟨m',a',n',cc',m2',a2',n2',c2',h1,h2,h3,h4,h5⟩:=h.done i hik;exact⟨m',a',n',cc',m2',a2',n2',c2',by rw[iw _ _ _ _ (.inl (by omega))];exact h1,by rw[iw _ _ _ _ (.inl (by omega))];exact h2,by rw[iw _ _ _ _ (.inl (by omega))];exact h3,by rw[iw _ _ _ _ (.inl (by omega))];exact h4,h5.gu hF⟩
 ·obtain rfl:i=k:=by omega
  refine⟨m,a,n,cc,m2,a2,n2,c2,?_,?_,?_,?_,hr.gu hF⟩
  ·rw[iz _ _ _ _ (by omega) (by simp) (by omega),an2];rfl
  ·rw[iz _ _ _ _ (by omega) (by simp) (by omega),show i*4+1-i*4=1 by omega];rfl
  ·rw[iz _ _ _ _ (by omega) (by simp) (by omega),show i*4+2-i*4=2 by omega];rfl
  ·rw[iz _ _ _ _ (by omega) (by simp) (by omega),show i*4+3-i*4=3 by omega];rfl
def rO (qs:List Rat) (u:Nat):Rat:=qs.getD (u-1) 0
def yi (qs:List Rat) (u:Nat):Int:=((rO qs u).den:Int)
def yh (qs:List Rat) (u:Nat):Int:=max 1 ((rO qs u).num.natAbs:Int)
theorem vA (qs:List Rat) (u:Nat):0<yi qs u:=by
 unfold yi;have:=(rO qs u).den_pos;omega
theorem Be (qs:List Rat) (u:Nat):0<yh qs u:=by unfold yh;omega
theorem UQ (qs:List Rat) (u:Nat):Le (rO qs u) (yh qs u):=by
 refine Le.mk' (x:=(rO qs u).num) (vA qs u) (ao9 _) ?_;have h:=vA qs u;have h1:((rO qs u).num.natAbs:Int)<=yh qs u:=by unfold yh;omega
 have h2:=aj4 (show 1<=yi qs u by omega) (show 0<=yh qs u by have:=Be qs u;omega);omega
theorem LC.qp [Ol] {w:ah6} {b:Nat} {L:List ah7} {c:Nat} {qs:List Rat} {j:Nat} (h:LC w b L c qs c j) (hc:c<=1000):Qp w (some ⟨b,0,none⟩) c c (rO qs) (yi qs) j:=by
 obtain⟨bF,hv⟩:∃bF:List (List ah7),bF=(List.range c).map λi=>(L.drop (i*4)).take 4:=⟨_,rfl⟩
 have hl:=h.len;have hg:∀i,i<c->bF.getD i []=(L.drop (i*4)).take 4:=λi hi=>by rw[hv];simp[ak5,hi]
 have hgt:∀i t,i<c->t<4->(bF.getD i [])[t]? =L[i*4+t]? :=λi t hi ht=>by rw[hg i hi,List.getElem?_take,if_pos ht,List.getElem?_drop]
 have h4:∀i,i<c->∀{m a n cc m2 a2 n2 c2},L[i*4]? =some (ai6 m)->L[i*4+1]? =some (ai7 a n cc)->L[i*4+2]? =some (ai6 m2)->L[i*4+3]? =some (ai7 a2 n2 c2)->bF.getD i []=[ai6 m,ai7 a n cc,ai6 m2,ai7 a2 n2 c2]:=λi hi {m a n cc m2 a2 n2 c2} h1 h2 h3 h4=>by
  apply List.ext_getElem?;intro t
  match t with
  |0=>rw[hgt i 0 hi (by omega)];exact h1
  |1=>rw[hgt i 1 hi (by omega)];exact h2
  |2=>rw[hgt i 2 hi (by omega)];exact h3
  |3=>rw[hgt i 3 hi (by omega)];exact h4
  |t+4=>
   rw[am5,am5]
   ·simp
   ·rw[hg i hi,am0];omega
 refine⟨bF,Gl.eK (by rw[hv];simp) (an1 _) (by omega) (λvs hvs=>?_) (λ_=>h.dY.lt) (λ_=>Kp.vk (h.dY.dD h.yb.pP)) λt ht jj hj=>?_,λi hi=>?_⟩
 ·rw[hv]at hvs;obtain⟨i,hi,rfl⟩:=List.mem_map.1 hvs;have hi2:=List.mem_range.1 hi;obtain⟨m,a,n,cc,m2,a2,n2,c2,h1,h2,h3,h5,_⟩:=h.done i hi2;rw[<-hg i hi2,h4 i hi2 h1 h2 h3 h5];refine⟨rfl,λv hv=>?_⟩;simp at hv;rcases hv with rfl|rfl|rfl|rfl<;>rfl
 ·rw[an0,h.dY.cell,hgt t jj ht hj]
 ·obtain⟨m,a,n,cc,m2,a2,n2,c2,h1,h2,h3,h5,h6⟩:=h.done i hi;have e:rO qs (i+1)=qs.getD i 0:=by unfold rO;rw[Nat.add_sub_cancel]
  have ed:yi qs (i+1)=((qs.getD i 0).den:Int):=by unfold yi;rw[e]
  refine⟨m,a,n,cc,m2,a2,n2,c2,(qs.getD i 0).num,h4 i hi h1 h2 h3 h5,?_,?_⟩
  ·rw[e,ed];exact⟨h6.num.nx,h6.den.nx,Iu _,h6.bn,h6.bd⟩
  ·rw[e,ed];exact ao9 _
open Lib (hid)
theorem Tryz.Kf:(Tryz.prog.info? 31).map (λi=>(i.zero,i.size,i.bytes))=some (some (.agg #[ai6 false,ai7 none 0 0,ai6 false,ai7 none 0 0]),4,64):=by kernel_rfl
theorem Kg (n:Nat):Bb (madeCells #[ai6 false,ai7 none 0 0,ai6 false,ai7 none 0 0] n).toList:=λi u hu=>by
 have hl:i<n:=by
  have:=(ak4.1 hu).1;simpa[madeCells]using this
 have e:(madeCells #[ai6 false,ai7 none 0 0,ai6 false,ai7 none 0 0] n).toList[i]? =some ((#[ai6 false,ai7 none 0 0,ai6 false,ai7 none 0 0]:Array ah7)[i%4]!):=by
  simp[madeCells,hl]
 rw[e]at hu;cases hu;have h4:i%4=0∨i%4=1∨i%4=2∨i%4=3:=by omega
 rcases h4 with h|h|h|h<;>rw[h]
 ·exact⟨λ_=>rfl,λe=>by omega⟩
 ·exact⟨λe=>by omega,λ_=>rfl⟩
 ·exact⟨λ_=>rfl,λe=>by omega⟩
 ·exact⟨λe=>by omega,λ_=>rfl⟩
theorem LC.start {w:ah6} {b c:Nat} {qs:List Rat} {j:Nat} (h:aS w b (madeCells #[ai6 false,ai7 none 0 0,ai6 false,ai7 none 0 0] (c*4)).toList 31):LC w b (madeCells #[ai6 false,ai7 none 0 0,ai6 false,ai7 none 0 0] (c*4)).toList c qs 0 j:=
 ⟨h,by simp[madeCells],Kg _,λi hi=>by omega⟩
theorem zD [Ol] {K:Nat} {w:ah6} {ao:Z'} {n ae:Nat} {p:List ai} (z:Int) (hp:Pc K w ao n ae p) (hf:bD p) (hK:K<=1000) (hz:bA p=z):Calls Tryz.prog 94 #[ai7 ao n ae] w (cr (.int .i64 z) w):=
 F9 z hp.TM (λt ht=>an5 (hp.jY t ht) hK) (by rw[Re hf];exact hz)
section
variable {K J j:Nat} {ao po:Option Addr} {n ae pn pc:Nat} {w:ah6} {qs:List Rat}
def Rf (w:ah6) (q:Rat) (J:Nat) (e:Ending) (w':ah6):Prop:=∃x d m ao n ae k bo l cb,e= .returned (.tuple #[.agg #[ai6 m,ai7 ao n ae,ai6 k,ai7 bo l cb],.int .i64 0])/\ Cb w' m ao n ae x J/\ Cb w' k bo l cb d J/\ 0<d/\ ao8 x d=q/\ ai2 w.heap.size w w'
theorem CA [Ol] {ps:List kr} (hp:Pr w ao n ae ps) (hl:∀t∈ps,t.1.2.length<=1000) (h:jZ ps=false):
  Calls Tryz.prog 40 #[ai7 ao n ae,ai7 po pn pc] w (cr (.tuple #[.agg #[ai6 false,ai7 none 0 0,ai6 false,ai7 none 0 0],.int .i64 2]) w):=by
 have HP:=hid (ah5 hp (ah5 hl h));clear hp hl h;go_enter Tryz.func40,Tryz.ntmps40;obtain⟨b4,hb4⟩:∃b4,b4=w.heap.size:=⟨_,rfl⟩;go_upto_region 1 with(fail)
 refine aj (λW0 hW=>?_);have a0:aS W0 b4 [ai6 false,ai7 none 0 0,ai6 false,ai7 none 0 0] 31/\ ai2 w.heap.size w W0:=by rw[hW,hb4];exact gp w _ 31
 rw[<-hb4];have hbw:w.heap.size<=b4:=by omega
 clear hW hb4;go_wp2_with fail;refine(mD false (HP.o.1.below a0.2) HP.o.2.1 HP.o.2.2).mono ?_;rintro e w1 ⟨rfl,hB⟩;have h4:=a0.1.below hB;have HB:=hid (Below.ar a0.2 hB);have H4:=hid h4;obtain⟨f0,f1,f2,f3⟩:=h4.q4;obtain⟨g0,g1,g2,g3⟩:=h4.r4;clear a0 hB h4;go_wp2_with fail;refine bodyPost_ret (v:= .tuple #[.agg #[ai6 false,ai7 none 0 0,ai6 false,ai7 none 0 0],.int .i64 2]) (by simp[results,Tryz.results40,go_sem,f0,f1,f2,f3]) rfl ?_;exact⟨rfl,gi HB.o hbw _ _ _ _⟩
theorem AD [Ol] {p:List ai} (hp:Pc K w ao n ae p) (hf:bD p) (hK:K<=1000) (hc:(pn:Int)<bA p):
  Calls Tryz.prog 40 #[ai7 ao n ae,ai7 po pn pc] w (cr (.tuple #[.agg #[ai6 false,ai7 none 0 0,ai6 false,ai7 none 0 0],.int .i64 5]) w):=by
 obtain⟨z,hz⟩:∃z,bA p=z:=⟨_,rfl⟩;have HP:=hid (ah5 hp (ah5 hf hz));rw[hz]at hc;clear hp hf hz;go_enter Tryz.func40,Tryz.ntmps40;obtain⟨b4,hb4⟩:∃b4,b4=w.heap.size:=⟨_,rfl⟩;go_upto_region 1 with(fail)
 refine aj (λW0 hW=>?_);have a0:aS W0 b4 [ai6 false,ai7 none 0 0,ai6 false,ai7 none 0 0] 31/\ ai2 w.heap.size w W0:=by rw[hW,hb4];exact gp w _ 31
 rw[<-hb4];have hbw:w.heap.size<=b4:=by omega
 clear hW hb4;go_wp2_with fail;refine(kJ (HP.o.1.below a0.2) HP.o.2.1 hK).mono ?_;rintro e w1 ⟨rfl,hB⟩;have HB:=hid (Below.ar a0.2 hB);have H4:=hid (a0.1.below hB);clear a0 hB;go_wp2_with fail;refine(zD z (HP.o.1.below HB.o) HP.o.2.1 hK HP.o.2.2).mono ?_;rintro e w2 ⟨rfl,hB⟩;have h4:=H4.o.below hB;have HB2:=hid (Below.ar HB.o hB);have H5:=hid h4;obtain⟨f0,f1,f2,f3⟩:=h4.q4;obtain⟨g0,g1,g2,g3⟩:=h4.r4;clear hB h4 H4 HB;go_wp2_with fail;refine bodyPost_ret (v:= .tuple #[.agg #[ai6 false,ai7 none 0 0,ai6 false,ai7 none 0 0],.int .i64 5]) (by simp[results,Tryz.results40,go_sem,f0,f1,f2,f3]) rfl ?_;exact⟨rfl,gi HB2.o hbw _ _ _ _⟩
theorem Dj [Ol] {p:List ai} (hp:Pc K w ao n ae p) (hf:bD p) (hK:1<=K/\ K<=1000/\ K<=J/\ J<=30000/\ 1<=j/\ j<=30) (hc:bA p<=(pn:Int)) (hdg:∀u,dK p u<=999) (hn:n<=100000) (hq:Pt w po pn pc qs j) (hJ:ye p (yh qs) (yi qs) J):
  Calls Tryz.prog 40 #[ai7 ao n ae,ai7 po pn pc] w (Rf w (rv (rO qs) p) J):=by
 obtain⟨i0,hi,hz0,hz1,hz2⟩:=info_parts Tryz.Kf;have hcb:=nK hf;obtain⟨c,hcc⟩:∃c:Nat,bA p=(c:Int):=⟨(bA p).toNat,by omega⟩;have hcp:c<=pn:=by omega
 have hc2:c<=200:=by omega
 have hmk:∀W:ah6,(Instr.makeSlice 24 (.int .i64 (c:Int)) (.int .i64 (c:Int))).run Tryz.prog W= .ok (ai7 (some ⟨W.heap.size,0,none⟩) c c) (W.alloc (.cells (madeCells #[ai6 false,ai7 none 0 0,ai6 false,ai7 none 0 0] (c*4)).toList.toArray 31)):=by
  intro W;have h:=run_make (P:=Tryz.prog) W 24 31 i0 _ Tryz.underlying24 hi hz0 .i64 .i64 (c:Int) (c:Int) (by omega) (by omega) (by rw[hz2];omega) (by omega);rw[h,hz1];simp[ai5]
 have HP:=hid (ah5 hp (ah5 hf hcc));have HG:=hid (ah5 hdg (ah5 hq hJ));clear hi hz0 hz1 hz2 hp hf hdg hq hJ hcc hcb hc;go_enter Tryz.func40,Tryz.ntmps40;obtain⟨b4,hb4⟩:∃b4,b4=w.heap.size:=⟨_,rfl⟩;go_upto_region 1 with(fail)
 refine aj (λW0 hW=>?_);have a0:aS W0 b4 [ai6 false,ai7 none 0 0,ai6 false,ai7 none 0 0] 31/\ ai2 w.heap.size w W0:=by rw[hW,hb4];exact gp w _ 31
 rw[<-hb4];have hbw:w.heap.size<=b4:=by omega
 clear hW hb4;go_wp2_with fail;refine(kJ (HP.o.1.below a0.2) HP.o.2.1 hK.2.1).mono ?_;rintro e w1 ⟨rfl,hB⟩;have HB:=hid (Below.ar a0.2 hB);have H4:=hid (a0.1.below hB);clear a0 hB;go_wp2_with fail;refine(zD (c:Int) (HP.o.1.below HB.o) HP.o.2.1 hK.2.1 HP.o.2.2).mono ?_;rintro e w2 ⟨rfl,hB⟩;have HS2:Hid (aS w2 b4 [ai6 false,ai7 none 0 0,ai6 false,ai7 none 0 0] 31/\ ai2 w.heap.size w w2):=⟨H4.o.below hB,Below.ar HB.o hB⟩;clear hB H4 HB;have hgt:¬(pn:Int)<(c:Int):=by omega
 have hg1:decide (pn<c)=false:=decide_eq_false (by omega);obtain⟨b7,sX⟩:∃b,b=w2.heap.size:=⟨_,rfl⟩;go_upto_region 7 with(fail)
 refine aj (λW3 hW=>?_);have a7:aS W3 b7 (madeCells #[ai6 false,ai7 none 0 0,ai6 false,ai7 none 0 0] (c*4)).toList 31/\ ai2 w2.heap.size w2 W3:=by rw[hW,sX];exact gp w2 _ 31
 rw[<-sX];have ag2:b4<b7:=by have:=HS2.o.1.lt;omega
 have uS:Hid (aS W3 b4 [ai6 false,ai7 none 0 0,ai6 false,ai7 none 0 0] 31/\ LC W3 b7 _ c qs 0 j/\ ai2 w.heap.size w W3):=⟨HS2.o.1.below a7.2,LC.start a7.1,Below.ar HS2.o.2 a7.2⟩;clear hW sX a7 HS2 hgt hg1 hmk;go_wp2_with fail;go_loopw [8,24] (λ_ i wr=>∃(k:Nat) (L:List ah7),i= .int .i64 k/\ k<=c/\ Hid (aS wr b4 [ai6 false,ai7 none 0 0,ai6 false,ai7 none 0 0] 31/\ LC wr b7 L c qs k j/\ ai2 w.heap.size w wr)) (λ_ i _=>c-(intOf i).toNat)
 case atStart=>exact⟨0,_,rfl,an3 _,uS.o⟩
 case round=>
  clear uS;obtain⟨k,L,rfl,hk,HS⟩:=hrel;by_cases hkc:k<c
  ·obtain⟨pb,pf,pm,pa,pk,pcc,pm2,pa2,pk2,pc2,x,d,hpo,hpl,hpc,hpr⟩:=HG.o.2.1.dY (i:=k) (by omega);subst hpo;obtain⟨x0,x1,x2,x3⟩:=hpc wr HS.o.2.2;have QE:=hid (hpr.aW HS.o.2.2);have hki:(k:Int)<(c:Int):=by omega
   have hkp:(k:Int)<(pn:Int):=by omega
   have hk0:(0:Int)<=(k:Int):=by omega
   have hll:=HS.o.2.1.len;have hu:∀t,t<4->∃u,L[k*4+t]? =some u:=λt ht=>⟨_,al0 (by omega)⟩
   obtain⟨u0,hu0⟩:=hu 0 (by omega);obtain⟨u1,hu1⟩:=hu 1 (by omega);obtain⟨u2,hu2⟩:=hu 2 (by omega);obtain⟨u3,hu3⟩:=hu 3 (by omega);rw[an6]at hu0;have HU:=hid (ah5 hu0 (ah5 hu1 (ah5 hu2 hu3)));clear hpc hpr hu hu0 hu1 hu2 hu3 hll;go_wp2_with fail;refine(Dk QE.o (by omega) (by omega)).mono ?_;rintro e w5 ⟨m2,a2,n2,c2,k2,d2,l2,e2,rfl,hX,hB⟩;have h7:=HS.o.2.1.below hB;have WI:=hid h7;have HX:=hid hX;have iy:Hid (aS w5 b4 [ai6 false,ai7 none 0 0,ai6 false,ai7 none 0 0] 31/\ ai2 w.heap.size w w5):=⟨HS.o.1.below hB,Below.ar HS.o.2.2 hB⟩;have y0:w5.cell? ⟨b7,k*4,none⟩=some u0:=by rw[h7.dY.cell];exact HU.o.1
   have y1:w5.cell? ⟨b7,k*4+1,none⟩=some u1:=by rw[h7.dY.cell];exact HU.o.2.1
   have y2:w5.cell? ⟨b7,k*4+2,none⟩=some u2:=by rw[h7.dY.cell];exact HU.o.2.2.1
   have y3:w5.cell? ⟨b7,k*4+3,none⟩=some u3:=by rw[h7.dY.cell];exact HU.o.2.2.2
   have z0:=h7.dY.fz (k*4);have z1:=h7.dY.fz (k*4+1);have z2:=h7.dY.fz (k*4+2);have z3:=h7.dY.fz (k*4+3);clear hX hB h7 HS x0 x1 x2 x3;go_wp2_with fail;have hn7:=WI.o.put hkc HX.o;have Cs:ai2 w.heap.size w _:=(((iy.o.2.setCell (p:=⟨b7,k*4,none⟩) (show w.heap.size<=b7 by omega) (ai6 m2)).setCell (p:=⟨b7,k*4+1,none⟩) (show w.heap.size<=b7 by omega) (ai7 a2 n2 c2)).setCell (p:=⟨b7,k*4+2,none⟩) (show w.heap.size<=b7 by omega) (ai6 k2)).setCell (p:=⟨b7,k*4+3,none⟩) (show w.heap.size<=b7 by omega) (ai7 d2 l2 e2);have h49:=(((iy.o.1.dy (c:=b7) (by omega) (k*4) (ai6 m2)).dy (c:=b7) (by omega) (k*4+1) (ai7 a2 n2 c2)).dy (c:=b7) (by omega) (k*4+2) (ai6 k2)).dy (c:=b7) (by omega) (k*4+3) (ai7 d2 l2 e2);have vq:=hid (ah5 h49 (ah5 hn7 Cs));clear hn7 Cs h49;go_roundw
   case rel=>exact⟨k+1,_,by go_num,by omega,vq.o⟩
   case measure=>simp[intOf];omega
  ·obtain rfl:k=c:=by omega
   have hq:=HS.o.2.1.qp (by omega);have HQ:=hid hq;have hkk:¬(k:Int)<(k:Int):=by omega
   clear hq;go_wp2_with fail;refine(Ke (K:=K) (J:=J) (j:=j) (λu=>Be qs u) (λu=>vA qs u) (λu=>UQ qs u) ⟨hK.1,hK.2.2⟩ k (an1 _) (HP.o.1.below HS.o.2.2) HP.o.2.1 (by rw[HP.o.2.2];exact ak0 _) HG.o.1 hn HQ.o HG.o.2.2).mono ?_;rintro e w5 ⟨x,d,⟨m2,a2,n2,c2,k2,d2,l2,e2,rfl,hX1,hX2,hB⟩,h0,hv,_⟩;have h4:=HS.o.1.below hB;have H4:=hid h4;have HX:=hid (ah5 hX1 (ah5 hX2 (ah5 h0 (ah5 hv (Below.ar HS.o.2.2 hB)))));obtain⟨f0,f1,f2,f3⟩:=h4.q4;obtain⟨g0,g1,g2,g3⟩:=h4.r4;clear hX1 hX2 hB h0 hv h4 HS HQ;go_wp2_with fail;refine bodyPost_ret (v:= .tuple #[.agg #[ai6 m2,ai7 a2 n2 c2,ai6 k2,ai7 d2 l2 e2],.int .i64 0]) (by simp[results,Tryz.results40,go_sem,f0,f1,f2,f3]) rfl ?_;have Dh:=Ka H4.o (qf _ _ _ _ _ _ _ _) (ai6 m2) (ai7 a2 n2 c2) (ai6 k2) (ai7 d2 l2 e2);exact⟨x,d,_,_,_,_,_,_,_,_,rfl,HX.o.1.gu Dh.1,HX.o.2.1.gu Dh.1,HX.o.2.2.1,HX.o.2.2.2.1,gi HX.o.2.2.2.2 hbw _ _ _ _⟩
end
open Lib (hid)
section
variable {K J j:Nat} {ao po:Option Addr} {n ae pn pc:Nat} {w:ah6} {qs:List Rat}
theorem vg [Ol] {p:List ai} (hp:Pc K w ao n ae p) (hf:bD p) (hK:1<=K/\ K<=1000/\ K<=J/\ J<=30000/\ 1<=j/\ j<=30) (hc:bA p<=(pn:Int)) (hdg:∀u,dK p u<=999) (hn:n<=100000) (hq:Pt w po pn pc qs j) (hJ:ye p (yh qs) (yi qs) J):
  Calls Tryz.prog 10 #[ai7 ao n ae,ai7 po pn pc] w (SP w (rv (rO qs) p) J 0):=by
 have HB:=λ(V:ah6) (hV:ai2 w.heap.size w V)=>Dj (hp.below hV) hf hK hc hdg hn (hq.below hV) hJ
 have HBR:=hid HB;clear HB hp hf hc hdg hn hq hJ;go_enter Tryz.func10,Tryz.ntmps10;obtain⟨b4,hb4⟩:∃b4,b4=w.heap.size:=⟨_,rfl⟩;go_upto_region 1 with(fail)
 refine aj (λW0 hW=>?_);have a0:aS W0 b4 [ai6 false,ai7 none 0 0,ai6 false,ai7 none 0 0] 31/\ ai2 w.heap.size w W0:=by rw[hW,hb4];exact gp w _ 31
 rw[<-hb4];have hbw:w.heap.size<=b4:=by omega
 clear hW hb4;go_wp2_with fail;refine(HBR.o W0 a0.2).mono ?_;rintro e w1 ⟨x,d,m1,a1,n1,c1,k1,d1,l1,e1,rfl,hX1,hX2,h0,hv,hB⟩;obtain⟨b6,hb6⟩:∃b,b=w1.heap.size:=⟨_,rfl⟩;go_upto_region 2 with(fail)
 refine aj (λW2 hW=>?_);have a6:aS W2 b6 [ai6 m1,ai7 a1 n1 c1,ai6 k1,ai7 d1 l1 e1] 31/\ ai2 w1.heap.size w1 W2:=by rw[hW,hb6];exact gp w1 _ 31
 rw[<-hb6]
 have HR:Hid (Rx W2 m1 a1 n1 c1 k1 d1 l1 e1 x d (rv (rO qs) p) J):=by
  have h:=oZ (hX1.aW a6.2) (hX2.aW a6.2);have e:qv x d=rv (rO qs) p:=by rw[<-hv,Tp (by omega)]
  rw[e]at h;exact h
 have HS:Hid (aS W2 b4 [ai6 false,ai7 none 0 0,ai6 false,ai7 none 0 0] 31/\ ai2 w.heap.size w W2):=⟨(a0.1.below hB).below a6.2,Below.ar (Below.ar a0.2 hB) a6.2⟩;obtain⟨x0,x1,x2,x3⟩:=a6.1.q4;clear hW hb6 a6 a0 hB hX1 hX2 h0 hv;go_wp2_with fail;refine(Dk HR.o (by omega) (by omega)).mono ?_;rintro e w3 ⟨m2,a2,n2,c2,k2,d2,l2,e2,rfl,hX,hB⟩;have h4:=HS.o.1.below hB;have H4:=hid h4;have HX:=hid (ah5 hX (Below.ar HS.o.2 hB));obtain⟨f0,f1,f2,f3⟩:=h4.q4;obtain⟨g0,g1,g2,g3⟩:=h4.r4;clear hX hB h4 HS x0 x1 x2 x3;go_wp2_with fail;refine bodyPost_ret (v:= .tuple #[.agg #[ai6 m2,ai7 a2 n2 c2,ai6 k2,ai7 d2 l2 e2],.int .i64 0]) (by simp[results,Tryz.results10,go_sem,f0,f1,f2,f3]) rfl ?_;have Dh:=Ka H4.o (qf _ _ _ _ _ _ _ _) (ai6 m2) (ai7 a2 n2 c2) (ai6 k2) (ai7 d2 l2 e2);exact⟨_,_,_,_,_,_,_,_,rfl,HX.o.1.gu Dh.1,gi HX.o.2 hbw _ _ _ _⟩
theorem Hv {er:Int} (her:(er !=0)=true) (h:∀V:ah6,ai2 w.heap.size w V->Calls Tryz.prog 40 #[ai7 ao n ae,ai7 po pn pc] V (cr (.tuple #[.agg #[ai6 false,ai7 none 0 0,ai6 false,ai7 none 0 0],.int .i64 er]) V)):
  Calls Tryz.prog 10 #[ai7 ao n ae,ai7 po pn pc] w (cr (.tuple #[.agg #[ai6 false,ai7 none 0 0,ai6 false,ai7 none 0 0],.int .i64 er]) w):=by
 have HBR:=hid h;clear h;go_enter Tryz.func10,Tryz.ntmps10;obtain⟨b4,hb4⟩:∃b4,b4=w.heap.size:=⟨_,rfl⟩;go_upto_region 1 with(fail)
 refine aj (λW0 hW=>?_);have a0:aS W0 b4 [ai6 false,ai7 none 0 0,ai6 false,ai7 none 0 0] 31/\ ai2 w.heap.size w W0:=by rw[hW,hb4];exact gp w _ 31
 rw[<-hb4];have hbw:w.heap.size<=b4:=by omega
 clear hW hb4;go_wp2_with fail;refine(HBR.o W0 a0.2).mono ?_;rintro e w1 ⟨rfl,hB⟩;obtain⟨b6,hb6⟩:∃b,b=w1.heap.size:=⟨_,rfl⟩;go_upto_region 2 with(fail)
 refine aj (λW2 hW=>?_);have a6:ai2 w1.heap.size w1 W2:=by rw[hW];exact(gp w1 [ai6 false,ai7 none 0 0,ai6 false,ai7 none 0 0] 31).2
 rw[<-hb6];have h4:=(a0.1.below hB).below a6;have H4:=hid h4;have HB:=hid (Below.ar (Below.ar a0.2 hB) a6);obtain⟨f0,f1,f2,f3⟩:=h4.q4;obtain⟨g0,g1,g2,g3⟩:=h4.r4;clear hW hb6 a6 a0 hB h4;go_wp2_with fail;refine bodyPost_ret (v:= .tuple #[.agg #[ai6 false,ai7 none 0 0,ai6 false,ai7 none 0 0],.int .i64 er]) (by simp[results,Tryz.results10,go_sem,f0,f1,f2,f3]) rfl ?_;exact⟨rfl,gi HB.o hbw _ _ _ _⟩
end
def Lo (D:Nat) (p:List ai):Prop:=∀t∈p,∀x∈t.2,x.2<=(D:Int)
theorem AB {D:Nat}:∀{m:List (Int×Int)},(∀x∈m,x.2<=(D:Int))->∀v,aI m v<=(D:Int)
 |[],_,_=>by simp[aI]
 |x::r,h,v=>by
  unfold aI;split
  ·exact h x (by simp)
  ·exact AB (λy hy=>h y (by simp[hy])) v
theorem Lo.TQ {D:Nat} {p:List ai} (h:Lo D p) (u:Nat):dK p u<=D:=by
 unfold dK;rcases pR p (u:Int)with h0|⟨t,ht,h1⟩
 ·omega
 ·have:=AB (h t ht) (u:Int);omega
theorem Bf {f:Nat->Nat} {μ:Nat->Int} {M:Int} {D k:Nat} (hM:1<=M) (hμ:∀u,0<μ u/\ μ u<=M) (hf:∀u,f u<=D) (hk:∀u,k<=u->μ u=1):∀n,0<jU f μ n/\ jU f μ n<=M^(D*min n k)
 |0=>by simp[jU]
 |n+1=>by
  obtain⟨h1,h2⟩:=Bf hM hμ hf hk n;simp only[jU];have hp:0<μ n^f n:=aj3 (hμ n).1;refine⟨Int.mul_pos h1 hp,?_⟩;by_cases h:k<=n
  ·rw[hk n h,Int.one_pow,Int.mul_one,show min (n+1) k=min n k by omega];exact h2
  ·have e:D*min (n+1) k=D*min n k+D:=by rw[show min (n+1) k=min n k+1 by omega,Nat.mul_succ]
   rw[e,aj2]
   have h3:μ n^f n<=M^D:=by
    obtain⟨a,ha⟩:∃a:Nat,μ n=a:=⟨(μ n).toNat,by have:=(hμ n).1;omega⟩;obtain⟨b,hb⟩:∃b:Nat,M=b:=⟨M.toNat,by omega⟩;have hab:a<=b:=by have:=(hμ n).2;omega
    have hb1:1<=b:=by omega
    rw[ha,hb,<-aj6,<-aj6];exact Int.ofNat_le.2 (an5 (Nat.pow_le_pow_left hab _) (an9 hb1 (hf n)))
   exact aj0 h2 h3 (aj9 hp) (aj9 (aj3 (by omega)))
theorem Iw {qs:List Rat} {u:Nat} (h:qs.length<u):rO qs u=0:=by
 unfold rO;rw[ak5,am5 (by omega)];rfl
def Lq (j:Nat) (qs:List Rat):Prop:=qs.length<=10/\∀q∈qs,Bd q.num j/\ Bd (q.den:Int) j
theorem Lq.dY {j:Nat} {qs:List Rat} (h:Lq j qs) (u:Nat):Bd (rO qs u).num j/\ Bd ((rO qs u).den:Int) j∨rO qs u=0:=by
 by_cases hu:u-1<qs.length
 ·left
  have e:rO qs u=qs[u-1]:=by unfold rO;simp[ak5,hu]
  rw[e];exact h.2 _ (am6 hu)
 ·right
  unfold rO;rw[ak5,am5 (by omega)];rfl
theorem ye.TQ {p:List ai} {qs:List Rat} {D j K J:Nat} (h:∀u,dK p u<=D) (hq:Lq j qs) (hs:bY p<4294967296^K) (hK:1<=K) (hJ:K+D*11*j+D*11*j<=J):ye p (yh qs) (yi qs) J:=by
 have h1:∀n:Nat,1<=4294967296^n:=λn=>Nat.one_le_pow _ _ (by omega)
 obtain⟨M,hM⟩:∃M:Int,M=((4294967296^j:Nat):Int):=⟨_,rfl⟩;have hM1:1<=M:=by have:=h1 j;omega
 have hm:∀u,0<yh qs u/\ yh qs u<=M:=λu=>⟨Be qs u,by
  rcases hq.dY u with⟨h2,_⟩|h2
  ·unfold yh;unfold Bd at h2;omega
  ·unfold yh;rw[h2];show max 1 (0:Int)<=M;omega⟩
 have hd:∀u,0<yi qs u/\ yi qs u<=M:=λu=>⟨vA qs u,by
  rcases hq.dY u with⟨_,h2⟩|h2
  ·unfold yi;unfold Bd at h2;omega
  ·unfold yi;rw[h2];show(1:Int)<=M;omega⟩
 have hmo:∀u,11<=u->yh qs u=1:=λu hu=>by unfold yh;rw[Iw (by have:=hq.1;omega)];rfl
 have hdo:∀u,11<=u->yi qs u=1:=λu hu=>by unfold yi;rw[Iw (by have:=hq.1;omega)];rfl
 obtain⟨a1,a2⟩:=Bf hM1 hm h hmo 201;obtain⟨b1,b2⟩:=Bf hM1 hd h hdo 201
 have e:M^(D*min 201 11)=((4294967296^(D*11*j):Nat):Int):=by
  rw[hM,<-aj6,<-Nat.pow_mul,show j*(D*min 201 11)=D*11*j by rw[show min 201 11=11 from rfl,Nat.mul_comm]]
 rw[e]at a2 b2;obtain⟨X,hX⟩:∃X:Nat,jU (dK p) (yh qs) 201=(X:Int):=⟨(jU (dK p) (yh qs) 201).toNat,by omega⟩;obtain⟨Y,hY⟩:∃Y:Nat,jU (dK p) (yi qs) 201=(Y:Int):=⟨(jU (dK p) (yi qs) 201).toNat,by omega⟩;have hX2:X<=4294967296^(D*11*j):=by omega
 have hY2:Y<=4294967296^(D*11*j):=by omega
 have hY0:0<Y:=by omega
 have key:bY p*X*Y<4294967296^J:=by
  have s1:bY p*X<=bY p*4294967296^(D*11*j):=an8 _ hX2;have s2:bY p*X*Y<=bY p*4294967296^(D*11*j)*4294967296^(D*11*j):=Nat.mul_le_mul s1 hY2
  have s3:bY p*4294967296^(D*11*j)*4294967296^(D*11*j)<4294967296^K*4294967296^(D*11*j)*4294967296^(D*11*j):=
   ao0 (ao0 hs (h1 _)) (h1 _)
  rw[<-ao5,<-ao5]at s3;exact am8 (ao6 s2 s3) (an9 (by omega) hJ)
 have eJ:(4294967296:Int)^J=((4294967296^J:Nat):Int):=(aj6 4294967296 J).symm;unfold ye;rw[hX,hY,eJ];refine⟨by rw[<-ak2,<-ak2];exact aj5.2 key,?_⟩;have:Y<4294967296^J:=ao6 hY2 (Nat.pow_lt_pow_right (by omega) (by omega));exact aj5.2 this
theorem ye.of {p:List ai} {qs:List Rat} {D j K J:Nat} (h:Lo D p) (hq:Lq j qs) (hs:bY p<4294967296^K) (hK:1<=K) (hJ:K+D*11*j+D*11*j<=J):ye p (yh qs) (yi qs) J:=ye.TQ h.TQ hq hs hK hJ
abbrev ly:=(Bool×List Nat)×(Bool×List Nat)
def jq:ly:=((false,[]),(false,[]))
def tx (r:ly):Rat:=qv (cV r.1.1 (au r.1.2)) (cV r.2.1 (au r.2.2))
structure xW [Ol] (w:ah6) (ao:Option Addr) (n ae:Nat) (rs:List ly):Prop where
 len:rs.length=n
 ex:∃bF,Gl 4 w ao n ae bF/\∀i,i<n->∃a k c a2 k2 c2,bF.getD i []=[ai6 (rs.getD i jq).1.1,ai7 a k c,ai6 (rs.getD i jq).2.1,ai7 a2 k2 c2]/\ Sl w a k c (rs.getD i jq).1.2/\ Sl w a2 k2 c2 (rs.getD i jq).2.2
theorem xW.below [Ol] {w w':ah6} {ao:Z'} {n ae:Nat} {rs:List ly} (h:xW w ao n ae rs) (hb:ai2 w.heap.size w w'):xW w' ao n ae rs:=by
 obtain⟨bF,h1,h2⟩:=h.ex;refine⟨h.len,bF,h1.below hb,λi hi=>?_⟩;obtain⟨a,k,c,a2,k2,c2,h3,h4,h5⟩:=h2 i hi;exact⟨a,k,c,a2,k2,c2,h3,h4.below hb,h5.below hb⟩
theorem xW.nil [Ol] (w:ah6):xW w none 0 0 []:=⟨rfl,[],Gl.zero 4 w,λi hi=>by omega⟩
theorem xW.dY [Ol] {w:ah6} {ao:Z'} {n ae:Nat} {rs:List ly} (h:xW w ao n ae rs) {i:Nat} (hi:i<n):∃b off a k c a2 k2 c2,ao=some ⟨b,off,none⟩/\ b<w.heap.size/\ (∀V:ah6,ai2 w.heap.size w V->V.cell? ⟨b,off+i*4,none⟩=some (ai6 (rs.getD i jq).1.1)/\ V.cell? ⟨b,off+i*4+1,none⟩=some (ai7 a k c)/\ V.cell? ⟨b,off+i*4+2,none⟩=some (ai6 (rs.getD i jq).2.1)/\ V.cell? ⟨b,off+i*4+3,none⟩=some (ai7 a2 k2 c2))/\ k=(rs.getD i jq).1.2.length/\ k2=(rs.getD i jq).2.2.length:=by
 obtain⟨bF,h1,h2⟩:=h.ex;obtain⟨a,k,c,a2,k2,c2,h3,h4,h5⟩:=h2 i hi;obtain⟨b,off,e1,e2,e3⟩:=h1.at (by omega);refine⟨b,off,a,k,c,a2,k2,c2,e1,e2,λV hV=>?_,h4.len.symm,h5.len.symm⟩;have f:=e3 V hV i hi;rw[h3]at f;exact⟨f 0 (by omega),f 1 (by omega),f 2 (by omega),f 3 (by omega)⟩
def Ga (r:ly):Prop:=r.1.2.length<=3/\ r.2.2.length<=3
theorem Kh {rs:List ly} {i:Nat} (hi:i<rs.length):(rs.map tx).getD i 0=tx (rs.getD i jq):=by
 simp[ak5,hi]
theorem xW.pt [Ol] {w:ah6} {ao:Z'} {n ae:Nat} {rs:List ly} (h:xW w ao n ae rs) (hs:∀r∈rs,Ga r):Pt w ao n ae (rs.map tx) 3:=by
 obtain⟨bF,h1,h2⟩:=h.ex;refine⟨by rw[List.length_map];exact h.len,bF,h1,λi hi=>?_⟩;obtain⟨a,k,c,a2,k2,c2,h3,h4,h5⟩:=h2 i hi;have hil:i<rs.length:=by rw[h.len];exact hi
 have hm:rs.getD i jq∈rs:=by simp[ak5,hil]
 have hq:=hs _ hm;have l1:=h4.len;have l2:=h5.len;have x1:In w (rs.getD i jq).1.1 a k c (cV (rs.getD i jq).1.1 (au (rs.getD i jq).1.2)):=⟨_,h4,rfl⟩;have x2:In w (rs.getD i jq).2.1 a2 k2 c2 (cV (rs.getD i jq).2.1 (au (rs.getD i jq).2.2)):=⟨_,h5,rfl⟩;refine⟨_,_,_,_,_,_,_,_,_,_,h3,⟨⟨x1,by have:=hq.1;omega⟩,⟨x2,by have:=hq.2;omega⟩,?_,x1.bd (by have:=hq.1;omega),x2.bd (by have:=hq.2;omega)⟩⟩;rw[Kh hil];rfl
theorem Rx.xU {w:ah6} {m:Bool} {ao:Z'} {n ae:Nat} {k:Bool} {bo:Z'} {l cb:Nat} {x d:Int} {q:Rat} {j:Nat} (hx:Rx w m ao n ae k bo l cb x d q j) (h1:1<=j):Bd q.num j/\ Bd (q.den:Int) j:=by
 have hv:=hx.au;exact⟨by rw[<-hv,gY];exact tD hx.bn (jr d),by rw[<-hv,gY];exact tE (gy hx.bd h1) (jr d)⟩
theorem Pt.lq [Ol] {w:ah6} {ao:Z'} {n ae:Nat} {qs:List Rat} {j:Nat} (h:Pt w ao n ae qs j) (h1:1<=j) (hn:n<=10):Lq j qs:=by
 refine⟨by rw[h.len];exact hn,λq hq=>?_⟩;obtain⟨i,hi,rfl⟩:=am2.1 hq;obtain⟨bF,_,h2⟩:=h.ex;obtain⟨m,a,k,c,m2,a2,k2,c2,x,d,_,h4⟩:=h2 i (by rw[<-h.len];exact hi);have e:qs.getD i 0=qs[i]:=by simp[ak5,hi]
 rw[e]at h4;exact h4.xU h1
def PZ (m:List (Int×Int)):Bool:=m.any λx=>decide ((12:Int)<x.2)
def Tq (r:ly):Bool:=decide ((3:Int)<r.1.2.length)||decide ((3:Int)<r.2.2.length)
def dZ (ps:List kr) (rs:List ly):Bool:=nL ps 12||decide ((10:Int)<rs.length)||(ps.any λt=>PZ t.2)||rs.any Tq
theorem nj {ps:List kr} {rs:List ly} (h:dZ ps rs=false):nL ps 12=false/\ rs.length<=10/\ (∀t∈ps,∀x∈t.2,x.2<=12)/\∀r∈rs,Ga r:=by
 unfold dZ at h;simp only[Bool.or_eq_false_iff]at h;obtain⟨⟨⟨h1,h2⟩,h3⟩,h4⟩:=h;refine⟨h1,by have:=of_decide_eq_false h2;omega,λt ht x hx=>?_,λr hr=>?_⟩
 ·have:=am7.1 (by simpa using am7.1 h3 t ht:PZ t.2=false) x hx;simp at this;exact this
 ·have:Tq r=false:=by simpa using am7.1 h4 r hr
  unfold Tq at this;simp only[Bool.or_eq_false_iff,decide_eq_false_iff_not]at this;unfold Ga;omega
open Lib (hid)
theorem lW {α:Type} (f:α->Bool) {l:List α} {k:Nat} (hk:k<l.length):(l.take (k+1)).any f=((l.take k).any f||f l[k]):=by
 rw[al9 hk,List.any_append];simp
theorem pg {α:Type} (f:α->Bool) {l:List α} {k:Nat} (hk:k<l.length) (h:f l[k]=true):l.any f=true:=List.any_eq_true.2 ⟨_,am6 hk,h⟩
theorem Hg {w:ah6} {b o:Nat} {v:ah7} (h:w.cell? ⟨b,o,none⟩=some v):b<w.heap.size:=World.block_lt_of_cell? w _ h
theorem fp [Ol] (z:Bool) {ao bo:Z'} {n ae m cb:Nat} {ps:List kr} {rs:List ly} {w:ah6} (hp:Pr w ao n ae ps) (hq:xW w bo m cb rs) (h:dZ ps rs=z):
  Calls Tryz.prog 8 #[ai7 ao n ae,ai7 bo m cb] w (cr (ai6 z) w):=by
 obtain⟨g,hg⟩:∃g,nL ps 12=g:=⟨_,rfl⟩;have HP:Hid (∀V,ai2 w.heap.size w V->Pr V ao n ae ps):=λV hV=>hp.below hV
 have HQ:=hid hq;have rK:Hid (ps.length=n):=hp.len;have LH:Hid (rs.length=m):=hq.len;have HG:=hid hg;have HZ:=hid h;have hnb:n<=4398046511104:=by obtain⟨_,hG,_⟩:=hp.ex;exact hG.big
 have hmb:m<=4398046511104:=by obtain⟨_,hG,_⟩:=hq.ex;exact hG.big
 clear hp hq hg h;go_enter Tryz.func8,Tryz.ntmps8;go_wp2_with fail;refine(Gb g 12 (HP.o w (ai3 _ _)) HG.o).mono ?_;rintro e w1 ⟨rfl,hB⟩;have HB:=hid hB;clear hB;by_cases hg1:g=true
 ·subst hg1;go_wp2_with fail;go_ret;exact⟨by rw[<-HZ.o];unfold dZ;rw[HG.o];rfl,HB.o⟩
 obtain rfl:g=false:=by simpa using hg1
 clear hg1;by_cases hm:10<m
 ·have UG:(10:Int)<(m:Int):=by omega
  go_wp2_with fail;go_ret;exact⟨by rw[<-HZ.o];unfold dZ;rw[HG.o,LH.o,decide_eq_true UG];rfl,HB.o⟩
 have UG:¬(10:Int)<(m:Int):=by omega
 have HM:=hid UG;go_wp2_with fail;clear UG;go_loopw [17] (λi wr=>∃k:Nat,i= .int .i64 k/\ k<=n/\ Hid ((ps.take k).any (λt=>PZ t.2)=false/\ ai2 w.heap.size w wr)) (λi _=>n-(intOf i).toNat)
 case atStart=>exact⟨0,rfl,an3 _,rfl,HB.o⟩
 case round=>
  clear HB;obtain⟨k,rfl,hk,HS⟩:=hrel;by_cases hkn:k<n
  ·obtain⟨b,off,xa,xn,xc,xp,xq,xr,yx,hbl,hc,_,lZ⟩:=(HP.o w (ai3 _ _)).at hkn;subst yx;have hkl:k<ps.length:=by rw[rK.o];exact hkn
   have hpk:ps.getD k gO=ps[k]:=by simp[ak5,hkl]
   rw[hpk]at lZ;obtain⟨ms,hms⟩:∃ms,ps[k].2=ms:=⟨_,rfl⟩;rw[hms]at lZ;have QR:xq<=8796093022208:=lZ.big;have EL:=hid lZ;have HMS:Hid ((ps.take (k+1)).any (λt=>PZ t.2)=PZ ms/\ (PZ ms=true->ps.any (λt=>PZ t.2)=true)):=⟨by rw[lW _ hkl,HS.o.1,hms];rfl,λh=>pg _ hkl (by rw[hms];exact h)⟩;have hki:(k:Int)<(n:Int):=by omega
   have HC:Hid (∀V:ah6,ai2 w.heap.size w V->V.cell? ⟨b,off+k*3+2,none⟩=some (ai7 xp xq xr)):=λV hV=>(hc V hV).2.2
   have xZ:=hid HS.o.2;clear hc lZ hms hpk hbl HS;have c2:=HC.o wr xZ.o;go_wp2_with fail;clear c2;go_loopw [26] (λi wr=>∃j:Nat,i= .int .i64 j/\ j<=xq/\ Hid ((ms.take j).any (λx=>decide ((12:Int)<x.2))=false/\ ai2 w.heap.size w wr)) (λi _=>xq-(intOf i).toNat)
   case atStart=>exact⟨0,rfl,an3 _,rfl,xZ.o⟩
   case round=>
    clear xZ;obtain⟨j,rfl,hj,HJ⟩:=hrel;by_cases hjq:j<xq
    ·obtain⟨b2,off2,yx,_,hpc⟩:=EL.o.at (by omega);subst yx;have hp1:=(hpc j hjq).2;have hjl:j<ms.length:=by rw[EL.o.len];exact hjq
     have hmj:ms.getD j (0,0)=ms[j]:=by simp[ak5,hjl]
     rw[hmj]at hp1;obtain⟨e,he⟩:∃e,(ms[j]).2=e:=⟨_,rfl⟩;rw[he]at hp1;have hlt:=Hg hp1;have HX:Hid ((ms.take (j+1)).any (λx=>decide ((12:Int)<x.2))=decide ((12:Int)<e)/\ (decide ((12:Int)<e)=true->PZ ms=true)):=⟨by rw[lW _ hjl,HJ.o.1,he];rfl,λh=>pg _ hjl (by rw[he];exact h)⟩;have c1:wr.cell? ⟨b2,off2+j*2+1,none⟩=some (.int .i64 e):=by rw[HJ.o.2.cell (p:=⟨b2,off2+j*2+1,none⟩) hlt];exact hp1
     have c2:=HC.o wr HJ.o.2;have HB2:=hid HJ.o.2;have hji:(j:Int)<(xq:Int):=by omega
     clear hpc hp1 hmj he hlt HJ;by_cases h12:(12:Int)<e
     ·have YN:Hid (z=true):=by
       rw[Hid,<-HZ.o];unfold dZ;rw[HMS.o.2 (HX.o.2 (decide_eq_true h12))];simp
      go_wp2_with fail;go_ret;exact⟨by rw[YN.o];rfl,HB2.o⟩
     ·have HXF:Hid (decide ((12:Int)<e)=false):=decide_eq_false h12;go_wp2_with fail;go_roundw
      case rel=>exact⟨j+1,by go_num,by omega,HX.o.1.trans HXF.o,HB2.o⟩
      case measure=>simp[intOf];omega
    ·obtain rfl:j=xq:=by omega
     have HF:Hid (PZ ms=false):=by
      have h:=HJ.o.1;rw[al1 (by rw[EL.o.len];exact an1 _)]at h;exact h
     have HB2:=hid HJ.o.2;have hjj:¬(j:Int)<(j:Int):=by omega
     clear HJ;go_wp2_with fail;go_roundw
     case rel=>exact⟨k+1,by go_num,by omega,HMS.o.1.trans HF.o,HB2.o⟩
     case measure=>simp[intOf];omega
  ·obtain rfl:k=n:=by omega
   have HF:Hid (ps.any (λt=>PZ t.2)=false):=by
    have h:=HS.o.1;rw[al1 (by rw[rK.o];exact an1 _)]at h;exact h
   have HB2:=hid HS.o.2;have hkk:¬(k:Int)<(k:Int):=by omega
   clear HS;go_wp2_with fail;clear hkk;go_loopw [43] (λi wr=>∃j:Nat,i= .int .i64 j/\ j<=m/\ Hid ((rs.take j).any Tq=false/\ ai2 w.heap.size w wr)) (λi _=>m-(intOf i).toNat)
   case atStart=>exact⟨0,rfl,an3 _,rfl,HB2.o⟩
   case round=>
    clear HB2;obtain⟨j,rfl,hj,HJ⟩:=hrel;by_cases hjm:j<m
    ·obtain⟨b,off,a,kk,c,a2,k2,c2,yx,_,hc,hk1,hk2⟩:=HQ.o.dY hjm;subst yx;obtain⟨c0,c1,c2',c3⟩:=hc wr HJ.o.2;have hjl:j<rs.length:=by rw[LH.o];exact hjm
     have hrj:rs.getD j jq=rs[j]:=by simp[ak5,hjl]
     rw[hrj]at hk1 hk2;have HX:Hid ((rs.take (j+1)).any Tq=(decide ((3:Int)<kk)||decide ((3:Int)<k2))/\ ((decide ((3:Int)<kk)||decide ((3:Int)<k2))=true->rs.any Tq=true)):=⟨by rw[lW _ hjl,HJ.o.1,Tq,<-hk1,<-hk2];rfl,λh=>pg _ hjl (by rw[Tq,<-hk1,<-hk2];exact h)⟩;have HB2:=hid HJ.o.2;have hji:(j:Int)<(m:Int):=by omega
     clear hc hk1 hk2 hrj HJ c0 c2';by_cases h1:(3:Int)<(kk:Int)
     ·have YN:Hid (z=true):=by
       rw[Hid,<-HZ.o];unfold dZ;rw[HX.o.2 (by rw[decide_eq_true h1];rfl)];simp
      have h1n:3<kk:=by omega
      go_wp2_with fail;go_ret;exact⟨by rw[YN.o];rfl,HB2.o⟩
     ·have h1n:¬3<kk:=by omega
      by_cases h2:(3:Int)<(k2:Int)
      ·have YN:Hid (z=true):=by
        rw[Hid,<-HZ.o];unfold dZ;rw[HX.o.2 (by rw[decide_eq_true h2];simp)];simp
       have h2n:3<k2:=by omega
       go_wp2_with fail;go_ret;exact⟨by rw[YN.o];rfl,HB2.o⟩
      ·have h2n:¬3<k2:=by omega
       have HXF:Hid ((decide ((3:Int)<kk)||decide ((3:Int)<k2))=false):=by rw[Hid,decide_eq_false h1,decide_eq_false h2];rfl
       go_wp2_with fail;go_roundw
       case rel=>exact⟨j+1,by go_num,by omega,HX.o.1.trans HXF.o,HB2.o⟩
       case measure=>simp[intOf];omega
    ·obtain rfl:j=m:=by omega
     have HZF:Hid (z=false):=by
      have h:=HJ.o.1;rw[al1 (by rw[LH.o];exact an1 _)]at h;rw[Hid,<-HZ.o];unfold dZ;rw[HG.o,HF.o,h,LH.o,decide_eq_false (show¬(10:Int)<(j:Int)by have:=HM.o;omega)];rfl
     have HB2:=hid HJ.o.2;have hjj:¬(j:Int)<(j:Int):=by omega
     clear HJ;go_wp2_with fail;go_ret;exact⟨by rw[HZF.o];rfl,HB2.o⟩
end Go.Proofs.YtmenbpmciblnlaaGreatDoor
