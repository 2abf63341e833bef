/- VaFar, VaPart, VaParts, VaWo, VaWorth, VaLow, VaBrok, VaAt, VaBig -/
import Derived.Test.YtmenbpmciblnlaaGreatDoorGQ1
import Derived.Test.YtmenbpmciblnlaaGreatDoorGP6
import Derived.Test.YtmenbpmciblnlaaGreatDoorGVal
set_option maxHeartbeats 40000000
set_option maxRecDepth 100000
namespace Go.Proofs.YtmenbpmciblnlaaGreatDoor
open Go.RowKit
def Qd (v:Value):Bool:=match v with| .slice _ _ _=>true| _=>false
def shy (L:List Value):Prop:=(∀u∈L,Xn u=false)/\∀j a b,L[j]? =some a->L[j+1]? =some b->(bB a=true∨bB b=true)/\ (Qd a&&Qd b)=false
structure oK (w w':World) (b:Nat):Prop where
 iQ:∃L T,bD w b L T/\ shy L
 g:w.grownBy w' (some b)
theorem oK.pair {w w':World} {b b' off:Nat} {x y:Value} (h:oK w w' b') (hx:w.cell? ⟨b,off,none⟩=some x) (hy:w.cell? ⟨b,off+1,none⟩=some y) (hxy:(bB x=false/\ bB y=false)∨(Qd x&&Qd y)=true):b≠b':=by
 rintro rfl;obtain⟨L,T,hA,hL⟩:=h.iQ;rw[hA.cell]at hx hy;have h2:=hL.2 off x y hx hy;rcases hxy with⟨e1,e2⟩|e
 ·rcases h2.1 with k|k
  ·rw[e1]at k;cases k
  ·rw[e2]at k;cases k
 ·rw[e]at h2;cases h2.2
theorem Ml.iA [Ol] {w w':World} {ao:Option Addr} {n cap:Nat} {ps:List (Int×Int)} {b:Nat} (h:Ml w ao n cap ps) (hF:oK w w' b):Ml w' ao n cap ps:=by
 have hk:∀ad,ao=some ad->0<n->w'.heap[ad.block]? =w.heap[ad.block]? :=fun ad had h0=>hF.g.block _ (h.blt h0 had) fun e=>by
  obtain⟨g,off,h1,_,h3⟩:=h.at h0;rw[h1]at had;cases had;exact hF.pair (h3 0 h0).1 (h3 0 h0).2 (.inl ⟨rfl,rfl⟩) (Option.some.inj e)
 refine⟨h.len,h.le,h.big,h.wf,h.nil,fun ad had t ht=>?_,fun h0 ad had=>(h.kp h0 ad had).keep (hk ad had h0)⟩;have hc:=h.cells ad had t ht;rw[<-hc.1,<-hc.2];exact⟨World.cell?_of_block (by rw[jX];exact hk ad had (by omega)),World.cell?_of_block (by rw[jX];exact hk ad had (by omega))⟩
theorem Sl.iA {w w':World} {ao:Option Addr} {n cap:Nat} {xs:List Nat} {b:Nat} (h:Sl w ao n cap xs) (hF:oK w w' b):Sl w' ao n cap xs:=
 ⟨h.len,h.le,h.big,h.wf,h.nil,fun ad had t ht=>hF.g.cell (h.cells ad had t ht) fun e=>by
  obtain⟨L,T,hA,hL⟩:=hF.iQ;have:=hL.1 _ (I6 hA (h.cells ad had t ht) (Option.some.inj e));simp[Xn]at this⟩
theorem Cn.iA {w w':World} {m:Bool} {ao:Option Addr} {n cap:Nat} {z:Int} {b:Nat} (h:Cn w m ao n cap z) (hF:oK w w' b):Cn w' m ao n cap z:=⟨h.neg,h.sl.iA hF⟩
theorem Nx.iA {w w':World} {m:Bool} {ao:Option Addr} {n cap:Nat} {z:Int} {b:Nat} (h:Nx w m ao n cap z) (hF:oK w w' b):Nx w' m ao n cap z:=by
 obtain⟨⟨xs,hs,hz⟩,hl⟩:=h;exact⟨⟨xs,hs.iA hF,hz⟩,hl⟩
theorem jV.iA [Ol] {K:Nat} {w w':World} {vs:List Value} {t:Term} {b:Nat} (h:jV K w vs t) (hF:oK w w' b):jV K w' vs t:=by
 obtain⟨m,ao,n,cap,bo,k,cb,h1,h2,h3,h4⟩:=h;exact⟨m,ao,n,cap,bo,k,cb,h1,h2.iA hF,h3,h4.iA hF⟩
theorem Gl.MJ [Ol] {sz:Nat} {w w':World} {ao:Option Addr} {n cap:Nat} {bM:List (List Value)} (h:Gl sz w ao n cap bM) (hs:w.heap.size<=w'.heap.size) (hk:∀ad,ao=some ad->0<n->w'.heap[ad.block]? =w.heap[ad.block]?):Gl sz w' ao n cap bM:=by
 refine⟨h.len,h.le,h.big,h.each,h.nil,h.spot,fun ad had h0=>Nat.lt_of_lt_of_le (h.lt ad had h0) hs,fun ad had t ht j hj=>?_,fun h0 ad had=>(h.kp h0 ad had).keep (hk ad had h0)⟩;rw[<-h.cells ad had t ht j hj];exact World.cell?_of_block (by rw[jX];exact hk ad had (by omega))
theorem Pc.iA [Ol] {K:Nat} {w w':World} {ao:Option Addr} {n cap:Nat} {p:List Term} {b:Nat} (h:Pc K w ao n cap p) (hF:oK w w' b):Pc K w' ao n cap p:=by
 obtain⟨bM,h1,h2⟩:=h.ex;refine⟨bM,h1.MJ hF.g.size fun ad had h0=>hF.g.block _ (h1.lt ad had h0) fun e=>?_,h2.imp fun v a h=>h.iA hF⟩;obtain⟨g,off,e1,_,e3⟩:=h1.at h0;rw[e1]at had;cases had;have hl:=h1.len
 match bM,p,h2,hl with
 |[],_,_,hl=>simp at hl;omega
 |v::vs,t::r,h2,_=>
  obtain⟨m,ao,n,cap,bo,k,cb,rfl,_⟩:=h2.1;have c1:=e3 w (Below.refl _ _) 0 h0 1 (by omega);have c2:=e3 w (Below.refl _ _) 0 h0 2 (by omega);exact hF.pair c1 c2 (.inr rfl) (Option.some.inj e)
theorem Pw.iA [Ol] {B K:Nat} {w w':World} {ao:Option Addr} {n cap:Nat} {p:List Term} {b:Nat} (h:Pw B K w ao n cap p) (hF:oK w w' b) (hne:∀r,blk ao=some r->r≠b):Pw B K w' ao n cap p:=by
 obtain⟨X,h1,h2⟩:=h;refine⟨X,h1.apart hF.g ?_,h2.imp fun v a h=>h.iA hF⟩;cases hb:blk ao with
 |none=>exact .inl rfl
 |some r=>exact .inr fun e=>hne r hb (Option.some.inj e)
theorem Tryz.Kr:(Tryz.prog.info? 199).map (fun i=>(i.zero,i.size,i.bytes))=some (some (.agg #[.int .i64 0,.slice none 0 0]),2,32):=by kernel_rfl
theorem bD.UA {w:World} {b:Nat} {L L':List Value} {T T':TypeId} (h:bD w b L T) (h':bD w b L' T'):(T:Nat)=T':=by
 unfold bD at h h';rw[h]at h';exact congrArg (fun(o:Option Obj)=>match o with|some (.cells _ T _)=>T| _=>0) h'
def alt (L:List Value):Prop:=∀j u,L[j]? =some u->(j%2=0->∃x,u= .int .i64 x)/\ (j%2=1->Qd u=true)
theorem alt.shy {L:List Value} (h:alt L):shy L:=by
 refine⟨fun u hu=>?_,fun j a b ha hb=>?_⟩
 ·obtain⟨j,hj⟩:=List.mem_iff_getElem?.1 hu;have:=h j u hj;rcases Nat.mod_two_eq_zero_or_one j with e|e
  ·obtain⟨x,rfl⟩:=this.1 e;rfl
  ·have:=this.2 e;cases u<;>first|rfl|cases this
 ·rcases Nat.mod_two_eq_zero_or_one j with e|e
  ·obtain⟨x,rfl⟩:=(h j a ha).1 e;have:=(h (j+1) b hb).2 (by omega);cases b<;>first|exact⟨.inr rfl,rfl⟩|cases this
  ·have h1:=(h j a ha).2 e;obtain⟨x,rfl⟩:=(h (j+1) b hb).1 (by omega);cases a<;>first|exact⟨.inl rfl,rfl⟩|cases h1
theorem Ba (k:Nat):alt (Builtin.zeroCells (Value.agg #[.int .i64 0,.slice none 0 0]).cells k).toList:=fun j u hu=>by
 have hl:j<k*2:=by
  have:=(List.getElem?_eq_some_iff.1 hu).1;simpa[Builtin.zeroCells,Value.cells]using this
 have e:(Builtin.zeroCells (Value.agg #[.int .i64 0,.slice none 0 0]).cells k).toList[j]? =some ((#[Value.int .i64 0,.slice none 0 0]:Array Value)[j%2]!):=by
  simp[Builtin.zeroCells,Value.cells,hl]
 rw[e]at hu;cases hu;rcases Nat.mod_two_eq_zero_or_one j with e2|e2<;>rw[e2]
 ·exact⟨fun _=>⟨0,rfl⟩,fun h=>by omega⟩
 ·exact⟨fun h=>by omega,fun _=>rfl⟩
theorem yT (k:Nat):(Builtin.zeroCells (Value.agg #[.int .i64 0,.slice none 0 0]).cells k).toList.length=k*2:=by simp[Builtin.zeroCells,Value.cells]
theorem alt.set {L:List Value} (h:alt L) {j:Nat} (hj:j%2=1) {v:Value} (hv:Qd v=true):alt (L.set j v):=fun i u hu=>by
 rw[List.getElem?_set]at hu;split at hu
 ·split at hu
  ·cases hu;subst_vars;exact⟨fun e=>by omega,fun _=>hv⟩
  ·cases hu
 ·exact h i u hu
def Qe [Ol] (B K:Nat) (w:World) (L:List Value) (acc:List (Int×List Term)):Prop:=
 (∀j,j<acc.length->∃o k c,L[j*2]? =some (.int .i64 (acc.getD j (0,[])).1)/\ L[j*2+1]? =some (.slice o k c)/\ Pw B K w o k c (acc.getD j (0,[])).2)/\
 ∀i j o k c o' k' c',i<j->j<acc.length->L[i*2+1]? =some (.slice o k c)->L[j*2+1]? =some (.slice o' k' c')->∀r,blk o=some r->blk o'≠some r
structure lU [Ol] (B K:Nat) (w:World) (v:Value) (acc:List (Int×List Term)) (g cap:Nat) (L:List Value):Prop where
 v:v= .slice (some ⟨g,0,none⟩) acc.length cap
 low:B<=g
 iQ:bD w g L 199
 alt:alt L
 room:L.length=cap*2
 fit:acc.length<=cap
 big:cap<=maxLen
 pts:Qe B K w L acc
theorem Qe.keep [Ol] {B K:Nat} {w w':World} {L L':List Value} {acc:List (Int×List Term)} (h:Qe B K w L acc) (hL:∀i,i<acc.length*2->L'[i]? =L[i]?) (hw:∀o k c q,Pw B K w o k c q->(∃j,j<acc.length/\ L[j*2+1]? =some (.slice o k c))->Pw B K w' o k c q):Qe B K w' L' acc:=by
 refine⟨fun j hj=>?_,fun i j o k c o' k' c' hij hj h1 h2=>?_⟩
 ·obtain⟨o,k,c,h1,h2,h3⟩:=h.1 j hj;exact⟨o,k,c,by rw[hL _ (by omega)];exact h1,by rw[hL _ (by omega)];exact h2,hw _ _ _ _ h3 ⟨j,hj,h2⟩⟩
 ·rw[hL _ (by omega)]at h1 h2;exact h.2 i j o k c o' k' c' hij hj h1 h2
theorem lU.below [Ol] {B K:Nat} {w w':World} {v:Value} {acc:List (Int×List Term)} {g cap:Nat} {L:List Value} (h:lU B K w v acc g cap L) (hb:Below w.heap.size w w'):lU B K w' v acc g cap L:=
 ⟨h.v,h.low,h.iQ.below hb,h.alt,h.room,h.fit,h.big,h.pts.keep (fun _ _=>rfl) fun _ _ _ _ h1 _=>h1.below hb⟩
theorem ny {α:Type} (l m:List α) (d:α) {j:Nat} (h:j<l.length):(l++m).getD j d=l.getD j d:=by
 simp[List.getD,List.getElem?_append_left h]
theorem jH {α:Type} (l:List α) (x d:α):(l++[x]).getD l.length d=x:=by simp[List.getD]
theorem Qe.push [Ol] {B K:Nat} {w:World} {L:List Value} {acc:List (Int×List Term)} (h:Qe B K w L acc) {e:Int} (h0:L[acc.length*2]? =some (.int .i64 e)) (h1:L[acc.length*2+1]? =some (.slice none 0 0)):Qe B K w L (acc++[(e,[])]):=by
 refine⟨fun j hj=>?_,fun i j o k c o' k' c' hij hj a1 a2=>?_⟩
 ·rw[List.length_append,List.length_singleton]at hj;by_cases hja:j<acc.length
  ·rw[ny _ _ _ hja];exact h.1 j hja
  ·obtain rfl:j=acc.length:=by omega
   rw[jH];exact⟨none,0,0,h0,h1,[],Rw.zero _ _ _ _,trivial⟩
 ·rw[List.length_append,List.length_singleton]at hj;by_cases hja:j<acc.length
  ·exact h.2 i j o k c o' k' c' hij hja a1 a2
  ·obtain rfl:j=acc.length:=by omega
   rw[h1]at a2;cases a2;intro r _ hr;cases hr
def QZ [Ol] (B K:Nat) (w:World) (acc:List (Int×List Term)) (v':Value) (W:World):Prop:=
 (∃g cap L,lU B K W v' acc g cap L/\∀j,j+1=acc.length->L[j*2+1]? =some (.slice none 0 0))/\∃r,w.grownBy W r/\∀g,r=some g->B<=g/\∃L,bD w g L 199
theorem Bb [Ol] {B K:Nat} {v:Value} {acc:List (Int×List Term)} {w:World} (h:(acc=[]/\ v= .slice none 0 0)∨ ∃g cap L,lU B K w v acc g cap L) (hB:B<=w.heap.size) (hn:acc.length<1000000) (e:Int) (tt ty:TypeId):
  ∃v' W,(Builtin.append_ #[196,196] ty #[v,.slice (some ⟨w.heap.size,0,none⟩) 1 1]).run Tryz.prog (w.alloc (.cells #[.int .i64 e,.slice none 0 0] tt))= .ok v' W/\ QZ B K w (acc++[(e,[])]) v' W:=by
 obtain⟨i0,hi,hz0,hz1,hz2⟩:=info_parts Tryz.Kr;obtain⟨vs,hvs⟩:∃vs:List Value,vs=[.int .i64 e,.slice none 0 0]:=⟨_,rfl⟩;obtain⟨w1,hw1⟩:∃w1,w1=w.alloc (.cells #[.int .i64 e,.slice none 0 0] tt):=⟨_,rfl⟩;have hA1:bD w1 w.heap.size vs tt:=by rw[hw1,hvs];exact bD.new w _ tt
 have hB1:Below w.heap.size w w1:=by rw[hw1];exact af _ _
 have hs1:w1.heap.size=w.heap.size+1:=by rw[hw1];simp
 rw[<-hw1];have hv1:∀v∈vs,v.oneCell'=true:=by rw[hvs];intro v hv;simp at hv;rcases hv with rfl|rfl<;>rfl
 have hv2:vs.length=2:=by rw[hvs];rfl
 have hnews:∀j v,vs[j]? =some v->w1.cell? ((⟨w.heap.size,0,none⟩:Addr).add j)=some v:=fun j v hj=>by rw[Addr.add_lit,hA1.cell,Nat.zero_add,hj]
 have hnl:vs.length=1*i0.size:=by rw[hz1,hv2]
 have hva:∀j u,vs[j]? =some u->(j%2=0->∃x,u= .int .i64 x)/\ (j%2=1->Qd u=true):=fun j u hu=>by
  rw[hvs]at hu
  match j,hu with
  |0,hu=>cases hu;exact⟨fun _=>⟨e,rfl⟩,fun h=>by omega⟩
  |1,hu=>cases hu;exact⟨fun h=>by omega,fun _=>rfl⟩
  |j+2,hu=>simp at hu
 have hv0:vs[0]? =some (.int .i64 e):=by rw[hvs];rfl
 have Kt:vs[1]? =some (.slice none 0 0):=by rw[hvs];rfl
 clear hw1 hvs;rcases h with⟨rfl,rfl⟩|⟨g,cap,L,hR⟩
 ·have hr:=run_append_nil (P:=Tryz.prog) w1 196 ty 199 i0 _ Tryz.underlying196 hi hz0 ⟨w.heap.size,0,none⟩ 1 1 vs hnl hnews (by omega) (by omega) (by rw[hz2];omega);obtain⟨c',hc'⟩:∃c',c'=grownCap w1 1 0 199:=⟨_,rfl⟩;have hge:1<=c':=by rw[hc'];exact grownCap_ge _ _ _ _
  have hle:c'<=maxLen:=by rw[hc'];exact grownCap_le_maxLen _ _ _ _ (by unfold maxLen;omega)
  rw[<-hc']at hr;obtain⟨Z,hZ⟩:∃Z,Z=(Builtin.zeroCells (Value.agg #[.int .i64 0,.slice none 0 0]).cells (c'-1)).toList:=⟨_,rfl⟩;have Z4:alt Z:=by rw[hZ];exact Ba _
  have Q0:Z.length=(c'-1)*2:=by rw[hZ];exact yT _
  have hMe:vs.toArray++Builtin.zeroCells (Value.agg #[.int .i64 0,.slice none 0 0]).cells (c'-1)=(vs++Z).toArray:=by
   apply Array.ext';rw[hZ];simp
  rw[hMe]at hr;have Mh:Below w1.heap.size w1 (w1.drew.alloc (.cells (vs++Z).toArray 199)):=(Below.refl _ w1).drew.alloc (Nat.le_refl _) _;refine⟨_,_,hr,⟨_,c',vs++Z,⟨rfl,by show B<=w1.heap.size;omega,bD.new _ _ _,fun j u hu=>?_,by rw[List.length_append,hv2,Q0];omega,hge,hle,Qe.push (acc:=[]) ⟨fun j hj=>by simp at hj,fun i j o k c o' k' c' hij hj=>by simp at hj⟩ ?_ ?_⟩,fun j hj=>?_⟩,none,dY _ (Below.steps hB1 Mh),fun g h=>by cases h⟩
  ·by_cases hj:j<2
   ·rw[List.getElem?_append_left (by omega)]at hu;exact hva j u hu
   ·rw[List.getElem?_append_right (by omega),hv2]at hu;have:=Z4 _ u hu;exact⟨fun h=>this.1 (by omega),fun h=>this.2 (by omega)⟩
  ·rw[List.getElem?_append_left (by simp[hv2])];exact hv0
  ·rw[List.getElem?_append_left (by simp[hv2])];exact Kt
  ·obtain rfl:j=0:=by simpa using hj
   rw[List.getElem?_append_left (by simp[hv2])];exact Kt
 ·obtain rfl:=hR.v;obtain⟨n,hnn⟩:∃n,n=acc.length:=⟨_,rfl⟩;have hfit:=hR.fit;have sP:=hR.room;have Ku:=hR.iQ.below hB1;rw[<-hnn]at hfit hn ⊢;by_cases hr:n+1<=cap
  ·have hrun:=r9 (P:=Tryz.prog) w1 196 ty 199 i0 Tryz.underlying196 hi g 0 n cap ⟨w.heap.size,0,none⟩ 1 1 vs hnl hnews hv1 hr (fun j hj=>by
     rw[Ku.cell,hz1,List.getElem?_eq_getElem (by omega)];rfl) (fun j hj=>Ku.fz _)
   rw[hz1,Nat.zero_add]at hrun;have hG:=sQ g vs w1 (n*2);have hF:oK w1 (w1.setCells g (n*2) vs) g:=⟨⟨L,_,Ku,hR.alt.shy⟩,hG⟩;have hL:∀i,i<acc.length*2->(nZ L (n*2) vs)[i]? =L[i]? :=fun i hi=>jw _ _ _ _ (.inl (by omega))
   have hgT:∀o k c q,Pw B K w1 o k c q->∀r,blk o=some r->r≠g:=fun o k c q h1 r hr e=>by
    obtain⟨X,h1,_⟩:=h1;rcases h1.ex with⟨rfl,_⟩|⟨g',off,L',rfl,_,hA',_⟩
    ·cases hr
    ·cases hr;subst e;exact absurd (Ku.UA hA') (by decide)
   refine⟨_,_,hrun,⟨g,cap,nZ L (n*2) vs,⟨by rw[List.length_append,<-hnn];rfl,hR.low,Ku.put vs _,fun j u hu=>?_,by rw[iG];exact sP,by rw[List.length_append,<-hnn];exact hr,hR.big,Qe.push ((hR.below hB1).pts.keep hL fun o k c q h1 _=>h1.iA hF (hgT o k c q h1)) ?_ ?_⟩,fun j hj=>?_⟩,some g,eG (dY _ hB1) hG,fun g' h=>by cases h;exact⟨hR.low,L,hR.iQ⟩⟩
   ·by_cases hj:j<n*2∨n*2+vs.length<=j
    ·rw[jw _ _ _ _ hj]at hu;exact hR.alt j u hu
    ·have hjl:j<L.length:=by
      have:=(List.getElem?_eq_some_iff.1 hu).1;rwa[iG]at this
     rw[jC _ _ _ _ (by omega) (by omega) hjl]at hu;have:=hva _ u hu;exact⟨fun h=>this.1 (by omega),fun h=>this.2 (by omega)⟩
   ·rw[<-hnn,jC _ _ _ _ (by omega) (by omega) (by omega),Nat.sub_self];exact hv0
   ·rw[<-hnn,jC _ _ _ _ (by omega) (by omega) (by omega),show n*2+1-n*2=1 by omega];exact Kt
   ·obtain rfl:j=n:=by rw[List.length_append,List.length_singleton]at hj;omega
    rw[jC _ _ _ _ (by omega) (by omega) (by omega),show j*2+1-j*2=1 by omega];exact Kt
  ·obtain rfl:n=cap:=by omega
   obtain⟨O,hO⟩:∃O,O=L.take (n*2):=⟨_,rfl⟩;have hOL:O=L:=by rw[hO];exact List.take_of_length_le (by omega)
   rw[hOL]at hO;have hr:=run_append_grow (P:=Tryz.prog) w1 196 ty 199 i0 _ Tryz.underlying196 hi hz0 ⟨g,0,none⟩ n n L (by rw[sP,hz1]) (fun j v hj=>by rw[Addr.add_lit,Ku.cell,Nat.zero_add,hj]) ⟨w.heap.size,0,none⟩ 1 1 vs hnl hnews (by omega) (by omega) (by rw[hz2];exact growslice_fits (by omega) (by omega));obtain⟨c',hc'⟩:∃c',c'=grownCap w1 (n+1) n 199:=⟨_,rfl⟩;have hge:n+1<=c':=by rw[hc'];exact grownCap_ge _ _ _ _
   have hle:c'<=maxLen:=by rw[hc'];exact grownCap_le_maxLen _ _ _ _ (by unfold maxLen;omega)
   rw[<-hc']at hr;obtain⟨Z,hZ⟩:∃Z,Z=(Builtin.zeroCells (Value.agg #[.int .i64 0,.slice none 0 0]).cells (c'-(n+1))).toList:=⟨_,rfl⟩;have Z4:alt Z:=by rw[hZ];exact Ba _
   have Q0:Z.length=(c'-(n+1))*2:=by rw[hZ];exact yT _
   have hMe:L.toArray++vs.toArray++Builtin.zeroCells (Value.agg #[.int .i64 0,.slice none 0 0]).cells (c'-(n+1))=(L++vs++Z).toArray:=by
    apply Array.ext';rw[hZ];simp
   rw[hMe]at hr;have Mh:Below w1.heap.size w1 (w1.drew.alloc (.cells (L++vs++Z).toArray 199)):=(Below.refl _ w1).drew.alloc (Nat.le_refl _) _;have hlv:(L++vs).length=(n+1)*2:=by rw[List.length_append,sP,hv2];omega
   refine⟨_,_,hr,⟨w1.heap.size,c',L++vs++Z,⟨by rw[List.length_append,<-hnn];rfl,by omega,bD.new _ _ _,fun j u hu=>?_,by rw[List.length_append,hlv,Q0];omega,by rw[List.length_append,<-hnn];exact hge,hle,Qe.push (((hR.below hB1).below Mh).pts.keep (fun i hi=>?_) fun _ _ _ _ h1 _=>h1) ?_ ?_⟩,fun j hj=>?_⟩,none,dY _ (Below.steps hB1 Mh),fun g h=>by cases h⟩
   ·by_cases hj:j<n*2
    ·rw[List.append_assoc,List.getElem?_append_left (by omega)]at hu;exact hR.alt j u hu
    ·by_cases hj2:j<(n+1)*2
     ·rw[List.getElem?_append_left (by omega),List.getElem?_append_right (by omega),sP]at hu;have:=hva _ u hu;exact⟨fun h=>this.1 (by omega),fun h=>this.2 (by omega)⟩
     ·rw[List.getElem?_append_right (by omega),hlv]at hu;have:=Z4 _ u hu;exact⟨fun h=>this.1 (by omega),fun h=>this.2 (by omega)⟩
   ·rw[List.append_assoc,List.getElem?_append_left (by omega)]
   ·rw[<-hnn,List.getElem?_append_left (by omega),List.getElem?_append_right (by omega),sP,Nat.sub_self];exact hv0
   ·rw[<-hnn,List.getElem?_append_left (by omega),List.getElem?_append_right (by omega),sP,show n*2+1-n*2=1 by omega];exact Kt
   ·obtain rfl:j=n:=by rw[List.length_append,List.length_singleton]at hj;omega
    rw[List.getElem?_append_left (by omega),List.getElem?_append_right (by omega),sP,show j*2+1-j*2=1 by omega];exact Kt
theorem lU.last [Ol] {B K:Nat} {w W:World} {v:Value} {a:List (Int×List Term)} {e:Int} {q q':List Term} {g cap:Nat} {L:List Value} (h:lU B K w v (a++[(e,q)]) g cap L) {po:Option Addr} {pn pc:Nat} (hx:L[a.length*2+1]? =some (.slice po pn pc)) (hp:Pw B K w po pn pc q)
  {ro:Option Addr} {rn rc:Nat} (hr:Pw B K W ro rn rc q') (hG:w.grownBy W (blk po)) (hd:blk ro=blk po∨ ∀g',blk ro=some g'->w.heap.size<=g'):lU B K (W.setCell ⟨g,a.length*2+1,none⟩ (.slice ro rn rc)) v (a++[(e,q')]) g cap (L.set (a.length*2+1) (.slice ro rn rc)):=by
 have hT:∀{V:World} {L':List Value} {o:Option Addr} {k c:Nat} {z:List Term},bD V g L' 199->Pw B K V o k c z->∀r,blk o=some r->r≠g:=fun{V L' o k c z} hA h1 r hr e=>by
  obtain⟨X,h1,_⟩:=h1;rcases h1.ex with⟨rfl,_⟩|⟨g',off,L',rfl,_,hA',_⟩
  ·cases hr
  ·cases hr;subst e;exact absurd (hA.UA hA') (by decide)
 have YW:bD W g L 199:=h.iQ.apart hG fun e2=>hT h.iQ hp g e2.symm rfl
 have hF:oK W (W.setCell ⟨g,a.length*2+1,none⟩ (.slice ro rn rc)) g:=⟨⟨L,_,YW,h.alt.shy⟩,cB _ _ _ _⟩;have hll:a.length*2+1<L.length:=(List.getElem?_eq_some_iff.1 hx).1;have hlt:=hp.lt;have hlen:(a++[(e,q')]).length=(a++[(e,q)]).length:=by simp
 refine⟨by rw[hlen];exact h.v,h.low,YW.set _ _,h.alt.set (by omega) rfl,by rw[List.length_set];exact h.room,by rw[hlen];exact h.fit,h.big,fun j hj=>?_,fun i j o k c o' k' c' hij hj a1 a2=>?_⟩
 ·rw[hlen,List.length_append,List.length_singleton]at hj;by_cases hja:j<a.length
  ·obtain⟨o,k,c,h1,h2,h3⟩:=h.pts.1 j (by simp;omega);rw[ny _ _ _ hja]at h1 h3 ⊢;refine⟨o,k,c,by rw[List.getElem?_set_ne (by omega)];exact h1,by rw[List.getElem?_set_ne (by omega)];exact h2,?_⟩;have h4:=h3.stepG hG hp.rZ fun r hr e2=>h.pts.2 j a.length o k c po pn pc hja (by simp) h2 hx r e2 hr
   exact h4.iA hF (hT YW h4)
  ·obtain rfl:j=a.length:=by omega
   rw[jH];obtain⟨o,k,c,h1,_,_⟩:=h.pts.1 a.length (by simp);rw[jH]at h1;exact⟨ro,rn,rc,by rw[List.getElem?_set_ne (by omega)];exact h1,by rw[List.getElem?_set_self hll],hr.iA hF (hT YW hr)⟩
 ·rw[hlen,List.length_append,List.length_singleton]at hj;rw[List.getElem?_set_ne (by omega)]at a1;by_cases hja:j<a.length
  ·rw[List.getElem?_set_ne (by omega)]at a2;exact h.pts.2 i j o k c o' k' c' hij (by simp;omega) a1 a2
  ·obtain rfl:j=a.length:=by omega
   rw[List.getElem?_set_self hll]at a2;cases a2;intro r hr1 hr2;obtain⟨o2,k2,c2,_,h2,h3⟩:=h.pts.1 i (by simp;omega);rw[a1]at h2;cases h2;rcases hd with e2|e2
   ·exact h.pts.2 i a.length o k c po pn pc hij (by simp) a1 hx r hr1 (e2▸hr2)
   ·have:=e2 r hr2;have:=(h3.lt r hr1).2;omega
open Lib (hid)
def kH [Ol] (B K:Nat) (w:World) (acc:List (Int×List Term)) (v:Value) (w':World):Prop:=
 ((acc=[]/\ v= .slice none 0 0)∨(acc≠[]/\∃g c L,lU B K w' v acc g c L))/\ Below B w w'
theorem kH.below [Ol] {B K:Nat} {w w1 w2:World} {acc:List (Int×List Term)} {v:Value} (h:kH B K w acc v w1) (hb:Below w1.heap.size w1 w2) (hB:B<=w1.heap.size):kH B K w acc v w2:=
 ⟨h.1.imp id fun⟨h0,g,c,L,h⟩=>⟨h0,g,c,L,h.below hb⟩,h.2.trans (hb.mono hB)⟩
theorem Ml.init [Ol] {w:World} {ao:Option Addr} {n cap:Nat} {xs:List (Int×Int)} {a:Int×Int} (h:Ml w ao (n+1) cap (xs++[a])):Ml w ao n cap xs:=
 ⟨by have:=h.len;simp at this;omega,by have:=h.le;omega,by have:=h.big;omega,fun p hp=>h.wf p (by simp[hp]),h.nil,fun ad had t ht=>by
  have hl:xs.length=n:=by have:=h.len;simp at this;omega
  have:=h.cells ad had t (by omega);rwa[ny _ _ _ (by omega)]at this,fun h0 ad had=>h.kp (by omega) ad had⟩
theorem rf {v:Int} {acc:List (Int×List Term)} {t:Term} {e:Int} (he:aH t.2 v=e) (h:∀a e0 q,acc=a++[(e0,q)]->e0≠e):jI v acc t=acc++[(e,[(t.1,gB v t.2)])]:=by
 unfold jI;rcases iH acc with rfl|⟨a,⟨e0,q⟩,rfl⟩
 ·simp[he]
 ·have:=h a e0 q rfl;simp[he,this]
theorem yU {v:Int} {a:List (Int×List Term)} {t:Term} {e:Int} {q:List Term} (he:aH t.2 v=e):jI v (a++[(e,q)]) t=a++[(e,q++[(t.1,gB v t.2)])]:=by
 unfold jI;simp[he]
theorem Kv (v:Int) (t:Term) (acc:List (Int×List Term)):(jI v acc t).length<=acc.length+1:=by
 unfold jI;split
 ·split<;>simp
 ·simp
theorem sS (v:Int):∀(l:List Term) (acc:List (Int×List Term)),(l.foldl (jI v) acc).length<=acc.length+l.length
 |[],acc=>by simp
 |t::l,acc=>by
  have:=sS v l (jI v acc t);have:=Kv v t acc;simp only[List.foldl_cons,List.length_cons];omega
theorem yV (v:Int) (m:Nat):∀(l:List Term) (acc:List (Int×List Term)),(∀g∈acc,g.2.length+l.length<=m)->l.length<=m->∀g∈l.foldl (jI v) acc,g.2.length<=m
 |[],acc,h,_=>fun g hg=>by have:=h g hg;omega
 |t::l,acc,h,hl=>by
  simp only[List.length_cons]at hl h;refine yV v m l (jI v acc t) (fun g hg=>?_) (by omega);rcases iH acc with rfl|⟨a,⟨e0,q⟩,rfl⟩
  ·rw[rf rfl (fun a e0 q h=>by simp at h)]at hg;simp at hg;subst hg;simp;omega
  ·by_cases he:e0=aH t.2 v
   ·subst he;rw[yU rfl]at hg;rcases List.mem_append.1 hg with h1|h1
    ·have:=h g (by simp[h1]);omega
    ·simp at h1;subst h1;have:=h (aH t.2 v,q) (by simp);simp at this ⊢;omega
   ·rw[rf rfl (fun a' e1 q' h h3=>he (by have h2:=(List.append_inj' h rfl).2;cases h2;exact h3))]at hg;rcases List.mem_append.1 hg with h1|h1
    ·have:=h g h1;omega
    ·simp at h1;subst h1;simp;omega
theorem GV [Ol] {K:Nat} {ao:Option Addr} {n cap:Nat} {p:List Term} {w:World} (v:Int) (hp:Pc K w ao n cap p) (hf:fall p) (hcl:∀t∈p,iC t.2<=v) (hn:n<=100000):
  Calls Tryz.prog 149 #[.slice ao n cap,.int .i64 v] w (fun e w'=>∃x,e= .returned x/\ kH w.heap.size K w (bg v p) x w'):=by
 have HP:=hid hp;have vF:Hid (p.length=n):=hp.len;have HM:=hid (eF hf);have HC:=hid hcl;clear hp hf hcl;go_enter Tryz.func149,Tryz.ntmps149;have DC:Hid (kH w.heap.size K w (bg v (p.take 0)) (.slice none 0 0) w):=⟨.inl ⟨by simp[bg],rfl⟩,Below.refl _ _⟩;go_wp2_with fail;go_loopw [5,13] (fun s i wr=>∃(k:Nat),i= .int .i64 k/\ k<=n/\ Hid (kH w.heap.size K w (bg v (p.take k)) s wr)) (fun _ i _=>n-(intOf i).toNat)
 case atStart=>exact⟨0,rfl,Nat.zero_le _,DC.out⟩
 case round=>
  clear DC;obtain⟨k,rfl,hk,HS⟩:=hrel;by_cases hkn:k<n
  ·obtain⟨b,off,xm,xa,xn,xc,xp,xq,xr,QB,hbl,hc,JX,hBd,IZ⟩:=HP.out.at (k:=k) hkn;subst QB;have hbw:Below w.heap.size w wr:=HS.out.2;obtain⟨c0,c1,c2⟩:=hc wr hbw;have hkl:k<p.length:=by rw[vF.out];exact hkn
   obtain⟨t,ht⟩:∃t,t=p.getD k (0,[]):=⟨_,rfl⟩;rw[<-ht]at JX hBd IZ;have htp:t∈p:=by rw[ht];exact getD_in _ hkl
   have hpk:p[k]=t:=by rw[ht];simp[List.getD,hkl]
   have hnx:bg v (p.take (k+1))=jI v (bg v (p.take k)) t:=by rw[List.take_succ_eq_append_getElem hkl,mP,hpk]
   have hal:(bg v (p.take k)).length<=k:=by
    have:=sS v (p.take k) [];rw[List.length_take]at this;simp only[List.length_nil]at this;unfold bg;omega
   have HT:Hid (∀V,Below w.heap.size w V->Cn V xm xa xn xc t.1/\ Ml V xp xq xr t.2):=fun V hV=>⟨JX.below hV,IZ.below hV⟩
   have Cc:=hid hBd;have hlo:=Nq (HM.out t htp) (HC.out t htp);have HN:=hid (And.intro hnx (And.intro hlo hal));have hki:(k:Int)<(n:Int):=by omega
   clear hc JX hBd IZ hbl ht htp hpk hnx hkl hlo hal;go_upto_region 5 with(fail)
   refine aj (fun W1 hW=>?_);obtain⟨b7,F4⟩:∃b7,b7=wr.heap.size:=⟨_,rfl⟩;have a1:bD W1 b7 [.bool xm,.slice xa xn xc,.slice xp xq xr] 70/\ Below wr.heap.size wr W1:=by rw[hW,F4];exact nI wr [.bool xm,.slice xa xn xc,.slice xp xq xr] 70
   rw[<-F4];have yD:=hid (HS.out.below a1.2 hbw.size);have HB1:=hid a1.2;have hbr:wr.heap.size<=b7:=by omega
   have HA1:=hid a1.1;have YX:w.heap.size<=b7:=by rw[F4];exact hbw.size
   clear hW a1 c0 c1 c2 hbw F4;have hlo:=HN.out.2.1;rcases iH t.2 with h0|⟨xs,⟨u,x⟩,h0⟩
   obtain rfl:xq=0:=by have:=(HT.out w (Below.refl _ _)).2.len;rw[h0]at this;simpa using this.symm
   have HE:Hid (aH t.2 v=0/\ gB v t.2=t.2):=by rw[h0];exact⟨rfl,rfl⟩
   obtain⟨d0,d1,d2⟩:=HA1.out.c3;clear h0 hlo
   focus go_upto_region 10 with(fail)
   refine aj (fun W2 hW=>?_);have HA2:Hid (bD W2 b7 [.bool xm,.slice xa xn xc,.slice xp 0 xr] 70):=by rw[hW];exact HA1.out
   have HB2:Hid (Below wr.heap.size wr W2):=by rw[hW];exact HB1.out
   have HT2:Hid (∀V,Below w.heap.size w V->Cn V xm xa xn xc t.1/\ Ml V xp 0 xr (gB v t.2)):=fun V hV=>by rw[HE.out.2];exact HT.out V hV
   have HX:=hid HE.out.1;clear hW HE d0 d1 d2 HT HA1 yD HB1
   rotate_left
   rw[h0]at hlo;have hxl:xs.length+1=xq:=by have:=(HT.out w (Below.refl _ _)).2.len;rw[h0]at this;simpa using this
   obtain⟨j,hj⟩:∃j,j=xs.length:=⟨_,rfl⟩;obtain rfl:xq=j+1:=by omega
   obtain⟨pb,po,hpo,_,hpc⟩:=(HT.out W1 yD.out.2).2.at (by omega);subst hpo;have hw:=hpc j (by omega);rw[h0,hj,jH,<-hj]at hw;obtain⟨w0,w1⟩:=hw;obtain⟨d0,d1,d2⟩:=HA1.out.c3;have hbig:j+1<=8796093022208:=(HT.out w (Below.refl _ _)).2.big;have hj0:(0:Int)<=(j:Int):=by omega
   have hji:(j:Int)<(j:Int)+1:=by omega
   have hjb: -9223372036854775808<=(j:Int)/\ (j:Int)<=9223372036854775807:=⟨by omega,by omega⟩;have YZ:Hid (IntKind.i64.wrap ((j:Int)+1-1)=(j:Int)/\ wrap64 (j:Int)=(j:Int)):=⟨by rw[show(j:Int)+1-1=j by omega];exact IntWalk.i64_in _ hjb,IntWalk.wrap64_in _ hjb⟩;clear hjb;have hjr:j<=xr:=Nat.le_of_succ_le (HT.out w (Below.refl _ _)).2.le;have YU:=hid (And.intro hxl hj);clear hpc hxl hj hbig;have H0:=hid h0;clear h0;by_cases huv:u=v
   have HE:Hid (aH t.2 v=x/\ gB v t.2=xs):=by
    rw[H0.out];have:Be v (xs++[(u,x)])=(x,xs):=by simp[Be,huv]
    rw[this]at hlo;exact⟨(congrArg Prod.fst hlo).symm,(congrArg Prod.snd hlo).symm⟩
   have d9:=HA1.out.fz 2;clear hlo;obtain rfl:v=u:=huv.symm;obtain⟨hwr,hwr2⟩:=YZ.out
   focus go_upto_region 10 with(fail)
   refine aj (fun W2 hW=>?_);have HA2:Hid (bD W2 b7 [.bool xm,.slice xa xn xc,.slice (some ⟨pb,po,none⟩) j xr] 70):=by rw[hW];exact HA1.out.set 2 _
   have HB2:Hid (Below wr.heap.size wr W2):=by rw[hW];exact HB1.out.setCell hbr _
   have HT2:Hid (∀V,Below w.heap.size w V->Cn V xm xa xn xc t.1/\ Ml V (some ⟨pb,po,none⟩) j xr (gB v t.2)):=fun V hV=>by
    have h:=HT.out V hV;rw[H0.out]at h;rw[HE.out.2];exact⟨h.1,h.2.init⟩
   have HX:=hid HE.out.1;clear hW HE d0 d1 d2 d9 HT HA1 yD HB1 w0 w1 H0 hj0 hji hwr hwr2 YZ hjr YU
   rotate_left
   have HE:Hid (aH t.2 v=0/\ gB v t.2=t.2):=by
    have e2:Be v (xs++[(u,x)])=(0,xs++[(u,x)]):=by simp[Be,huv]
    rw[e2]at hlo;rw[H0.out];exact⟨(congrArg Prod.fst hlo).symm,(congrArg Prod.snd hlo).symm⟩
   clear hlo;obtain⟨hwr,hwr2⟩:=YZ.out
   focus go_upto_region 10 with(fail)
   refine aj (fun W2 hW=>?_);have HA2:Hid (bD W2 b7 [.bool xm,.slice xa xn xc,.slice (some ⟨pb,po,none⟩) (j+1) xr] 70):=by rw[hW];exact HA1.out
   have HB2:Hid (Below wr.heap.size wr W2):=by rw[hW];exact HB1.out
   have HT2:Hid (∀V,Below w.heap.size w V->Cn V xm xa xn xc t.1/\ Ml V (some ⟨pb,po,none⟩) (j+1) xr (gB v t.2)):=fun V hV=>by rw[HE.out.2];exact HT.out V hV
   have HX:=hid HE.out.1;clear hW HE d0 d1 d2 w0 w1 H0 hj0 hji hwr hwr2 YZ hjr YU HT HA1 yD HB1
   all_goals
    obtain⟨a,haa⟩:∃a,a=bg v (p.take k):=⟨_,rfl⟩;have hbw:Below w.heap.size w W2:=HS.out.2.trans (HB2.out.mono HS.out.2.size);have hsr:=HS.out.1;rw[<-haa]at hsr HN;clear haa;have hbs:=hbw.size;have hal:=HN.out.2.2;rcases hsr with⟨ha,hs⟩|⟨hne,g0,Y0,L0,hR0⟩
    subst hs;obtain⟨v8,W8,Qv,⟨g,cc,L,hR,hz⟩,r,hG,Nl⟩:=Bb (K:=K) (.inl ⟨ha,rfl⟩) hbs (by omega) (aH t.2 v) 199 196;rw[HX.out]at Qv;have JR:=hR.v;rw[List.length_append,List.length_singleton]at JR;obtain⟨la,hla⟩:∃la,la=a.length:=⟨_,rfl⟩;rw[<-hla]at JR;subst JR;have ji:Hid (Below w.heap.size w W8):=hbw.grown hG hbs fun r h=>(Nl r h).1
    have XI:Hid (bD W8 b7 _ 70):=HA2.out.apart hG fun e=>by
     obtain⟨_,L2,hA⟩:=Nl b7 e.symm;exact absurd (HA2.out.UA hA) (by decide)
    have HF:Hid (∃a1 e1 q1,a1.length=la/\ lU w.heap.size K W8 (.slice (some ⟨g,0,none⟩) (la+1) cc) (a1++[(e1,q1)]) g cc L/\ bg v (p.take (k+1))=a1++[(e1,q1++[(t.1,gB v t.2)])]/\∀o k c,L[a1.length*2+1]? =some (.slice o k c)->∀r,blk o=some r->r<b7):=⟨a,_,[],hla.symm,hR,by rw[HN.out.1,rf rfl (fun a' e0 q h=>by rw[ha]at h;simp at h)];rfl,fun o k c h r hr=>by rw[hz _ (by simp)]at h;cases h;cases hr⟩;have Q5:Hid (la<=k):=hla▸hal;clear hbw hbs hal ha hR hG Nl hla HB2 HA2 hz
    focus go_upto_region 12 with(at_builtin;refine jY rfl (.tmp 58) (.tmp 61) 196 196 rfl _ _ rfl rfl Qv ?_)
    clear Qv
    rotate_left
    rcases iH a with h|⟨a0,⟨e0,q0⟩,h⟩
    exact absurd h hne;subst h;have hR:=hR0.below HB2.out;have JR:=hR.v;rw[List.length_append,List.length_singleton]at JR hal;obtain⟨Cq,hla⟩:∃Cq,Cq=a0.length:=⟨_,rfl⟩;rw[<-hla]at JR hal;subst JR
    have hce:W2.cell? ⟨g0,Cq*2,none⟩=some (.int .i64 e0):=by
     obtain⟨_,_,_,h,_⟩:=hR.pts.1 a0.length (by simp);rw[jH]at h;rw[hR.iQ.cell,hla];exact h
    have hl0:(0:Int)<=(Cq:Int):=by omega
    have hl1:(Cq:Int)<(Cq:Int)+1:=by omega
    have hq0:((Cq:Int)+1==0)=false:=by simp;omega
    have hlb: -9223372036854775808<=(Cq:Int)/\ (Cq:Int)<=9223372036854775807:=⟨by omega,by omega⟩;have XJ:Hid (IntKind.i64.wrap ((Cq:Int)+1-1)=(Cq:Int)/\ wrap64 (Cq:Int)=(Cq:Int)):=⟨by rw[show(Cq:Int)+1-1=Cq by omega];exact IntWalk.i64_in _ hlb,IntWalk.wrap64_in _ hlb⟩;clear hlb;by_cases hee:e0=aH t.2 v;have h9:e0=_:=hee.trans HX.out;have ji:=hid hbw
    have HF:Hid (∃a1 e1 q1,a1.length=Cq/\ lU w.heap.size K W2 (.slice (some ⟨g0,0,none⟩) (Cq+1) Y0) (a1++[(e1,q1)]) g0 Y0 L0/\ bg v (p.take (k+1))=a1++[(e1,q1++[(t.1,gB v t.2)])]/\∀o k c,L0[a1.length*2+1]? =some (.slice o k c)->∀r,blk o=some r->r<b7):=⟨a0,e0,q0,hla.symm,hR,by rw[HN.out.1,yU hee.symm],fun o k c h r hr=>by
     obtain⟨o',k',c',_,h2,h3⟩:=hR0.pts.1 a0.length (by simp);rw[h2]at h;cases h;have:=(h3.lt r hr).2;omega⟩
    have Q5:Hid (Cq<=k):=by rw[Hid];omega
    obtain⟨W8,hW8⟩:∃W8,W8=W2:=⟨_,rfl⟩;rw[<-hW8]at ji HF HA2 hce ⊢;have XI:=HA2;clear hbw hbs hal hR hR0 hla HB2 HA2 hee HN hne hW8;subst h9;obtain⟨hwl,Nr⟩:=XJ.out
    focus go_upto_region 12 with(fail)
    clear hce hwl Nr hl0 hl1 hq0 XJ;obtain⟨g,rfl⟩:∃g,g=g0:=⟨_,rfl⟩;obtain⟨cc,rfl⟩:∃g,g=Y0:=⟨_,rfl⟩;obtain⟨L,rfl⟩:∃g,g=L0:=⟨_,rfl⟩;obtain⟨la,rfl⟩:∃g,g=Cq:=⟨_,rfl⟩
    rotate_left
    have XK:(e0 !=aH t.2 v)=true:=by simpa using hee
    rw[HX.out]at XK;obtain⟨v8,W8,Qv,⟨g,cc,L,hR2,hz⟩,r,hG,Nl⟩:=Bb (K:=K) (.inr ⟨g0,Y0,L0,hR⟩) hbs (by rw[List.length_append,List.length_singleton];omega) (aH t.2 v) 199 196;rw[HX.out]at Qv;have JR:=hR2.v;rw[List.length_append,List.length_singleton]at JR;obtain⟨la,hlb⟩:∃la,la=(a0++[(e0,q0)]).length:=⟨_,rfl⟩;rw[<-hlb]at JR;subst JR;have ji:Hid (Below w.heap.size w W8):=hbw.grown hG hbs fun r h=>(Nl r h).1
    have XI:Hid (bD W8 b7 _ 70):=HA2.out.apart hG fun e=>by
     obtain⟨_,_,hA⟩:=Nl b7 e.symm;exact absurd (HA2.out.UA hA) (by decide)
    have HF:Hid (∃a1 e1 q1,a1.length=la/\ lU w.heap.size K W8 (.slice (some ⟨g,0,none⟩) (la+1) cc) (a1++[(e1,q1)]) g cc L/\ bg v (p.take (k+1))=a1++[(e1,q1++[(t.1,gB v t.2)])]/\∀o k c,L[a1.length*2+1]? =some (.slice o k c)->∀r,blk o=some r->r<b7):=⟨_,_,[],hlb.symm,hR2,by rw[HN.out.1,rf rfl (fun a' e1 q h h3=>hee (by have h2:=(List.append_inj' h rfl).2;cases h2;exact h3))];rfl,fun o k c h r hr=>by rw[hz _ (by simp)]at h;cases h;cases hr⟩;have Q5:Hid (la<=k):=by rw[hlb,List.length_append,List.length_singleton,<-hla];exact hal
    clear hbw hbs hal hR hR0 hR2 hG Nl hlb HB2 HA2 hee HN hne hla hz;obtain⟨hwl,Nr⟩:=XJ.out
    focus go_upto_region 12 with(at_builtin;refine jY rfl (.tmp 58) (.tmp 61) 196 196 rfl _ _ rfl rfl Qv ?_)
    clear Qv hce hwl Nr hl0 hl1 XK hq0 XJ
    all_goals
     clear HX;obtain⟨a1,e1,q1,hl1,hR,hnx,hzb⟩:=HF.out;obtain⟨qo,qn,qc,_,hx1,hq1⟩:=hR.pts.1 a1.length (by simp);rw[jH]at hq1;have hbs:=ji.out.size;have XL:=hR.iQ.lt
     have Kg:qn<1000000:=by
      have h1:=yV v (k+1) (p.take (k+1)) [] (fun g h=>by cases h) (by rw[List.length_take];omega) (e1,q1++[(t.1,gB v t.2)]) (by rw[show(p.take (k+1)).foldl (jI v) []=bg v (p.take (k+1))from rfl,hnx];simp);have h2:q1.length=qn:=hq1.len;simp at h1;omega
     have HZB:Hid (∀r,blk qo=some r->r<b7):=hzb _ _ _ hx1;have HQ:=hid (And.intro hx1 (And.intro hR (And.intro hnx hl1)));have HCE:Hid (W8.cell? ⟨g,la*2+1,none⟩=some (.slice qo qn qc)):=by rw[Hid,hR.iQ.cell,<-hl1];exact hx1
     have hl0:(0:Int)<=(la:Int):=by omega
     have VK:(la:Int)<(la:Int)+1:=by omega
     have hlb: -9223372036854775808<=(la:Int)/\ (la:Int)<=9223372036854775807:=⟨by omega,by have:=Q5.out;omega⟩;have hwl:IntKind.i64.wrap ((la:Int)+1-1)=(la:Int):=by rw[show(la:Int)+1-1=la by omega];exact IntWalk.i64_in _ hlb
     have Nr:wrap64 (la:Int)=(la:Int):=IntWalk.wrap64_in _ hlb;clear hx1 hR hnx hl1 hlb HF hzb;go_upto_region 13 with(fail)
     clear hwl Nr;refine wp_region_held_drew (S:=fun w'=>w'.cell? ⟨b7,0,none⟩=some (.bool xm)/\ w'.cell? ⟨b7,1,none⟩=some (.slice xa xn xc)/\ w'.cell? ⟨b7,2,none⟩=some _) (by kernel_rfl) (bD.c3 (T:=70) (XI.out.below (Below.refl _ _).drew)) (fun hH=>?_);refine ai (fun V hW=>?_);have dr:=(Below.refl W8.heap.size W8).drew;have UB:=hid (XI.out.below dr);rw[<-hW]at UB;have Y1:Hid (Below w.heap.size w V):=by rw[hW];exact ji.out.trans (dr.mono hbs)
     have Z5:V.cell? ⟨g,la*2+1,none⟩=some (.slice qo qn qc):=by rw[hW,dr.cell XL];exact HCE.out
     have VX:Hid (L[la*2+1]? =some (.slice qo qn qc)/\ lU w.heap.size K V (.slice (some ⟨g,0,none⟩) (la+1) cc) (a1++[(e1,q1)]) g cc L/\ bg v (p.take (k+1))=a1++[(e1,q1++[(t.1,gB v t.2)])]/\ a1.length=la):=by
      obtain⟨x1,x2,x3,x4⟩:=HQ.out;exact⟨x4▸x1,by rw[hW];exact x2.below dr,x3,x4⟩
     have Z6:Pw w.heap.size K V qo qn qc q1:=by rw[hW];exact hq1.below dr
     rw[<-hW]at hH;have hbV:w.heap.size<=V.heap.size:=Y1.out.size;have hgV:g<V.heap.size:=VX.out.2.1.iQ.lt;clear dr XI ji HCE HQ hq1 hbs XL;clear hW;obtain⟨v9,W9,Nl,hp9⟩:=DZ (t:=(t.1,gB v t.2)) Z6 hbV Kg (HT2.out _ Y1.out).1 Cc.out (HT2.out _ Y1.out).2 70 23;have HPU:=hid (And.intro Z6 hp9);clear Z6 hp9 Kg;have hal:∀vs,Below V.heap.size V (V.alloc (.cells vs 70)):=fun vs=>af V _
     have Z7:∀vs,(V.alloc (.cells vs 70)).cell? ⟨g,la*2+1,none⟩=some (.slice qo qn qc):=fun vs=>by rw[(hal vs).cell hgV];exact Z5
     refine bC 0 hH ?_;try simp only[aI]
     refine bC 1 hH ?_;try simp only[aI]
     refine bC 2 hH ?_;try simp only[aI]
     refine bC 3 hH ?_;try simp only[aI]
     refine bC 5 hH ?_;try simp only[aI]
     refine wpAnyH_ready (rs:=[4,6]) (by kernel_rfl) (by simp) (aO rfl (fun KK hK=>?_) (aO rfl (fun KK hK=>?_) (AllReadyH.nil)));go_simp;clear hH;refine hK.out _ _ (bD.c3 (T:=70) UB.out) fun hH=>?_;clear hK KK
     try simp only[aI]
     refine ah 6 rfl (by kernel_rfl) (fun KK hK=>?_);go_simp;clear hH;refine hK.out _ _ (bD.c3 (T:=70) (UB.out.below (hal _))) fun hH=>?_;clear hK KK
     try simp only[aI]
     rotate_left
     go_simp;clear hH;refine hK.out _ _ (bD.c3 (T:=70) (UB.out.below (hal _))) fun hH=>?_;clear hK KK
     try simp only[aI]
     refine ah 4 rfl (by kernel_rfl) (fun KK hK=>?_);go_simp;clear hH;refine hK.out _ _ (bD.c3 (T:=70) (UB.out.below (hal _))) fun hH=>?_;clear hK KK
     try simp only[aI]
     all_goals
      clear Z7 hal;refine ah 7 rfl (by kernel_rfl) (fun KK hK=>?_);refine yA rfl (.tmp 72) (.tmp 74) _ _ rfl rfl rfl Nl ?_;clear Nl;obtain⟨Y2,po8,pc8,rfl,hp1,hp2,hp3⟩:=HPU.out;clear HPU
      have hqg:blk qo≠some g:=fun e=>by
       obtain⟨X,h1,_⟩:=Y2;rcases h1.ex with⟨rfl,_⟩|⟨g',off,L',rfl,_,hA',_⟩
       ·cases e
       ·cases e;exact absurd (VX.out.2.1.iQ.UA hA') (by decide)
      have hgb:g≠b7:=fun e=>absurd ((e▸VX.out.2.1.iQ:bD V b7 L _).UA UB.out) (by decide)
      have XM:=hid (UB.out.apart hp2 fun e=>Nat.lt_irrefl _ (HZB.out b7 e.symm));have hgr:W9.heap[g]? =V.heap[g]? :=hp2.block g hgV fun e=>hqg e.symm
      have Z8:W9.cell? ⟨g,la*2+1,none⟩=some (.slice qo qn qc):=by rw[World.cell?_of_block (w:=V) hgr];exact Z5
      have Z9:W9.frozen? ⟨g,la*2+1,none⟩=false:=by rw[World.frozen?_of_block (w:=V) hgr];exact VX.out.2.1.iQ.fz _
      have xH:Hid (kH w.heap.size K w (bg v (p.take (k+1))) (.slice (some ⟨g,0,none⟩) (la+1) cc) (W9.setCell ⟨g,la*2+1,none⟩ (.slice po8 (qn+1) pc8))):=by
       obtain⟨y1,y2,y3,y4⟩:=VX.out;refine⟨.inr ⟨by rw[y3];simp,g,cc,L.set (a1.length*2+1) (.slice po8 (qn+1) pc8),?_⟩,(Y1.out.grown hp2 hbV fun r h=>(Y2.lt r h).1).setCell y2.low _⟩;rw[y3,<-y4];rw[<-y4]at y1 y2;exact y2.last y1 Y2 hp1 hp2 hp3
      clear hp1 hp2 hp3 Y2 hqg hgr VX;clear hH;refine hK.out _ _ (bD.c3 (T:=70) XM.out) fun hH=>?_;clear hK KK
      try simp only[aI]
      refine bC 8 hH ?_;try simp only[aI]
      refine bC 9 hH ?_;try simp only[aI]
      refine ah 10 rfl (by kernel_rfl) (fun KK hK=>?_);go_simp;clear hH;refine hK.out _ _ (bD.c3 (T:=70) (XM.out.keep (Below.heap_setCell _ _ _ _ (Ne.symm hgb)))) fun hH=>?_;clear hK KK
      try simp only[aI]
      refine wpAnyH_done (by kernel_rfl) ?_ _
      clear hH Z8 Z9 Z5;go_wp2_with fail;go_roundw
      case rel=>exact⟨k+1,by go_num,by omega,xH.out⟩
      case measure=>simp[intOf];omega
  ·obtain rfl:k=n:=by omega
   have HR:Hid (∃x,u5=x/\ kH w.heap.size K w (bg v p) x wr):=by
    have h:=HS.out;rw[List.take_of_length_le (by rw[vF.out];exact Nat.le_refl _)]at h;exact⟨_,rfl,h⟩
   clear HS;go_wp2_with fail;go_ret;obtain⟨x,rfl,h⟩:=HR.out;exact⟨_,rfl,h⟩
def Big (p:List Term) (μ δ:Nat->Int) (J:Nat):Prop:=(iI p:Int)*lC (gD p) μ 201*lC (gD p) δ 201<4294967296^J/\ lC (gD p) δ 201<4294967296^J
section
variable {ρ:Nat->Rat} {μ δ:Nat->Int} {p q:List Term} {J:Nat}
theorem Big.part (h:Big p μ δ J) (hμ:∀u,0<μ u) (hδ:∀u,0<δ u) (hd:∀u,gD q u<=gD p u) (hs:iI q<=iI p):Big q μ δ J:=by
 have a:=yX hd hμ 201;have b:=yX hd hδ 201;have a0:=kY hμ (gD q) 201;have b0:=kY hδ (gD q) 201;refine⟨Int.lt_of_le_of_lt ?_ h.1,Int.lt_of_le_of_lt b h.2⟩;have c:(iI q:Int)*lC (gD q) μ 201<=(iI p:Int)*lC (gD p) μ 201:=Int.mul_le_mul (by omega) a (by omega) (by omega);exact Int.mul_le_mul c b (by omega) (Int.mul_nonneg (by omega) (by omega))
theorem Bf {a:Int} (h:0<a) {m n:Nat} (hm:m<=n):a^m<=a^n:=by
 obtain⟨c,rfl⟩:∃c,n=m+c:=⟨n-m,by omega⟩;rw[Int.pow_add];have h1:0<a^m:=Int.pow_pos h;have h2:0<a^c:=Int.pow_pos h;have:=Int.mul_le_mul_of_nonneg_left (show 1<=a^c by omega) (show 0<=a^m by omega);omega
theorem Et {x:Int} (h:(x.natAbs:Int)<4294967296^J):Bd x J:=by
 unfold Bd;apply Int.ofNat_lt.1;rw[Int.natCast_pow];exact h
theorem Ns (hf:fall p) (hc:0<bF p) (hμ:∀u,0<μ u) (hδ:∀u,0<δ u) (hJ:Big p μ δ J) {S:Nat} {e x d:Int} {s:Rat} (hS:S<=iI p) (he:0<=e)
  (h:Hn (μ (bF p).toNat) (δ (bF p).toNat) (lC (uI p (bF p)) μ 201) (lC (uI p (bF p)) δ 201) (fK p (bF p)) S e s x d):Bd x J/\ Bd d J:=by
 have e1:=Cr hf μ hc;have e2:=Cr hf δ hc;have hn:=h.num;have hd:=h.den (kY hδ _ _) (hδ _);have hp:=h.pos;have m1:=Bf (hμ (bF p).toNat) (show(fK p (bF p)-e).toNat<=(fK p (bF p)).toNat by omega);have m2:=Bf (hδ (bF p).toNat) (show(fK p (bF p)-e).toNat<=(fK p (bF p)).toNat by omega);have l1:=kY hμ (uI p (bF p)) 201;have l2:=kY hδ (uI p (bF p)) 201
 have hd2:d<=lC (gD p) δ 201:=by
  rw[e2];exact Int.le_trans hd (Int.mul_le_mul_of_nonneg_left m2 (by omega))
 have p0:0<μ (bF p).toNat^(fK p (bF p)-e).toNat:=Int.pow_pos (hμ _)
 have hx:(S:Int)*lC (uI p (bF p)) μ 201*μ (bF p).toNat^(fK p (bF p)-e).toNat<=(iI p:Int)*lC (gD p) μ 201:=by
  rw[e1,<-Int.mul_assoc];exact Int.mul_le_mul (Int.mul_le_mul_of_nonneg_right (by omega) (by omega)) m1 (by omega) (Int.mul_nonneg (by omega) (by omega))
 have hE:=kY hμ (gD p) 201;have hx2:=Int.le_trans hn (Int.mul_le_mul hx hd2 (by omega) (Int.mul_nonneg (by omega) (by omega)));exact⟨Et (Int.lt_of_le_of_lt hx2 hJ.1),Et (by have:=hJ.2;omega)⟩
theorem GX (hf:fall p) (hc:0<bF p) (e:Int):bF (gW p (bF p) e)<bF p:=by
 have hq:=Bg hf (bF p) e;have hb:=o5 hq;rcases Int.lt_or_le (bF (gW p (bF p) e)) (bF p)with h|h
 ·exact h
 ·have h1:=Kw hq (by omega);have h2:=Eu hf e (bF (gW p (bF p) e)).toNat;unfold uI gD at h2;rw[show(((bF (gW p (bF p) e)).toNat:Nat):Int)=bF (gW p (bF p) e)by omega,if_neg (by omega)]at h2;omega
theorem Nt (e:Int) (v:Int) (u:Nat):gD (gW p v e) u<=gD p u:=by
 have:=Bh p v e u;split at this<;>omega
theorem Nu (v e:Int):iI (gW p v e)<=iI p:=by
 have:=Ky v e p;omega
theorem ql (hf:fall p) (hn:p≠[]) (v:Int) (hv:bF p=v):0<(bg v p).length/\ ((bg v p).getD 0 (0,[])).1=fK p v/\∀i j,i<j->j<(bg v p).length->((bg v p).getD j (0,[])).1<((bg v p).getD i (0,[])).1:=by
 have hP:=vP (v:=v) hf fun t ht=>by rw[<-hv];exact rq hf ht
 have hd:∀i j,i<j->j<(bg v p).length->((bg v p).getD j (0,[])).1<((bg v p).getD i (0,[])).1:=fun i j hij hj=>by
  have:=List.pairwise_iff_getElem.1 hP.down i j (by omega) hj hij;simpa[List.getD,List.getElem?_eq_getElem hj,List.getElem?_eq_getElem (show i<(bg v p).length by omega)]using this
 obtain⟨t,ht,he⟩:=Nv (eF hf) hn v;obtain⟨g,hg,hge⟩:=hP.all t ht;obtain⟨j,hj,hjg⟩:=List.mem_iff_getElem.1 hg;have hl:0<(bg v p).length:=by omega
 have hjv:((bg v p).getD j (0,[])).1=fK p v:=by simp[List.getD,List.getElem?_eq_getElem hj,hjg,hge,he]
 refine⟨hl,?_,hd⟩;have h0:(bg v p).getD 0 (0,[])∈bg v p:=by simp[List.getD,List.getElem?_eq_getElem hl]
 obtain⟨s,hs,hse⟩:=hP.some _ h0;have h1:=mQ hs v;rcases Nat.eq_zero_or_pos j with rfl|h2
 ·exact hjv
 ·have:=hd 0 j h2 hj;omega
structure Wl (ρ:Nat->Rat) (μ δ:Nat->Int) (p:List Term) (k:Nat) (e x d:Int):Prop where
 hn:Hn (μ (bF p).toNat) (δ (bF p).toNat) (lC (uI p (bF p)) μ 201) (lC (uI p (bF p)) δ 201) (fK p (bF p)) (pQ ((bg (bF p) p).take k)) e (((bg (bF p) p).take k).foldl (mR ρ (bF p)) (0,fK p (bF p))).1 x d
 sd:(((bg (bF p) p).take k).foldl (mR ρ (bF p)) (0,fK p (bF p))).2=e
 e0:0<=e
 le:∀j,k<=j->j<(bg (bF p) p).length->((bg (bF p) p).getD j (0,[])).1<=e
theorem Kz (l:List (Int×List Term)) (k:Nat):pQ (l.take k)<=pQ l:=by
 have h:=og (l.drop k) (l.take k);rw[List.take_append_drop]at h;omega
theorem Wl.bd {k:Nat} {e x d:Int} (h:Wl ρ μ δ p k e x d) (hf:fall p) (hc:0<bF p) (hμ:∀u,0<μ u) (hδ:∀u,0<δ u) (hJ:Big p μ δ J):Bd x J/\ Bd d J:=
 Ns hf hc hμ hδ hJ (by have:=Kz (bg (bF p) p) k;rw[yY]at this;exact this) h.e0 h.hn
theorem Wl.start (hf:fall p) (hn:p≠[]):Wl ρ μ δ p 0 (fK p (bF p)) 0 1:=by
 obtain⟨h1,h2,h3⟩:=ql hf hn _ rfl;refine⟨Hn.start _ _ _ _ _,rfl,vQ _ _,fun j _ hj=>?_⟩;rcases Nat.eq_zero_or_pos j with rfl|h4
 ·omega
 ·have:=h3 0 j h4 hj;omega
theorem Bj (hf:fall p) {k:Nat} (hk:k<(bg (bF p) p).length):((bg (bF p) p).getD k (0,[])).2=gW p (bF p) ((bg (bF p) p).getD k (0,[])).1/\ 0<=((bg (bF p) p).getD k (0,[])).1:=by
 have hP:=vP (v:=bF p) hf fun t ht=>rq hf ht
 have h0:(bg (bF p) p).getD k (0,[])∈bg (bF p) p:=by simp[List.getD,List.getElem?_eq_getElem hk]
 obtain⟨s,hs,hse⟩:=hP.some _ h0;exact⟨(hP.Q6 _ h0).1,by rw[<-hse];exact(fT (eF hf _ hs) _).1⟩
theorem Wl.next {k:Nat} {e x d:Int} (h:Wl ρ μ δ p k e x d) (hf:fall p) (hμ:∀u,0<μ u) (hδ:∀u,0<δ u) (hle:∀u,Le (ρ u) (μ u)) (hk:k<(bg (bF p) p).length) {ν:Int} (hr:Rat.divInt ν (δ (bF p).toNat)=ρ (bF p).toNat) {e1:Int} {q1:List Term} (hg:(bg (bF p) p).getD k (0,[])=(e1,q1)) {y c:Int} (h0:0<c) (ht:Rat.divInt y c=rv ρ q1) (hd:c ∣ lC (gD q1) δ 201) {N:Nat} (hN:(N:Int)=e-e1):
  Wl ρ μ δ p (k+1) e1 (x*ν^N*c.tdiv ((Int.gcd (d*δ (bF p).toNat^N) c:Nat):Int)+y*(d*δ (bF p).toNat^N).tdiv ((Int.gcd (d*δ (bF p).toNat^N) c:Nat):Int)) (d*δ (bF p).toNat^N*c.tdiv ((Int.gcd (d*δ (bF p).toNat^N) c:Nat):Int)):=by
 have hpc:=Bj hf hk;rw[hg]at hpc;obtain⟨hq,he1⟩:=hpc;simp only at hq he1;have hle1:=h.le k (Nat.le_refl _) hk;rw[hg]at hle1;have hNe:N=(e-e1).toNat:=by omega
 have tk:(bg (bF p) p).take (k+1)=(bg (bF p) p).take k++[(e1,q1)]:=by
  rw[List.take_succ_eq_append_getElem hk,<-hg];simp[List.getD,List.getElem?_eq_getElem hk]
 have h1:=h.hn.times (hδ _) hr (hle _) (e1:=e1) hle1;rw[<-hNe]at h1;have hdl:∀u,gD q1 u<=uI p (bF p) u:=fun u=>by rw[hq];exact Eu hf e1 u
 have h2:=h1.plus (k:=iI q1) h0 ht (Int.dvd_trans hd (Cs hdl δ 201)) (Int.le_of_lt (kY hμ _ _)) (hμ _) (Tx hle hμ _ fun t ht u=>Nat.le_trans (Nw ht u) (hdl u));refine⟨?_,?_,he1,fun j hj hjl=>?_⟩
 ·rw[tk,List.foldl_append,og];simp only[List.foldl_cons,List.foldl_nil,mR,pQ,Nat.add_zero];rw[h.sd,<-hNe];exact h2
 ·rw[tk,List.foldl_append];rfl
 ·have hp:=(ql hf (fun hp=>by rw[hp]at hk;simp[bg]at hk) _ rfl).2.2 k j (by omega) hjl;rw[hg]at hp;omega
theorem Wl.last {e x d:Int} (h:Wl ρ μ δ p (bg (bF p) p).length e x d) (hf:fall p) (hc:0<bF p) (hμ:∀u,0<μ u) (hδ:∀u,0<δ u) (hle:∀u,Le (ρ u) (μ u)) (hJ:Big p μ δ J) {ν:Int} (hr:Rat.divInt ν (δ (bF p).toNat)=ρ (bF p).toNat) {N:Nat} (hN:(N:Int)=e):
  Rat.divInt (x*ν^N) (d*δ (bF p).toNat^N)=rv ρ p/\ 0<d*δ (bF p).toNat^N/\ d*δ (bF p).toNat^N ∣ lC (gD p) δ 201/\ Bd (x*ν^N) J/\ Bd (d*δ (bF p).toNat^N) J:=by
 have h0:=h.e0;have h1:=h.hn.times (hδ _) hr (hle _) (e1:=0) h0;rw[show(e-0).toNat=N by omega]at h1;have hb:=Ns hf hc hμ hδ hJ (by rw[List.take_length,yY];exact Nat.le_refl _) (Int.le_refl 0) h1;have hP:=vP (v:=bF p) hf fun t ht=>rq hf ht
 have hbd:=o5 hf;refine⟨?_,h1.pos,?_,hb⟩
 ·rw[h1.val,List.take_length]
  have h2:=wM ρ (bF p) (bg (bF p) p) (0,fK p (bF p)) hP.down (fun g hg=>by
   obtain⟨s,hs,hse⟩:=hP.some g hg;rw[<-hse];exact⟨(fT (eF hf _ hs) _).1,mQ hs _⟩) (vQ _ _)
  have h3:=h.sd;rw[List.take_length]at h3;rw[h3,show e.toNat=N by omega,GY ρ ⟨by omega,hbd.2⟩ (eF hf)]at h2;rw[h2]
  grind
 ·have:=h1.dvd;rwa[show(fK p (bF p)-0).toNat=(fK p (bF p)).toNat by omega,<-Cr hf δ hc]at this
end
open Lib (hid)
structure Qp [Ol] (w:World) (ao:Option Addr) (n cap:Nat) (ρ:Nat->Rat) (δ:Nat->Int) (j:Nat):Prop where
 ex:∃bM,Gl 4 w ao n cap bM/\∀i,i<n->∃m a k c m2 a2 k2 c2 x,bM.getD i []=[.bool m,.slice a k c,.bool m2,.slice a2 k2 c2]/\ Rx w m a k c m2 a2 k2 c2 x (δ (i+1)) (ρ (i+1)) j/\ Rat.divInt x (δ (i+1))=ρ (i+1)
theorem Rx.below' {w w':World} {m:Bool} {ao:Option Addr} {n cap:Nat} {k:Bool} {bo:Option Addr} {l cb:Nat} {x d:Int} {q:Rat} {j:Nat} (h:Rx w m ao n cap k bo l cb x d q j) (hb:Below w.heap.size w w'):Rx w' m ao n cap k bo l cb x d q j:=⟨h.num.below hb,h.den.below hb,h.val,h.bn,h.bd⟩
theorem Qp.below [Ol] {w w':World} {ao:Option Addr} {n cap:Nat} {ρ:Nat->Rat} {δ:Nat->Int} {j:Nat} (h:Qp w ao n cap ρ δ j) (hb:Below w.heap.size w w'):Qp w' ao n cap ρ δ j:=by
 obtain⟨bM,h1,h2⟩:=h.ex;refine⟨bM,h1.below hb,fun i hi=>?_⟩;obtain⟨m,a,k,c,m2,a2,k2,c2,x,h3,h4,h5⟩:=h2 i hi;exact⟨m,a,k,c,m2,a2,k2,c2,x,h3,h4.below' hb,h5⟩
theorem Qp.iQ [Ol] {w:World} {ao:Option Addr} {n cap:Nat} {ρ:Nat->Rat} {δ:Nat->Int} {j:Nat} (h:Qp w ao n cap ρ δ j) {i:Nat} (hi:i<n):∃b off m a k c m2 a2 k2 c2 x,ao=some ⟨b,off,none⟩/\ b<w.heap.size/\ (∀V:World,Below w.heap.size w V->V.cell? ⟨b,off+i*4,none⟩=some (.bool m)/\ V.cell? ⟨b,off+i*4+1,none⟩=some (.slice a k c)/\ V.cell? ⟨b,off+i*4+2,none⟩=some (.bool m2)/\ V.cell? ⟨b,off+i*4+3,none⟩=some (.slice a2 k2 c2))/\ Rx w m a k c m2 a2 k2 c2 x (δ (i+1)) (ρ (i+1)) j/\ Rat.divInt x (δ (i+1))=ρ (i+1):=by
 obtain⟨bM,h1,h2⟩:=h.ex;obtain⟨m,a,k,c,m2,a2,k2,c2,x,h3,h4,h5⟩:=h2 i hi;obtain⟨b,off,e1,e2,e3⟩:=h1.at (by omega);refine⟨b,off,m,a,k,c,m2,a2,k2,c2,x,e1,e2,fun V hV=>?_,h4,h5⟩;have f:=e3 V hV i hi;rw[h3]at f;exact⟨by simpa using f 0 (by omega),by simpa using f 1 (by omega),by simpa using f 2 (by omega),by simpa using f 3 (by omega)⟩
theorem bD.q4 {w:World} {b:Nat} {v0 v1 v2 v3:Value} {T:TypeId} (h:bD w b [v0,v1,v2,v3] T):w.cell? ⟨b,0,none⟩=some v0/\ w.cell? ⟨b,1,none⟩=some v1/\ w.cell? ⟨b,2,none⟩=some v2/\ w.cell? ⟨b,3,none⟩=some v3:=⟨h.cell 0,h.cell 1,h.cell 2,h.cell 3⟩
theorem bD.r4 {w:World} {b:Nat} {vs:List Value} {T:TypeId} (h:bD w b vs T):w.frozen? ⟨b,0,none⟩=false/\ w.frozen? ⟨b,1,none⟩=false/\ w.frozen? ⟨b,2,none⟩=false/\ w.frozen? ⟨b,3,none⟩=false:=⟨h.fz 0,h.fz 1,h.fz 2,h.fz 3⟩
theorem ru (m:Bool) (a:Option Addr) (n c:Nat) (k:Bool) (b:Option Addr) (l d:Nat):shy [.bool m,.slice a n c,.bool k,.slice b l d]:=by
 refine⟨fun u hu=>?_,fun j x y hx hy=>?_⟩
 ·simp at hu;rcases hu with rfl|rfl|rfl|rfl<;>rfl
 ·match j,hx,hy with
  |0,hx,hy=>cases hx;cases hy;exact⟨.inl rfl,rfl⟩
  |1,hx,hy=>cases hx;cases hy;exact⟨.inl rfl,rfl⟩
  |2,hx,hy=>cases hx;cases hy;exact⟨.inl rfl,rfl⟩
  |3,hx,hy=>simp at hy
  |j+4,hx,hy=>simp at hx
theorem lU.iA [Ol] {B K:Nat} {w w':World} {v:Value} {acc:List (Int×List Term)} {g cap:Nat} {L:List Value} {b:Nat} (h:lU B K w v acc g cap L) (hF:oK w w' b) (hb:b<B):lU B K w' v acc g cap L:=
 ⟨h.v,h.low,h.iQ.apart hF.g fun e=>by have:=h.low;have:=Option.some.inj e;omega,h.alt,h.room,h.fit,h.big,h.pts.keep (fun _ _=>rfl) fun _ _ _ _ h1 _=>h1.iA hF fun r hr e=>by have:=(h1.lt r hr).1;omega⟩
theorem Cb.iA {w w':World} {m:Bool} {ao:Option Addr} {n cap:Nat} {z:Int} {k b:Nat} (h:Cb w m ao n cap z k) (hF:oK w w' b):Cb w' m ao n cap z k:=⟨⟨h.cx.cn.iA hF,h.cx.le⟩,h.bd⟩
theorem Cb.below' {w w':World} {m:Bool} {ao:Option Addr} {n cap:Nat} {z:Int} {k:Nat} (h:Cb w m ao n cap z k) (hb:Below w.heap.size w w'):Cb w' m ao n cap z k:=⟨⟨h.cx.cn.below hb,h.cx.le⟩,h.bd⟩
theorem qm {w:World} {m:Bool} {ao:Option Addr} {n cap:Nat} {k:Bool} {bo:Option Addr} {l cb:Nat} {x d:Int} {j:Nat} (h1:Cb w m ao n cap x j) (h2:Cb w k bo l cb d j):Rx w m ao n cap k bo l cb x d (qv x d) j:=⟨h1.cx.nx,h2.cx.nx,rfl,h1.bd,h2.bd⟩
def Ny (w:World) (q:Rat) (D:Int) (J:Nat) (e:Ending) (w':World):Prop:=∃x d,I7 w x d J e w'/\ 0<d/\ Rat.divInt x d=q/\ d ∣ D
def xL [Ol] (ρ:Nat->Rat) (μ δ:Nat->Int) (K J j:Nat) (po:Option Addr) (pn pc:Nat) (C:Nat):Prop:=
 ∀{ao:Option Addr} {n cap:Nat} {p:List Term} {w:World},C<=pn->Pc K w ao n cap p->fall p->bF p<=C->(∀u,gD p u<=999)->n<=100000->Qp w po pn pc ρ δ j->Big p μ δ J->
  Calls Tryz.prog 95 #[.slice ao n cap,.slice po pn pc] w (Ny w (rv ρ p) (lC (gD p) δ 201) J)
theorem KA {w:World} {b:Nat} {v0 v1 v2 v3:Value} {T:TypeId} (h:bD w b [v0,v1,v2,v3] T) (hs:shy [v0,v1,v2,v3]) (u0 u1 u2 u3:Value):
  oK w ((((w.setCell ⟨b,0,none⟩ u0).setCell ⟨b,1,none⟩ u1).setCell ⟨b,2,none⟩ u2).setCell ⟨b,3,none⟩ u3) b/\ bD ((((w.setCell ⟨b,0,none⟩ u0).setCell ⟨b,1,none⟩ u1).setCell ⟨b,2,none⟩ u2).setCell ⟨b,3,none⟩ u3) b [u0,u1,u2,u3] T:=
 ⟨⟨⟨_,_,h,hs⟩,eG (eG (eG (cB _ _ _ _) (cB _ _ _ _)) (cB _ _ _ _)) (cB _ _ _ _)⟩,(((h.set 0 u0).set 1 u1).set 2 u2).set 3 u3⟩
theorem j4 {B:Nat} {w0 w:World} (h:Below B w0 w) {b:Nat} (hb:B<=b) (u0 u1 u2 u3:Value):Below B w0 ((((w.setCell ⟨b,0,none⟩ u0).setCell ⟨b,1,none⟩ u1).setCell ⟨b,2,none⟩ u2).setCell ⟨b,3,none⟩ u3):=(((h.setCell hb u0).setCell hb u1).setCell hb u2).setCell hb u3
theorem Nz {p:List Term} (hf:fall p) (hn:p≠[]) (hc:bF p=0):∃c,p=[(c,[])]:=by
 have h:=KC hf hc
 match p,hf,hn,h with
 |[(c,m)],_,_,h=>exact⟨c,by have:=h (c,m) (by simp);simp at this;rw[this]⟩
 |(c,m)::(d,k)::r,hf,_,h=>
  have h1:=h (c,m) (by simp);have h2:=h (d,k) (by simp);have h3:=hf.2.2.1 (d,k) (by simp);simp only at h1 h2 h3;rw[h1,h2]at h3;exact(GZ h3).elim
theorem I8 (c:Int):(qv c 0).num=c/\ ((qv c 0).den:Int)=1:=by
 have h:=XO (n:=c) (d:=1) (by omega) (by simp);rw[lV,I9 rfl];exact⟨h.1,by rw[show(Rat.divInt c 1).den=1 from h.2];rfl⟩
theorem UC (ρ:Nat->Rat) (c:Int):rv ρ [(c,[])]=Rat.divInt c 1:=by
 rw[Ev];show(c:Rat)*rM ρ []+0=c;rw[UD]
 grind
theorem G7 [Ol] {ρ:Nat->Rat} {μ δ:Nat->Int} {K J j:Nat} {po:Option Addr} {pn pc:Nat} (hμ:∀u,0<μ u) (hδ:∀u,0<δ u) (hle:∀u,Le (ρ u) (μ u)) (hK:1<=K/\ K<=J/\ J<=30000/\ 1<=j/\ j<=30) (C:Nat) (IH:∀C',C'<C->xL ρ μ δ K J j po pn pc C'):xL ρ μ δ K J j po pn pc C:=by
 intro ao n cap p w hC hp hf hcl hdg hn hq hJ;have HP:=hid hp;have vF:Hid (p.length=n):=hp.len;have HQ:=hid hq;have HG:=hid (And.intro hf (And.intro hcl (And.intro hdg hJ)));have HI:=hid IH;have HL:=hid (And.intro hμ (And.intro hδ hle));clear hp hf hcl hdg hq hJ IH hμ hδ hle;go_enter Tryz.func95,Tryz.ntmps95;obtain⟨b4,hb4⟩:∃b4,b4=w.heap.size:=⟨_,rfl⟩;go_upto_region 1 with(fail)
 refine aj (fun W0 hW=>?_);have a0:bD W0 b4 [.bool false,.slice none 0 0,.bool false,.slice none 0 0] 31/\ Below w.heap.size w W0:=by rw[hW,hb4];exact nI w _ 31
 rw[<-hb4];have hbw:w.heap.size<=b4:=by omega
 clear hW hb4;go_wp2_with fail;refine(yZ (j:=1) (tZ W0).nx (show Bd 0 1 by unfold Bd;decide) (Nat.le_refl _) (by omega)).mono ?_;rintro e w1 ⟨m1,a1,n1,c1,k1,d1,l1,e1,rfl,hX,hB⟩
 have HX:Hid (Cb w1 m1 a1 n1 c1 0 J/\ Cb w1 k1 d1 l1 e1 1 J):=by
  have e0:=I8 0;have x1:=hX.num;have x2:=hX.den;rw[e0.1]at x1;rw[e0.2]at x2;exact⟨⟨x1,(show Bd 0 1 by unfold Bd;decide).mono (by omega)⟩,⟨x2,(show Bd 1 1 by unfold Bd;decide).mono (by omega)⟩⟩
 obtain⟨b5,hb5⟩:∃b5,b5=w1.heap.size:=⟨_,rfl⟩;go_upto_region 2 with(fail)
 refine aj (fun W2 hW=>?_);have a2:bD W2 b5 [.bool m1,.slice a1 n1 c1,.bool k1,.slice d1 l1 e1] 31/\ Below w1.heap.size w1 W2:=by rw[hW,hb5];exact nI w1 _ 31
 rw[<-hb5];have hbb:b4<b5:=by have:=a0.1.lt;have:=hB.size;omega
 have HS:Hid (bD W2 b5 [.bool m1,.slice a1 n1 c1,.bool k1,.slice d1 l1 e1] 31/\ bD W2 b4 [.bool false,.slice none 0 0,.bool false,.slice none 0 0] 31/\ Cb W2 m1 a1 n1 c1 0 J/\ Cb W2 k1 d1 l1 e1 1 J/\ Below w.heap.size w W2):=
  ⟨a2.1,(a0.1.below hB).below a2.2,HX.out.1.below' a2.2,HX.out.2.below' a2.2,Below.steps (Below.steps a0.2 hB) a2.2⟩
 have UE:b5<W2.heap.size:=a2.1.lt;clear hW hb5 a2 a0 hX hB HX;by_cases hn0:n=0
 ·subst hn0;obtain⟨c0,c1',c2,c3⟩:=HS.out.1.q4;obtain⟨f0,f1,f2,f3⟩:=HS.out.2.1.q4;obtain⟨g0,g1,g2,g3⟩:=HS.out.2.1.r4;go_wp2_with fail;refine bodyPost_ret (v:= .agg #[.bool m1,.slice a1 n1 c1,.bool k1,.slice d1 l1 e1]) (by simp[results,Tryz.results95,go_sem,f0,f1,f2,f3]) rfl ?_;have Ew:=KA HS.out.2.1 (ru _ _ _ _ _ _ _ _) (.bool m1) (.slice a1 n1 c1) (.bool k1) (.slice d1 l1 e1);have hp0:p=[]:=List.eq_nil_of_length_eq_zero vF.out;exact⟨0,1,⟨_,_,_,_,_,_,_,_,rfl,HS.out.2.2.1.iA Ew.1,HS.out.2.2.2.1.iA Ew.1,j4 HS.out.2.2.2.2 hbw _ _ _ _⟩,by decide,by rw[hp0];show Rat.divInt 0 1=0;decide+kernel,Int.one_dvd _⟩
 ·obtain⟨b,off,xm,xa,xn,xc,xp,xq,xr,QB,hbl,hc,JX,hBd,IZ⟩:=HP.out.at (k:=0) (by omega);subst QB;rw[Nat.zero_mul,Nat.add_zero]at hc;obtain⟨x0,x1,x2⟩:=hc W2 HS.out.2.2.2.2;have hpn:p≠[]:=fun e=>by have:=vF.out;rw[e]at this;simp at this;omega
  have HM:Hid (Ml W2 xp xq xr (p.getD 0 (0,[])).2/\ iC (orM (p.getD 0 (0,[])).2)=bF p):=by
   refine⟨IZ.below HS.out.2.2.2.2,?_⟩;have hf:=HG.out.1;cases p with
   |nil=>exact absurd rfl hpn
   |cons t r=>show iC (orM t.2)=iC t.2;rw[rz hf.2.1]
  have HN:=hid hpn;have Y3:Hid (∀V,Below w.heap.size w V->Cn V xm xa xn xc (p.getD 0 (0,[])).1):=fun V hV=>JX.below hV
  have Cc:=hid hBd;have Ty:=hid hc;have hd:((n:Int)==0)=false:=by simpa using(show¬(n:Int)=0 by omega)
  have hzz:bF p=0∨ ∃vn:Nat,bF p=(vn:Int)+1:=by
   have:=(o5 HG.out.1).1;rcases Int.lt_or_eq_of_le this with h|h
   ·exact .inr ⟨(bF p-1).toNat,by omega⟩
   ·exact .inl h.symm
  clear hc JX hBd IZ hpn;rcases hzz with hz|⟨vn,hz⟩
  ·rw[hz]at HM;have HZ:=hid hz;clear hz;go_wp2_with fail;refine(vR HM.out.1 0 HM.out.2).mono ?_;rintro e w3 ⟨rfl,hB⟩;clear hd x0 x1 x2;have Ar:Hid (bD w3 b4 [.bool false,.slice none 0 0,.bool false,.slice none 0 0] 31/\ Below w.heap.size w w3):=⟨HS.out.2.1.below hB,Below.steps HS.out.2.2.2.2 hB⟩;clear hB HS HM UE;obtain⟨x0,x1,x2⟩:=Ty.out w3 Ar.out.2;go_wp2_with fail;refine(yZ (j:=K) ((Y3.out w3 Ar.out.2).cx Cc.out (by omega)).nx Cc.out (by omega) (by omega)).mono ?_;rintro e w4 ⟨m2,a2,n2,c2,k2,d2,l2,e2,rfl,hX,hB⟩;have h4:=Ar.out.1.below hB;have HX:=hid hX;have HB:=hid (Below.steps Ar.out.2 hB);have H4:=hid h4;obtain⟨f0,f1,f2,f3⟩:=h4.q4;obtain⟨g0,g1,g2,g3⟩:=h4.r4;clear hX hB h4 x0 x1 x2;go_wp2_with fail;refine bodyPost_ret (v:= .agg #[.bool m2,.slice a2 n2 c2,.bool k2,.slice d2 l2 e2]) (by simp[results,Tryz.results95,go_sem,f0,f1,f2,f3]) rfl ?_;have Ew:=KA H4.out (ru _ _ _ _ _ _ _ _) (.bool m2) (.slice a2 n2 c2) (.bool k2) (.slice d2 l2 e2);obtain⟨c,hc⟩:=Nz HG.out.1 HN.out HZ.out;subst hc;have e0:=I8 c;have x1:Cx w4 m2 a2 n2 c2 (qv c 0).num:=HX.out.num;have x2:Cx w4 k2 d2 l2 e2 ((qv c 0).den:Int):=HX.out.den;rw[e0.1]at x1;rw[e0.2]at x2;have hbc:Bd c K:=Cc.out;have y1:Cb w4 m2 a2 n2 c2 c J:=⟨x1,hbc.mono (by omega)⟩;have y2:Cb w4 k2 d2 l2 e2 1 J:=⟨x2,(show Bd 1 1 by unfold Bd;decide).mono (by omega)⟩;exact⟨c,1,⟨_,_,_,_,_,_,_,_,rfl,y1.iA Ew.1,y2.iA Ew.1,j4 HB.out hbw _ _ _ _⟩,by decide,(UC ρ c).symm,Int.one_dvd _⟩
  ·rw[hz]at HM;have HZ:=hid hz;have hvp:vn<pn:=by have:=HG.out.2.1;omega
   clear hz;go_wp2_with fail;refine(vR HM.out.1 ((vn:Int)+1) HM.out.2).mono ?_;rintro e w3 ⟨rfl,hB⟩;clear hd x0 x1 x2
   have Ar:Hid (bD w3 b5 [.bool m1,.slice a1 n1 c1,.bool k1,.slice d1 l1 e1] 31/\ bD w3 b4 [.bool false,.slice none 0 0,.bool false,.slice none 0 0] 31/\ Cb w3 m1 a1 n1 c1 0 J/\ Cb w3 k1 d1 l1 e1 1 J/\ Below w.heap.size w w3):=
    ⟨HS.out.1.below hB,HS.out.2.1.below hB,HS.out.2.2.1.below' hB,HS.out.2.2.2.1.below' hB,Below.steps HS.out.2.2.2.2 hB⟩
   have aa0:b5<w3.heap.size:=Nat.lt_of_lt_of_le UE hB.size;clear hB HS HM UE;have hvz:((vn:Int)+1==0)=false:=by simp;omega
   go_wp2_with fail;refine(GV ((vn:Int)+1) (HP.out.below Ar.out.2.2.2.2) HG.out.1 (fun t ht=>by rw[<-HZ.out];exact rq HG.out.1 ht) (by omega)).mono ?_;rintro e w4 ⟨x,rfl,hP⟩;have hpf:=ql HG.out.1 HN.out _ HZ.out;have hB4:Below w3.heap.size w3 w4:=hP.2;rcases hP.1 with⟨h,_⟩|⟨_,g,cc,L,hR⟩
   ·rw[h]at hpf;exact absurd hpf.1 (by simp)
   ·obtain⟨M,hM⟩:∃M,M=(bg ((vn:Int)+1) p).length:=⟨_,rfl⟩;have hx:=hR.v;rw[<-hM]at hx;subst hx;obtain⟨E0,hE0⟩:∃E0,fK p ((vn:Int)+1)=E0:=⟨_,rfl⟩;have hM0:0<M:=by omega
    have hM9:M<=100000:=by
     have h9:(bg ((vn:Int)+1) p).length<=0+p.length:=sS ((vn:Int)+1) p [];rw[vF.out]at h9;omega
    have hc0:w4.cell? ⟨g,0,none⟩=some (.int .i64 E0):=by
     obtain⟨_,_,_,h1,_⟩:=hR.pts.1 0 (by omega);rw[hpf.2.1,hE0]at h1;rw[hR.iQ.cell];exact h1
    have Me:=hid hM
    have kL:Hid (bD w4 b5 [.bool m1,.slice a1 n1 c1,.bool k1,.slice d1 l1 e1] 31/\ bD w4 b4 [.bool false,.slice none 0 0,.bool false,.slice none 0 0] 31/\ Cb w4 m1 a1 n1 c1 0 J/\ Cb w4 k1 d1 l1 e1 1 J/\ lU w3.heap.size K w4 (.slice (some ⟨g,0,none⟩) M cc) (bg ((vn:Int)+1) p) g cc L/\ Below w.heap.size w w4):=by
     obtain⟨h1,h2,h3,h4,h5⟩:=Ar.out;exact⟨h1.below hB4,h2.below hB4,h3.below' hB4,h4.below' hB4,hR,Below.steps h5 hB4⟩
    have HW0:Hid (Wl ρ μ δ p 0 E0 0 1):=by
     have:=Wl.start (ρ:=ρ) (μ:=μ) (δ:=δ) HG.out.1 HN.out;rw[HZ.out,hE0]at this;exact this
    clear hP hR hpf hB4 Ar hM hE0 Y3 Ty Cc;have hMi:(0:Int)<(M:Int):=by omega
    go_wp2_with fail;clear hc0 hMi hvz;go_loopw [8,38] (fun ex i wr=>∃(k:Nat) (E x d:Int) (m1:Bool) (a1:Option Addr) (n1 c1:Nat) (k1:Bool) (d1:Option Addr) (l1 e1:Nat),i= .int .i64 k/\ ex= .int .i64 E/\ k<=M/\ Hid (bD wr b5 [.bool m1,.slice a1 n1 c1,.bool k1,.slice d1 l1 e1] 31/\ bD wr b4 [.bool false,.slice none 0 0,.bool false,.slice none 0 0] 31/\ Cb wr m1 a1 n1 c1 x J/\ Cb wr k1 d1 l1 e1 d J/\ lU w3.heap.size K wr (.slice (some ⟨g,0,none⟩) M cc) (bg ((vn:Int)+1) p) g cc L/\ Below w.heap.size w wr)/\ Hid (Wl ρ μ δ p k E x d)) (fun _ i _=>M-(intOf i).toNat)
    case atStart=>exact⟨0,E0,0,1,_,_,_,_,_,_,_,_,rfl,rfl,Nat.zero_le _,kL.out,HW0.out⟩
    case round=>
     clear kL HW0;obtain⟨k,E,x,d,m1,a1,n1,c1,k1,d1,l1,e1,rfl,rfl,hk,HS,HW⟩:=hrel;obtain⟨pb,pf,pm,pa,pk,Y4,Y5,Y6,Y7,pc2,ν,hpo,hpl,hpc,hpr,hpv⟩:=HQ.out.iQ hvp;subst hpo;have QA:Hid (∀V,Below w.heap.size w V->Rx V pm pa pk Y4 Y5 Y6 Y7 pc2 ν (δ (vn+1)) (ρ (vn+1)) j):=fun V hV=>hpr.below' hV
     have VY:Hid (Rat.divInt ν (δ (bF p).toNat)=ρ (bF p).toNat/\ Bd ν j/\ Bd (δ (vn+1)) j):=⟨by rw[HZ.out,show((vn:Int)+1).toNat=vn+1 by omega];exact hpv,hpr.bn,hpr.bd⟩;have Q7:=hid hpc;clear hpr hpv hpc
     have hEd:0<=E/\ E<=999:=by
      have h1:=HW.out.e0;have h2:=HW.out.hn.le;have h3:=HG.out.2.2.1 (vn+1);rw[HZ.out]at h2;unfold gD at h3;rw[show((vn+1:Nat):Int)=(vn:Int)+1 by omega]at h3;omega
     have hv0:(0:Int)<=(vn:Int):=by omega
     have hv1:(vn:Int)<(pn:Int):=by omega
     have hvb: -9223372036854775808<=(vn:Int)/\ (vn:Int)<=9223372036854775807:=by
      have:=(o5 HG.out.1).2;rw[HZ.out]at this;omega
     have HVW:Hid (IntKind.i64.wrap ((vn:Int)+1-1)=(vn:Int)/\ wrap64 (vn:Int)=(vn:Int)/\ IntKind.i64.wrap (vn:Int)=(vn:Int)):=⟨by rw[show(vn:Int)+1-1=vn by omega];exact IntWalk.i64_in _ hvb,IntWalk.wrap64_in _ hvb,IntWalk.i64_in _ hvb⟩;clear hvb;by_cases hkM:k<M
     ·obtain⟨qo,qn,qc,h1,h2,h3⟩:=HS.out.2.2.2.2.1.pts.1 k (by rw[<-Me.out];exact hkM);obtain⟨⟨f1,q1⟩,hg⟩:∃y,(bg ((vn:Int)+1) p).getD k (0,[])=y:=⟨_,rfl⟩;rw[hg]at h1 h3;have aa1:wr.cell? ⟨g,k*2,none⟩=some (.int .i64 f1):=by rw[HS.out.2.2.2.2.1.iQ.cell];exact h1
      have aa2:wr.cell? ⟨g,k*2+1,none⟩=some (.slice qo qn qc):=by rw[HS.out.2.2.2.2.1.iQ.cell];exact h2
      have hkl:k<(bg (bF p) p).length:=by rw[HZ.out,<-Me.out];exact hkM
      have hg2:(bg (bF p) p).getD k (0,[])=(f1,q1):=by rw[HZ.out];exact hg
      have hpq:=Bj HG.out.1 hkl;rw[hg2]at hpq;have hfe:=HW.out.le k (Nat.le_refl _) hkl;rw[hg2]at hfe;obtain⟨hq1,hf0⟩:=hpq;simp only at hq1 hf0 hfe;obtain⟨N,hN⟩:∃N:Nat,(N:Int)=E-f1:=⟨(E-f1).toNat,by omega⟩
      have HNW:Hid (IntKind.i64.wrap (E-f1)=(N:Int)/\ wrap64 (E-f1)=(N:Int)):=by
       rw[Hid,hN];exact⟨IntWalk.i64_in _ ⟨by omega,by omega⟩,IntWalk.wrap64_in _ ⟨by omega,by omega⟩⟩
      have hN9:N<=999:=by omega
      have aL:=hid (And.intro hkl (And.intro hg2 (And.intro hq1 hN)))
      have VZ:qn<=100000:=by
       have h4:=yV ((vn:Int)+1) n p [] (fun g h=>by cases h) (by rw[vF.out];exact Nat.le_refl _) (f1,q1) (by rw[<-hg];exact getD_in _ (show k<(bg ((vn:Int)+1) p).length by rw[<-Me.out];exact hkM));have h5:q1.length=qn:=h3.len;simp only at h4;omega
      have HIH:Hid (∀V,Pc K V qo qn qc q1->Below w.heap.size w V->Calls Tryz.prog 95 #[.slice qo qn qc,.slice (some ⟨pb,pf,none⟩) pn pc] V (Ny V (rv ρ q1) (lC (gD q1) δ 201) J)):=fun V hP hV=>by
       have hlw:=GX HG.out.1 (by rw[HZ.out];omega) f1;rw[<-hq1]at hlw;have hfq:fall q1:=by rw[hq1];exact Bg HG.out.1 _ _
       have hcq:=(o5 hfq).1;have hdq:∀u,gD q1 u<=gD p u:=fun u=>by rw[hq1];exact Nt _ _ u
       have hcl:=HG.out.2.1;exact(HI.out (bF q1).toNat (by omega)) (by omega) hP hfq (by omega) (fun u=>Nat.le_trans (hdq u) (HG.out.2.2.1 u)) VZ (HQ.out.below hV) (HG.out.2.2.2.part HL.out.1 HL.out.2.1 hdq (by rw[hq1];exact Nu _ _))
      have hki:(k:Int)<(M:Int):=by omega
      clear h1 h2 hg hkl hg2 hq1 hfe hN;go_upto_region 12 with(fail)
      clear aa1 aa2;obtain⟨b10,KD⟩:∃b,b=wr.heap.size:=⟨_,rfl⟩;refine aj (fun W5 hW=>?_);have Q8:bD W5 b10 [.int .i64 f1,.slice qo qn qc] 199/\ Below wr.heap.size wr W5:=by rw[hW,KD];exact nI wr _ 199
      rw[<-KD];clear hW KD;have Uu:=hid (h3.pc.below Q8.2)
      have jA:Hid (bD W5 b5 [.bool m1,.slice a1 n1 c1,.bool k1,.slice d1 l1 e1] 31/\ bD W5 b4 [.bool false,.slice none 0 0,.bool false,.slice none 0 0] 31/\ Cb W5 m1 a1 n1 c1 x J/\ Cb W5 k1 d1 l1 e1 d J/\ lU w3.heap.size K W5 (.slice (some ⟨g,0,none⟩) M cc) (bg ((vn:Int)+1) p) g cc L/\ Below w.heap.size w W5):=by
       obtain⟨y1,y2,y3,y4,y5,y6⟩:=HS.out;exact⟨y1.below Q8.2,y2.below Q8.2,y3.below' Q8.2,y4.below' Q8.2,y5.below Q8.2,Below.steps y6 Q8.2⟩
      have H10:=hid Q8.1;clear h3 Q8 HS;have dr:=(Below.refl W5.heap.size W5).drew;refine wp_region_held_drew (S:=fun w'=>(w'.cell? ⟨b10,0,none⟩=some (.int .i64 f1)/\ w'.cell? ⟨b10,1,none⟩=some (.slice qo qn qc))/\ w'.cell? ⟨pb,pf+vn*4,none⟩=some (.bool pm)/\ w'.cell? ⟨pb,pf+vn*4+1,none⟩=some (.slice pa pk Y4)/\ w'.cell? ⟨pb,pf+vn*4+2,none⟩=some (.bool Y5)/\ w'.cell? ⟨pb,pf+vn*4+3,none⟩=some (.slice Y6 Y7 pc2)) (by kernel_rfl) ⟨bD.c2 (T:=199) (H10.out.below dr),Q7.out _ (jA.out.2.2.2.2.2.trans (dr.mono jA.out.2.2.2.2.2.size))⟩ (fun hH=>?_);refine ai (fun V hW=>?_);have HQ6:Hid (Pc K V qo qn qc q1):=by rw[hW];exact Uu.out.below dr
      have nO:Hid (bD V b5 [.bool m1,.slice a1 n1 c1,.bool k1,.slice d1 l1 e1] 31/\ bD V b4 [.bool false,.slice none 0 0,.bool false,.slice none 0 0] 31/\ Cb V m1 a1 n1 c1 x J/\ Cb V k1 d1 l1 e1 d J/\ lU w3.heap.size K V (.slice (some ⟨g,0,none⟩) M cc) (bg ((vn:Int)+1) p) g cc L/\ Below w.heap.size w V):=by
       rw[hW];obtain⟨y1,y2,y3,y4,y5,y6⟩:=jA.out;exact⟨y1.below dr,y2.below dr,y3.below' dr,y4.below' dr,y5.below dr,y6.trans (dr.mono y6.size)⟩
      have H11:Hid (bD V b10 [.int .i64 f1,.slice qo qn qc] 199):=by rw[hW];exact H10.out.below dr
      rw[<-hW]at hH;clear dr Uu jA H10;clear hW;obtain⟨hw1,hw2,hw3⟩:=HVW.out;obtain⟨hn1,hn2⟩:=HNW.out;refine bC 1 hH ?_;try simp only[aI]
      refine bC 2 hH ?_;try simp only[aI]
      refine bC 3 hH ?_;try simp only[aI]
      refine bC 4 hH ?_;try simp only[aI]
      refine bC 5 hH ?_;try simp only[aI]
      refine bC 6 hH ?_;try simp only[aI]
      refine bC 7 hH ?_;try simp only[aI]
      refine bC 8 hH ?_;try simp only[aI]
      refine bC 9 hH ?_;try simp only[aI]
      refine bC 11 hH ?_;try simp only[aI]
      refine bC 12 hH ?_;try simp only[aI]
      refine bC 13 hH ?_;try simp only[aI]
      refine ah 0 rfl (by kernel_rfl) (fun KK hK=>?_);obtain⟨y0,y1,y2,y3⟩:=nO.out.1.q4;go_simp;clear y0 y1 y2 y3 hw1 hw2 hw3 hn1 hn2;clear hH;refine hK.out _ _ (⟨bD.c2 (T:=199) H11.out,Q7.out _ nO.out.2.2.2.2.2⟩) fun hH=>?_;clear hK KK
      try simp only[aI]
      refine ah 10 rfl (by kernel_rfl) (fun KK hK=>?_);go_simp;have hjn:j*N+1<=j*999+1:=Nat.succ_le_succ (Nat.mul_le_mul_left _ hN9);refine(y7 (N:=N) (J:=j*999+1) (qm nO.out.2.2.1 nO.out.2.2.2.1) (QA.out _ nO.out.2.2.2.2.2) ((VY.out.2.1.pow N).mono hjn) ((VY.out.2.2.pow N).mono hjn) (by omega) (by omega)).mono ?_;rintro e w7 ⟨m2,a2,n2,c2,k2,d2,l2,e2,rfl,hX1,hX2,hB⟩;have HT7:=hid (And.intro hX1 hX2)
      have eZ:Hid (bD w7 b5 [.bool m1,.slice a1 n1 c1,.bool k1,.slice d1 l1 e1] 31/\ bD w7 b4 [.bool false,.slice none 0 0,.bool false,.slice none 0 0] 31/\ Cb w7 m1 a1 n1 c1 x J/\ Cb w7 k1 d1 l1 e1 d J/\ lU w3.heap.size K w7 (.slice (some ⟨g,0,none⟩) M cc) (bg ((vn:Int)+1) p) g cc L/\ Below w.heap.size w w7):=by
       obtain⟨y1,y2,y3,y4,y5,y6⟩:=nO.out;exact⟨y1.below hB,y2.below hB,y3.below' hB,y4.below' hB,y5.below hB,Below.steps y6 hB⟩
      have HQ7:=hid (HQ6.out.below hB);have H12:=hid (H11.out.below hB);clear hB hX1 hX2 nO HQ6 H11 hjn;go_wp2_with fail;clear hH;refine hK.out _ _ (⟨bD.c2 (T:=199) H12.out,Q7.out _ eZ.out.2.2.2.2.2⟩) fun hH=>?_;clear hK KK
      try simp only[aI]
      refine ah 14 rfl (by kernel_rfl) (fun KK hK=>?_);go_simp;refine(HIH.out w7 HQ7.out eZ.out.2.2.2.2.2).mono ?_;rintro e w8 ⟨y,c,⟨m3,a3,n3,c3,k3,d3,l3,e3,rfl,hY1,hY2,hB⟩,h0,ht,hdv⟩;have HY:=hid (And.intro hY1 hY2);have HD:=hid (And.intro h0 (And.intro ht hdv));have HT8:=hid (And.intro (HT7.out.1.below' hB) (HT7.out.2.below' hB))
      have Gh:Hid (bD w8 b5 [.bool m1,.slice a1 n1 c1,.bool k1,.slice d1 l1 e1] 31/\ bD w8 b4 [.bool false,.slice none 0 0,.bool false,.slice none 0 0] 31/\ Cb w8 m1 a1 n1 c1 x J/\ Cb w8 k1 d1 l1 e1 d J/\ lU w3.heap.size K w8 (.slice (some ⟨g,0,none⟩) M cc) (bg ((vn:Int)+1) p) g cc L/\ Below w.heap.size w w8):=by
       obtain⟨y1,y2,y3,y4,y5,y6⟩:=eZ.out;exact⟨y1.below hB,y2.below hB,y3.below' hB,y4.below' hB,y5.below hB,Below.steps y6 hB⟩
      have H13:=hid (H12.out.below hB);clear hB hY1 hY2 h0 ht hdv HT7 eZ HQ7 H12;go_wp2_with fail;clear hH;refine hK.out _ _ (⟨bD.c2 (T:=199) H13.out,Q7.out _ Gh.out.2.2.2.2.2⟩) fun hH=>?_;clear hK KK
      try simp only[aI]
      refine ah 15 rfl (by kernel_rfl) (fun KK hK=>?_);go_simp;refine(KE (qm HT8.out.1 HT8.out.2) (qm HY.out.1 HY.out.2) HD.out.1 (by omega)).mono ?_;rintro e w9 ⟨m4,a4,n4,c4,k4,d4,l4,e4,rfl,hZ1,hZ2,hB⟩;obtain⟨hkl,hg2,hq1,hN⟩:=aL.out;have hwn:=HW.out.next HG.out.1 HL.out.1 HL.out.2.1 HL.out.2.2 hkl VY.out.1 hg2 HD.out.1 HD.out.2.1 HD.out.2.2 hN;rw[show(bF p).toNat=vn+1 by rw[HZ.out];omega]at hwn;have hbw2:=hwn.bd HG.out.1 (by rw[HZ.out];omega) HL.out.1 HL.out.2.1 HG.out.2.2.2;obtain⟨X9,hX9⟩:∃X,X=x*ν^N*c.tdiv ((Int.gcd (d*δ (vn+1)^N) c:Nat):Int)+y*(d*δ (vn+1)^N).tdiv ((Int.gcd (d*δ (vn+1)^N) c:Nat):Int):=⟨_,rfl⟩;obtain⟨D9,hD9⟩:∃X,X=d*δ (vn+1)^N*c.tdiv ((Int.gcd (d*δ (vn+1)^N) c:Nat):Int):=⟨_,rfl⟩;rw[<-hX9,<-hD9]at hwn hbw2;rw[<-hX9]at hZ1;rw[<-hD9]at hZ2;have HW9:=hid hwn;have G8:Hid (Cb w9 m4 a4 n4 c4 X9 J/\ Cb w9 k4 d4 l4 e4 D9 J):=⟨⟨hZ1.cx,hbw2.1⟩,⟨hZ2.cx,hbw2.2⟩⟩
      have xH:Hid (bD w9 b5 [.bool m1,.slice a1 n1 c1,.bool k1,.slice d1 l1 e1] 31/\ bD w9 b4 [.bool false,.slice none 0 0,.bool false,.slice none 0 0] 31/\ Cb w9 m1 a1 n1 c1 x J/\ Cb w9 k1 d1 l1 e1 d J/\ lU w3.heap.size K w9 (.slice (some ⟨g,0,none⟩) M cc) (bg ((vn:Int)+1) p) g cc L/\ Below w.heap.size w w9):=by
       obtain⟨y1,y2,y3,y4,y5,y6⟩:=Gh.out;exact⟨y1.below hB,y2.below hB,y3.below' hB,y4.below' hB,y5.below hB,Below.steps y6 hB⟩
      have Y8:=hid (H13.out.below hB);clear hB hZ1 hZ2 hwn hbw2 hX9 hD9 hkl hg2 hq1 hN HT8 HY HD Gh H13 HW aL;go_wp2_with fail;clear hH;refine hK.out _ _ (⟨bD.c2 (T:=199) Y8.out,Q7.out _ xH.out.2.2.2.2.2⟩) fun hH=>?_;clear hK KK
      try simp only[aI]
      have Ew:=KA xH.out.1 (ru _ _ _ _ _ _ _ _) (.bool m4) (.slice a4 n4 c4) (.bool k4) (.slice d4 l4 e4);have KD:b5≠b10:=fun e=>absurd ((e▸xH.out.1:bD w9 b10 _ 31).UA Y8.out) (by decide)
      obtain⟨y0,y1,y2,y3⟩:=xH.out.1.q4;obtain⟨z0,z1,z2,z3⟩:=xH.out.1.r4;have NA:=hid Ew;clear Ew;refine ah 16 rfl (by kernel_rfl) (fun KK hK=>?_);go_simp;clear y0 y1 y2 y3 z0 z1 z2 z3;have y8:=j4 xH.out.2.2.2.2.2 (show w.heap.size<=b5 by omega) (.bool m4) (.slice a4 n4 c4) (.bool k4) (.slice d4 l4 e4);have h10:=Y8.out.apart NA.out.1.g fun e=>KD (Option.some.inj e).symm
      have h4':=xH.out.2.1.apart NA.out.1.g fun e=>by have:=Option.some.inj e;omega
      have Tz:=hid (And.intro NA.out.2 (And.intro h4' (And.intro (G8.out.1.iA NA.out.1) (And.intro (G8.out.2.iA NA.out.1) (And.intro (xH.out.2.2.2.2.1.iA NA.out.1 aa0) y8)))));have H15:=hid h10;clear y8 h10 h4' NA xH G8 Y8 KD;clear hH;refine hK.out _ _ (⟨bD.c2 (T:=199) H15.out,Q7.out _ Tz.out.2.2.2.2.2⟩) fun hH=>?_;clear hK KK
      try simp only[aI]
      obtain⟨y0,y1⟩:=bD.c2 H15.out;refine wpAnyH_done (by kernel_rfl) ?_ _
      clear hH;go_wp2_with fail;go_roundw
      case rel=>exact⟨k+1,f1,X9,D9,_,_,_,_,_,_,_,_,by go_num,rfl,by omega,Tz.out,HW9.out⟩
      case measure=>simp[intOf];omega
     ·obtain rfl:k=M:=by omega
      obtain⟨N,hN⟩:∃N:Nat,(N:Int)=E:=⟨E.toNat,by omega⟩;have hwl:Wl ρ μ δ p (bg (bF p) p).length E x d:=by rw[HZ.out,<-Me.out];exact HW.out
      have hlast:=hwl.last HG.out.1 (by rw[HZ.out];omega) HL.out.1 HL.out.2.1 HL.out.2.2 HG.out.2.2.2 VY.out.1 hN;rw[show(bF p).toNat=vn+1 by rw[HZ.out];omega]at hlast;have Q5:=hid hlast;have hN9:N<=999:=by omega
      subst hN;have hkk:¬(k:Int)<(k:Int):=by omega
      clear hwl hlast HW HI;go_upto_region 15 with(fail)
      have dr:=(Below.refl wr.heap.size wr).drew;have hs5:=HS.out.1.below dr;refine wp_region_held_drew (S:=fun w'=>(w'.cell? ⟨b5,0,none⟩=some (.bool m1)/\ w'.cell? ⟨b5,1,none⟩=some (.slice a1 n1 c1)/\ w'.cell? ⟨b5,2,none⟩=some (.bool k1)/\ w'.cell? ⟨b5,3,none⟩=some (.slice d1 l1 e1))/\ w'.cell? ⟨pb,pf+vn*4,none⟩=some (.bool pm)/\ w'.cell? ⟨pb,pf+vn*4+1,none⟩=some (.slice pa pk Y4)/\ w'.cell? ⟨pb,pf+vn*4+2,none⟩=some (.bool Y5)/\ w'.cell? ⟨pb,pf+vn*4+3,none⟩=some (.slice Y6 Y7 pc2)) (by kernel_rfl) ⟨hs5.q4,Q7.out _ (HS.out.2.2.2.2.2.trans (dr.mono HS.out.2.2.2.2.2.size))⟩ (fun hH=>?_);clear hs5;refine ai (fun V hW=>?_)
      have nO:Hid (bD V b5 [.bool m1,.slice a1 n1 c1,.bool k1,.slice d1 l1 e1] 31/\ bD V b4 [.bool false,.slice none 0 0,.bool false,.slice none 0 0] 31/\ Cb V m1 a1 n1 c1 x J/\ Cb V k1 d1 l1 e1 d J/\ Below w.heap.size w V):=by
       rw[hW];obtain⟨y1,y2,y3,y4,y5,y6⟩:=HS.out;exact⟨y1.below dr,y2.below dr,y3.below' dr,y4.below' dr,y6.trans (dr.mono y6.size)⟩
      rw[<-hW]at hH;clear dr HS;clear hW;obtain⟨hw1,hw2,hw3⟩:=HVW.out;refine bC 0 hH ?_;try simp only[aI]
      refine bC 1 hH ?_;try simp only[aI]
      refine bC 2 hH ?_;try simp only[aI]
      refine bC 3 hH ?_;try simp only[aI]
      refine bC 4 hH ?_;try simp only[aI]
      refine bC 5 hH ?_;try simp only[aI]
      refine bC 6 hH ?_;try simp only[aI]
      refine ah 7 rfl (by kernel_rfl) (fun KK hK=>?_);go_simp;clear hw1 hw2 hw3;have hjn:j*N+1<=j*999+1:=Nat.succ_le_succ (Nat.mul_le_mul_left _ hN9);refine(y7 (N:=N) (J:=j*999+1) (qm nO.out.2.2.1 nO.out.2.2.2.1) (QA.out _ nO.out.2.2.2.2) ((VY.out.2.1.pow N).mono hjn) ((VY.out.2.2.pow N).mono hjn) (by omega) (by omega)).mono ?_;rintro e w7 ⟨m2,a2,n2,c2,k2,d2,l2,e2,rfl,hX1,hX2,hB⟩;have UF:Hid (Cb w7 m2 a2 n2 c2 (x*ν^N) J/\ Cb w7 k2 d2 l2 e2 (d*δ (vn+1)^N) J):=⟨⟨hX1.cx,Q5.out.2.2.2.1⟩,⟨hX2.cx,Q5.out.2.2.2.2⟩⟩
      have eZ:Hid (bD w7 b5 [.bool m1,.slice a1 n1 c1,.bool k1,.slice d1 l1 e1] 31/\ bD w7 b4 [.bool false,.slice none 0 0,.bool false,.slice none 0 0] 31/\ Below w.heap.size w w7):=by
       obtain⟨y1,y2,y3,y4,y5⟩:=nO.out;exact⟨y1.below hB,y2.below hB,Below.steps y5 hB⟩
      clear hB hX1 hX2 nO hjn;go_wp2_with fail;clear hH;refine hK.out _ _ (⟨eZ.out.1.q4,Q7.out _ eZ.out.2.2⟩) fun hH=>?_;clear hK KK
      try simp only[aI]
      have Ew:=KA eZ.out.2.1 (ru _ _ _ _ _ _ _ _) (.bool m2) (.slice a2 n2 c2) (.bool k2) (.slice d2 l2 e2);have y8:=j4 eZ.out.2.2 hbw (.bool m2) (.slice a2 n2 c2) (.bool k2) (.slice d2 l2 e2);obtain⟨y0,y1,y2,y3⟩:=eZ.out.2.1.q4;obtain⟨z0,z1,z2,z3⟩:=eZ.out.2.1.r4;have NA:=hid Ew;have nH:=hid y8;have H5:=hid (eZ.out.1.apart Ew.1.g fun e=>by have:=Option.some.inj e;omega);clear Ew y8;refine ah 8 rfl (by kernel_rfl) (fun KK hK=>?_);go_simp;clear y0 y1 y2 y3 z0 z1 z2 z3;clear hH;refine hK.out _ _ (⟨H5.out.q4,Q7.out _ nH.out⟩) fun hH=>?_;clear hK KK
      try simp only[aI]
      obtain⟨f0,f1,f2,f3⟩:=NA.out.2.q4;refine wpAnyH_done (by kernel_rfl) ?_ _
      clear hH;go_wp2_with fail;refine bodyPost_ret (v:= .agg #[.bool m2,.slice a2 n2 c2,.bool k2,.slice d2 l2 e2]) (by simp[results,Tryz.results95,go_sem,f0,f1,f2,f3]) rfl ?_;exact⟨_,_,⟨_,_,_,_,_,_,_,_,rfl,UF.out.1.iA NA.out.1,UF.out.2.iA NA.out.1,nH.out⟩,Q5.out.2.1,Q5.out.1,Q5.out.2.2.1⟩
theorem KF [Ol] {ρ:Nat->Rat} {μ δ:Nat->Int} {K J j:Nat} {po:Option Addr} {pn pc:Nat} (hμ:∀u,0<μ u) (hδ:∀u,0<δ u) (hle:∀u,Le (ρ u) (μ u)) (hK:1<=K/\ K<=J/\ J<=30000/\ 1<=j/\ j<=30) (C:Nat):xL ρ μ δ K J j po pn pc C:=
 @Nat.strongRecOn (xL ρ μ δ K J j po pn pc) C (fun C IH=>G7 hμ hδ hle hK C IH)
structure Pt [Ol] (w:World) (ao:Option Addr) (n cap:Nat) (qs:List Rat) (j:Nat):Prop where
 len:qs.length=n
 ex:∃bM,Gl 4 w ao n cap bM/\∀i,i<n->∃m a k c m2 a2 k2 c2 x d,bM.getD i []=[.bool m,.slice a k c,.bool m2,.slice a2 k2 c2]/\ Rx w m a k c m2 a2 k2 c2 x d (qs.getD i 0) j
theorem Pt.below [Ol] {w w':World} {ao:Option Addr} {n cap:Nat} {qs:List Rat} {j:Nat} (h:Pt w ao n cap qs j) (hb:Below w.heap.size w w'):Pt w' ao n cap qs j:=by
 obtain⟨bM,h1,h2⟩:=h.ex;refine⟨h.len,bM,h1.below hb,fun i hi=>?_⟩;obtain⟨m,a,k,c,m2,a2,k2,c2,x,d,h3,h4⟩:=h2 i hi;exact⟨m,a,k,c,m2,a2,k2,c2,x,d,h3,h4.below' hb⟩
theorem Pt.iQ [Ol] {w:World} {ao:Option Addr} {n cap:Nat} {qs:List Rat} {j:Nat} (h:Pt w ao n cap qs j) {i:Nat} (hi:i<n):∃b off m a k c m2 a2 k2 c2 x d,ao=some ⟨b,off,none⟩/\ b<w.heap.size/\ (∀V:World,Below w.heap.size w V->V.cell? ⟨b,off+i*4,none⟩=some (.bool m)/\ V.cell? ⟨b,off+i*4+1,none⟩=some (.slice a k c)/\ V.cell? ⟨b,off+i*4+2,none⟩=some (.bool m2)/\ V.cell? ⟨b,off+i*4+3,none⟩=some (.slice a2 k2 c2))/\ Rx w m a k c m2 a2 k2 c2 x d (qs.getD i 0) j:=by
 obtain⟨bM,h1,h2⟩:=h.ex;obtain⟨m,a,k,c,m2,a2,k2,c2,x,d,h3,h4⟩:=h2 i hi;obtain⟨b,off,e1,e2,e3⟩:=h1.at (by omega);refine⟨b,off,m,a,k,c,m2,a2,k2,c2,x,d,e1,e2,fun V hV=>?_,h4⟩;have f:=e3 V hV i hi;rw[h3]at f;exact⟨by simpa using f 0 (by omega),by simpa using f 1 (by omega),by simpa using f 2 (by omega),by simpa using f 3 (by omega)⟩
def UG (v:Value):Bool:=match v with| .bool _=>true| _=>false
def Ct (L:List Value):Prop:=∀i u,L[i]? =some u->(i%2=0->UG u=true)/\ (i%2=1->Qd u=true)
theorem Ct.clean {L:List Value} (h:Ct L):Clean L:=fun u hu=>by
 obtain⟨j,hj⟩:=List.mem_iff_getElem?.1 hu;have:=h j u hj;rcases Nat.mod_two_eq_zero_or_one j with e|e
 ·have:=this.1 e;cases u<;>first|rfl|cases this
 ·have:=this.2 e;cases u<;>first|rfl|cases this
theorem Ct.shy {L:List Value} (h:Ct L):shy L:=by
 refine⟨fun u hu=>?_,fun j a b ha hb=>?_⟩
 ·have:=h.clean u hu;cases u<;>first|rfl|cases this
 ·refine⟨.inl (h.clean a (List.mem_of_getElem? ha)),?_⟩;rcases Nat.mod_two_eq_zero_or_one j with e|e
  ·have:=(h j a ha).1 e;cases a<;>first|rfl|cases this
  ·have:=(h (j+1) b hb).1 (by omega);cases b<;>first|(cases a<;>rfl)|cases this
theorem Ct.put {L:List Value} (h:Ct L) (k:Nat) {v0 v1 v2 v3:Value} (h0:UG v0=true) (h1:Qd v1=true) (h2:UG v2=true) (h3:Qd v3=true):Ct (nZ L (k*4) [v0,v1,v2,v3]):=fun i u hu=>by
 by_cases hi:i<k*4∨k*4+[v0,v1,v2,v3].length<=i
 ·rw[jw _ _ _ _ hi]at hu;exact h i u hu
 ·have hl:i<L.length:=by
   have:=(List.getElem?_eq_some_iff.1 hu).1;rwa[iG]at this
  simp only[List.length_cons,List.length_nil]at hi;rw[jC _ _ _ _ (by omega) (by simp;omega) hl]at hu;obtain⟨t,ht⟩:∃t,i=k*4+t:=⟨i-k*4,by omega⟩;subst ht;rw[show k*4+t-k*4=t by omega]at hu
  match t,hu with
  |0,hu=>cases hu;exact⟨fun _=>h0,fun e=>by omega⟩
  |1,hu=>cases hu;exact⟨fun e=>by omega,fun _=>h1⟩
  |2,hu=>cases hu;exact⟨fun _=>h2,fun e=>by omega⟩
  |3,hu=>cases hu;exact⟨fun e=>by omega,fun _=>h3⟩
  |t+4,hu=>simp at hu
structure Low (w:World) (b:Nat) (L:List Value) (c:Nat) (qs:List Rat) (k j:Nat):Prop where
 iQ:bD w b L 31
 len:L.length=c*4
 alt:Ct L
 done:∀i,i<k->∃m a n cc m2 a2 n2 c2,L[i*4]? =some (.bool m)/\ L[i*4+1]? =some (.slice a n cc)/\ L[i*4+2]? =some (.bool m2)/\ L[i*4+3]? =some (.slice a2 n2 c2)/\ Rc w m a n cc m2 a2 n2 c2 (qs.getD i 0) j
theorem Rc.below' {w w':World} {m:Bool} {ao:Option Addr} {n cap:Nat} {k:Bool} {bo:Option Addr} {l cb:Nat} {q:Rat} {j:Nat} (h:Rc w m ao n cap k bo l cb q j) (hb:Below w.heap.size w w'):Rc w' m ao n cap k bo l cb q j:=⟨⟨h.num.cn.below hb,h.num.le⟩,⟨h.den.cn.below hb,h.den.le⟩,h.bn,h.bd⟩
theorem Rc.iA {w w':World} {m:Bool} {ao:Option Addr} {n cap:Nat} {k:Bool} {bo:Option Addr} {l cb:Nat} {q:Rat} {j b:Nat} (h:Rc w m ao n cap k bo l cb q j) (hF:oK w w' b):Rc w' m ao n cap k bo l cb q j:=⟨⟨h.num.cn.iA hF,h.num.le⟩,⟨h.den.cn.iA hF,h.den.le⟩,h.bn,h.bd⟩
theorem Low.below {w w':World} {b:Nat} {L:List Value} {c:Nat} {qs:List Rat} {k j:Nat} (h:Low w b L c qs k j) (hb:Below w.heap.size w w'):Low w' b L c qs k j:=
 ⟨h.iQ.below hb,h.len,h.alt,fun i hi=>by
  obtain⟨m,a,n,cc,m2,a2,n2,c2,h1,h2,h3,h4,h5⟩:=h.done i hi;exact⟨m,a,n,cc,m2,a2,n2,c2,h1,h2,h3,h4,h5.below' hb⟩⟩
theorem Low.put {w:World} {b:Nat} {L:List Value} {c:Nat} {qs:List Rat} {k j:Nat} (h:Low w b L c qs k j) (hk:k<c) {m:Bool} {a:Option Addr} {n cc:Nat} {m2:Bool} {a2:Option Addr} {n2 c2:Nat} (hr:Rc w m a n cc m2 a2 n2 c2 (qs.getD k 0) j):
  Low ((((w.setCell ⟨b,k*4,none⟩ (.bool m)).setCell ⟨b,k*4+1,none⟩ (.slice a n cc)).setCell ⟨b,k*4+2,none⟩ (.bool m2)).setCell ⟨b,k*4+3,none⟩ (.slice a2 n2 c2)) b (nZ L (k*4) [.bool m,.slice a n cc,.bool m2,.slice a2 n2 c2]) c qs (k+1) j:=by
 have hF:oK w ((((w.setCell ⟨b,k*4,none⟩ (.bool m)).setCell ⟨b,k*4+1,none⟩ (.slice a n cc)).setCell ⟨b,k*4+2,none⟩ (.bool m2)).setCell ⟨b,k*4+3,none⟩ (.slice a2 n2 c2)) b:=
  ⟨⟨L,_,h.iQ,h.alt.shy⟩,eG (eG (eG (cB _ _ _ _) (cB _ _ _ _)) (cB _ _ _ _)) (cB _ _ _ _)⟩
 have hl:=h.len;refine⟨(((h.iQ.set _ _).set _ _).set _ _).set _ _,by rw[iG];exact hl,h.alt.put k rfl rfl rfl rfl,fun i hi=>?_⟩;by_cases hik:i<k
 ·obtain⟨m',a',n',cc',m2',a2',n2',c2',h1,h2,h3,h4,h5⟩:=h.done i hik;exact⟨m',a',n',cc',m2',a2',n2',c2',by rw[jw _ _ _ _ (.inl (by omega))];exact h1,by rw[jw _ _ _ _ (.inl (by omega))];exact h2,by rw[jw _ _ _ _ (.inl (by omega))];exact h3,by rw[jw _ _ _ _ (.inl (by omega))];exact h4,h5.iA hF⟩
 ·obtain rfl:i=k:=by omega
  refine⟨m,a,n,cc,m2,a2,n2,c2,?_,?_,?_,?_,hr.iA hF⟩
  ·rw[jC _ _ _ _ (by omega) (by simp) (by omega),Nat.sub_self];rfl
  ·rw[jC _ _ _ _ (by omega) (by simp) (by omega),show i*4+1-i*4=1 by omega];rfl
  ·rw[jC _ _ _ _ (by omega) (by simp) (by omega),show i*4+2-i*4=2 by omega];rfl
  ·rw[jC _ _ _ _ (by omega) (by simp) (by omega),show i*4+3-i*4=3 by omega];rfl
def Ae (qs:List Rat) (u:Nat):Rat:=qs.getD (u-1) 0
def Dz (qs:List Rat) (u:Nat):Int:=((Ae qs u).den:Int)
def Dy (qs:List Rat) (u:Nat):Int:=max 1 ((Ae qs u).num.natAbs:Int)
theorem xM (qs:List Rat) (u:Nat):0<Dz qs u:=by
 unfold Dz;have:=(Ae qs u).den_pos;omega
theorem Cu (qs:List Rat) (u:Nat):0<Dy qs u:=by unfold Dy;omega
theorem UH (qs:List Rat) (u:Nat):Le (Ae qs u) (Dy qs u):=by
 refine Le.mk' (x:=(Ae qs u).num) (xM qs u) (Rat.num_divInt_den _) ?_;have h:=xM qs u;have h1:((Ae qs u).num.natAbs:Int)<=Dy qs u:=by unfold Dy;omega
 have h2:=Int.mul_le_mul_of_nonneg_left (show 1<=Dz qs u by omega) (show 0<=Dy qs u by have:=Cu qs u;omega);omega
theorem Low.qp [Ol] {w:World} {b:Nat} {L:List Value} {c:Nat} {qs:List Rat} {j:Nat} (h:Low w b L c qs c j) (hc:c<=1000):Qp w (some ⟨b,0,none⟩) c c (Ae qs) (Dz qs) j:=by
 obtain⟨bM,hv⟩:∃bM:List (List Value),bM=(List.range c).map fun i=>(L.drop (i*4)).take 4:=⟨_,rfl⟩
 have hl:=h.len;have hg:∀i,i<c->bM.getD i []=(L.drop (i*4)).take 4:=fun i hi=>by rw[hv];simp[List.getD,hi]
 have hgt:∀i t,i<c->t<4->(bM.getD i [])[t]? =L[i*4+t]? :=fun i t hi ht=>by rw[hg i hi,List.getElem?_take,if_pos ht,List.getElem?_drop]
 have h4:∀i,i<c->∀{m a n cc m2 a2 n2 c2},L[i*4]? =some (Value.bool m)->L[i*4+1]? =some (Value.slice a n cc)->L[i*4+2]? =some (Value.bool m2)->L[i*4+3]? =some (Value.slice a2 n2 c2)->bM.getD i []=[.bool m,.slice a n cc,.bool m2,.slice a2 n2 c2]:=fun i hi {m a n cc m2 a2 n2 c2} h1 h2 h3 h4=>by
  apply List.ext_getElem?;intro t
  match t with
  |0=>rw[hgt i 0 hi (by omega)];exact h1
  |1=>rw[hgt i 1 hi (by omega)];exact h2
  |2=>rw[hgt i 2 hi (by omega)];exact h3
  |3=>rw[hgt i 3 hi (by omega)];exact h4
  |t+4=>
   rw[List.getElem?_eq_none,List.getElem?_eq_none]
   ·simp
   ·rw[hg i hi,List.length_take];omega
 refine⟨bM,Gl.of_cells (by rw[hv];simp) (Nat.le_refl _) (by omega) (fun vs hvs=>?_) (fun _=>h.iQ.lt) (fun _=>Kp.AJ (h.iQ.gY h.alt.clean)) fun t ht jj hj=>?_,fun i hi=>?_⟩
 ·rw[hv]at hvs;obtain⟨i,hi,rfl⟩:=List.mem_map.1 hvs;have hi2:=List.mem_range.1 hi;obtain⟨m,a,n,cc,m2,a2,n2,c2,h1,h2,h3,h5,_⟩:=h.done i hi2;rw[<-hg i hi2,h4 i hi2 h1 h2 h3 h5];refine⟨rfl,fun v hv=>?_⟩;simp at hv;rcases hv with rfl|rfl|rfl|rfl<;>rfl
 ·rw[Nat.zero_add,h.iQ.cell,hgt t jj ht hj]
 ·obtain⟨m,a,n,cc,m2,a2,n2,c2,h1,h2,h3,h5,h6⟩:=h.done i hi;have e:Ae qs (i+1)=qs.getD i 0:=by unfold Ae;rw[Nat.add_sub_cancel]
  have ed:Dz qs (i+1)=((qs.getD i 0).den:Int):=by unfold Dz;rw[e]
  refine⟨m,a,n,cc,m2,a2,n2,c2,(qs.getD i 0).num,h4 i hi h1 h2 h3 h5,?_,?_⟩
  ·rw[e,ed];exact⟨h6.num.nx,h6.den.nx,Ja _,h6.bn,h6.bd⟩
  ·rw[e,ed];exact Rat.num_divInt_den _
open Lib (hid)
theorem Tryz.KG:(Tryz.prog.info? 31).map (fun i=>(i.zero,i.size,i.bytes))=some (some (.agg #[.bool false,.slice none 0 0,.bool false,.slice none 0 0]),4,64):=by kernel_rfl
theorem KH (n:Nat):Ct (madeCells #[.bool false,.slice none 0 0,.bool false,.slice none 0 0] n).toList:=fun i u hu=>by
 have hl:i<n:=by
  have:=(List.getElem?_eq_some_iff.1 hu).1;simpa[madeCells]using this
 have e:(madeCells #[Value.bool false,.slice none 0 0,.bool false,.slice none 0 0] n).toList[i]? =some ((#[Value.bool false,.slice none 0 0,.bool false,.slice none 0 0]:Array Value)[i%4]!):=by
  simp[madeCells,hl]
 rw[e]at hu;cases hu;have h4:i%4=0∨i%4=1∨i%4=2∨i%4=3:=by omega
 rcases h4 with h|h|h|h<;>rw[h]
 ·exact⟨fun _=>rfl,fun e=>by omega⟩
 ·exact⟨fun e=>by omega,fun _=>rfl⟩
 ·exact⟨fun _=>rfl,fun e=>by omega⟩
 ·exact⟨fun e=>by omega,fun _=>rfl⟩
theorem Low.start {w:World} {b c:Nat} {qs:List Rat} {j:Nat} (h:bD w b (madeCells #[.bool false,.slice none 0 0,.bool false,.slice none 0 0] (c*4)).toList 31):Low w b (madeCells #[.bool false,.slice none 0 0,.bool false,.slice none 0 0] (c*4)).toList c qs 0 j:=
 ⟨h,by simp[madeCells],KH _,fun i hi=>by omega⟩
theorem KI [Ol] {K:Nat} {w:World} {ao:Option Addr} {n cap:Nat} {p:List Term} (z:Int) (hp:Pc K w ao n cap p) (hf:fall p) (hK:K<=1000) (hz:bF p=z):Calls Tryz.prog 94 #[.slice ao n cap] w (dI (.int .i64 z) w):=
 G9 z hp.raw (fun t ht=>Nat.le_trans (hp.lens t ht) hK) (by rw[Q9 hf];exact hz)
section
variable {K J j:Nat} {ao po:Option Addr} {n cap pn pc:Nat} {w:World} {qs:List Rat}
def Ra (w:World) (q:Rat) (J:Nat) (e:Ending) (w':World):Prop:=∃x d m ao n cap k bo l cb,e= .returned (.tuple #[.agg #[.bool m,.slice ao n cap,.bool k,.slice bo l cb],.int .i64 0])/\ Cb w' m ao n cap x J/\ Cb w' k bo l cb d J/\ 0<d/\ Rat.divInt x d=q/\ Below w.heap.size w w'
theorem Ey [Ol] {p:List Term} (hp:Pc K w ao n cap p) (hf:fall p) (hK:1<=K/\ K<=1000/\ K<=J/\ J<=30000/\ 1<=j/\ j<=30) (hc:bF p<=(pn:Int)) (hdg:∀u,gD p u<=999) (hn:n<=100000) (hq:Pt w po pn pc qs j) (hJ:Big p (Dy qs) (Dz qs) J):
  Calls Tryz.prog 40 #[.slice ao n cap,.slice po pn pc] w (Ra w (rv (Ae qs) p) J):=by
 obtain⟨i0,hi,hz0,hz1,hz2⟩:=info_parts Tryz.KG;have hcb:=o5 hf;obtain⟨c,hcc⟩:∃c:Nat,bF p=(c:Int):=⟨(bF p).toNat,by omega⟩;have hcp:c<=pn:=by omega
 have hc2:c<=200:=by omega
 have hmk:∀W:World,(Instr.makeSlice 24 (.int .i64 (c:Int)) (.int .i64 (c:Int))).run Tryz.prog W= .ok (.slice (some ⟨W.heap.size,0,none⟩) c c) (W.alloc (.cells (madeCells #[.bool false,.slice none 0 0,.bool false,.slice none 0 0] (c*4)).toList.toArray 31)):=by
  intro W;have h:=run_make (P:=Tryz.prog) W 24 31 i0 _ Tryz.underlying24 hi hz0 .i64 .i64 (c:Int) (c:Int) (by omega) (by omega) (by rw[hz2];omega) (by omega);rw[h,hz1];simp[Value.cells]
 have HP:=hid (And.intro hp (And.intro hf hcc));have HG:=hid (And.intro hdg (And.intro hq hJ));clear hi hz0 hz1 hz2 hp hf hdg hq hJ hcc hcb hc;go_enter Tryz.func40,Tryz.ntmps40;obtain⟨b4,hb4⟩:∃b4,b4=w.heap.size:=⟨_,rfl⟩;go_upto_region 1 with(fail)
 refine aj (fun W0 hW=>?_);have a0:bD W0 b4 [.bool false,.slice none 0 0,.bool false,.slice none 0 0] 31/\ Below w.heap.size w W0:=by rw[hW,hb4];exact nI w _ 31
 rw[<-hb4];have hbw:w.heap.size<=b4:=by omega
 clear hW hb4;go_wp2_with fail;refine(xZ (HP.out.1.below a0.2) HP.out.2.1 hK.2.1).mono ?_;rintro e w1 ⟨rfl,hB⟩;have HB:=hid (Below.steps a0.2 hB);have H4:=hid (a0.1.below hB);clear a0 hB;go_wp2_with fail;refine(KI (c:Int) (HP.out.1.below HB.out) HP.out.2.1 hK.2.1 HP.out.2.2).mono ?_;rintro e w2 ⟨rfl,hB⟩;have HS2:Hid (bD w2 b4 [.bool false,.slice none 0 0,.bool false,.slice none 0 0] 31/\ Below w.heap.size w w2):=⟨H4.out.below hB,Below.steps HB.out hB⟩;clear hB H4 HB;have hgt:¬(pn:Int)<(c:Int):=by omega
 have hg1:decide (pn<c)=false:=decide_eq_false (by omega);obtain⟨b7,F4⟩:∃b,b=w2.heap.size:=⟨_,rfl⟩;go_upto_region 7 with(fail)
 refine aj (fun W3 hW=>?_);have a7:bD W3 b7 (madeCells #[.bool false,.slice none 0 0,.bool false,.slice none 0 0] (c*4)).toList 31/\ Below w2.heap.size w2 W3:=by rw[hW,F4];exact nI w2 _ 31
 rw[<-F4];have ad3:b4<b7:=by have:=HS2.out.1.lt;omega
 have Ar:Hid (bD W3 b4 [.bool false,.slice none 0 0,.bool false,.slice none 0 0] 31/\ Low W3 b7 _ c qs 0 j/\ Below w.heap.size w W3):=⟨HS2.out.1.below a7.2,Low.start a7.1,Below.steps HS2.out.2 a7.2⟩;clear hW F4 a7 HS2 hgt hg1 hmk;go_wp2_with fail;go_loopw [8,24] (fun _ i wr=>∃(k:Nat) (L:List Value),i= .int .i64 k/\ k<=c/\ Hid (bD wr b4 [.bool false,.slice none 0 0,.bool false,.slice none 0 0] 31/\ Low wr b7 L c qs k j/\ Below w.heap.size w wr)) (fun _ i _=>c-(intOf i).toNat)
 case atStart=>exact⟨0,_,rfl,Nat.zero_le _,Ar.out⟩
 case round=>
  clear Ar;obtain⟨k,L,rfl,hk,HS⟩:=hrel;by_cases hkc:k<c
  ·obtain⟨pb,pf,pm,pa,pk,Y4,Y5,Y6,Y7,pc2,x,d,hpo,hpl,hpc,hpr⟩:=HG.out.2.1.iQ (i:=k) (by omega);subst hpo;obtain⟨x0,x1,x2,x3⟩:=hpc wr HS.out.2.2;have QA:=hid (hpr.below' HS.out.2.2);have hki:(k:Int)<(c:Int):=by omega
   have hkp:(k:Int)<(pn:Int):=by omega
   have hk0:(0:Int)<=(k:Int):=by omega
   have hll:=HS.out.2.1.len;have hu:∀t,t<4->∃u,L[k*4+t]? =some u:=fun t ht=>⟨_,List.getElem?_eq_getElem (by omega)⟩
   obtain⟨u0,hu0⟩:=hu 0 (by omega);obtain⟨u1,hu1⟩:=hu 1 (by omega);obtain⟨u2,hu2⟩:=hu 2 (by omega);obtain⟨u3,hu3⟩:=hu 3 (by omega);rw[Nat.add_zero]at hu0;have HU:=hid (And.intro hu0 (And.intro hu1 (And.intro hu2 hu3)));clear hpc hpr hu hu0 hu1 hu2 hu3 hll;go_wp2_with fail;refine(Ez QA.out (by omega) (by omega)).mono ?_;rintro e w5 ⟨m2,a2,n2,c2,k2,d2,l2,e2,rfl,hX,hB⟩;have h7:=HS.out.2.1.below hB;have V7:=hid h7;have HX:=hid hX;have jA:Hid (bD w5 b4 [.bool false,.slice none 0 0,.bool false,.slice none 0 0] 31/\ Below w.heap.size w w5):=⟨HS.out.1.below hB,Below.steps HS.out.2.2 hB⟩;have y0:w5.cell? ⟨b7,k*4,none⟩=some u0:=by rw[h7.iQ.cell];exact HU.out.1
   have y1:w5.cell? ⟨b7,k*4+1,none⟩=some u1:=by rw[h7.iQ.cell];exact HU.out.2.1
   have y2:w5.cell? ⟨b7,k*4+2,none⟩=some u2:=by rw[h7.iQ.cell];exact HU.out.2.2.1
   have y3:w5.cell? ⟨b7,k*4+3,none⟩=some u3:=by rw[h7.iQ.cell];exact HU.out.2.2.2
   have z0:=h7.iQ.fz (k*4);have z1:=h7.iQ.fz (k*4+1);have z2:=h7.iQ.fz (k*4+2);have z3:=h7.iQ.fz (k*4+3);clear hX hB h7 HS x0 x1 x2 x3;go_wp2_with fail;have hn7:=V7.out.put hkc HX.out;have XK:Below w.heap.size w _:=(((jA.out.2.setCell (p:=⟨b7,k*4,none⟩) (show w.heap.size<=b7 by omega) (.bool m2)).setCell (p:=⟨b7,k*4+1,none⟩) (show w.heap.size<=b7 by omega) (.slice a2 n2 c2)).setCell (p:=⟨b7,k*4+2,none⟩) (show w.heap.size<=b7 by omega) (.bool k2)).setCell (p:=⟨b7,k*4+3,none⟩) (show w.heap.size<=b7 by omega) (.slice d2 l2 e2);have h49:=(((jA.out.1.far (c:=b7) (by omega) (k*4) (.bool m2)).far (c:=b7) (by omega) (k*4+1) (.slice a2 n2 c2)).far (c:=b7) (by omega) (k*4+2) (.bool k2)).far (c:=b7) (by omega) (k*4+3) (.slice d2 l2 e2);have xH:=hid (And.intro h49 (And.intro hn7 XK));clear hn7 XK h49;go_roundw
   case rel=>exact⟨k+1,_,by go_num,by omega,xH.out⟩
   case measure=>simp[intOf];omega
  ·obtain rfl:k=c:=by omega
   have hq:=HS.out.2.1.qp (by omega);have HQ:=hid hq;have hkk:¬(k:Int)<(k:Int):=by omega
   clear hq;go_wp2_with fail;refine(KF (K:=K) (J:=J) (j:=j) (fun u=>Cu qs u) (fun u=>xM qs u) (fun u=>UH qs u) ⟨hK.1,hK.2.2⟩ k (Nat.le_refl _) (HP.out.1.below HS.out.2.2) HP.out.2.1 (by rw[HP.out.2.2];exact Int.le_refl _) HG.out.1 hn HQ.out HG.out.2.2).mono ?_;rintro e w5 ⟨x,d,⟨m2,a2,n2,c2,k2,d2,l2,e2,rfl,hX1,hX2,hB⟩,h0,hv,_⟩;have h4:=HS.out.1.below hB;have H4:=hid h4;have HX:=hid (And.intro hX1 (And.intro hX2 (And.intro h0 (And.intro hv (Below.steps HS.out.2.2 hB)))));obtain⟨f0,f1,f2,f3⟩:=h4.q4;obtain⟨g0,g1,g2,g3⟩:=h4.r4;clear hX1 hX2 hB h0 hv h4 HS HQ;go_wp2_with fail;refine bodyPost_ret (v:= .tuple #[.agg #[.bool m2,.slice a2 n2 c2,.bool k2,.slice d2 l2 e2],.int .i64 0]) (by simp[results,Tryz.results40,go_sem,f0,f1,f2,f3]) rfl ?_;have Ew:=KA H4.out (ru _ _ _ _ _ _ _ _) (.bool m2) (.slice a2 n2 c2) (.bool k2) (.slice d2 l2 e2);exact⟨x,d,_,_,_,_,_,_,_,_,rfl,HX.out.1.iA Ew.1,HX.out.2.1.iA Ew.1,HX.out.2.2.1,HX.out.2.2.2.1,j4 HX.out.2.2.2.2 hbw _ _ _ _⟩
end
section
variable {K J j:Nat} {ao po:Option Addr} {n cap pn pc:Nat} {w:World} {qs:List Rat}
theorem Qq [Ol] {p:List Term} (hp:Pc K w ao n cap p) (hf:fall p) (hK:1<=K/\ K<=1000/\ K<=J/\ J<=30000/\ 1<=j/\ j<=30) (hc:bF p<=(pn:Int)) (hdg:∀u,gD p u<=999) (hn:n<=100000) (hq:Pt w po pn pc qs j) (hJ:Big p (Dy qs) (Dz qs) J):
  Calls Tryz.prog 10 #[.slice ao n cap,.slice po pn pc] w (XP w (rv (Ae qs) p) J 0):=by
 have HB:=fun(V:World) (hV:Below w.heap.size w V)=>Ey (hp.below hV) hf hK hc hdg hn (hq.below hV) hJ
 have HBR:=Lib.hid HB;clear HB hp hf hc hdg hn hq hJ;go_enter Tryz.func10,Tryz.ntmps10;obtain⟨b4,hb4⟩:∃b4,b4=w.heap.size:=⟨_,rfl⟩;go_upto_region 1 with(fail)
 refine aj (fun W0 hW=>?_);have a0:bD W0 b4 [.bool false,.slice none 0 0,.bool false,.slice none 0 0] 31/\ Below w.heap.size w W0:=by rw[hW,hb4];exact nI w _ 31
 rw[<-hb4];have hbw:w.heap.size<=b4:=by omega
 clear hW hb4;go_wp2_with fail;refine(HBR.out W0 a0.2).mono ?_;rintro e w1 ⟨x,d,m1,a1,n1,c1,k1,d1,l1,e1,rfl,hX1,hX2,h0,hv,hB⟩;obtain⟨b6,hb6⟩:∃b,b=w1.heap.size:=⟨_,rfl⟩;go_upto_region 2 with(fail)
 refine aj (fun W2 hW=>?_);have a6:bD W2 b6 [.bool m1,.slice a1 n1 c1,.bool k1,.slice d1 l1 e1] 31/\ Below w1.heap.size w1 W2:=by rw[hW,hb6];exact nI w1 _ 31
 rw[<-hb6]
 have HR:Hid (Rx W2 m1 a1 n1 c1 k1 d1 l1 e1 x d (rv (Ae qs) p) J):=by
  have h:=qm (hX1.below' a6.2) (hX2.below' a6.2);have e:qv x d=rv (Ae qs) p:=by rw[<-hv,TA (by omega)]
  rw[e]at h;exact h
 have HS:Hid (bD W2 b4 [.bool false,.slice none 0 0,.bool false,.slice none 0 0] 31/\ Below w.heap.size w W2):=⟨(a0.1.below hB).below a6.2,Below.steps (Below.steps a0.2 hB) a6.2⟩;obtain⟨x0,x1,x2,x3⟩:=a6.1.q4;clear hW hb6 a6 a0 hB hX1 hX2 h0 hv;go_wp2_with fail;refine(Ez HR.out (by omega) (by omega)).mono ?_;rintro e w3 ⟨m2,a2,n2,c2,k2,d2,l2,e2,rfl,hX,hB⟩;have h4:=HS.out.1.below hB;have H4:=Lib.hid h4;have HX:=Lib.hid (And.intro hX (Below.steps HS.out.2 hB));obtain⟨f0,f1,f2,f3⟩:=h4.q4;obtain⟨g0,g1,g2,g3⟩:=h4.r4;clear hX hB h4 HS x0 x1 x2 x3;go_wp2_with fail;refine bodyPost_ret (v:= .tuple #[.agg #[.bool m2,.slice a2 n2 c2,.bool k2,.slice d2 l2 e2],.int .i64 0]) (by simp[results,Tryz.results10,go_sem,f0,f1,f2,f3]) rfl ?_;have Ew:=KA H4.out (ru _ _ _ _ _ _ _ _) (.bool m2) (.slice a2 n2 c2) (.bool k2) (.slice d2 l2 e2);exact⟨_,_,_,_,_,_,_,_,rfl,HX.out.1.iA Ew.1,j4 HX.out.2 hbw _ _ _ _⟩
end
def Lo (D:Nat) (p:List Term):Prop:=∀t∈p,∀x∈t.2,x.2<=(D:Int)
theorem Jb {D:Nat}:∀{m:List (Int×Int)},(∀x∈m,x.2<=(D:Int))->∀v,aH m v<=(D:Int)
 |[],_,_=>by simp[aH]
 |x::r,h,v=>by
  unfold aH;split
  ·exact h x (by simp)
  ·exact Jb (fun y hy=>h y (by simp[hy])) v
theorem Lo.Zp {D:Nat} {p:List Term} (h:Lo D p) (u:Nat):gD p u<=D:=by
 unfold gD;rcases uJ p (u:Int)with h0|⟨t,ht,h1⟩
 ·omega
 ·have:=Jb (h t ht) (u:Int);omega
theorem Cv {f:Nat->Nat} {μ:Nat->Int} {M:Int} {D k:Nat} (hM:1<=M) (hμ:∀u,0<μ u/\ μ u<=M) (hf:∀u,f u<=D) (hk:∀u,k<=u->μ u=1):∀n,0<lC f μ n/\ lC f μ n<=M^(D*min n k)
 |0=>by simp[lC]
 |n+1=>by
  obtain⟨h1,h2⟩:=Cv hM hμ hf hk n;simp only[lC];have hp:0<μ n^f n:=Int.pow_pos (hμ n).1;refine⟨Int.mul_pos h1 hp,?_⟩;by_cases h:k<=n
  ·rw[hk n h,Int.one_pow,Int.mul_one,show min (n+1) k=min n k by omega];exact h2
  ·have e:D*min (n+1) k=D*min n k+D:=by rw[show min (n+1) k=min n k+1 by omega,Nat.mul_succ]
   rw[e,Int.pow_add]
   have h3:μ n^f n<=M^D:=by
    obtain⟨a,ha⟩:∃a:Nat,μ n=a:=⟨(μ n).toNat,by have:=(hμ n).1;omega⟩;obtain⟨b,hb⟩:∃b:Nat,M=b:=⟨M.toNat,by omega⟩;have hab:a<=b:=by have:=(hμ n).2;omega
    have hb1:1<=b:=by omega
    rw[ha,hb,<-Int.natCast_pow,<-Int.natCast_pow];exact Int.ofNat_le.2 (Nat.le_trans (Nat.pow_le_pow_left hab _) (Nat.pow_le_pow_right hb1 (hf n)))
   exact Int.mul_le_mul h2 h3 (Int.le_of_lt hp) (Int.le_of_lt (Int.pow_pos (by omega)))
theorem Jc {qs:List Rat} {u:Nat} (h:qs.length<u):Ae qs u=0:=by
 unfold Ae;rw[List.getD,List.getElem?_eq_none (by omega)];rfl
def Lq (j:Nat) (qs:List Rat):Prop:=qs.length<=10/\∀q∈qs,Bd q.num j/\ Bd (q.den:Int) j
theorem Lq.iQ {j:Nat} {qs:List Rat} (h:Lq j qs) (u:Nat):Bd (Ae qs u).num j/\ Bd ((Ae qs u).den:Int) j∨Ae qs u=0:=by
 by_cases hu:u-1<qs.length
 ·left
  have e:Ae qs u=qs[u-1]:=by unfold Ae;simp[List.getD,hu]
  rw[e];exact h.2 _ (List.getElem_mem hu)
 ·right
  unfold Ae;rw[List.getD,List.getElem?_eq_none (by omega)];rfl
theorem Big.Zp {p:List Term} {qs:List Rat} {D j K J:Nat} (h:∀u,gD p u<=D) (hq:Lq j qs) (hs:iI p<4294967296^K) (hK:1<=K) (hJ:K+D*11*j+D*11*j<=J):Big p (Dy qs) (Dz qs) J:=by
 have h1:∀n:Nat,1<=4294967296^n:=fun n=>Nat.one_le_pow _ _ (by omega)
 obtain⟨M,hM⟩:∃M:Int,M=((4294967296^j:Nat):Int):=⟨_,rfl⟩;have hM1:1<=M:=by have:=h1 j;omega
 have hm:∀u,0<Dy qs u/\ Dy qs u<=M:=fun u=>⟨Cu qs u,by
  rcases hq.iQ u with⟨h2,_⟩|h2
  ·unfold Dy;unfold Bd at h2;omega
  ·unfold Dy;rw[h2];show max 1 (0:Int)<=M;omega⟩
 have hd:∀u,0<Dz qs u/\ Dz qs u<=M:=fun u=>⟨xM qs u,by
  rcases hq.iQ u with⟨_,h2⟩|h2
  ·unfold Dz;unfold Bd at h2;omega
  ·unfold Dz;rw[h2];show(1:Int)<=M;omega⟩
 have hmo:∀u,11<=u->Dy qs u=1:=fun u hu=>by unfold Dy;rw[Jc (by have:=hq.1;omega)];rfl
 have hdo:∀u,11<=u->Dz qs u=1:=fun u hu=>by unfold Dz;rw[Jc (by have:=hq.1;omega)];rfl
 obtain⟨a1,a2⟩:=Cv hM1 hm h hmo 201;obtain⟨b1,b2⟩:=Cv hM1 hd h hdo 201
 have e:M^(D*min 201 11)=((4294967296^(D*11*j):Nat):Int):=by
  rw[hM,<-Int.natCast_pow,<-Nat.pow_mul,show j*(D*min 201 11)=D*11*j by rw[show min 201 11=11 from rfl,Nat.mul_comm]]
 rw[e]at a2 b2;obtain⟨X,hX⟩:∃X:Nat,lC (gD p) (Dy qs) 201=(X:Int):=⟨(lC (gD p) (Dy qs) 201).toNat,by omega⟩;obtain⟨Y,hY⟩:∃Y:Nat,lC (gD p) (Dz qs) 201=(Y:Int):=⟨(lC (gD p) (Dz qs) 201).toNat,by omega⟩;have hX2:X<=4294967296^(D*11*j):=by omega
 have hY2:Y<=4294967296^(D*11*j):=by omega
 have hY0:0<Y:=by omega
 have key:iI p*X*Y<4294967296^J:=by
  have s1:iI p*X<=iI p*4294967296^(D*11*j):=Nat.mul_le_mul_left _ hX2;have s2:iI p*X*Y<=iI p*4294967296^(D*11*j)*4294967296^(D*11*j):=Nat.mul_le_mul s1 hY2
  have s3:iI p*4294967296^(D*11*j)*4294967296^(D*11*j)<4294967296^K*4294967296^(D*11*j)*4294967296^(D*11*j):=
   Nat.mul_lt_mul_of_pos_right (Nat.mul_lt_mul_of_pos_right hs (h1 _)) (h1 _)
  rw[<-Nat.pow_add,<-Nat.pow_add]at s3;exact Nat.lt_of_lt_of_le (Nat.lt_of_le_of_lt s2 s3) (Nat.pow_le_pow_right (by omega) hJ)
 have eJ:(4294967296:Int)^J=((4294967296^J:Nat):Int):=(Int.natCast_pow 4294967296 J).symm;unfold Big;rw[hX,hY,eJ];refine⟨by rw[<-Int.natCast_mul,<-Int.natCast_mul];exact Int.ofNat_lt.2 key,?_⟩;have:Y<4294967296^J:=Nat.lt_of_le_of_lt hY2 (Nat.pow_lt_pow_right (by omega) (by omega));exact Int.ofNat_lt.2 this
theorem Big.of {p:List Term} {qs:List Rat} {D j K J:Nat} (h:Lo D p) (hq:Lq j qs) (hs:iI p<4294967296^K) (hK:1<=K) (hJ:K+D*11*j+D*11*j<=J):Big p (Dy qs) (Dz qs) J:=Big.Zp h.Zp hq hs hK hJ
end Go.Proofs.YtmenbpmciblnlaaGreatDoor
