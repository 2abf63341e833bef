import Derived.Test.YtmenbpmciblnlaaGreatDoorMPlain
import Derived.Laws.AppendOwnNone
import Derived.BigQuiet
import Derived.Test.YtmenbpmciblnlaaGreatDoorGSt
import Derived.Deep.WholeRow
import Derived.Deep.CutRange
set_option maxHeartbeats 0
set_option maxRecDepth 100000
open Go renaming Value->ah7,World->ah6,below_drewN->ah5
open Go.Addr renaming add->ah8,add_lit->ah9
open Go.RowKit renaming Below->ai0
open Go.RowKit.Below renaming refl->ai1
open Go.Value renaming bool->ai4,ownBlock->ai3,slice->ai2
open Go.Value.slice renaming injEq->ai5
open Go.World renaming block_lt_of_cell?->ai6,cell?_of_block->ai7
open List renaming drop_eq_getElem_cons->aj4,drop_eq_nil_of_le->aj3,eq_nil_of_length_eq_zero->ai8,getD->ai9,getElem?_eq_getElem->aj0,getElem?_eq_none->aj5,getElem?_eq_some_iff->aj2,mem_cons->aj1
open Nat renaming add_assoc->aj6,le_refl->aj7,zero_add->aj8,zero_le->aj9
namespace Go.Proofs.YtmenbpmciblnlaaGreatDoor
open Go.RowKit
def fq (z:Int):Prop:= -9223372036854775808<=z/\ z<=9223372036854775807
structure Ml [Ol] (w:ah6) (ao:Option Addr) (n ae:Nat) (ps:List (Int×Int)):Prop where
 len:ps.length=n
 le:n<=ae
 big:n<=8796093022208
 wf:∀p∈ps,fq p.1/\ fq p.2
 nil:ao=none->ae=0
 cells:∀ad,ao=some ad->∀t,t<n->w.cell? (ad.add (t*2))=some (.int .i64 (ps.getD t (0,0)).1)/\ w.cell? (ad.add (t*2+1))=some (.int .i64 (ps.getD t (0,0)).2)
 kp:0<n->∀ad,ao=some ad->Kp w ad.block
theorem Ml.at [Ol] {w:ah6} {ao:Z'} {n ae:Nat} {ps:List (Int×Int)} (h:Ml w ao n ae ps) (hn:0<n):
  ∃b off,ao=some ⟨b,off,none⟩/\ b<w.heap.size/\∀t,t<n->w.cell? ⟨b,off+t*2,none⟩=some (.int .i64 (ps.getD t (0,0)).1)/\ w.cell? ⟨b,off+t*2+1,none⟩=some (.int .i64 (ps.getD t (0,0)).2):=by
 cases hao:ao with
 |none=>have:=h.nil hao;have:=h.le;omega
 |some ad=>
  obtain⟨b,off,s⟩:=ad;have h0:=(h.cells _ hao 0 hn).1;have hs:s=none:=by simpa[ah8]using World.cell?_spot h0
  subst hs;refine⟨b,off,rfl,?_,λt ht=>?_⟩
  ·simpa[ah8]using ai6 w _ h0
  ·have:=h.cells _ hao t ht;rw[ah9,ah9,<-aj6]at this;exact this
theorem Ml.eK [Ol] {w:ah6} {b off n ae:Nat} {ps:List (Int×Int)} (h1:ps.length=n) (h2:n<=ae) (h3:n<=8796093022208) (h4:∀p∈ps,fq p.1/\ fq p.2) (h5:0<n->Kp w b)
  (hc:∀t,t<n->w.cell? ⟨b,off+t*2,none⟩=some (.int .i64 (ps.getD t (0,0)).1)/\ w.cell? ⟨b,off+t*2+1,none⟩=some (.int .i64 (ps.getD t (0,0)).2)):Ml w (some ⟨b,off,none⟩) n ae ps:=
 ⟨h1,h2,h3,h4,(λh=>by cases h),λad had t ht=>by cases had;rw[ah9,ah9,<-aj6];exact hc t ht,λh0 ad had=>by cases had;exact h5 h0⟩
theorem Ml.Hh [Ol] {w:ah6} {ao:Z'} {n ae:Nat} {ps:List (Int×Int)} (h:Ml w ao n ae ps) (h0:0<n) {ad:Addr} (had:ao=some ad):ad.block<w.heap.size:=by
 obtain⟨b,off,e,hb,_⟩:=h.at h0;rw[e]at had;cases had;exact hb
theorem Ml.int [Ol] {w:ah6} {ao:Z'} {n ae:Nat} {ps:List (Int×Int)} (h:Ml w ao n ae ps) (h0:0<n) {ad:Addr} (had:ao=some ad):∃x,w.cell? ad=some (.int .i64 x):=by
 obtain⟨b,off,e,hb,hc⟩:=h.at h0;rw[e]at had;cases had;exact⟨_,(hc 0 h0).1⟩
theorem Ml.zero [Ol] (w:ah6):Ml w none 0 0 []:=
 ⟨rfl,aj7 _,by omega,(λ_ h=>by cases h),(λ_=>rfl),(λ_ h=>by cases h),λ_ _ h=>by cases h⟩
theorem Ml.below [Ol] {w w':ah6} {ao:Z'} {n ae:Nat} {ps:List (Int×Int)} (h:Ml w ao n ae ps) (hb:ai0 w.heap.size w w'):Ml w' ao n ae ps:=
 ⟨h.len,h.le,h.big,h.wf,h.nil,λad had t ht=>by
  have h0:=h.cells ad had t ht;rw[hb.cell (ai6 w _ h0.1),hb.cell (ai6 w _ h0.2)];exact h0,λh0 ad had=>(h.kp h0 ad had).ct (hb.block _ (h.Hh h0 had))⟩
theorem Ml.empty [Ol] {w:ah6} {ao:Z'} {n ae:Nat} {ps:List (Int×Int)} (h:Ml w ao n ae ps) (hn:n=0):ps=[]:=ai8 (by rw[h.len,hn])
theorem Ml.OL {ps:List (Int×Int)} {t:Nat} (h:t<ps.length):ps.getD t (0,0)∈ps:=by
 simp only[ai9,aj0 h,Option.getD_some];exact List.getElem_mem h
theorem RB [Ol] {w:ah6} {b off n ae:Nat} {p:Int×Int} {r:List (Int×Int)} (h:Ml w (some ⟨b,off,none⟩) (n+1) ae (p::r)):Ml w (some ⟨b,off+2,none⟩) n (ae-1) r:=by
 have hle:=h.le;have hlen:=h.len;have hbig:=h.big;simp at hlen;refine Ml.eK hlen (by omega) (by omega) (λq hq=>h.wf q (by simp[hq])) (λ_=>h.kp (by omega) _ rfl) λt ht=>?_
 have:=h.cells _ rfl (t+1) (by omega);rw[ah9,ah9]at this;rw[show off+2+t*2=off+(t+1)*2 by omega,show off+(t+1)*2+1=off+((t+1)*2+1)by omega];simpa using this
theorem NY [Ol] {w:ah6} {ao:Z'} {n ae:Nat} {p:Int×Int} {r:List (Int×Int)} (h:Ml w ao (n+1) ae (p::r)) (hc:ae=1):Ml w ao 0 0 r/\ n=0:=by
 have hle:=h.le;have hlen:=h.len;simp at hlen;have hn:n=0:=by omega
 have hr:r=[]:=ai8 (by omega);subst hr;exact⟨⟨rfl,aj7 _,by omega,(λ_ h=>by cases h),(λ_=>rfl),(λ_ _ t ht=>by omega),λh0=>by omega⟩,hn⟩
def dW:List (Int×Int)->List ah7
 |[]=>[]
 |p::r=> .int .i64 p.1:: .int .i64 p.2::dW r
theorem gD:∀ps:List (Int×Int),(dW ps).length=ps.length*2
 |[]=>rfl
 |p::r=>by simp[dW,gD r];omega
theorem lO:∀xs ys:List (Int×Int),dW (xs++ys)=dW xs++dW ys
 |[],_=>rfl
 |p::r,ys=>by simp[dW,lO r ys]
theorem nw:∀(ps:List (Int×Int)) (t:Nat),t<ps.length->(dW ps)[t*2]? =some (.int .i64 (ps.getD t (0,0)).1)/\ (dW ps)[t*2+1]? =some (.int .i64 (ps.getD t (0,0)).2)
 |[],_,h=>by simp at h
 |p::r,0,_=>by simp[dW]
 |p::r,t+1,h=>by
  have ih:=nw r t (by simpa using h);rw[show(t+1)*2=t*2+1+1 by omega];simpa[dW]using ih
theorem kE:∀(ps:List (Int×Int)),∀v∈dW ps,v.oneCell'=true
 |[],_,h=>by cases h
 |p::r,v,h=>by
  simp only[dW,aj1]at h;rcases h with rfl|rfl|h
  ·rfl
  ·rfl
  ·exact kE r v h
structure Mo (B:Nat) (w:ah6) (ao:Option Addr) (n ae:Nat) (ps:List (Int×Int)):Prop where
 row:w.ownsRow B 72 2 (ai2 ao n ae) n (dW ps)
 big:n<=8796093022208
 wf:∀p∈ps,fq p.1/\ fq p.2
theorem Mo.nil (B:Nat) (w:ah6):Mo B w none 0 0 []:=
 ⟨World.ownsRow_nil _ _ _ _,by omega,λ_ h=>by cases h⟩
theorem Mo.len {B:Nat} {w:ah6} {ao:Z'} {n ae:Nat} {ps:List (Int×Int)} (h:Mo B w ao n ae ps):ps.length=n:=by
 have:=h.row.1;rw[gD]at this;omega
theorem Mo.parts {B:Nat} {w:ah6} {ao:Z'} {n ae:Nat} {ps:List (Int×Int)} (h:Mo B w ao n ae ps):
  (ao=none/\ n=0/\ ae=0/\ ps=[])∨ ∃g cur,ao=some ⟨g,0,none⟩/\ B<=g/\ g<w.heap.size/\ n<=ae/\ w.heap[g]? =some (.cells cur 72 (0,0)):=by
 rcases h.row.2 with⟨hv,h0⟩|⟨g,cap',cur,hv,hg,hh,hn,_⟩
 ·simp only[ai5]at hv;exact .inl ⟨hv.1,hv.2.1,hv.2.2,ai8 (by rw[h.len,h0])⟩
 ·simp only[ai5,true_and]at hv;obtain⟨rfl,rfl⟩:=hv;exact .inr ⟨g,cur,rfl,hg,lt_of_block hh,hn,hh⟩
theorem Mo.ml [Ol] {B:Nat} {w:ah6} {ao:Z'} {n ae:Nat} {ps:List (Int×Int)} (h:Mo B w ao n ae ps):Ml w ao n ae ps:=by
 rcases h.parts with⟨rfl,rfl,rfl,rfl⟩|⟨g,cur,rfl,hg,hlt,hn,hcur⟩
 ·exact Ml.zero w
 ·refine Ml.eK h.len hn h.big h.wf (λ_=>Kp.mk hcur (by decide)) λt ht=>?_
  have h2:=nw ps t (by rw[h.len];exact ht);rw[aj8,h.row.cellAt (t*2) (by omega),h.row.cellAt (t*2+1) (by omega)];exact h2
theorem Mo.below {B:Nat} {w w':ah6} {ao:Z'} {n ae:Nat} {ps:List (Int×Int)} (h:Mo B w ao n ae ps) (hb:ai0 w.heap.size w w'):Mo B w' ao n ae ps:=by
 refine⟨⟨h.row.1,?_⟩,h.big,h.wf⟩;rcases h.row.2 with h2|⟨g,cap',cur,hv,hg,hh,r⟩
 ·exact .inl h2
 ·exact .inr ⟨g,cap',cur,hv,hg,by rw[hb.block g (lt_of_block hh)];exact hh,r⟩
theorem Mo.ct {B:Nat} {w w':ah6} {ao:Z'} {n ae:Nat} {ps:List (Int×Int)} (h:Mo B w ao n ae ps) (hb:∀a,ao=some a->w'.heap[a.block]? =w.heap[a.block]?):Mo B w' ao n ae ps:=by
 refine⟨⟨h.row.1,?_⟩,h.big,h.wf⟩;rcases h.row.2 with h2|⟨g,cap',cur,hv,hg,hh,r⟩
 ·exact .inl h2
 ·simp only[ai5,true_and]at hv;obtain⟨rfl,rfl⟩:=hv;exact .inr ⟨g,ae,cur,rfl,hg,by rw[hb _ rfl];exact hh,r⟩
theorem Mo.mono {B B':Nat} {w:ah6} {ao:Z'} {n ae:Nat} {ps:List (Int×Int)} (h:Mo B w ao n ae ps) (hB:B'<=B):Mo B' w ao n ae ps:=by
 refine⟨⟨h.row.1,?_⟩,h.big,h.wf⟩;rcases h.row.2 with h2|⟨g,cap',cur,hv,hg,r⟩
 ·exact .inl h2
 ·exact .inr ⟨g,cap',cur,hv,by omega,r⟩
def RD [Ol] (w:ah6) (ps:List (Int×Int)) (e:Ending) (w':ah6):Prop:=
 ∃ao n ae,e= .returned (ai2 ao n ae)/\ Ml w' ao n ae ps/\ ai0 w.heap.size w w'
def qH [Ol] (w:ah6) (ps:List (Int×Int)) (er:Int) (e:Ending) (w':ah6):Prop:=
 ∃ao n ae,e= .returned (.tuple #[ai2 ao n ae,.int .i64 er])/\ Ml w' ao n ae ps/\ ai0 w.heap.size w w'
theorem Tryz.mv:(Tryz.prog.info? 72).map (λi=>(i.zero,i.size,i.bytes))=some (some (.agg #[.int .i64 0,.int .i64 0]),2,16):=by kernel_rfl
theorem lC {w:ah6} {base:Nat} {e:TypeId} {v:ah7} {n s:Nat} {xs:List ah7} (h:w.ownsRow base e s v n xs):∃ao ae,v=ai2 ao n ae:=by
 rcases h.2 with⟨hv,h0⟩|⟨g,ae,cur,hv,_⟩
 ·exact⟨none,0,by rw[hv,h0]⟩
 ·exact⟨_,_,hv⟩
theorem sJ {P:Program} (w w0:ah6) {ops:Array Oper} {rest:List Oper} {o:Oper} {a:Act} {Q:Exit->Act->ah6->Prop}
  (hg:o.guard=none) (s x:Operand) (t:TypeId) (hop:o.op=Op.call { callee:=Callee.builtin Builtin.append,args:= #[s,x],argTypes:= #[t,t] })
  (base:Nat) (i:TypeInfo) (z:ah7) (h1:P.underlying t=some (.slice 72)) (h2:P.info? 72=some i) (h3:i.zero=some z) (h4:i.size=2) (h5:i.bytes=16) (h6:z.cells.size=2)
  (ao:Option Addr) (n ae:Nat) (ps:List (Int×Int)) (hs:a.eval s=ai2 ao n ae) (hown:Mo base w ao n ae ps)
  (u v:Int) (hu:fq u) (hv:fq v) (tt:TypeId) (hx:a.eval x=ai2 (some ⟨w.heap.size,0,none⟩) 1 1) (hb:ai0 base w0 w) (hbase:base<=w.heap.size) (b1:n+1<=8796093022208)
  (hK:∀eP cap' w',Mo base w' eP (n+1) cap' (ps++[(u,v)])->ai0 base w0 w'->(w.alloc (.cells #[.int .i64 u,.int .i64 v] tt)).grownBy w' (ai2 ao n ae).ownBlock->wpList P ops Q rest (a.put o.dst (ai2 eP (n+1) cap')) w'):
  wpList P ops Q (o::rest) a (w.alloc (.cells #[.int .i64 u,.int .i64 v] tt)):=by
 have ho1:=hown.row.alloc (.cells #[.int .i64 u,.int .i64 v] tt);refine wpList_append_own _ hg s x t hop base 72 i z 2 16 h1 h2 h3 h4 h5 h6 (by decide) _ n (dW ps) hs ho1 ⟨w.heap.size,0,none⟩ 1 1 (dW [(u,v)]) hx rfl ?_ (kE _) (by unfold maxLen;omega) (by omega) (by simp;omega) ?_
 ·intro j q hj
  match j,hj with
  |0,hj=>
   simp[dW]at hj;subst hj;simp[ah8]
  |1,hj=>
   simp[dW]at hj;subst hj;simp[ah8]
  |j+2,hj=>simp[dW]at hj
 ·intro v' w' hown' hgrow _;obtain⟨eP,cap',rfl⟩:=lC hown';refine hK eP cap' w' ⟨by rw[lO];exact hown',b1,λp hp=>?_⟩ ((hb.alloc hbase _).grown hgrow (by simp;omega) λk hk=>(ho1.lt k hk).1) hgrow;rcases List.mem_append.1 hp with hp|hp
  ·exact hown.wf p hp
  ·simp at hp;subst hp;exact⟨hu,hv⟩
theorem DB [Ol] {P:Program} (w w0:ah6) {ops:Array Oper} {rest:List Oper} {o:Oper} {a:Act} {Q:Exit->Act->ah6->Prop}
  (hg:o.guard=none) (s x:Operand) (t:TypeId) (hop:o.op=Op.call { callee:=Callee.builtin Builtin.append,args:= #[s,x],argTypes:= #[t,t] })
  (base:Nat) (i:TypeInfo) (z:ah7) (h1:P.underlying t=some (.slice 72)) (h2:P.info? 72=some i) (h3:i.zero=some z) (h4:i.size=2) (h5:i.bytes=16) (h6:z.cells.size=2)
  (hs:a.eval s=ai2 (some ⟨w.heap.size,0,none⟩) 0 0) (ao:Option Addr) (n ae:Nat) (ps:List (Int×Int)) (hx:a.eval x=ai2 ao n ae) (hS:Ml w ao n ae ps) (hb:ai0 base w0 w) (hbase:base<=w.heap.size)
  (hK:∀eP cap' w',Mo w.heap.size w' eP n cap' ps->ai0 base w0 w'->ai0 w.heap.size w w'->wpList P ops Q rest (a.put o.dst (ai2 eP n cap')) w'):
  wpList P ops Q (o::rest) a (w.alloc (.cells #[] 72)):=by
 have hown0:(w.alloc (.cells #[] 72)).ownsRow w.heap.size 72 2 (ai2 (some ⟨w.heap.size,0,none⟩) 0 0) 0 []:=
  World.ownsRow_made w #[] 0 (aj7 _) (aj9 _) rfl
 have hba:ai0 base w0 (w.alloc (.cells #[] 72)):=hb.alloc hbase _;have hbb:ai0 w.heap.size w (w.alloc (.cells #[] 72)):=(ai1 _ _).alloc (aj7 _) _;have hSa:=hS.below hbb;cases ao with
 |none=>
  have hn:n=0:=by have:=hS.nil rfl;have:=hS.le;omega
  have hc:ae=0:=hS.nil rfl;subst hn;subst hc;have hxs:ps=[]:=ai8 hS.len;subst hxs;refine wpList_plain hg λK hK'=>?_
  have hrun:=run_append_owned_none (P:=P) (w.alloc (.cells #[] 72)) w.heap.size t o.type 72 i 2 h1 h2 _ 0 [] hown0;unfold Oper.wp;simp[execOp,hop,resolve,invoke,builtin,hs,hx,hrun,Result.andThen];exact hK' _ _ (hK _ _ _ ⟨by simpa[dW]using hown0,aj9 _,λ_ h=>by cases h⟩ hba hbb)
 |some ad=>
  refine wpList_append_own _ hg s x t hop w.heap.size 72 i z 2 16 h1 h2 h3 h4 h5 h6 (by decide) _ 0 [] hs hown0 ad n ae (dW ps) hx (by rw[gD,hS.len]) ?_ (kE ps) (by have:=hS.big;unfold maxLen;omega) (by have:=hS.big;omega) (by simp) ?_
  ·intro j u hj;have hjl:j<n*2:=by have:=(aj2.1 hj).1;rwa[gD,hS.len]at this
   have hc:=hSa.cells ad rfl (j/2) (by omega);have hp:=nw ps (j/2) (by rw[hS.len];omega);rcases(show j=j/2*2∨j=j/2*2+1 by omega)with e|e
   ·rw[<-e]at hc hp;rw[hc.1,<-hp.1,hj]
   ·rw[<-e]at hc hp;rw[hc.2,<-hp.2,hj]
  ·intro v' w' hown' hgrow _;obtain⟨eP,cap',rfl⟩:=lC hown';rw[aj8]at hown' ⊢;refine hK eP cap' w' ⟨by simpa using hown',hS.big,hS.wf⟩ (hba.grown hgrow (by simp;omega) λk hk=>?_) (hbb.grown hgrow (by simp) λk hk=>?_)
   ·simp[ai3]at hk;omega
   ·simp[ai3]at hk;omega
open Lib (hid)
theorem Gt {lo:Int} {p:Int×Int} (h1:lo<p.1) (h2:p.1<=200) (h3:1<=p.2) (h4:p.2<=10000):Cp lo p=true:=by unfold Cp;simp[h1,h2,h3,h4]
theorem lp [Ol] (r:Bool) {ao:Z'} {n ae:Nat} {ps:List (Int×Int)} {w:ah6} (h:Ml w ao n ae ps) (hr:aQ 0 ps=r):
  Calls Tryz.prog 44 #[ai2 ao n ae] w (cr (ai4 r) w):=by
 have hle:=h.le;have hbig:=h.big;have HM:=hid h;clear h;go_enter Tryz.func44,Tryz.ntmps44;go_wp2;go_loopw [3] (λi wr=>∃k:Nat,k<=n/\ i= .int .i64 k/\ Hid (0<=Rq ps k)/\ Hid (aQ (Rq ps k) (ps.drop k)=r)/\ Hid (Ml wr ao n ae ps/\ ai0 w.heap.size w wr)) (λi _=>n-(intOf i).toNat)
 case atStart=>exact⟨0,aj9 _,rfl,Int.le_refl 0,by rw[Hid,List.drop_zero];exact hr,HM.o,ai1 _ _⟩
 case round=>
  clear HM;obtain⟨k,hk,rfl,HL,HR,HS⟩:=hrel;have HM:=hid HS.o.1;by_cases hkn:k<n
  ·obtain⟨b,off,rfl,hb,hc⟩:=HM.o.at (by omega);obtain⟨c1,c2⟩:=hc k hkn;have HR2:=hid ((zI ps k (Rq ps k) (by rw[HM.o.len];exact hkn)).symm.trans HR.o);clear HR;obtain⟨v,hv⟩:∃v,v=(ps.getD k (0,0)).1:=⟨_,rfl⟩;obtain⟨e,he⟩:∃v,v=(ps.getD k (0,0)).2:=⟨_,rfl⟩;rw[<-hv]at c1;rw[<-he]at c2;have HV:=hid hv;have HE:=hid he;have HC:=hid hc;clear hv he hc;by_cases g0:v<1
   ·have f0:decide (v<1)=true:=decide_eq_true (by omega)
    skip
    go_wp2;go_ret;exact⟨gA (by rw[<-HR2.o];unfold Cp;rw[<-HV.o,<-HE.o];have:=HL.o;simp;omega),HS.o.2⟩
   ·have f0:decide (v<1)=false:=decide_eq_false (by omega);by_cases g1:200<v
    ·have f1:decide (200<v)=true:=decide_eq_true (by omega)
     skip
     go_wp2;go_ret;exact⟨gA (by rw[<-HR2.o];unfold Cp;rw[<-HV.o,<-HE.o];have:=HL.o;simp;omega),HS.o.2⟩
    ·have f1:decide (200<v)=false:=decide_eq_false (by omega);by_cases g2:e<1
     ·have f2:decide (e<1)=true:=decide_eq_true (by omega)
      skip
      go_wp2;go_ret;exact⟨gA (by rw[<-HR2.o];unfold Cp;rw[<-HV.o,<-HE.o];have:=HL.o;simp;omega),HS.o.2⟩
     ·have f2:decide (e<1)=false:=decide_eq_false (by omega);by_cases g3:10000<e
      ·have f3:decide (10000<e)=true:=decide_eq_true (by omega)
       skip
       go_wp2;go_ret;exact⟨gA (by rw[<-HR2.o];unfold Cp;rw[<-HV.o,<-HE.o];have:=HL.o;simp;omega),HS.o.2⟩
      ·have f3:decide (10000<e)=false:=decide_eq_false (by omega);by_cases hk0:k=0
       ·subst hk0;simp only[Nat.zero_mul,Nat.add_zero]at c1 c2;go_wp2;go_quiet (fail);go_wp2;go_roundw
        case rel=>exact⟨1,by omega,by go_num,by show 0<=(ps.getD 0 (0,0)).1;rw[<-HV.o];omega,by rw[Hid,<-HR2.o,Gt (show Rq ps 0<_ by rw[<-HV.o];show(0:Int)<v;omega) (by rw[<-HV.o];omega) (by rw[<-HE.o];omega) (by rw[<-HE.o];omega)];rfl,HM.o.below (ah5 (ai1 _ _) _),HS.o.2.trans (ah5 (ai1 _ _) _)⟩
        case measure=>simp[intOf];omega
       ·obtain⟨j,rfl⟩:∃j,k=j+1:=⟨k-1,by omega⟩;obtain⟨c3,_⟩:=HC.o j (by omega);obtain⟨u,hu⟩:∃v,v=(ps.getD j (0,0)).1:=⟨_,rfl⟩;rw[<-hu]at c3;have HU:Hid (Rq ps (j+1)=u):=hu.symm;clear hu;have j1:((j+1:Nat):Int)-1=(j:Int):=by omega
        have j2:j<n:=by omega
        have j3:IntKind.i64.wrap (((j+1:Nat):Int)-1)=(j:Int):=by rw[j1];exact IntWalk.i64_in _ ⟨by omega,by omega⟩
        by_cases g5:v<=u
        ·have f5:decide (v<=u)=true:=decide_eq_true g5;go_wp2;go_quiet (fail);go_wp2;go_ret;exact⟨gA (by rw[<-HR2.o,HU.o];unfold Cp;rw[<-HV.o];simp;omega),HS.o.2.trans (ah5 (ai1 _ _) _)⟩
        ·have f5:decide (v<=u)=false:=decide_eq_false g5;go_wp2;go_quiet (fail);go_wp2;go_roundw
         case rel=>exact⟨j+2,by omega,by go_num,by show 0<=(ps.getD (j+1) (0,0)).1;rw[<-HV.o];omega,by rw[Hid,<-HR2.o,Gt (show Rq ps (j+1)<_ by rw[<-HV.o,HU.o];omega) (by rw[<-HV.o];omega) (by rw[<-HE.o];omega) (by rw[<-HE.o];omega)];rfl,HM.o.below (ah5 (ai1 _ _) _),HS.o.2.trans (ah5 (ai1 _ _) _)⟩
         case measure=>simp[intOf];omega
  ·obtain rfl:k=n:=by omega
   go_wp2;go_ret;have e2:=HR.o;rw[aj3 (by rw[HM.o.len];exact aj7 _)]at e2;exact⟨gA (by rw[<-e2];rfl),HS.o.2⟩
open Lib (hid)
theorem Lf [Ol] {a0 b0:Z'} {la ca lb cb:Nat} {xs ys:List (Int×Int)} {w:ah6} (ha:Ml w a0 la ca xs) (hb:Ml w b0 lb cb ys) (h:xs=ys):
  Calls Tryz.prog 67 #[ai2 a0 la ca,ai2 b0 lb cb] w (cr (ai4 true) w):=by
 subst h;obtain rfl:la=lb:=by rw[<-ha.len,hb.len]
 have hle:=ha.le;have hle2:=hb.le;have hbig:=ha.big;have HA:=hid ha;have HB:=hid hb;clear ha hb;go_enter Tryz.func67,Tryz.ntmps67;go_wp2;go_loopw [5] (λi wr=>∃k:Nat,k<=la/\ i= .int .i64 k/\ Hid (Ml wr a0 la ca xs/\ Ml wr b0 la cb xs/\ ai0 w.heap.size w wr)) (λi _=>la-(intOf i).toNat)
 case atStart=>exact⟨0,aj9 _,rfl,HA.o,HB.o,ai1 _ _⟩
 case round=>
  clear HA HB;obtain⟨k,hk,rfl,HS⟩:=hrel;by_cases hkn:k<la
  ·obtain⟨b,off,rfl,hlt,hc⟩:=HS.o.1.at (by omega);obtain⟨c1,c2⟩:=hc k hkn;clear hc;obtain⟨b2,off2,rfl,hlt2,hc⟩:=HS.o.2.1.at (by omega);obtain⟨c3,c4⟩:=hc k hkn;clear hc;obtain⟨v,hv⟩:∃v,v=(xs.getD k (0,0)).1:=⟨_,rfl⟩;obtain⟨e,he⟩:∃v,v=(xs.getD k (0,0)).2:=⟨_,rfl⟩;rw[<-hv]at c1 c3;rw[<-he]at c2 c4;clear hv he;go_wp2;go_quiet (fail);go_wp2;go_roundw
   case rel=>exact⟨k+1,by omega,by go_num,HS.o.1.below (ah5 (ai1 _ _) _),HS.o.2.1.below (ah5 (ai1 _ _) _),HS.o.2.2.trans (ah5 (ai1 _ _) _)⟩
   case measure=>simp[intOf];omega
  ·obtain rfl:k=la:=by omega
   go_wp2;go_ret;exact⟨rfl,HS.o.2.2⟩
theorem Sc {xs ys:List (Int×Int)} {k:Nat} (h1:k<xs.length) (h2:k<ys.length) (h:xs.drop k≠ys.drop k) (he:xs.getD k (0,0)=ys.getD k (0,0)):xs.drop (k+1)≠ys.drop (k+1):=by
 intro hd;refine h ?_;rw[aj4 h1,aj4 h2,hd]
 congr 1
 simpa[ai9,aj0 h1,aj0 h2]using he
theorem OM [Ol] {a0 b0:Z'} {la ca lb cb:Nat} {xs ys:List (Int×Int)} {w:ah6} (ha:Ml w a0 la ca xs) (hb:Ml w b0 lb cb ys) (h:xs≠ys):
  Calls Tryz.prog 67 #[ai2 a0 la ca,ai2 b0 lb cb] w (cr (ai4 false) w):=by
 by_cases hl:la=lb
 ·subst hl;have hle:=ha.le;have hle2:=hb.le;have hbig:=ha.big;have HN:=hid h;have HA:=hid ha;have HB:=hid hb;clear ha hb h;go_enter Tryz.func67,Tryz.ntmps67;go_wp2;go_loopw [5] (λi wr=>∃k:Nat,k<=la/\ i= .int .i64 k/\ Hid (xs.drop k≠ys.drop k)/\ Hid (Ml wr a0 la ca xs/\ Ml wr b0 la cb ys/\ ai0 w.heap.size w wr)) (λi _=>la-(intOf i).toNat)
  case atStart=>exact⟨0,aj9 _,rfl,by rw[Hid];simpa using HN.o,HA.o,HB.o,ai1 _ _⟩
  case round=>
   clear HA HB HN;obtain⟨k,hk,rfl,HD,HS⟩:=hrel
   have hkn:k<la:=by
    rcases Nat.lt_or_ge k la with h|h
    ·exact h
    ·exact absurd (by rw[aj3 (by rw[HS.o.1.len];exact h),aj3 (by rw[HS.o.2.1.len];exact h)]) HD.o
   obtain⟨b,off,rfl,hlt,hc⟩:=HS.o.1.at (by omega);obtain⟨c1,c2⟩:=hc k hkn;clear hc;obtain⟨b2,off2,rfl,hlt2,hc⟩:=HS.o.2.1.at (by omega);obtain⟨c3,c4⟩:=hc k hkn;clear hc;have HD2:=hid (Sc (by rw[HS.o.1.len];exact hkn) (by rw[HS.o.2.1.len];exact hkn) HD.o);obtain⟨v,hv⟩:∃v,v=(xs.getD k (0,0)).1:=⟨_,rfl⟩;obtain⟨e,he⟩:∃v,v=(xs.getD k (0,0)).2:=⟨_,rfl⟩;obtain⟨v2,hv2⟩:∃v,v=(ys.getD k (0,0)).1:=⟨_,rfl⟩;obtain⟨e2,he2⟩:∃v,v=(ys.getD k (0,0)).2:=⟨_,rfl⟩;rw[<-hv]at c1;rw[<-he]at c2;rw[<-hv2]at c3;rw[<-he2]at c4;have HQ:Hid (v=v2->e=e2->xs.getD k (0,0)=ys.getD k (0,0)):=λh1 h2=>Prod.ext (by rw[<-hv,<-hv2,h1]) (by rw[<-he,<-he2,h2])
   clear hv he hv2 he2;by_cases g1:v=v2
   ·subst g1;by_cases g2:e=e2
    ·subst g2;go_wp2;go_quiet (fail);go_wp2;go_roundw
     case rel=>exact⟨k+1,by omega,by go_num,HD2.o (HQ.o (by simp) (by simp)),HS.o.1.below (ah5 (ai1 _ _) _),HS.o.2.1.below (ah5 (ai1 _ _) _),HS.o.2.2.trans (ah5 (ai1 _ _) _)⟩
     case measure=>simp[intOf];omega
    ·clear HD2 HQ;have f1:(e==e2)=false:=by simpa using g2
     clear g2;go_wp2;go_quiet (fail);go_wp2;go_ret;exact⟨rfl,HS.o.2.2.trans (ah5 (ai1 _ _) _)⟩
   ·clear HD2 HQ;have f1:(v==v2)=false:=by simpa using g1
    clear g1;go_wp2;go_quiet (fail);go_wp2;go_ret;exact⟨rfl,HS.o.2.2.trans (ah5 (ai1 _ _) _)⟩
 ·have f1:((la:Int)==(lb:Int))=false:=by simp;omega
  have f2:((la:Int) !=(lb:Int))=true:=by simp;omega
  go_enter Tryz.func67,Tryz.ntmps67;go_wp2;go_ret;exact⟨rfl,ai1 _ _⟩
theorem Jq [Ol] (r:Bool) {a0 b0:Z'} {la ca lb cb:Nat} {xs ys:List (Int×Int)} {w:ah6} (ha:Ml w a0 la ca xs) (hb:Ml w b0 lb cb ys) (h:decide (xs=ys)=r):
  Calls Tryz.prog 67 #[ai2 a0 la ca,ai2 b0 lb cb] w (cr (ai4 r) w):=by
 subst h;by_cases h:xs=ys
 ·rw[decide_eq_true h];exact Lf ha hb h
 ·rw[decide_eq_false h];exact OM ha hb h
def GU (ao:Z') (n:Nat) (c:Nat):Prop:=0<n/\∃a,ao=some a/\ a.block=c
theorem rF (a:Addr) (k:Nat):(a.add k).block=a.block:=by unfold ah8;split<;>rfl
theorem VD [Ol] {ao:Z'} {n ae:Nat} {ps:List (Int×Int)} (w w':ah6) (hh:∀c,GU ao n c->w'.heap[c]? =w.heap[c]?) (h:Ml w ao n ae ps):Ml w' ao n ae ps:=
 ⟨h.len,h.le,h.big,h.wf,h.nil,λad had t ht=>
  ⟨(ai7 (a:=ad.add (t*2)) (by rw[rF];exact hh _ ⟨by omega,ad,had,rfl⟩)).trans (h.cells ad had t ht).1,
   (ai7 (a:=ad.add (t*2+1)) (by rw[rF];exact hh _ ⟨by omega,ad,had,rfl⟩)).trans (h.cells ad had t ht).2⟩,λh0 ad had=>(h.kp h0 ad had).ct (hh _ ⟨h0,ad,had,rfl⟩)⟩
theorem Zk [Ol] {ao:Z'} {n ae:Nat} {ps:List (Int×Int)} (w:ah6) (h:Ml w ao n ae ps) (c:Nat) (hc:GU ao n c):c<w.heap.size:=by
 obtain⟨h0,a,ha,rfl⟩:=hc;have h1:=(h.cells a ha 0 h0).1;have:=ai6 w _ h1;rwa[rF]at this
def En.ml [Ol] (ao:Z') (n ae:Nat) (ps:List (Int×Int)):En:=⟨λw=>Ml w ao n ae ps,GU ao n,VD,λw h=>Zk w h⟩
theorem iD.ml [Ol] {w:ah6} {ao:Z'} {n ae:Nat} {ps:List (Int×Int)} {r:List En} (h:iD w (.ml ao n ae ps::r)):Ml w ao n ae ps:=h.1
def jO (f:Int->Int):List ah7:=(List.range 201).map λ(i:Nat)=>Value.int .i64 (f (i:Int))
def Wm (f:Int->Int) (v x:Int) (u:Int):Int:=if u=v then x else f u
theorem fZ (f:Int->Int):(jO f).length=201:=by simp[jO]
theorem pH (f:Int->Int) (i:Nat) (h:i<201):(jO f)[i]? =some (.int .i64 (f (i:Int))):=by simp[jO,h]
theorem OO (f:Int->Int):∀v∈jO f,v.oneCell'=true:=by
 intro v hv;obtain⟨i,_,rfl⟩:=List.mem_map.1 hv;rfl
theorem xC {f g:Int->Int} (h:∀v,0<=v->v<=200->f v=g v):jO f=jO g:=by
 unfold jO;refine List.map_congr_left λi hi=>?_
 have:=List.mem_range.1 hi;rw[h i (by omega) (by omega)]
theorem OP (f:Int->Int) (v:Nat) (h:v<201) (x:Int):(jO f).set v (.int .i64 x)=jO (Wm f v x):=by
 refine List.ext_getElem? λj=>?_
 rw[List.getElem?_set];by_cases hj:v=j
 ·subst hj;rw[if_pos rfl,if_pos (by rw[fZ];exact h),pH _ _ h];simp[Wm]
 ·rw[if_neg hj];by_cases h2:j<201
  ·rw[pH _ _ h2,pH _ _ h2];unfold Wm;rw[if_neg (by omega)]
  ·rw[aj5 (by rw[fZ];omega),aj5 (by rw[fZ];omega)]
theorem Tryz.Ec:(Tryz.prog.info? 143).map (λi=>(i.zero,i.size))=some (some (.agg (jO λ_=>0).toArray),201):=by kernel_rfl
theorem sq:∀w,(zeroValue 143).run Tryz.prog w= .ok (.agg (jO λ_=>0).toArray) w:=(zero_of_info Tryz.Ec).1
theorem xD:(Tryz.prog.info? 143).map (·.size)=some 201:=(zero_of_info Tryz.Ec).2
def gm (w:ah6) (b:Nat) (f:Int->Int):Prop:=w.heap[b]? =some (.cells (jO f).toArray 143 (0,0))
theorem gm.lt {w:ah6} {b:Nat} {f:Int->Int} (h:gm w b f):b<w.heap.size:=lt_of_block h
theorem gm.cell {w:ah6} {b:Nat} {f:Int->Int} (h:gm w b f) (i:Nat) (hi:i<201):w.cell? ⟨b,i,none⟩=some (.int .i64 (f i)):=by
 unfold gm at h;rw[<-pH f i hi];simp[World.cell?,h]
theorem gm.fz {w:ah6} {b:Nat} {f:Int->Int} (h:gm w b f) (i:Nat):w.frozen? ⟨b,i,none⟩=false:=by
 unfold gm at h;simp[World.frozen?,h]
theorem gm.ct {w w':ah6} {b:Nat} {f:Int->Int} (h:gm w b f) (e:w'.heap[b]? =w.heap[b]?):gm w' b f:=e.trans h
theorem gm.below {w w':ah6} {b:Nat} {f:Int->Int} (h:gm w b f) (hb:ai0 w.heap.size w w'):gm w' b f:=h.ct (hb.block b h.lt)
theorem gm.cS (w:ah6) (f:Int->Int):gm (w.alloc (.cells (jO f).toArray 143)) w.heap.size f:=by
 show(w.heap.push _)[w.heap.size]? =_;rw[Array.getElem?_push_size]
theorem gm.ZZ (w:ah6) (f:Int->Int) (b:Nat) (hb:b=w.heap.size):gm (w.alloc (.cells (jO f).toArray 143)) b f:=by subst hb;exact gm.cS w f
theorem gm.set {w:ah6} {b:Nat} {f:Int->Int} (h:gm w b f) (v:Nat) (hv:v<201) (x:Int):gm (w.setCell ⟨b,v,none⟩ (.int .i64 x)) b (Wm f v x):=by
 unfold gm at h ⊢;rw[<-OP f v hv x];simp[World.setCell,Array.getElem?_modify,h]
theorem gm.dy {w:ah6} {b c:Nat} {f:Int->Int} (h:gm w b f) (hc:c≠b) (o:Nat) (u:ah7):gm (w.setCell ⟨c,o,none⟩ u) b f:=
 h.ct (Below.heap_setCell _ _ _ _ (λe=>hc e.symm))
theorem gm.congr {w:ah6} {b:Nat} {f g:Int->Int} (h:gm w b f) (e:∀v,0<=v->v<=200->f v=g v):gm w b g:=by
 unfold gm at h ⊢;rw[<-xC e];exact h
theorem gm.put {w:ah6} {b:Nat} {f:Int->Int} (h:gm w b f) (g:Int->Int):gm (w.setRow b (jO g).toArray) b g:=setRow_heap w b _ _ _ _ h
theorem gm.M7 {w:ah6} {b c:Nat} {f:Int->Int} (h:gm w b f) (hc:b≠c) (cs:Array ah7):gm (w.setRow c cs) b f:=h.ct (setRow_other w c b cs hc)
theorem below_setRow {B:Nat} {a w:ah6} (h:ai0 B a w) {g:Nat} (hg:B<=g) (cs:Array ah7):ai0 B a (w.setRow g cs):=
 h.trans ⟨rfl,rfl,rfl,by simp[World.setRow],λk hk=>setRow_other w g k cs (by omega)⟩
theorem lu {w:ah6} {ops:Array Oper} {rest:List Oper} {op:Oper} {a:Act} {Q:Exit->Act->ah6->Prop} (hgd:op.guard=none) (x:Operand) (ho:op.op= .load 143 x)
  (b:Nat) (hx:a.eval x= .pointer (some ⟨b,0,none⟩)) (f:Int->Int) (h:gm w b f)
  (hK:wpList Tryz.prog ops Q rest (a.put op.dst (.agg (jO f).toArray)) w):wpList Tryz.prog ops Q (op::rest) a w:=
 wpList_load_mid hgd 143 x ho b 0 hx (jO f) _ (λj v hv=>by
   rw[aj8];have hj:j<201:=by have:=(aj2.1 hv).1;rwa[fZ]at this
   rw[h.cell j hj,<-pH f j hj,hv])
  Tryz.underlying143 rfl (by rw[xD,fZ]) hK
theorem fh {w:ah6} {ops:Array Oper} {rest:List Oper} {op:Oper} {a:Act} {Q:Exit->Act->ah6->Prop} (hgd:op.guard=none) (x y:Operand) (ho:op.op= .store 143 x y)
  (b:Nat) (hx:a.eval x= .pointer (some ⟨b,0,none⟩)) (f g:Int->Int) (hy:a.eval y= .agg (jO g).toArray) (h:gm w b f)
  (hK:wpList Tryz.prog ops Q rest (a.put op.dst undef) (w.setRow b (jO g).toArray)):wpList Tryz.prog ops Q (op::rest) a w:=by
 refine wpList_plain hgd λK hK'=>?_
 have hr:=run_storeVar_row (P:=Tryz.prog) w b _ 143 _ (jO g).toArray h (by rw[xD];simp[fZ]) (by simp[fZ]) (all_oneCell_toArray (OO g));unfold Oper.wp execOp;simp only[ho,hx,hy,Instr.storeAt,Instr.sureAddr,Sem.run_bind,Sem.run_pure,Result.andThen_ok,hr];exact hK' _ _ hK
theorem uM {fn:Func} {p:Tmp} (h:fn.results= #[.cell p 143]) (tmps:Array ah7) {w:ah6} {b:Nat} {f:Int->Int} (hr:gm w b f) (hp:tmps.getD p undef= .pointer (some ⟨b,0,none⟩)):(results fn tmps).run Tryz.prog w= .ok (.agg (jO f).toArray) w:=
 results_cell_row h tmps w b _ _ (0,0) _ hp hr Tryz.underlying143 rfl (by rw[xD];simp[fZ])
def VE (w:ah6) (f:Int->Int) (e:Ending) (w':ah6):Prop:=e= .returned (.agg (jO f).toArray)/\ ai0 w.heap.size w w'
open Lib (hid)
theorem VF {ps:List (Int×Int)} (h:aQ 0 ps=false) (v:Int):qF ps v=0:=by unfold qF;rw[NS h];rfl
theorem rT {ps:List (Int×Int)} (h:aQ 0 ps=true):qF ps=aI ps:=by funext v;unfold qF;rw[qg h]
theorem Sd [Ol] {ao:Z'} {n ae:Nat} {ps:List (Int×Int)} {w:ah6} (h:Ml w ao n ae ps) (hr:aQ 0 ps=false):
  Calls Tryz.prog 96 #[ai2 ao n ae] w (VE w (qF ps)):=by
 have zr:=sq;have HM:=hid h;have HR:=hid hr;clear h hr;go_enter Tryz.func96,Tryz.ntmps96;go_upto_region 2 with(fail)
 refine aj (λW hW=>?_);have HB:Hid (ai0 w.heap.size w W):=by rw[hW];exact Below.ar (af _ _) (af _ _)
 have H2:Hid (gm W w.heap.size (λ_=>0)):=by rw[hW];exact(gm.cS w _).below (af _ _)
 have H3:Hid (gm W (w.heap.size+1) (λ_=>0)):=by rw[hW];exact gm.ZZ (w.alloc _) _ _ (by simp)
 clear hW zr;go_wp2_with fail;refine(lp false (HM.o.below HB.o) HR.o).mono ?_;rintro e w1 ⟨rfl,hB⟩;have HB1:=hid (Below.ar HB.o hB);have Zl:=hid (H2.o.below hB);have H31:=hid (H3.o.below hB);clear hB HB H2 H3 HM;go_wp2_with (first|(refine lu rfl (.tmp 3) rfl _ rfl _ H31.o ?_)|(refine fh rfl (.tmp 2) (.tmp 8) rfl _ rfl _ _ rfl Zl.o ?_));refine bodyPost_ret (v:= .agg (jO λ_=>0).toArray) (uM rfl _ (Zl.o.put (λ_=>0)) rfl) rfl ⟨?_,below_setRow HB1.o (aj7 _) _⟩;rw[xC (λv _ _=>VF HR.o v)]
theorem Lg {ps:List (Int×Int)} (hr:aQ 0 ps=true) {k:Nat} (h:k<ps.length) (u:Int):aI (ps.take (k+1)) u=Wm (aI (ps.take k)) (ps.getD k (0,0)).1 (ps.getD k (0,0)).2 u:=by
 have hlow:∀q∈ps.take k,q.1<(ps.getD k (0,0)).1:=by
  have H:∀(l:List (Int×Int)) (lo:Int) (k:Nat),aQ lo l=true->k<l.length->(lo<(l.getD k (0,0)).1)/\∀q∈l.take k,q.1<(l.getD k (0,0)).1:=by
   intro l;induction l with
   |nil=>intro lo k _ hk;simp at hk
   |cons p r ih=>
    intro lo k hm hk;unfold aQ Cp at hm;simp only[Bool.and_eq_true,decide_eq_true_eq]at hm;obtain⟨⟨h1,h2,h3,h4⟩,h5⟩:=hm;cases k with
    |zero=>simpa using h1
    |succ k=>
     have:=ih p.1 k h5 (by simpa using hk);refine⟨by have:=this.1;simp at this ⊢;omega,λq hq=>?_⟩;simp only[List.take_succ_cons,aj1]at hq;rcases hq with rfl|hq
     ·simpa using this.1
     ·simpa using this.2 q hq
  exact(H ps 0 k hr h).2
 rw[List.take_succ_eq_append_getElem h];have e:ps[k]=((ps.getD k (0,0)).1,(ps.getD k (0,0)).2):=by simp[ai9,aj0 h]
 rw[e,tP hlow];rfl
theorem OQ [Ol] {ao:Z'} {n ae:Nat} {ps:List (Int×Int)} {w:ah6} (h:Ml w ao n ae ps) (hr:aQ 0 ps=true):
  Calls Tryz.prog 96 #[ai2 ao n ae] w (VE w (aI ps)):=by
 have zr:=sq;have hle:=h.le;have hbig:=h.big;have HM:=hid h;have HR:=hid hr;clear h hr;go_enter Tryz.func96,Tryz.ntmps96;go_upto_region 2 with(fail)
 refine aj (λW hW=>?_);have HB:Hid (ai0 w.heap.size w W):=by rw[hW];exact Below.ar (af _ _) (af _ _)
 have H2:Hid (gm W w.heap.size (λ_=>0)):=by rw[hW];exact(gm.cS w _).below (af _ _)
 have H3:Hid (gm W (w.heap.size+1) (λ_=>0)):=by rw[hW];exact gm.ZZ (w.alloc _) _ _ (by simp)
 clear hW zr;go_wp2_with fail;refine(lp true (HM.o.below HB.o) HR.o).mono ?_;rintro e w1 ⟨rfl,hB⟩;have HB1:=hid (Below.ar HB.o hB);have Zl:=hid (H2.o.below hB);have H31:=hid (H3.o.below hB);clear hB HB H2 H3;go_wp2_with fail;go_loopw [4] (λi wr=>∃k:Nat,k<=n/\ i= .int .i64 k/\ Hid (gm wr w.heap.size (λ_=>0)/\ gm wr (w.heap.size+1) (aI (ps.take k))/\ ai0 w.heap.size w wr)) (λi _=>n-(intOf i).toNat)
 case atStart=>exact⟨0,aj9 _,rfl,Zl.o,by rw[List.take_zero];exact H31.o,HB1.o⟩
 case round=>
  clear Zl H31 HB1;obtain⟨k,hk,rfl,HS⟩:=hrel;by_cases hkn:k<n
  ·obtain⟨b,off,rfl,hb,_⟩:=HM.o.at (by omega);have hl:=HM.o.len;have hmem:=nC HR.o (Int.le_refl 0) _ (Ml.OL (by rw[hl];exact hkn));have HE:=hid (Lg HR.o (by rw[hl];exact hkn))
   have hc:∀V:ah6,ai0 w.heap.size w V->V.cell? ⟨b,off+k*2,none⟩=some (.int .i64 (ps.getD k (0,0)).1)/\ V.cell? ⟨b,off+k*2+1,none⟩=some (.int .i64 (ps.getD k (0,0)).2):=by
    intro V hV;have h1:=(HM.o.below hV).cells _ rfl k hkn;rw[ah9,ah9,<-aj6]at h1;exact h1
   obtain⟨p,hp⟩:∃p,p=ps.getD k (0,0):=⟨_,rfl⟩;rw[<-hp]at hc HE hmem;clear hp hl;obtain⟨u,x⟩:=p;obtain⟨v,rfl⟩:∃v:Nat,u=(v:Int):=⟨u.toNat,by have:=hmem.1.1;simp at this;omega⟩;have hv:v<201:=by have:=hmem.1.2;simp at this;omega
   have hv2:(v:Int)<201:=by omega
   have hv3:(0:Int)<=v:=by omega
   have HC:=hid hc;clear hmem hc;have c3:=HS.o.2.1.cell v hv;have c4:=HS.o.2.1.fz v;obtain⟨old,ho⟩:∃o,o=aI (ps.take k) v:=⟨_,rfl⟩;rw[<-ho]at c3;clear ho;go_upto_region 7 with(fail)
   refine wp_region_held_drew (S:=λw'=>w'.cell? ⟨b,off+k*2,none⟩=some (.int .i64 v)/\ w'.cell? ⟨b,off+k*2+1,none⟩=some (.int .i64 x)) (by kernel_rfl) (HC.o _ HS.o.2.2.drew) (λhH=>?_);refine aT 0 hH ?_;try simp only[ax]
   refine aT 1 hH ?_;try simp only[ax]
   refine aT 2 hH ?_;try simp only[ax]
   refine aT 3 hH ?_;try simp only[ax]
   refine aT 4 hH ?_;try simp only[ax]
   refine aT 5 hH ?_;try simp only[ax]
   refine aT 6 hH ?_;try simp only[ax]
   refine aT 7 hH ?_;try simp only[ax]
   refine aT 8 hH ?_;try simp only[ax]
   refine aT 9 hH ?_;try simp only[ax]
   refine aT 10 hH ?_;try simp only[ax]
   refine ag 11 rfl (by kernel_rfl) (λK hK=>?_);go_simp;refine hK.o _ _ (HC.o _ (HS.o.2.2.drew.setCell (by simp) _)) (λh2=>?_);clear hK K hH h2
   try simp only[ax]
   refine wpAnyH_done (by kernel_rfl) ?_ _
   go_wp2_with fail;go_roundw
   case rel=>exact⟨k+1,by omega,by go_num,HS.o.1.dy (by omega) _ _,(HS.o.2.1.set v hv x).congr (λz _ _=>(HE.o z).symm),HS.o.2.2.drew.setCell (by simp) _⟩
   case measure=>simp[intOf];omega
  ·obtain rfl:k=n:=by omega
   have H3:Hid (gm wr (w.heap.size+1) (aI ps)):=by have:=HS.o.2.1;rwa[List.take_of_length_le (by rw[HM.o.len];exact aj7 _)]at this
   go_wp2_with (first|(refine lu rfl (.tmp 3) rfl _ rfl _ H3.o ?_)|(refine fh rfl (.tmp 2) (.tmp 26) rfl _ rfl _ _ rfl HS.o.1 ?_));exact bodyPost_ret (v:= .agg (jO (aI ps)).toArray) (uM rfl _ (HS.o.1.put (aI ps)) rfl) rfl ⟨rfl,below_setRow HS.o.2.2 (aj7 _) _⟩
theorem sr [Ol] {ao:Z'} {n ae:Nat} {ps:List (Int×Int)} {w:ah6} (h:Ml w ao n ae ps):
  Calls Tryz.prog 96 #[ai2 ao n ae] w (VE w (qF ps)):=by
 cases hr:aQ 0 ps with
 |true=>rw[rT hr];exact OQ h hr
 |false=>exact Sd h hr
open Lib (hid)
theorem uy {P:Program} {f:FuncId} {args:Array ah7} {w:ah6} {Q:Ending->ah6->Prop} (h:∀W,W=w->Calls P f args W Q):Calls P f args w Q:=h w rfl
theorem gm.grown {B:Nat} {w w':ah6} {o:Obj} {ao:Z'} {n ae:Nat} {ps:List (Int×Int)} {b:Nat} {f:Int->Int} (h:gm w b f) (hM:Mo B w ao n ae ps) (hG:(w.alloc o).grownBy w' (ai2 ao n ae).ownBlock):gm w' b f:=by
 refine(h.below (af w o)).ct (hG.block b (by have:=h.lt;simp;omega) λe=>?_);rcases hM.parts with⟨rfl,_⟩|⟨g,cur,rfl,_,_,_,hh⟩
 ·cases e
 ·have e':b=g:=Option.some.inj e;subst e';unfold gm at h;rw[h]at hh;cases hh
theorem Lh (g:Int->Int) (k:Nat):rz g (k+1)=rz g k++if 0<g ((k:Int)+1)then[((k:Int)+1,g ((k:Int)+1))]else[]:=rfl
theorem Sg [Ol] (g:Int->Int) (hg:∀v,1<=v->v<=200->fq (g v)) (w:ah6):
  Calls Tryz.prog 195 #[.agg (jO g).toArray] w (RD w (Tv g)):=by
 obtain⟨i0,hi,hz0,hz1,hz2⟩:=info_parts Tryz.mv;have HG:=hid hg;obtain⟨qs,WS⟩:∃qs,qs=Tv g:=⟨_,rfl⟩;have HQ:Hid (qs=rz g 200):=WS.trans (by unfold Tv;rw[show lim=200 from rfl]);rw[<-WS];clear hg WS;go_enter Tryz.func195,Tryz.ntmps195;go_upto_region 1 with(fail)
 refine aj (λW hW=>?_);have HB:Hid (ai0 w.heap.size w W):=by rw[hW];exact af _ _
 have H1:Hid (gm W w.heap.size g):=by rw[hW];exact gm.cS w _
 clear hW;go_wp2;go_loopw [3,4] (λo i wr=>∃(k m ae:Nat) (ao:Option Addr),k<=200/\ i= .int .i64 ((k+1:Nat):Int)/\ o=ai2 ao m ae/\ Hid (Mo w.heap.size wr ao m ae (rz g k))/\ Hid (gm wr w.heap.size g/\ ai0 w.heap.size w wr)) (λ_ i _=>201-(intOf i).toNat)
 case atStart=>exact⟨0,0,0,none,by omega,rfl,rfl,Mo.nil _ _,H1.o,HB.o⟩
 case round=>
  clear H1 HB;obtain⟨k,m,ae,ao,hk,rfl,rfl,HM,HS⟩:=hrel;by_cases hk2:k<200
  ·have c1:=HS.o.1.cell (k+1) (by omega);have hml:=HM.o.len;have LI:=Ds g k;have IA:m<=200:=by omega
   have HU:=hid (Lh g k);have ek:((k:Int)+1)=((k+1:Nat):Int):=by omega
   rw[ek]at HU;have HI:=hid (HG.o ((k+1:Nat):Int) (by omega) (by omega));obtain⟨z,hz⟩:∃z,z=g ((k+1:Nat):Int):=⟨_,rfl⟩;rw[<-hz]at c1 HU HI;clear hml LI ek hz;obtain⟨j,hj⟩:∃j,j=k+1:=⟨_,rfl⟩;rw[<-hj]at c1 HU ⊢;have HJ:=hid hj;have hj1:1<=j:=by omega
   have hj2:j<=200:=by omega
   clear hj hk hk2;by_cases hp:0<z
   ·have f1:decide (0<z)=true:=decide_eq_true hp;have HV:Hid (fq (j:Int)):=by unfold fq;show _/\ _;omega
    have HP:=hid hp;clear hp;go_wp2_with (at_builtin;refine sJ wr w rfl (.tmp 13) (.tmp 19) 68 rfl w.heap.size i0 (.agg #[.int .i64 0,.int .i64 0]) Tryz.underlying68 hi hz0 hz1 hz2 rfl ao m ae (rz g k) rfl HM.o (j:Int) z HV.o HI.o _ rfl HS.o.2 HS.o.2.size (by omega) ?_;intro Gu cap2 w2 hM2 hB2 hG2;have HM2:=hid hM2;have HB2:=hid hB2;have HR2:=hid (HS.o.1.grown HM.o hG2);clear hM2 hB2 hG2 c1);go_roundw
    case rel=>exact⟨k+1,m+1,cap2,Gu,by have:=HJ.o;omega,by rw[HJ.o];go_num,rfl,by rw[Hid,<-HJ.o,HU.o,if_pos HP.o];exact HM2.o,HR2.o,HB2.o⟩
    case measure=>simp[intOf];omega
   ·have f1:decide (0<z)=false:=decide_eq_false hp;have HP:=hid hp;clear hp;go_wp2;go_roundw
    case rel=>exact⟨k+1,m,ae,ao,by have:=HJ.o;omega,by rw[HJ.o];go_num,rfl,by rw[Hid,<-HJ.o,HU.o,if_neg HP.o,List.append_nil];exact HM.o,HS.o⟩
    case measure=>simp[intOf];omega
  ·obtain rfl:k=200:=by omega
   go_wp2;go_ret;exact⟨_,_,_,rfl,by rw[HQ.o];exact HM.o.ml,HS.o.2⟩
open Lib (hid)
theorem OS {f:Int->Int->Int} (f0:f 0 0=0) {er:Int} {xs ys:List (Int×Int)} (hx:aQ 0 xs=true) (hy:aQ 0 ys=true) {G:Int->Int} (h:∀v,1<=v->v<=200->0<=f (aI xs v) (aI ys v)/\ f (aI xs v) (aI ys v)<=10000) (hG:∀v,1<=v->v<=200->G v=f (aI xs v) (aI ys v)):
  gq f er xs ys=(Tv G,0):=by
 have hm:aQ 0 (jt f xs ys)=true:=(wC f0 hx hy).2 λv=>by
  by_cases hv:1<=v/\ v<=200
  ·exact h v hv.1 hv.2
  ·rw[lJ hx (by omega),lJ hy (by omega),f0];omega
 unfold gq;rw[if_pos ⟨hx,hy⟩,if_pos hm];have e:Tv G=jt f xs ys:=Va (oN f0 hx hy) (λv h1 h2=>by rw[mH f0 hx hy,hG v h1 h2]) (λv h1 h2=>by rw[hG v h1 h2];exact(h v h1 h2).1);rw[e]
theorem Li {f:Int->Int->Int} (f0:f 0 0=0) {er:Int} {xs ys:List (Int×Int)} (hx:aQ 0 xs=true) (hy:aQ 0 ys=true) (v:Int) (h:¬(0<=f (aI xs v) (aI ys v)/\ f (aI xs v) (aI ys v)<=10000)):
  gq f er xs ys=([],er):=by
 unfold gq;rw[if_pos ⟨hx,hy⟩,if_neg (λhm=>h ((wC f0 hx hy).1 hm v))]
theorem Ed [Ol] {a0 b0:Z'} {la ca lc cc:Nat} {xs:List (Int×Int)} {w:ah6} (ha:Ml w a0 la ca xs) (hx:aQ 0 xs=false):
  Calls Tryz.prog 145 #[ai2 a0 la ca,ai2 b0 lc cc] w (qH w [] 2):=by
 go_enter Tryz.func145,Tryz.ntmps145;go_wp2_with fail;refine(lp false ha hx).mono ?_;rintro e w1 ⟨rfl,hB⟩;go_wp2_with fail;go_ret2;exact⟨none,0,0,rfl,Ml.zero _,hB⟩
theorem Ee [Ol] {a0 b0:Z'} {la ca lc cc:Nat} {xs ys:List (Int×Int)} {w:ah6} (ha:Ml w a0 la ca xs) (hb:Ml w b0 lc cc ys) (hx:aQ 0 xs=true) (hy:aQ 0 ys=false):
  Calls Tryz.prog 145 #[ai2 a0 la ca,ai2 b0 lc cc] w (qH w [] 2):=by
 have rV:=hid hb;clear hb;go_enter Tryz.func145,Tryz.ntmps145;go_wp2_with fail;refine(lp true ha hx).mono ?_;rintro e w1 ⟨rfl,hB⟩;have HB:=hid hB;have HY:=hid (rV.o.below hB);clear hB ha hx rV;go_wp2_with fail;refine(lp false HY.o hy).mono ?_;rintro e w2 ⟨rfl,hB⟩;go_wp2_with fail;go_ret2;exact⟨none,0,0,rfl,Ml.zero _,Below.ar HB.o hB⟩
theorem Ef [Ol] {a0 b0:Z'} {la ca lc cc:Nat} {xs ys:List (Int×Int)} {w:ah6} (ha:Ml w a0 la ca xs) (hb:Ml w b0 lc cc ys) (hx:aQ 0 xs=true) (hy:aQ 0 ys=true) (R:List (Int×Int)×Int) (hR:gq (λx y=>x+y) 8 xs ys=R):
  Calls Tryz.prog 145 #[ai2 a0 la ca,ai2 b0 lc cc] w (qH w R.1 R.2):=by
 have zr:=sq;have HX:=hid hx;have HY:=hid hy;have HR:=hid hR;have Ry:=hid ha;have HB0:=hid hb;clear hx hy hR ha hb;go_enter Tryz.func145,Tryz.ntmps145;go_wp2_with fail;refine(lp true Ry.o HX.o).mono ?_;rintro e v1 ⟨rfl,hB⟩;have HBa:=hid hB;have HA1:=hid (Ry.o.below hB);have zj:=hid (HB0.o.below hB);clear hB Ry HB0;go_wp2_with fail;refine(lp true zj.o HY.o).mono ?_;rintro e v2 ⟨rfl,hB⟩;have HB:=hid (Below.ar HBa.o hB);have HA:=hid (HA1.o.below hB);have rV:=hid (zj.o.below hB);clear hB HBa HA1 zj;go_wp2_with fail;refine(sr HA.o).mono ?_;rintro e w1 ⟨rfl,hB⟩;have HB1:=hid (Below.ar HB.o hB);have zj:=hid (rV.o.below hB);clear hB HA rV HB;go_wp2_with (refine fh rfl (.tmp 6) (.tmp 18) rfl _ rfl _ _ rfl (gm.cS w1 _) ?_);refine uy (λW1 hW=>?_);have PS:Hid (gm W1 w1.heap.size (qF xs)):=by rw[hW];exact(gm.cS w1 _).put _
 have HB2:Hid (ai0 w.heap.size w W1):=by rw[hW];exact below_setRow (Below.ar HB1.o (af _ _)) HB1.o.size _
 have Il:Hid (Ml W1 b0 lc cc ys):=by rw[hW];exact(zj.o.below (below_setRow (af w1 _) (aj7 _) _))
 have hx2:=HB1.o.size;clear hW HB1 zj;refine(sr Il.o).mono ?_;rintro e w2 ⟨rfl,hB⟩;have HB3:=hid (Below.ar HB2.o hB);have Fb:=hid (PS.o.below hB);clear hB PS HB2 Il;go_wp2_with (refine fh rfl (.tmp 7) (.tmp 20) rfl _ rfl _ _ rfl (gm.cS w2 _) ?_);have hy2:=HB3.o.size;have hxy:=Fb.o.lt;refine aj (λW2 hW=>?_);have QS:Hid (gm W2 w1.heap.size (qF xs)):=by rw[hW];exact(Fb.o.below (af _ _)).M7 (by omega) _
 have UA:Hid (gm W2 w2.heap.size (qF ys)):=by rw[hW];exact(gm.cS w2 _).put _
 have lx:Hid (ai0 w.heap.size w W2):=by rw[hW];exact below_setRow (Below.ar HB3.o (af _ _)) hy2 _
 obtain⟨by',hby⟩:∃b,b=w2.heap.size:=⟨_,rfl⟩;rw[<-hby]at UA hy2 hxy
 try rw[<-hby]
 clear hW Fb HB3 hby zr;go_wp2;go_loopw [8] (λi wr=>∃k:Nat,1<=k/\ k<=201/\ i= .int .i64 k/\ Hid (∀u:Int,1<=u->u<k->0<=aI xs u+aI ys u/\ aI xs u+aI ys u<=10000)/\ Hid (gm wr w1.heap.size (λu=>if 1<=u/\ u<k then aI xs u+aI ys u else aI xs u)/\ gm wr by' (aI ys)/\ ai0 w.heap.size w wr)) (λi _=>201-(intOf i).toNat)
 case atStart=>exact⟨1,by omega,by omega,rfl,λu h1 h2=>by omega,QS.o.congr (λu _ _=>by rw[rT HX.o,if_neg (by omega)]),by have:=UA.o;rwa[rT HY.o]at this,lx.o⟩
 case round=>
  clear QS UA lx;obtain⟨k,h1,hk,rfl,HT,HS⟩:=hrel;by_cases hk2:k<=200
  ·have hk3:(k:Int)<=200:=by omega
   have hk4:(k:Int)<201:=by omega
   have hk5:(0:Int)<=k:=by omega
   have c1:=HS.o.1.cell k (by omega);have c2:=HS.o.2.1.cell k (by omega);have f1:=HS.o.1.fz k;rw[if_neg (by omega)]at c1;have b1:=eE HX.o (k:Int);have b2:=eE HY.o (k:Int)
   have HK:Hid (∀(u:Int),0<=u->u<=200->Wm (λu=>if 1<=u/\ u<(k:Int)then aI xs u+aI ys u else aI xs u) k (aI xs k+aI ys k) u=(λu=>if 1<=u/\ u<((k+1:Nat):Int)then aI xs u+aI ys u else aI xs u) u):=by
    intro u _ _;unfold Wm;by_cases hu:u=(k:Int)
    ·subst hu;rw[if_pos rfl];show _=if _ then _ else _;rw[if_pos ⟨by omega,by omega⟩]
    ·rw[if_neg hu];show(if _ then _ else _)=if _ then _ else _
     by_cases hc:1<=u/\ u<(k:Int)
     ·rw[if_pos hc,if_pos ⟨hc.1,by omega⟩]
     ·rw[if_neg hc,if_neg (λhd=>hc ⟨hd.1,by omega⟩)]
   have HY9:Hid (∀z,(wr.drew.setCell ⟨w1.heap.size,k,none⟩ z).cell? ⟨by',k,none⟩=some (.int .i64 (aI ys k))):=λz=>((show gm wr.drew by' _ from HS.o.2.1).dy (by omega) _ _).cell k (by omega)
   have HP:Hid (∀(u:Int),1<=u->u<((k+1:Nat):Int)->(0<=aI xs k+aI ys k/\ aI xs k+aI ys k<=10000)->0<=aI xs u+aI ys u/\ aI xs u+aI ys u<=10000):=by
    intro u h2 h3 h4;by_cases hu:u=(k:Int)
    ·subst hu;exact h4
    ·exact HT.o u h2 (by omega)
   have HN:Hid (¬(0<=aI xs k+aI ys k/\ aI xs k+aI ys k<=10000)->R=([],8)):=λh=>by rw[<-HR.o];exact Li (f:=(λx y=>x+y)) rfl HX.o HY.o k h
   obtain⟨p,hp⟩:∃p,p=aI xs k:=⟨_,rfl⟩;obtain⟨q,hq⟩:∃q,q=aI ys k:=⟨_,rfl⟩;rw[<-hp]at c1 b1 HK HP HN;rw[<-hq]at c2 b2 HK HP HN HY9;obtain⟨b1,b3⟩:=b1;obtain⟨b2,b4⟩:=b2;have ws:IntKind.i64.wrap (p+q)=p+q:=IntWalk.i64_in _ ⟨by omega,by omega⟩;clear hp hq hk2;go_upto_region 8 with(fail)
   refine wp_region_held_drew (S:=λw'=>w'.cell? ⟨by',k,none⟩=some (.int .i64 q)) (by kernel_rfl) c2 (λhH=>?_);refine aT 0 hH ?_;try simp only[ax]
   refine aT 1 hH ?_;try simp only[ax]
   refine aT 2 hH ?_;try simp only[ax]
   refine aT 4 hH ?_;try simp only[ax]
   refine aT 5 hH ?_;try simp only[ax]
   refine aT 6 hH ?_;try simp only[ax]
   refine ag 3 rfl (by kernel_rfl) (λK hK=>?_);go_simp;refine hK.o _ _ c2 (λh2=>?_);clear hK K hH;have hH:=h2;clear h2
   try simp only[ax]
   refine aT 7 hH ?_;try simp only[ax]
   refine aT 8 hH ?_;try simp only[ax]
   refine ag 9 rfl (by kernel_rfl) (λK hK=>?_);go_simp;refine hK.o _ _ (HY9.o _) (λh2=>?_);clear hK K hH h2
   try simp only[ax]
   refine wpAnyH_done (by kernel_rfl) ?_ _
   clear c2 f1;have lY:Hid (ai0 w.heap.size w (wr.drew.setCell ⟨w1.heap.size,k,none⟩ (.int .i64 (p+q)))):=HS.o.2.2.drew.setCell hx2 _;by_cases g:10000<p+q
   ·have g1:decide (10000<p+q)=true:=decide_eq_true g;have HR2:Hid (R=([],8)):=HN.o (by omega);clear HN HP HT HK g ws;go_wp2;go_ret2;exact⟨none,0,0,by rw[HR2.o];rfl,by rw[HR2.o];exact Ml.zero _,lY.o⟩
   ·have g1:decide (10000<p+q)=false:=decide_eq_false g;have HG:Hid (0<=p+q/\ p+q<=10000):=by show _/\ _;omega
    clear g;go_wp2_with fail;go_roundw
    case rel=>exact⟨k+1,by omega,by omega,by go_num,λu h2 h3=>HP.o u h2 h3 HG.o,((show gm wr.drew w1.heap.size _ from HS.o.1).set k (by omega) (p+q)).congr HK.o,(show gm wr.drew by' _ from HS.o.2.1).dy (by omega) _ _,lY.o⟩
    case measure=>simp[intOf];omega
  ·obtain rfl:k=201:=by omega
   obtain⟨G,hG⟩:∃G:Int->Int,G=λu=>if 1<=u/\ u<((201:Nat):Int)then aI xs u+aI ys u else aI xs u:=⟨_,rfl⟩
   have hG1:∀v,1<=v->v<=200->G v=aI xs v+aI ys v:=λv h1 h2=>by rw[hG];show(if _ then _ else _)=_;rw[if_pos ⟨h1,by omega⟩]
   have HQ:Hid (R=(Tv G,0)):=by
    rw[Hid,<-HR.o];exact OS (f:=(λx y=>x+y)) rfl HX.o HY.o (λv h1 h2=>HT.o v h1 (by omega)) hG1
   have HI:Hid (∀v,1<=v->v<=200->fq (G v)):=λv h1 h2=>by
    rw[hG1 v h1 h2];have:=HT.o v h1 (by omega);unfold fq;omega
   have H1:Hid (gm wr w1.heap.size G):=by rw[hG];exact HS.o.1
   have oq:=hid HS.o.2.2;clear hG hG1 HT HS HX HY HR hk2;go_wp2_with (refine lu rfl (.tmp 6) rfl _ rfl _ H1.o ?_);refine(Sg G HI.o _).mono ?_;rintro e w9 ⟨qo,n,ae,rfl,hM,hB⟩;have HM:=hid hM;have uU:=hid (Below.ar oq.o hB);clear hM hB oq;go_wp2_with fail;go_ret2;exact⟨_,_,_,by rw[HQ.o];rfl,by rw[HQ.o];exact HM.o,uU.o⟩
theorem Fg [Ol] {a0 b0:Z'} {la ca lc cc:Nat} {xs ys:List (Int×Int)} {w:ah6} (ha:Ml w a0 la ca xs) (hb:Ml w b0 lc cc ys):
  Calls Tryz.prog 145 #[ai2 a0 la ca,ai2 b0 lc cc] w (qH w (gq (λx y=>x+y) 8 xs ys).1 (gq (λx y=>x+y) 8 xs ys).2):=by
 cases hx:aQ 0 xs with
 |false=>rw[show gq (λx y=>x+y) 8 xs ys=([],2)from if_neg (by simp[hx])];exact Ed ha hx
 |true=>
  cases hy:aQ 0 ys with
  |false=>rw[show gq (λx y=>x+y) 8 xs ys=([],2)from if_neg (by simp[hy])];exact Ee ha hb hx hy
  |true=>exact Ef ha hb hx hy _ rfl
end Go.Proofs.YtmenbpmciblnlaaGreatDoor
