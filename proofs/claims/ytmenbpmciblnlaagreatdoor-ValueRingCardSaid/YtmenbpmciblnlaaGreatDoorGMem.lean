import Derived.Test.YtmenbpmciblnlaaGreatDoorGBase
import Derived.Test.YtmenbpmciblnlaaGreatDoorRows
import Derived.WalkSpells
import Derived.WalkLawsBesides
import Derived.Laws.CopyOwn
set_option maxHeartbeats 0
set_option maxRecDepth 100000
open Go renaming Value->ah6,World->ah5
open Go.Addr renaming add->ah7,add_lit->ah8
open Go.Ending renaming returned->ah9
open Go.RowKit renaming Below->ai0
open Go.RowKit.Below renaming heap_setCell->ai2,refl->ai1
open Go.Value renaming int->ai3,slice->ai4
open Go.Value.slice renaming injEq->ai5
open Go.World renaming block_lt_of_cell?->ai7,cell?_spot->ai6,ownsRow_lit->ai9,ownsRow_nil->ai8
open List renaming eq_nil_of_length_eq_zero->aj7,getD->aj0,getElem?_eq_getElem->aj1,getElem?_eq_none->aj3,getElem?_eq_some_iff->ak3,getElem_mem->aj2,length_take->aj9,map_set->aj4,mem_append->ak4,mem_map->aj6,mem_of_mem_take->ak0,mem_or_eq_of_mem_set->aj8,replicate->aj5,take_of_length_le->ak2,take_take->ak1
open Nat renaming le_refl->ak5,le_trans->ak7,zero_add->ak6,zero_le->ak8
namespace Go.Proofs.YtmenbpmciblnlaaGreatDoor
open Go.RowKit
theorem fe {k:IntKind} {a b:Int} (h:a=b):ah9 (.int k a)= .returned (.int k b):=by rw[h]
theorem wU {k l:IntKind} {a b c d:Int} (h:a=b) (h2:c=d):ah9 (.tuple #[.int k a,.int l c])= .returned (.tuple #[.int k b,.int l d]):=by rw[h,h2]
theorem gA {a b:Bool} (h:a=b):ah9 (.bool a)= .returned (.bool b):=by rw[h]
structure Sl (w:ah5) (ao:Option Addr) (n ae:Nat) (xs:List Nat):Prop where
 len:xs.length=n
 le:n<=ae
 big:n<=35184372088832
 wf:∀x∈xs,x<4294967296
 nil:ao=none->ae=0
 cells:∀ad,ao=some ad->∀t,t<n->w.cell? (ad.add t)=some (.int .u32 (xs.getD t 0:Nat))
theorem Sl.at {w:ah5} {ao:Z'} {n ae:Nat} {xs:List Nat} (h:Sl w ao n ae xs) (hn:0<n):
  ∃b off,ao=some ⟨b,off,none⟩/\ b<w.heap.size/\∀t,t<n->w.cell? ⟨b,off+t,none⟩=some (.int .u32 (xs.getD t 0:Nat)):=by
 cases hao:ao with
 |none=>have:=h.nil hao;have:=h.le;omega
 |some ad=>
  obtain⟨b,off,s⟩:=ad;have h0:=h.cells _ hao 0 hn;have hs:s=none:=by simpa[ah7]using ai6 h0
  subst hs;refine⟨b,off,rfl,?_,λt ht=>?_⟩
  ·simpa[ah7]using ai7 w _ h0
  ·have:=h.cells _ hao t ht;rwa[ah8]at this
theorem Sl.eK {w:ah5} {b off n ae:Nat} {xs:List Nat} (h1:xs.length=n) (h2:n<=ae) (h3:n<=35184372088832) (h4:∀x∈xs,x<4294967296)
  (hc:∀t,t<n->w.cell? ⟨b,off+t,none⟩=some (.int .u32 (xs.getD t 0:Nat))):Sl w (some ⟨b,off,none⟩) n ae xs:=
 ⟨h1,h2,h3,h4,(λh=>by cases h),λad had t ht=>by cases had;rw[ah8];exact hc t ht⟩
theorem Sl.none (w:ah5):Sl w Option.none 0 0 []:=
 ⟨rfl,ak5 _,by omega,(λ_ h=>by cases h),(λ_=>rfl),λ_ h=>by cases h⟩
theorem Sl.below {w w':ah5} {ao:Z'} {n ae:Nat} {xs:List Nat} (h:Sl w ao n ae xs) (hb:ai0 w.heap.size w w'):Sl w' ao n ae xs:=
 ⟨h.len,h.le,h.big,h.wf,h.nil,λad had t ht=>by
  have h0:=h.cells ad had t ht;rw[hb.cell (ai7 w _ h0)];exact h0⟩
theorem Sl.bJ {w:ah5} {ao:Z'} {n ae:Nat} {xs:List Nat} (h:Sl w ao n ae xs) (t:Nat):xs.getD t 0<4294967296:=by
 by_cases ht:t<xs.length
 ·simp only[aj0,aj1 ht,Option.getD_some];exact h.wf _ (aj2 ht)
 ·simp[aj0,aj3 (by omega:xs.length<=t)]
end Go.Proofs.YtmenbpmciblnlaaGreatDoor
namespace Go.Proofs.YtmenbpmciblnlaaGreatDoor
open Go.RowKit
def cellsOf (ys:List Nat):List ah6:=ys.map λx=>ai3 .u32 ((x:Nat):Int)
theorem bq (ys:List Nat):(cellsOf ys).length=ys.length:=by simp[cellsOf]
theorem fA (ys:List Nat) (j:Nat) (h:j<ys.length):(cellsOf ys)[j]? =some (.int .u32 (ys.getD j 0:Nat)):=by
 simp[cellsOf,h,aj0]
theorem eW (xs ys:List Nat):cellsOf (xs++ys)=cellsOf xs++cellsOf ys:=by simp[cellsOf]
theorem ki (xs:List Nat) (k:Nat):cellsOf (xs.take k)=(cellsOf xs).take k:=by simp[cellsOf]
theorem sB (xs:List Nat) (k:Nat):cellsOf (xs.drop k)=(cellsOf xs).drop k:=by simp[cellsOf]
theorem pQ (xs:List Nat) (k x:Nat):cellsOf (xs.set k x)=(cellsOf xs).set k (.int .u32 ((x:Nat):Int)):=by simp[cellsOf,aj4]
theorem jb (k:Nat):cellsOf (aj5 k 0)=aj5 k (.int .u32 0):=by simp[cellsOf]
theorem fY (ys:List Nat):∀v∈cellsOf ys,v.oneCell'=true:=by
 intro v hv;obtain⟨_,_,rfl⟩:=aj6.1 hv;rfl
structure bX (B:Nat) (w:ah5) (ao:Option Addr) (n ae:Nat) (ys:List Nat):Prop where
 row:w.ownsRow B 192 1 (ai4 ao n ae) n (cellsOf ys)
 big:n<=35184372088832
 wf:∀x∈ys,x<4294967296
theorem bX.nil (B:Nat) (w:ah5):bX B w none 0 0 []:=
 ⟨ai8 _ _ _ _,by omega,λ_ h=>by cases h⟩
theorem bX.len {B:Nat} {w:ah5} {ao:Z'} {n ae:Nat} {ys:List Nat} (h:bX B w ao n ae ys):ys.length=n:=by
 have:=h.row.1;rw[bq]at this;omega
theorem bX.parts {B:Nat} {w:ah5} {ao:Z'} {n ae:Nat} {ys:List Nat} (h:bX B w ao n ae ys):
  (ao=none/\ n=0/\ ae=0/\ ys=[])∨ ∃g,ao=some ⟨g,0,none⟩/\ B<=g/\ g<w.heap.size/\ n<=ae:=by
 rcases h.row.2 with⟨hv,h0⟩|⟨g,cap',cur,hv,hg,hh,hn,_⟩
 ·simp only[ai5]at hv;exact .inl ⟨hv.1,hv.2.1,hv.2.2,aj7 (by rw[h.len,h0])⟩
 ·simp only[ai5,true_and]at hv;obtain⟨rfl,rfl⟩:=hv;exact .inr ⟨g,rfl,hg,lt_of_block hh,hn⟩
theorem bX.sl {B:Nat} {w:ah5} {ao:Z'} {n ae:Nat} {ys:List Nat} (h:bX B w ao n ae ys):Sl w ao n ae ys:=by
 rcases h.parts with⟨rfl,rfl,rfl,rfl⟩|⟨g,rfl,hg,hlt,hn⟩
 ·exact Sl.none w
 ·refine Sl.eK h.len hn h.big h.wf λt ht=>?_
  rw[ak6,h.row.cellAt t (by omega),fA ys t (by rw[h.len];exact ht)]
theorem bX.frozen {B:Nat} {w:ah5} {g n ae:Nat} {ys:List Nat} (h:bX B w (some ⟨g,0,none⟩) n ae ys) (j:Nat):w.frozen? ⟨g,j,none⟩=false:=h.row.frozenAt j
theorem bX.below {B:Nat} {w w':ah5} {ao:Z'} {n ae:Nat} {ys:List Nat} (h:bX B w ao n ae ys) (hb:ai0 w.heap.size w w'):bX B w' ao n ae ys:=by
 refine⟨⟨h.row.1,?_⟩,h.big,h.wf⟩;rcases h.row.2 with h2|⟨g,cap',cur,hv,hg,hh,r⟩
 ·exact .inl h2
 ·exact .inr ⟨g,cap',cur,hv,hg,by rw[hb.block g (lt_of_block hh)];exact hh,r⟩
theorem bX.mono {B B':Nat} {w:ah5} {ao:Z'} {n ae:Nat} {ys:List Nat} (h:bX B w ao n ae ys) (hB:B'<=B):bX B' w ao n ae ys:=by
 refine⟨⟨h.row.1,?_⟩,h.big,h.wf⟩;rcases h.row.2 with h2|⟨g,cap',cur,hv,hg,r⟩
 ·exact .inl h2
 ·exact .inr ⟨g,cap',cur,hv,by omega,r⟩
theorem bX.set {B:Nat} {w:ah5} {g n ae:Nat} {ys:List Nat} (h:bX B w (some ⟨g,0,none⟩) n ae ys) (j x:Nat) (hx:x<4294967296):
  bX B (w.setCell ⟨g,j,none⟩ (.int .u32 ((x:Nat):Int))) (some ⟨g,0,none⟩) n ae (ys.set j x):=by
 refine⟨?_,h.big,λy hy=>?_⟩
 ·rw[pQ];exact(h.row.stored j _).1
 ·rcases aj8 hy with hy|rfl
  ·exact h.wf y hy
  ·exact hx
theorem bX.take {B:Nat} {w:ah5} {ao:Z'} {n ae:Nat} {ys:List Nat} (h:bX B w ao n ae ys) (k:Nat) (hk:k<=n) (h0:0<k):bX B w ao k ae (ys.take k):=by
 refine⟨⟨by rw[bq,aj9,h.len];omega,?_⟩,ak7 hk h.big,λy hy=>h.wf y (ak0 hy)⟩;rcases h.row.2 with⟨hv,h2⟩|⟨g,cap',cur,hv,hg,hh,hn,hm,hs,ht⟩
 ·omega
 ·simp only[ai5,true_and]at hv;obtain⟨rfl,rfl⟩:=hv;refine .inr ⟨g,ae,cur,rfl,hg,hh,by omega,hm,hs,?_⟩;rw[ki,<-ht,ak1]
  congr 1
  omega
theorem sD {B:Nat} {w:ah5} {e:TypeId} {g n:Nat} {xs:List ah6} (h:w.ownsRow B e 1 (ai4 (some ⟨g,0,none⟩) n n) n xs):w.heap[g]? =some (.cells xs.toArray e (0,0)):=by
 rcases h.2 with⟨hv,_⟩|⟨g',cap',cur,hv,hg,hh,hn,hm,hs,ht⟩
 ·cases hv
 ·simp only[ai5,Option.some.injEq,Addr.mk.injEq,true_and,and_true]at hv;obtain⟨rfl,rfl⟩:=hv;rw[hh,<-ht,ak2 (by simp;omega)]
theorem wV {B:Nat} {w:ah5} {e:TypeId} {g n:Nat} {xs:List ah6} (hB:B<=g) (hn:xs.length=n) (hm:n<=maxLen) (h:w.heap[g]? =some (.cells xs.toArray e (0,0))):
  w.ownsRow B e 1 (ai4 (some ⟨g,0,none⟩) n n) n xs:=
 ⟨by omega,.inr ⟨g,n,xs.toArray,rfl,hB,h,ak5 _,hm,by simp;omega,ak2 (by simp;omega)⟩⟩
def fW (w:ah5) (ys:List Nat) (e:Ending) (w':ah5):Prop:=
 ∃ao n ae,e= .returned (ai4 ao n ae)/\ bX w.heap.size w' ao n ae ys/\ ai0 w.heap.size w w'
def Gg (w:ah5) (ys:List Nat) (er:Int) (e:Ending) (w':ah5):Prop:=
 ∃ao n ae,e= .returned (.tuple #[ai4 ao n ae,.int .i64 er])/\ bX w.heap.size w' ao n ae ys/\ ai0 w.heap.size w w'
theorem Tryz.fx:(Tryz.prog.info? 192).map (λi=>(i.zero,i.size,i.bytes))=some (some (.int .u32 0),1,4):=by kernel_rfl
theorem Tryz.mP:(Tryz.prog.info? 192).map (·.size)=some 1:=by kernel_rfl
theorem gX (n:Nat):(madeCells #[ai3 .u32 0] n).toList=cellsOf (aj5 n 0):=by
 rw[jb];exact toList_madeCells_one _ n
theorem bX.lit (w:ah5) (ys:List Nat) (hw:∀x∈ys,x<4294967296) (hl:ys.length<=35184372088832):
  bX w.heap.size (w.alloc (.cells (cellsOf ys).toArray 192)) (some ⟨w.heap.size,0,none⟩) ys.length ys.length ys:=
 ⟨by simpa using ai9 (base:=w.heap.size) w (cellsOf ys).toArray ys.length (size:=1) (e:=192) (ak5 _) (by unfold maxLen;omega) (by simp[cellsOf]),hl,hw⟩
theorem bX.drew {B:Nat} {w:ah5} {ao:Z'} {n ae:Nat} {ys:List Nat} (h:bX B w ao n ae ys):bX B w.drew ao n ae ys:=
 ⟨h.row.drew,h.big,h.wf⟩
theorem bX.cell {B:Nat} {w:ah5} {g n ae:Nat} {ys:List Nat} (h:bX B w (some ⟨g,0,none⟩) n ae ys) (t:Nat) (ht:t<n):w.cell? ⟨g,t,none⟩=some (.int .u32 (ys.getD t 0:Nat)):=by
 rw[h.row.cellAt t (by omega),fA _ _ (by rw[h.len];exact ht)]
theorem bX.bJ {B:Nat} {w:ah5} {ao:Z'} {n ae:Nat} {ys:List Nat} (h:bX B w ao n ae ys) (t:Nat):ys.getD t 0<4294967296:=h.sl.bJ t
theorem bX.wW {B:Nat} {w:ah5} {g n:Nat} {ys:List Nat} (hB:B<=g) (hl:ys.length=n) (hn:n<=35184372088832) (hw:Wf ys) (h:w.heap[g]? =some (.cells (cellsOf ys).toArray 192 (0,0))):
  bX B w (some ⟨g,0,none⟩) n n ys:=
 ⟨wV hB (by rw[bq,hl]) (by unfold maxLen;omega) h,hn,hw⟩
theorem Sl.src {w:ah5} {ao:Z'} {n ae:Nat} {xs:List Nat} (h:Sl w ao n ae xs) (k:Nat) (hk:k<=n) (h0:0<k):
  ∃ad,ao=some ad/\∀j v,(cellsOf (xs.take k))[j]? =some v->w.cell? (ad.add j)=some v:=by
 obtain⟨b,off,rfl,_,hc⟩:=h.at (by omega);refine⟨_,rfl,λj v hv=>?_⟩;have hj:j<(cellsOf (xs.take k)).length:=(ak3.1 hv).1;rw[bq,aj9,h.len]at hj;rw[ah8,hc j (by omega),<-hv,fA _ _ (by rw[aj9,h.len];omega)];simp[aj0,show j<k by omega]
theorem sF (xs:List Nat) (n:Nat) (h:n<=xs.length):splice (cellsOf (aj5 (n+1) 0)) 0 (cellsOf (xs.take n))=cellsOf (xs.take n++[0]):=by
 have hl:(cellsOf (xs.take n)).length=n:=by rw[bq,aj9];omega
 unfold splice;rw[hl,eW];simp[cellsOf]
theorem Sl.drewN {w:ah5} {ao:Z'} {n ae:Nat} {xs:List Nat} (h:Sl w ao n ae xs) (q:Nat):Sl (w.drewN q) ao n ae xs:=⟨h.len,h.le,h.big,h.wf,h.nil,h.cells⟩
theorem bX.drewN {B:Nat} {w:ah5} {ao:Z'} {n ae:Nat} {xs:List Nat} (h:bX B w ao n ae xs) (q:Nat):bX B (w.drewN q) ao n ae xs:=⟨h.row,h.big,h.wf⟩
theorem below_drewN (B:Nat) (w:ah5) (q:Nat):ai0 B w (w.drewN q):=⟨rfl,rfl,rfl,ak5 _,λ_ _=>rfl⟩
def jF (v:ah6) (w:ah5) (e:Ending) (w':ah5):Prop:=e= .returned v/\∃k,w'=w.drewN k
def cr (v:ah6) (w:ah5) (e:Ending) (w':ah5):Prop:=e= .returned v/\ ai0 w.heap.size w w'
theorem jF.b {v:ah6} {w:ah5} {e:Ending} {w':ah5} (h:jF v w e w'):cr v w e w':=by
 obtain⟨he,q,rfl⟩:=h;exact⟨he,below_drewN _ _ _⟩
theorem aN {w w':ah5} {o:Obj} (h:ai0 (w.alloc o).heap.size (w.alloc o) w'):ai0 w.heap.size w w':=
 ((ai1 _ _).alloc (ak5 _) _).trans (h.mono (by simp))
theorem Below.ar {w w1 w2:ah5} (h:ai0 w.heap.size w w1) (k:ai0 w1.heap.size w1 w2):ai0 w.heap.size w w2:=h.trans (k.mono h.size)
theorem af (w:ah5) (o:Obj):ai0 w.heap.size w (w.alloc o):=(ai1 _ _).alloc (ak5 _) o
theorem Sl.alloc {w:ah5} {ao:Z'} {n ae:Nat} {xs:List Nat} (h:Sl w ao n ae xs) (o:Obj):Sl (w.alloc o) ao n ae xs:=h.below (af w o)
end Go.Proofs.YtmenbpmciblnlaaGreatDoor
namespace Go.Proofs.YtmenbpmciblnlaaGreatDoor
open Go.RowKit
def bB:ah6->Bool
 | .int _ _=>false
 | _=>true
def dV (w:ah5) (g:Nat):Prop:=∀cur T fr,w.heap[g]? =some (.cells cur T fr)->∀u∈cur.toList,bB u=true
theorem dV.dy {w:ah5} {g:Nat} (h:dV w g) {k:IntKind} {x:Int} {ad:Addr} (hc:w.cell? ad=some (.int k x)):ad.block≠g:=by
 intro e;obtain⟨b',o,s⟩:=ad;obtain rfl:b'=g:=e;have hs:s=none:=ai6 hc;subst hs;unfold World.cell? at hc;simp only at hc;cases hh:w.heap[b']? with
 |none=>simp[hh]at hc
 |some ob=>
  rw[hh]at hc;cases ob with
  |cells cur T fr=>
   have hc2:cur[o]? =some (.int k x):=by simpa using hc
   exact absurd (h cur T fr hh _ (Array.mem_toList_iff.2 (Array.mem_of_getElem? hc2))) (by simp[bB])
  | _=>simp at hc
theorem dV.ct {w w':ah5} {g:Nat} (h:dV w g) (e:w'.heap[g]? =w.heap[g]?):dV w' g:=λcur T fr hh=>h cur T fr (e▸hh)
theorem dV.alloc (w:ah5) (cs:Array ah6) (T:TypeId) (h:∀u∈cs.toList,bB u=true):dV (w.alloc (.cells cs T)) w.heap.size:=by
 intro cur T' fr hh
 have e:(w.alloc (.cells cs T)).heap[w.heap.size]? =some (.cells cs T (0,0)):=by
  show(w.heap.push _)[w.heap.size]? =_;rw[Array.getElem?_push_size]
 rw[e]at hh;cases hh;exact h
class Ol where
 lo:Nat
def NP:List TypeId:=[
 1000000007]
def Kp [Ol] (w:ah5) (c:Nat):Prop:=c<Ol.lo∨dV w c∨ ∃cur T fr,w.heap[c]? =some (.cells cur T fr)/\ NP.contains T=false
theorem Kp.ct [Ol] {w w':ah5} {c:Nat} (h:Kp w c) (e:w'.heap[c]? =w.heap[c]?):Kp w' c:=by
 rcases h with h|h|⟨cur,T,fr,h,hT⟩
 ·exact .inl h
 ·exact .inr (.inl (h.ct e))
 ·exact .inr (.inr ⟨cur,T,fr,e.trans h,hT⟩)
theorem Kp.mk [Ol] {w:ah5} {c:Nat} {cur:Array ah6} {T:TypeId} {fr:Nat×Nat} (h:w.heap[c]? =some (.cells cur T fr)) (hT:NP.contains T=false):Kp w c:= .inr (.inr ⟨cur,T,fr,h,hT⟩)
theorem Kp.vk [Ol] {w:ah5} {c:Nat} (h:dV w c):Kp w c:= .inr (.inl h)
theorem Kp.grown [Ol] {w w':ah5} {row:Option Nat} {c:Nat} (h:Kp w c) (hc:c<w.heap.size) (hG:w.grownBy w' row) (hne:some c≠row):Kp w' c:=h.ct (hG.block c hc hne)
theorem Kp.cS [Ol] (w:ah5) (cs:Array ah6) (T:TypeId) (hT:NP.contains T=false):Kp (w.alloc (.cells cs T)) w.heap.size:=
 .inr (.inr ⟨cs,T,(0,0),by show(w.heap.push _)[w.heap.size]? =_;rw[Array.getElem?_push_size],hT⟩)
end Go.Proofs.YtmenbpmciblnlaaGreatDoor
namespace Go.Proofs.YtmenbpmciblnlaaGreatDoor
open Go.RowKit
theorem Gh {w:ah5} {base:Nat} {e:TypeId} {v:ah6} {n:Nat} {xs:List ah6} (h:w.ownsRow base e 1 v n xs):∃ao ae,v=ai4 ao n ae:=by
 rcases h.2 with⟨hv,h0⟩|⟨g,ae,cur,hv,_⟩
 ·exact⟨none,0,by rw[hv,h0]⟩
 ·exact⟨_,_,hv⟩
theorem dt {P:Program} (w w0:ah5) {ops:Array Oper} {rest:List Oper} {o:Oper} {a:Act} {Q:Exit->Act->ah5->Prop}
  (hg:o.guard=none) (s x:Operand) (t:TypeId) (hop:o.op=Op.call { callee:=Callee.builtin Builtin.append,args:= #[s,x],argTypes:= #[t,t] })
  (base:Nat) (e:TypeId) (i:TypeInfo) (z:ah6) (bytes:Nat) (h1:P.underlying t=some (.slice e)) (h2:P.info? e=some i) (h3:i.zero=some z) (h4:i.size=1) (h5:i.bytes=bytes) (h6:z.cells.size=1)
  (ao:Option Addr) (n ae:Nat) (xs:List ah6) (hs:a.eval s=ai4 ao n ae) (hown:w.ownsRow base e 1 (ai4 ao n ae) n xs)
  (v:ah6) (hv:v.oneCell'=true) (tt:TypeId) (hx:a.eval x=ai4 (some ⟨w.heap.size,0,none⟩) 1 1) (hb:ai0 base w0 w) (hbase:base<=w.heap.size)
  (b1:n+1<=maxLen) (b2:(n+1)*bytes<=140737488355328)
  (hK:∀eP cap' w',w'.ownsRow base e 1 (ai4 eP (n+1) cap') (n+1) (xs++[v])->ai0 base w0 w'->(w.alloc (.cells #[v] tt)).grownBy w' (ai4 ao n ae).ownBlock->wpList P ops Q rest (a.put o.dst (ai4 eP (n+1) cap')) w'):
  wpList P ops Q (o::rest) a (w.alloc (.cells #[v] tt)):=by
 have ho1:=hown.alloc (.cells #[v] tt);refine wpList_append_own _ hg s x t hop base e i z 1 bytes h1 h2 h3 h4 h5 h6 (by decide) _ n xs hs ho1 ⟨w.heap.size,0,none⟩ 1 1 [v] hx rfl ?_ ?_ b1 b2 (by simp;omega) ?_
 ·intro j u hj
  match j,hj with
  |0,hj=>
   simp at hj;subst hj;simp[ah7]
 ·intro u hu;simp at hu;subst hu;exact hv
 ·intro v' w' hown' hgrow _;obtain⟨eP,cap',rfl⟩:=Gh hown';refine hK eP cap' w' hown' ((hb.alloc hbase _).grown hgrow (by simp;omega) λk hk=>?_) hgrow;exact(ho1.lt k hk).1
theorem FZ {B:Nat} {w:ah5} {ao:Z'} {n ae:Nat} {ys:List Nat} {v:ah6} (x:Nat) (h:w.ownsRow B 192 1 (ai4 ao (n+1) ae) (n+1) (cellsOf ys++[v])) (hv:v= .int .u32 ((x:Nat):Int)) (hx:x<4294967296) (hw:∀y∈ys,y<4294967296) (hn:n+1<=35184372088832):
  bX B w ao (n+1) ae (ys++[x]):=by
 refine⟨?_,hn,λy hy=>?_⟩
 ·rw[eW];subst hv;exact h
 ·rcases ak4.1 hy with hy|hy
  ·exact hw y hy
  ·simp at hy;omega
end Go.Proofs.YtmenbpmciblnlaaGreatDoor
namespace Go.Proofs.YtmenbpmciblnlaaGreatDoor.Dg
open Go.RowKit
structure Sl [Ol] (w:ah5) (ao:Option Addr) (n ae:Nat) (xs:List Nat):Prop where
 len:xs.length=n
 le:n<=ae
 big:n<=17592186044416
 wf:∀x∈xs,x<10
 nil:ao=none->ae=0
 cells:∀ad,ao=some ad->∀t,t<n->w.cell? (ad.add t)=some (.int .i64 (xs.getD t 0:Nat))
 kp:0<n->∀ad,ao=some ad->Kp w ad.block
theorem Sl.at [Ol] {w:ah5} {ao:Z'} {n ae:Nat} {xs:List Nat} (h:Sl w ao n ae xs) (hn:0<n):
  ∃b off,ao=some ⟨b,off,none⟩/\ b<w.heap.size/\∀t,t<n->w.cell? ⟨b,off+t,none⟩=some (.int .i64 (xs.getD t 0:Nat)):=by
 cases hao:ao with
 |none=>have:=h.nil hao;have:=h.le;omega
 |some ad=>
  obtain⟨b,off,s⟩:=ad;have h0:=h.cells _ hao 0 hn;have hs:s=none:=by simpa[ah7]using ai6 h0
  subst hs;refine⟨b,off,rfl,?_,λt ht=>?_⟩
  ·simpa[ah7]using ai7 w _ h0
  ·have:=h.cells _ hao t ht;rwa[ah8]at this
theorem Sl.eK [Ol] {w:ah5} {b off n ae:Nat} {xs:List Nat} (h1:xs.length=n) (h2:n<=ae) (h3:n<=17592186044416) (h4:∀x∈xs,x<10) (h5:0<n->Kp w b)
  (hc:∀t,t<n->w.cell? ⟨b,off+t,none⟩=some (.int .i64 (xs.getD t 0:Nat))):Sl w (some ⟨b,off,none⟩) n ae xs:=
 ⟨h1,h2,h3,h4,(λh=>by cases h),λad had t ht=>by cases had;rw[ah8];exact hc t ht,λh0 ad had=>by cases had;exact h5 h0⟩
theorem Sl.none [Ol] (w:ah5):Sl w Option.none 0 0 []:=
 ⟨rfl,ak5 _,by omega,(λ_ h=>by cases h),(λ_=>rfl),(λ_ h=>by cases h),λ_ _ h=>by cases h⟩
theorem Sl.Hh [Ol] {w:ah5} {ao:Z'} {n ae:Nat} {xs:List Nat} (h:Sl w ao n ae xs) (h0:0<n) {ad:Addr} (had:ao=some ad):ad.block<w.heap.size:=by
 obtain⟨b,off,e,hb,_⟩:=h.at h0;rw[e]at had;cases had;exact hb
theorem Sl.int [Ol] {w:ah5} {ao:Z'} {n ae:Nat} {xs:List Nat} (h:Sl w ao n ae xs) (h0:0<n) {ad:Addr} (had:ao=some ad):∃x,w.cell? ad=some (.int .i64 x):=by
 obtain⟨b,off,e,hb,hc⟩:=h.at h0;rw[e]at had;cases had;exact⟨_,hc 0 h0⟩
theorem Sl.below [Ol] {w w':ah5} {ao:Z'} {n ae:Nat} {xs:List Nat} (h:Sl w ao n ae xs) (hb:ai0 w.heap.size w w'):Sl w' ao n ae xs:=
 ⟨h.len,h.le,h.big,h.wf,h.nil,λad had t ht=>by
  have h0:=h.cells ad had t ht;rw[hb.cell (ai7 w _ h0)];exact h0,λh0 ad had=>(h.kp h0 ad had).ct (hb.block _ (h.Hh h0 had))⟩
theorem Sl.bJ [Ol] {w:ah5} {ao:Z'} {n ae:Nat} {xs:List Nat} (h:Sl w ao n ae xs) (t:Nat):xs.getD t 0<10:=by
 by_cases ht:t<xs.length
 ·simp only[aj0,aj1 ht,Option.getD_some];exact h.wf _ (aj2 ht)
 ·simp[aj0,aj3 (by omega:xs.length<=t)]
def cellsOf (ys:List Nat):List ah6:=ys.map λx=>ai3 .i64 ((x:Nat):Int)
theorem bq (ys:List Nat):(cellsOf ys).length=ys.length:=by simp[cellsOf]
theorem fA (ys:List Nat) (j:Nat) (h:j<ys.length):(cellsOf ys)[j]? =some (.int .i64 (ys.getD j 0:Nat)):=by
 simp[cellsOf,h,aj0]
theorem eW (xs ys:List Nat):cellsOf (xs++ys)=cellsOf xs++cellsOf ys:=by simp[cellsOf]
theorem ki (xs:List Nat) (k:Nat):cellsOf (xs.take k)=(cellsOf xs).take k:=by simp[cellsOf]
theorem sB (xs:List Nat) (k:Nat):cellsOf (xs.drop k)=(cellsOf xs).drop k:=by simp[cellsOf]
theorem pQ (xs:List Nat) (k x:Nat):cellsOf (xs.set k x)=(cellsOf xs).set k (.int .i64 ((x:Nat):Int)):=by simp[cellsOf,aj4]
theorem jb (k:Nat):cellsOf (aj5 k 0)=aj5 k (.int .i64 0):=by simp[cellsOf]
theorem fY (ys:List Nat):∀v∈cellsOf ys,v.oneCell'=true:=by
 intro v hv;obtain⟨_,_,rfl⟩:=aj6.1 hv;rfl
structure bX (B:Nat) (w:ah5) (ao:Option Addr) (n ae:Nat) (ys:List Nat):Prop where
 row:w.ownsRow B 3 1 (ai4 ao n ae) n (cellsOf ys)
 big:n<=17592186044416
 wf:∀x∈ys,x<10
theorem bX.nil (B:Nat) (w:ah5):bX B w none 0 0 []:=
 ⟨ai8 _ _ _ _,by omega,λ_ h=>by cases h⟩
theorem bX.len {B:Nat} {w:ah5} {ao:Z'} {n ae:Nat} {ys:List Nat} (h:bX B w ao n ae ys):ys.length=n:=by
 have:=h.row.1;rw[bq]at this;omega
theorem bX.parts {B:Nat} {w:ah5} {ao:Z'} {n ae:Nat} {ys:List Nat} (h:bX B w ao n ae ys):
  (ao=none/\ n=0/\ ae=0/\ ys=[])∨ ∃g,ao=some ⟨g,0,none⟩/\ B<=g/\ g<w.heap.size/\ n<=ae:=by
 rcases h.row.2 with⟨hv,h0⟩|⟨g,cap',cur,hv,hg,hh,hn,_⟩
 ·simp only[ai5]at hv;exact .inl ⟨hv.1,hv.2.1,hv.2.2,aj7 (by rw[h.len,h0])⟩
 ·simp only[ai5,true_and]at hv;obtain⟨rfl,rfl⟩:=hv;exact .inr ⟨g,rfl,hg,lt_of_block hh,hn⟩
theorem bX.sl [Ol] {B:Nat} {w:ah5} {ao:Z'} {n ae:Nat} {ys:List Nat} (h:bX B w ao n ae ys):Sl w ao n ae ys:=by
 rcases h.parts with⟨rfl,rfl,rfl,rfl⟩|⟨g,rfl,hg,hlt,hn⟩
 ·exact Sl.none w
 ·refine Sl.eK h.len hn h.big h.wf (λ_=>?_) λt ht=>?_
  ·rcases h.row.2 with⟨hv,_⟩|⟨g',cap',cur,hv,_,hh,_⟩
   ·cases hv
   ·cases hv;exact Kp.mk hh (by decide)
  rw[ak6,h.row.cellAt t (by omega),fA ys t (by rw[h.len];exact ht)]
theorem bX.frozen {B:Nat} {w:ah5} {g n ae:Nat} {ys:List Nat} (h:bX B w (some ⟨g,0,none⟩) n ae ys) (j:Nat):w.frozen? ⟨g,j,none⟩=false:=h.row.frozenAt j
theorem bX.below {B:Nat} {w w':ah5} {ao:Z'} {n ae:Nat} {ys:List Nat} (h:bX B w ao n ae ys) (hb:ai0 w.heap.size w w'):bX B w' ao n ae ys:=by
 refine⟨⟨h.row.1,?_⟩,h.big,h.wf⟩;rcases h.row.2 with h2|⟨g,cap',cur,hv,hg,hh,r⟩
 ·exact .inl h2
 ·exact .inr ⟨g,cap',cur,hv,hg,by rw[hb.block g (lt_of_block hh)];exact hh,r⟩
theorem bX.mono {B B':Nat} {w:ah5} {ao:Z'} {n ae:Nat} {ys:List Nat} (h:bX B w ao n ae ys) (hB:B'<=B):bX B' w ao n ae ys:=by
 refine⟨⟨h.row.1,?_⟩,h.big,h.wf⟩;rcases h.row.2 with h2|⟨g,cap',cur,hv,hg,r⟩
 ·exact .inl h2
 ·exact .inr ⟨g,cap',cur,hv,by omega,r⟩
theorem bX.set {B:Nat} {w:ah5} {g n ae:Nat} {ys:List Nat} (h:bX B w (some ⟨g,0,none⟩) n ae ys) (j x:Nat) (hx:x<10):
  bX B (w.setCell ⟨g,j,none⟩ (.int .i64 ((x:Nat):Int))) (some ⟨g,0,none⟩) n ae (ys.set j x):=by
 refine⟨?_,h.big,λy hy=>?_⟩
 ·rw[pQ];exact(h.row.stored j _).1
 ·rcases aj8 hy with hy|rfl
  ·exact h.wf y hy
  ·exact hx
theorem bX.take {B:Nat} {w:ah5} {ao:Z'} {n ae:Nat} {ys:List Nat} (h:bX B w ao n ae ys) (k:Nat) (hk:k<=n) (h0:0<k):bX B w ao k ae (ys.take k):=by
 refine⟨⟨by rw[bq,aj9,h.len];omega,?_⟩,ak7 hk h.big,λy hy=>h.wf y (ak0 hy)⟩;rcases h.row.2 with⟨hv,h2⟩|⟨g,cap',cur,hv,hg,hh,hn,hm,hs,ht⟩
 ·omega
 ·simp only[ai5,true_and]at hv;obtain⟨rfl,rfl⟩:=hv;refine .inr ⟨g,ae,cur,rfl,hg,hh,by omega,hm,hs,?_⟩;rw[ki,<-ht,ak1]
  congr 1
  omega
def fW (w:ah5) (ys:List Nat) (e:Ending) (w':ah5):Prop:=
 ∃ao n ae,e= .returned (ai4 ao n ae)/\ bX w.heap.size w' ao n ae ys/\ ai0 w.heap.size w w'
theorem Tryz.kY:(Tryz.prog.info? 3).map (λi=>(i.zero,i.size,i.bytes))=some (some (.int .i64 0),1,8):=by kernel_rfl
theorem wX (n:Nat):(madeCells #[ai3 .i64 0] n).toList=cellsOf (aj5 n 0):=by
 rw[jb];exact toList_madeCells_one _ n
theorem bX.lit (w:ah5) (ys:List Nat) (hw:∀x∈ys,x<10) (hl:ys.length<=17592186044416):
  bX w.heap.size (w.alloc (.cells (cellsOf ys).toArray 3)) (some ⟨w.heap.size,0,none⟩) ys.length ys.length ys:=
 ⟨by simpa using ai9 (base:=w.heap.size) w (cellsOf ys).toArray ys.length (size:=1) (e:=3) (ak5 _) (by unfold maxLen;omega) (by simp[cellsOf]),hl,hw⟩
theorem Sl.src [Ol] {w:ah5} {ao:Z'} {n ae:Nat} {xs:List Nat} (h:Sl w ao n ae xs) (k:Nat) (hk:k<=n) (h0:0<k):
  ∃ad,ao=some ad/\∀j v,(cellsOf (xs.take k))[j]? =some v->w.cell? (ad.add j)=some v:=by
 obtain⟨b,off,rfl,_,hc⟩:=h.at (by omega);refine⟨_,rfl,λj v hv=>?_⟩;have hj:j<(cellsOf (xs.take k)).length:=(ak3.1 hv).1;rw[bq,aj9,h.len]at hj;rw[ah8,hc j (by omega),<-hv,fA _ _ (by rw[aj9,h.len];omega)];simp[aj0,show j<k by omega]
theorem bX.drew {B:Nat} {w:ah5} {ao:Z'} {n ae:Nat} {ys:List Nat} (h:bX B w ao n ae ys):bX B w.drew ao n ae ys:=
 ⟨h.row.drew,h.big,h.wf⟩
theorem bX.cell {B:Nat} {w:ah5} {g n ae:Nat} {ys:List Nat} (h:bX B w (some ⟨g,0,none⟩) n ae ys) (t:Nat) (ht:t<n):w.cell? ⟨g,t,none⟩=some (.int .i64 (ys.getD t 0:Nat)):=by
 rw[h.row.cellAt t (by omega),fA _ _ (by rw[h.len];exact ht)]
theorem bX.bJ [Ol] {B:Nat} {w:ah5} {ao:Z'} {n ae:Nat} {ys:List Nat} (h:bX B w ao n ae ys) (t:Nat):ys.getD t 0<10:=h.sl.bJ t
theorem bX.wW {B:Nat} {w:ah5} {g n:Nat} {ys:List Nat} (hB:B<=g) (hl:ys.length=n) (hn:n<=17592186044416) (hw:Wf ys) (h:w.heap[g]? =some (.cells (cellsOf ys).toArray 3 (0,0))):
  bX B w (some ⟨g,0,none⟩) n n ys:=
 ⟨wV hB (by rw[bq,hl]) (by unfold maxLen;omega) h,hn,hw⟩
theorem Sl.drewN [Ol] {w:ah5} {ao:Z'} {n ae:Nat} {xs:List Nat} (h:Sl w ao n ae xs) (q:Nat):Sl (w.drewN q) ao n ae xs:=⟨h.len,h.le,h.big,h.wf,h.nil,h.cells,λh0 ad had=>(h.kp h0 ad had).ct rfl⟩
theorem bX.drewN {B:Nat} {w:ah5} {ao:Z'} {n ae:Nat} {xs:List Nat} (h:bX B w ao n ae xs) (q:Nat):bX B (w.drewN q) ao n ae xs:=⟨h.row,h.big,h.wf⟩
theorem fR {n k:Nat} (h:n<10^k):(aq n).length<=k:=by
 rcases Nat.lt_or_ge k (aq n).length with hl|hl
 ·obtain⟨j,hj⟩:∃j,nl (aq n)=j+1:=⟨(aq n).length-1,by rw[eI];omega⟩;have h1:=eh j hj;rw[av]at h1;have h2:10^k<=10^j:=Nat.pow_le_pow_right (by omega) (by rw[eI]at hj;omega);omega
 ·exact hl
theorem Rn {n:Nat} (h:n<=18446744073709551615):n<10^20:=by
 have e:(10:Nat)^20=100000000000000000000:=by decide
 omega
theorem bX.sx {B:Nat} {w:ah5} {ao:Z'} {n ae:Nat} {ys:List Nat} (h:bX B w ao n ae ys) (k:Nat) (hk:k<=n):bX B w ao k ae (ys.take k):=by
 by_cases h0:0<k
 ·exact h.take k hk h0
 ·obtain rfl:k=0:=by omega
  rw[List.take_zero];rcases h.row.2 with⟨hv,h2⟩|⟨g,cap',cur,hv,hg,hh,hn,hm,hs,ht⟩
  ·simp only[ai5]at hv;obtain⟨rfl,rfl,rfl⟩:=hv;exact bX.nil _ _
  ·simp only[ai5,true_and]at hv;obtain⟨rfl,rfl⟩:=hv;exact⟨⟨rfl,.inr ⟨g,ae,cur,rfl,hg,hh,ak8 _,hm,hs,by simp[cellsOf]⟩⟩,ak8 _,λ_ h=>by cases h⟩
def C8 (B:Nat) (w:ah5) (ys:List Nat) (e:Ending) (w':ah5):Prop:=
 ∃ao n ae,e= .returned (ai4 ao n ae)/\ bX B w ao n ae ys/\ w=w'
theorem bX.push {B:Nat} {w:ah5} {ao:Z'} {n ae:Nat} {ys:List Nat} {v:ah6} (x:Nat) (h:w.ownsRow B 3 1 (ai4 ao (n+1) ae) (n+1) (cellsOf ys++[v])) (hv:v= .int .i64 ((x:Nat):Int)) (hx:x<10) (hw:∀y∈ys,y<10) (hn:n+1<=17592186044416):
  bX B w ao (n+1) ae (ys++[x]):=by
 refine⟨?_,hn,λy hy=>?_⟩
 ·rw[eW];subst hv;exact h
 ·rcases ak4.1 hy with hy|hy
  ·exact hw y hy
  ·simp at hy;omega
theorem Tryz.iF:Tryz.prog.underlying 43=some (.slice 3):=Tryz.underlying43
theorem mQ (xs:List Nat) (k:Nat) (h:xs.length<=k):xs.getD k 0=0:=by
 simp[aj0,aj3 h]
theorem dA (xs:List Nat) (k:Nat):au (xs.take k)+10^k*xs.getD k 0=au (xs.take (k+1)):=by
 by_cases h:k<xs.length
 ·rw[bC xs k h]
 ·rw[mQ xs k (by omega),ak2 (by omega),ak2 (by omega)];omega
theorem yD {v:Nat} (h:0<v):(aq (v/4294967296)).length<(aq v).length:=by
 have h1:=dG (aq v) (dv v);rw[av]at h1
 obtain⟨l,hl⟩:∃l,(aq v).length=l+1:=by
  rw[fj h];exact⟨_,rfl⟩
 rw[hl]at h1 ⊢
 have h2:v/4294967296<10^l:=by
  rw[Nat.pow_succ]at h1;have hp:0<10^l:=Nat.pow_pos (by omega);omega
 have:=fR h2;omega
theorem Ro {v L:Nat} (h:(aq v).length=L):0<L↔0<v:=by
 rcases Nat.eq_zero_or_pos v with rfl|hv
 ·rw[fE]at h;simp at h;omega
 ·rw[fj hv]at h;simp at h;omega
theorem Sl.grown [Ol] {w w':ah5} {o:Obj} {row:Option Nat} {ao:Z'} {n ae:Nat} {xs:List Nat} (h:Sl w ao n ae xs) (hg:(w.alloc o).grownBy w' row) (hne:∀ad,ao=some ad->some ad.block≠row):Sl w' ao n ae xs:=
 ⟨h.len,h.le,h.big,h.wf,h.nil,λad had t ht=>by
  have h0:=(h.below ((ai1 w.heap.size w).alloc (ak5 _) o)).cells ad had t ht
  exact hg.cell h0 (by
   have:=hne ad had;unfold ah7;split<;>simpa using this),λh0 ad had=>by
  have h1:=h.below ((ai1 w.heap.size w).alloc (ak5 _) o);exact(h1.kp h0 ad had).grown (h1.Hh h0 had) hg (hne ad had)⟩
theorem Kn {B:Nat} {w1 w2:ah5} {ao eP:Z'} {n ae n' cap':Nat} {ys ys':List Nat} (h:Go.Proofs.YtmenbpmciblnlaaGreatDoor.bX B w1 ao n ae ys) (h':bX w1.heap.size w2 eP n' cap' ys'):
  ∀ad,eP=some ad->some ad.block≠(ai4 ao n ae).ownBlock:=by
 intro ad had e;have h1:=(h.row.lt _ e.symm).2;rcases h'.parts with⟨h2,_⟩|⟨g,h2,h3,_⟩
 ·rw[h2]at had;cases had
 ·rw[h2]at had;obtain rfl:=Option.some.inj had;exact absurd h1 (by simp;omega)
theorem Sl.Ko [Ol] {w:ah5} {ao:Z'} {n ae:Nat} {xs:List Nat} (h:Sl w ao n ae xs) {a:Addr} (hne:∀ad,ao=some ad->ad.block≠a.block) (u:ah6):Sl (w.setCell a u) ao n ae xs:=
 ⟨h.len,h.le,h.big,h.wf,h.nil,λad had t ht=>by
  have h0:=h.cells ad had t ht;have e:(ad.add t).block=ad.block:=by unfold ah7;split<;>rfl
  rw[World.cell?_of_block (w:=w) (ai2 w a u _ (by rw[e];exact hne ad had))];exact h0,λh0 ad had=>(h.kp h0 ad had).ct (ai2 w a u _ (hne ad had))⟩
theorem IE {B g:Nat} {w:ah5} {ao:Z'} {n ae:Nat} {ys:List Nat} (h:bX B w ao n ae ys) (hg:g<B):∀ad,ao=some ad->ad.block≠g:=by
 intro ad had e;rcases h.parts with⟨h2,_⟩|⟨g',h2,h3,_⟩
 ·rw[h2]at had;cases had
 ·rw[h2]at had;obtain rfl:=Option.some.inj had;simp at e;omega
end Go.Proofs.YtmenbpmciblnlaaGreatDoor.Dg
namespace Go.Proofs.YtmenbpmciblnlaaGreatDoor
open Go.RowKit
end Go.Proofs.YtmenbpmciblnlaaGreatDoor
