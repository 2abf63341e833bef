/-
  Lists of structs of whatever size: what a slice reads, cell by cell; such a slice in memory of the call's own; append of one struct, of a list; a part of such a list.
-/
import Derived.Test.YtmenbpmciblnlaaGreatDoorGMem
import Derived.Laws.AppendOwnNone
set_option maxHeartbeats 0
set_option maxRecDepth 100000
open Array renaming getElem?_push_size->a0b,toList_append->a0a
open Go.Builtin renaming append->a0e,append_->a0c,zeroCells->a0d
open Go.Value renaming ownBlock->a0f,slice->a0g
open Go.Value.slice renaming injEq->a0h
open List renaming eq_nil_of_length_eq_zero->a0l,flatten_cons->a0i,getD->a0n,length_append->a0j,length_drop->a0o,mem_append->a0k,mem_of_mem_drop->a0p,mem_of_mem_take->a0m
open Nat renaming add_assoc->a0u,add_mul->a0q,le_refl->a0t,le_trans->a0v,mod_lt->a0w,mul_comm->a0y,mul_le_mul_right->a0x,zero_add->a0s,zero_mul->a0r
open Option.some renaming inj->a0A,injEq->a0z
namespace Go.Proofs.YtmenbpmciblnlaaGreatDoor
open Go.RowKit
def Each (sz:Nat) (bS:List (List Value)):Prop:=∀vs∈bS,vs.length=sz/\∀v∈vs,v.oneCell'=true
theorem pG {sz:Nat}:∀{bS:List (List Value)},Each sz bS->bS.flatten.length=bS.length*sz
 |[],_=>by simp
 |vs::r,h=>by
  rw[a0i,a0j,pG (λx hx=>h x (by simp[hx])),(h vs (by simp)).1,List.length_cons,a0q];omega
theorem rJ {sz:Nat}:∀{bS:List (List Value)},Each sz bS->∀t j,t<bS.length->j<sz->bS.flatten[t*sz+j]? =(bS.getD t [])[j]?
 |vs::r,h,0,j,_,hj=>by
  rw[a0i,a0r,a0s,List.getElem?_append_left (by rw[(h vs (by simp)).1];exact hj)];rfl
 |vs::r,h,t+1,j,ht,hj=>by
  have h1:=(h vs (by simp)).1;rw[a0i,List.getElem?_append_right (by rw[h1,a0q];omega),h1,show(t+1)*sz+j-sz=t*sz+j by rw[a0q];omega];exact rJ (λx hx=>h x (by simp[hx])) t j (by simpa using ht) hj
theorem Q6 {sz:Nat} {bS:List (List Value)} (h:Each sz bS):∀v∈bS.flatten,v.oneCell'=true:=by
 intro v hv;obtain⟨vs,hvs,hv⟩:=List.mem_flatten.1 hv;exact(h vs hvs).2 v hv
theorem Each.append {sz:Nat} {a b:List (List Value)} (ha:Each sz a) (hb:Each sz b):Each sz (a++b):=λvs h=>by
 rcases a0k.1 h with h|h
 ·exact ha vs h
 ·exact hb vs h
theorem Each.ZQ {sz:Nat} {vs:List Value} (h:vs.length=sz) (h1:∀v∈vs,v.oneCell'=true):Each sz [vs]:=λx hx=>by simp at hx;subst hx;exact⟨h,h1⟩
structure Gl [Ol] (sz:Nat) (w:World) (ao:Option Addr) (n cap:Nat) (bS:List (List Value)):Prop where
 len:bS.length=n
 le:n<=cap
 big:n<=4398046511104
 each:Each sz bS
 nil:ao=none->cap=0
 spot:∀ad,ao=some ad->0<cap->ad.spot=none
 lt:∀ad,ao=some ad->0<n->ad.block<w.heap.size
 cells:∀ad,ao=some ad->∀t,t<n->∀j,j<sz->w.cell? (ad.add (t*sz+j))=(bS.getD t [])[j]?
 kp:0<n->∀ad,ao=some ad->Kp w ad.block
theorem Gl.zero [Ol] (sz:Nat) (w:World):Gl sz w none 0 0 []:=
 ⟨rfl,a0t _,by omega,(λ_ h=>by cases h),(λ_=>rfl),(λ_ h=>by cases h),(λ_ h=>by cases h),(λ_ h=>by cases h),λ_ _ h=>by cases h⟩
theorem ig (a:Addr) (k:Nat):(a.add k).block=a.block:=by unfold Addr.add;split<;>rfl
theorem Gl.below [Ol] {sz:Nat} {w w':World} {ao:Option Addr} {n cap:Nat} {bS:List (List Value)} (h:Gl sz w ao n cap bS) (hb:Below w.heap.size w w'):Gl sz w' ao n cap bS:=
 ⟨h.len,h.le,h.big,h.each,h.nil,h.spot,(λad had h0=>Nat.lt_of_lt_of_le (h.lt ad had h0) hb.size),λad had t ht j hj=>by
  rw[hb.cell (by rw[ig];exact h.lt ad had (by omega))];exact h.cells ad had t ht j hj,λh0 ad had=>(h.kp h0 ad had).keep (hb.block _ (h.lt ad had h0))⟩
theorem Gl.at [Ol] {sz:Nat} {w:World} {ao:Option Addr} {n cap:Nat} {bS:List (List Value)} (h:Gl sz w ao n cap bS) (hn:0<n):
  ∃b off,ao=some ⟨b,off,none⟩/\ b<w.heap.size/\∀V:World,Below w.heap.size w V->∀t,t<n->∀j,j<sz->V.cell? ⟨b,off+t*sz+j,none⟩=(bS.getD t [])[j]? :=by
 cases hao:ao with
 |none=>have:=h.nil hao;have:=h.le;omega
 |some ad=>
  obtain⟨b,off,s⟩:=ad;have hs:s=none:=h.spot _ hao (by have:=h.le;omega);subst hs;refine⟨b,off,rfl,h.lt _ hao hn,λV hV t ht j hj=>?_⟩;have:=(h.below hV).cells _ hao t ht j hj;rwa[Addr.add_lit,<-a0u]at this
theorem Gl.of_cells [Ol] {sz:Nat} {w:World} {b off n cap:Nat} {bS:List (List Value)} (h1:bS.length=n) (h2:n<=cap) (h3:n<=4398046511104) (h4:Each sz bS) (hb:0<n->b<w.heap.size) (h5:0<n->Kp w b)
  (hc:∀t,t<n->∀j,j<sz->w.cell? ⟨b,off+t*sz+j,none⟩=(bS.getD t [])[j]?):Gl sz w (some ⟨b,off,none⟩) n cap bS:=
 ⟨h1,h2,h3,h4,(λh=>by cases h),(λad had _=>by cases had;rfl),(λad had h0=>by cases had;exact hb h0),λad had t ht j hj=>by cases had;rw[Addr.add_lit,<-a0u];exact hc t ht j hj,λh0 ad had=>by cases had;exact h5 h0⟩
theorem Gl.empty [Ol] {sz:Nat} {w:World} {ao:Option Addr} {n cap:Nat} {bS:List (List Value)} (h:Gl sz w ao n cap bS) (hn:n=0):bS=[]:=a0l (by rw[h.len,hn])
theorem Gl.take [Ol] {sz:Nat} {w:World} {ao:Option Addr} {n cap:Nat} {bS:List (List Value)} (h:Gl sz w ao n cap bS) (k:Nat) (hk:k<=n):Gl sz w ao k cap (bS.take k):=by
 refine⟨by rw[List.length_take,h.len];omega,a0v hk h.le,a0v hk h.big,λvs hv=>h.each vs (a0m hv),h.nil,h.spot,λad had h0=>h.lt ad had (by omega),λad had t ht j hj=>?_,λh0 ad had=>h.kp (by omega) ad had⟩;rw[h.cells ad had t (by omega) j hj];simp[a0n,ht]
def Q7 (b off sz k cap:Nat):Option Addr:=if cap=k then some ⟨b,off,none⟩else some ⟨b,off+k*sz,none⟩
theorem Gl.drop [Ol] {sz:Nat} {w:World} {b off n cap:Nat} {bS:List (List Value)} (h:Gl sz w (some ⟨b,off,none⟩) n cap bS) (k:Nat) (hk:k<=n):Gl sz w (Q7 b off sz k cap) (n-k) (cap-k) (bS.drop k):=by
 have hle:=h.le;have hbig:=h.big;unfold Q7;by_cases hc:cap=k
 ·rw[if_pos hc];have hn:n=k:=by omega
  subst hn;rw[List.drop_eq_nil_of_le (by rw[h.len];exact a0t _),Nat.sub_self];exact⟨rfl,Nat.zero_le _,by omega,(λ_ h=>by cases h),(λh=>by cases h),(λad had _=>by cases had;rfl),(λ_ _ h0=>by omega),(λ_ _ t ht=>by omega),λh0=>by omega⟩
 ·rw[if_neg hc];refine Gl.of_cells (by rw[a0o,h.len]) (by omega) (by omega) (λvs hv=>h.each vs (a0p hv)) (λh0=>h.lt _ rfl (by omega)) (λh0=>h.kp (by omega) _ rfl) λt ht j hj=>?_
  have:=h.cells _ rfl (k+t) (by omega) j hj;rw[Addr.add_lit]at this;rw[show off+k*sz+t*sz+j=off+((k+t)*sz+j)by rw[a0q];omega,this];simp[a0n]
theorem Gl.cast [Ol] {sz:Nat} {w:World} {ao:Option Addr} {n cap n' cap':Nat} {bS:List (List Value)} (h:Gl sz w ao n cap bS) (e:n=n') (e2:cap=cap'):Gl sz w ao n' cap' bS:=by subst e;subst e2;exact h
theorem Gl.Ev [Ol] {sz:Nat} {w:World} {ao:Option Addr} {n cap:Nat} {bS:List (List Value)} (h:Gl sz w ao n cap bS) (k:Nat) (hk:k<=n) (hc:cap=k):Gl sz w ao (n-k) (cap-k) (bS.drop k):=by
 have hle:=h.le;have hbig:=h.big;exact⟨by rw[a0o,h.len],by omega,by omega,(λvs hv=>h.each vs (a0p hv)),(λ_=>by omega),(λ_ _ h0=>by omega),(λ_ _ h0=>by omega),(λ_ _ t ht=>by omega),λh0=>by omega⟩
theorem Gl.xA [Ol] {sz:Nat} {w:World} {b off n cap:Nat} {bS:List (List Value)} (h:Gl sz w (some ⟨b,off,none⟩) n cap bS) (k:Nat) (hk:k<=n) (hc:cap≠k):Gl sz w (some ⟨b,off+k*sz,none⟩) (n-k) (cap-k) (bS.drop k):=by
 have:=h.drop k hk;unfold Q7 at this;rwa[if_neg hc]at this
theorem xL {P:Program} (w:World) (base:Nat) (t ty e:TypeId) (i:TypeInfo) (z:Value) (size bytes:Nat) (ht:P.underlying t=some (.slice e)) (hi:P.info? e=some i) (hz:i.zero=some z)
  (hsize:i.size=size) (hby:i.bytes=bytes) (hzs:z.cells.size=size) (hsz:0<size)
  (v:Value) (n:Nat) (xs:List Value) (hown:w.ownsRow base e size v n xs)
  (a:Addr) (m c:Nat) (news:List Value) (hl:news.length=m*size) (hnews:∀j u,news[j]? =some u->w.cell? (a.add j)=some u) (h1:∀u∈news,u.oneCell'=true)
  (h63:n+m<=maxLen) (hbytes:(n+m)*bytes<=140737488355328) (hbase:base<=w.heap.size)
  (cx:∀g,v.ownBlock=some g->eO w g) (cn:∀u∈news,bF u=true) (cz:∀u∈z.cells.toList,bF u=true):
  ∃v' w',(a0c #[t,t] ty #[v,a0g (some a) m c]).run P w= .ok v' w'/\ w'.ownsRow base e size v' (n+m) (xs++news)/\ w.grownBy w' v.ownBlock/\∀g,v'.ownBlock=some g->eO w' g:=by
 obtain⟨v',w',hr,h2,h3,_⟩:=run_append_own (P:=P) w base t ty e i z size bytes ht hi hz hsize hby hzs hsz v n xs hown a m c news hl hnews h1 h63 hbytes hbase;refine⟨v',w',hr,h2,h3,λg hg=>?_⟩;subst hsize;subst hby
 have hzc:∀k,∀u∈(a0d z.cells k).toList,bF u=true:=by
  intro k u hu;simp only[a0d,Array.toList_map,List.mem_map]at hu;obtain⟨j,_,rfl⟩:=hu;have hj:j%z.cells.size<z.cells.size:=a0w _ (by omega);rw[getElem!_pos z.cells _ hj];exact cz _ (Array.mem_toList_iff.2 (Array.getElem_mem hj))
 rcases hown.2 with⟨rfl,rfl⟩|⟨g0,cap,cur,rfl,hbg,hgg,hnc,hcm,hcs,htake⟩
 ·have hx:xs=[]:=a0l (by simpa using hown.1);subst hx;by_cases hm:m=0
  ·subst hm;have hn:news=[]:=a0l (by simpa using hl);subst hn
   have hr2:(a0c #[t,t] ty #[a0g none 0 0,a0g (some a) 0 c]).run P w= .ok (a0g none 0 0) w:=by
    simp[a0c,run_underlying ht,sizeOf,typeInfo,hi,Builtin.lenOf,Builtin.firstCells,loadCells,loadCellsFrom]
   rw[hr]at hr2;cases hr2;simp[a0f]at hg
  ·have hr2:=run_append_nil (P:=P) w t ty e i z ht hi hz a m c news hl hnews (by omega) (by unfold maxLen at h63;omega) (by have hb:=hbytes;simp only[a0s]at hb;omega);rw[hr]at hr2;cases hr2;simp only[a0f,a0z]at hg;subst hg;refine eO.alloc w.drew _ _ λu hu=>?_
   simp only[a0a,a0k]at hu;rcases hu with hu|hu
   ·exact cn u hu
   ·exact hzc _ u hu
 ·have hcur:∀u∈cur.toList,bF u=true:=cx g0 rfl cur e (0,0) hgg;by_cases hroom:n+m<=cap
  ·have hfit:n*i.size+news.length<=cur.size:=by rw[hl,hcs,<-a0q];exact a0x _ hroom
   have hr2:=run_append_room (P:=P) w t ty e i ht hi g0 n cap cur hgg a m c news hl hnews h1 hroom hfit;rw[hr]at hr2;cases hr2;simp only[a0f,a0z]at hg;subst hg;intro cur' T' fr' hh;rw[setRow_heap w g0 cur _ e _ hgg]at hh;cases hh;intro u hu;simp only[a0k]at hu;rcases hu with(hu|hu)|hu
   ·exact hcur u (a0m hu)
   ·exact cn u hu
   ·exact hcur u (a0p hu)
  ·have holds:∀j u,xs[j]? =some u->w.cell? ((⟨g0,0,none⟩:Addr).add j)=some u:=hown.cells (g:=g0) rfl;have hr2:=run_append_grow (P:=P) w t ty e i z ht hi hz ⟨g0,0,none⟩ n cap xs hown.1 holds a m c news hl hnews (by omega) (by unfold maxLen at h63;omega) (growslice_fits (by omega) hbytes);rw[hr]at hr2;cases hr2;simp only[a0f,a0z]at hg;subst hg;refine eO.alloc w.drew _ _ λu hu=>?_
   simp only[a0a,a0k]at hu;rcases hu with(hu|hu)|hu
   ·rw[<-htake]at hu;exact hcur u (a0m hu)
   ·exact cn u hu
   ·exact hzc _ u hu
structure jb (B:Nat) (e:TypeId) (sz:Nat) (w:World) (ao:Option Addr) (n cap:Nat) (bS:List (List Value)):Prop where
 row:w.ownsRow B e sz (a0g ao n cap) n bS.flatten
 len:bS.length=n
 big:n<=4398046511104
 each:Each sz bS
 C9:∀g,(a0g ao n cap).ownBlock=some g->eO w g
theorem jb.nil (B:Nat) (e:TypeId) (sz:Nat) (w:World):jb B e sz w none 0 0 []:=
 ⟨World.ownsRow_nil _ _ _ _,rfl,by omega,(λ_ h=>by cases h),λ_ h=>by cases h⟩
theorem jb.parts {B:Nat} {e:TypeId} {sz:Nat} {w:World} {ao:Option Addr} {n cap:Nat} {bS:List (List Value)} (h:jb B e sz w ao n cap bS):
  (ao=none/\ n=0/\ cap=0/\ bS=[])∨ ∃g cur,ao=some ⟨g,0,none⟩/\ B<=g/\ g<w.heap.size/\ n<=cap/\ w.heap[g]? =some (.cells cur e (0,0)):=by
 rcases h.row.2 with⟨hv,h0⟩|⟨g,cap',cur,hv,hg,hh,hn,_⟩
 ·simp only[a0h]at hv;exact .inl ⟨hv.1,hv.2.1,hv.2.2,a0l (by rw[h.len,h0])⟩
 ·simp only[a0h,true_and]at hv;obtain⟨rfl,rfl⟩:=hv;exact .inr ⟨g,cur,rfl,hg,lt_of_block hh,hn,hh⟩
theorem jb.gl [Ol] {B:Nat} {e:TypeId} {sz:Nat} {w:World} {ao:Option Addr} {n cap:Nat} {bS:List (List Value)} (h:jb B e sz w ao n cap bS):Gl sz w ao n cap bS:=by
 rcases h.parts with⟨rfl,rfl,rfl,rfl⟩|⟨g,cur,rfl,hg,hlt,hn,_⟩
 ·exact Gl.zero sz w
 ·refine Gl.of_cells h.len hn h.big h.each (λ_=>hlt) (λ_=>Kp.C9 (h.C9 g rfl)) λt ht j hj=>?_
  have hl:t*sz+j<n*sz:=by
   have:(t+1)*sz<=n*sz:=a0x _ ht;rw[a0q]at this;omega
  rw[a0s,h.row.cellAt (t*sz+j) hl,rJ h.each t j (by rw[h.len];exact ht) hj]
theorem jb.keep {B:Nat} {e:TypeId} {sz:Nat} {w w':World} {ao:Option Addr} {n cap:Nat} {bS:List (List Value)} (h:jb B e sz w ao n cap bS) (hb:∀a,ao=some a->w'.heap[a.block]? =w.heap[a.block]?):jb B e sz w' ao n cap bS:=by
 refine⟨⟨h.row.1,?_⟩,h.len,h.big,h.each,λg hg=>?_⟩
 ·rcases h.row.2 with h2|⟨g,cap',cur,hv,hg,hh,r⟩
  ·exact .inl h2
  ·simp only[a0h,true_and]at hv;obtain⟨rfl,rfl⟩:=hv;exact .inr ⟨g,cap,cur,rfl,hg,by rw[hb _ rfl];exact hh,r⟩
 ·refine(h.C9 g hg).keep ?_;cases ao with
  |none=>cases hg
  |some a=>
   simp only[a0f,a0z]at hg;subst hg;exact hb a rfl
theorem jb.below {B:Nat} {e:TypeId} {sz:Nat} {w w':World} {ao:Option Addr} {n cap:Nat} {bS:List (List Value)} (h:jb B e sz w ao n cap bS) (hb:Below w.heap.size w w'):jb B e sz w' ao n cap bS:=
 h.keep λa ha=>by
  rcases h.parts with⟨h1,_⟩|⟨g,cur,h1,_,hlt,_⟩
  ·rw[h1]at ha;cases ha
  ·rw[h1]at ha;cases ha;exact hb.block g hlt
theorem jb.mono {B B':Nat} {e:TypeId} {sz:Nat} {w:World} {ao:Option Addr} {n cap:Nat} {bS:List (List Value)} (h:jb B e sz w ao n cap bS) (hB:B'<=B):jb B' e sz w ao n cap bS:=by
 refine⟨⟨h.row.1,?_⟩,h.len,h.big,h.each,h.C9⟩;rcases h.row.2 with h2|⟨g,cap',cur,hv,hg,r⟩
 ·exact .inl h2
 ·exact .inr ⟨g,cap',cur,hv,by omega,r⟩
theorem GU {w:World} {base:Nat} {e:TypeId} {v:Value} {n s:Nat} {xs:List Value} (h:w.ownsRow base e s v n xs):∃ao cap,v=a0g ao n cap:=by
 rcases h.2 with⟨hv,h0⟩|⟨g,cap,cur,hv,_⟩
 ·exact⟨none,0,by rw[hv,h0]⟩
 ·exact⟨_,_,hv⟩
theorem vT [Ol] {P:Program} (wa w0:World) {o:Oper} {a:Act} {K:Act->World->Prop} {Q:Exit->Act->World->Prop}
  (s x:Operand) (t:TypeId) (hop:o.op=Op.call { callee:=Callee.builtin a0e,args:= #[s,x],argTypes:= #[t,t] })
  (B:Nat) (e:TypeId) (sz bytes:Nat) (i:TypeInfo) (z:Value) (h1:P.underlying t=some (.slice e)) (h2:P.info? e=some i) (h3:i.zero=some z) (h4:i.size=sz) (h5:i.bytes=bytes) (h6:z.cells.size=sz) (hsz:0<sz)
  (Nt:Option Addr) (ns caps:Nat) (zs:List (List Value)) (hs:a.eval s=a0g Nt ns caps) (hO:jb B e sz wa Nt ns caps zs) (ao:Option Addr) (n cap:Nat) (xs:List (List Value)) (hx:a.eval x=a0g ao n cap) (hS:Gl sz wa ao n cap xs)
  (hb:Below B w0 wa) (hB:B<=wa.heap.size) (hr1:ns+n<=4398046511104) (hr2:(ns+n)*bytes<=140737488355328) (cz:∀u∈z.cells.toList,bF u=true) (cn:∀u∈xs.flatten,bF u=true)
  (hK:∀gu cap' w',jb B e sz w' gu (ns+n) cap' (zs++xs)->Below B w0 w'->wa.grownBy w' (a0g Nt ns caps).ownBlock->K (a.put o.dst (a0g gu (ns+n) cap')) w'):
  Oper.wp P o a wa K Q:=by
 cases ao with
 |none=>
  have hn:n=0:=by have:=hS.nil rfl;have:=hS.le;omega
  have hc:cap=0:=hS.nil rfl;subst hn;subst hc;have hxs:xs=[]:=hS.empty rfl;subst hxs;have hrun:=run_append_owned_none (P:=P) wa B t o.type e i sz h1 h2 _ ns zs.flatten hO.row;unfold Oper.wp;simp[execOp,hop,resolve,invoke,builtin,hs,hx,hrun,Result.andThen];have hk:=hK Nt caps wa (by simpa using hO) hb (World.grownBy.refl _ _);rw[Nat.add_zero]at hk;exact hk
 |some ad=>
  have hnews:∀j u,xs.flatten[j]? =some u->wa.cell? (ad.add j)=some u:=by
   intro j u hj;have hjl:j<n*sz:=by have:=(List.getElem?_eq_some_iff.1 hj).1;rwa[pG hS.each,hS.len]at this
   have hq:j/sz<n:=Nat.div_lt_of_lt_mul (by rw[a0y];exact hjl);have hm:j%sz<sz:=a0w _ hsz;have he:j/sz*sz+j%sz=j:=by rw[a0y];exact Nat.div_add_mod j sz
   have hc:=hS.cells ad rfl (j/sz) hq (j%sz) hm;rw[he]at hc;rw[hc,<-rJ hS.each (j/sz) (j%sz) (by rw[hS.len];exact hq) hm,he,hj]
  obtain⟨v',w',hr,hown',hgrow,hcl⟩:=xL (P:=P) wa B t o.type e i z sz bytes h1 h2 h3 h4 h5 h6 hsz _ ns zs.flatten hO.row ad n cap xs.flatten (by rw[pG hS.each,hS.len]) hnews (Q6 hS.each) (by unfold maxLen;omega) hr2 hB hO.C9 cn cz;obtain⟨gu,cap',rfl⟩:=GU hown';unfold Oper.wp execOp;simp only[hop,resolve,invoke,builtin,Sem.run_bind,Sem.run_pure,Result.andThen_ok,List.map_toArray,List.map_cons,List.map_nil,hs,hx,hr];exact hK gu cap' w' ⟨by rw[List.flatten_append];exact hown',by rw[a0j,hO.len,hS.len],hr1,hO.each.append hS.each,hcl⟩ (hb.grown hgrow hB λk hk=>(hO.row.lt k hk).1) hgrow
theorem dV [Ol] {P:Program} (wa w0:World) {ops:Array Oper} {rest:List Oper} {o:Oper} {a:Act} {Q:Exit->Act->World->Prop}
  (hg:o.guard=none) (s x:Operand) (t:TypeId) (hop:o.op=Op.call { callee:=Callee.builtin a0e,args:= #[s,x],argTypes:= #[t,t] })
  (B:Nat) (e:TypeId) (sz bytes:Nat) (i:TypeInfo) (z:Value) (h1:P.underlying t=some (.slice e)) (h2:P.info? e=some i) (h3:i.zero=some z) (h4:i.size=sz) (h5:i.bytes=bytes) (h6:z.cells.size=sz) (hsz:0<sz)
  (Nt:Option Addr) (ns caps:Nat) (zs:List (List Value)) (hs:a.eval s=a0g Nt ns caps) (hO:jb B e sz wa Nt ns caps zs) (ao:Option Addr) (n cap:Nat) (xs:List (List Value)) (hx:a.eval x=a0g ao n cap) (hS:Gl sz wa ao n cap xs)
  (hb:Below B w0 wa) (hB:B<=wa.heap.size) (hr1:ns+n<=4398046511104) (hr2:(ns+n)*bytes<=140737488355328) (cz:∀u∈z.cells.toList,bF u=true) (cn:∀u∈xs.flatten,bF u=true)
  (hK:∀gu cap' w',jb B e sz w' gu (ns+n) cap' (zs++xs)->Below B w0 w'->wa.grownBy w' (a0g Nt ns caps).ownBlock->wpList P ops Q rest (a.put o.dst (a0g gu (ns+n) cap')) w'):
  wpList P ops Q (o::rest) a wa:=
 wpList_plain hg λ_ hK'=>vT wa w0 s x t hop B e sz bytes i z h1 h2 h3 h4 h5 h6 hsz Nt ns caps zs hs hO ao n cap xs hx hS hb hB hr1 hr2 cz cn λgu cap' w' x1 x2 x3=>hK' _ _ (hK gu cap' w' x1 x2 x3)
theorem Gl.lit [Ol] (sz:Nat) (w:World) (vs:List Value) (T:TypeId) (h:vs.length=sz) (h1:∀v∈vs,v.oneCell'=true) (h2:∀v∈vs,bF v=true:=by intro v hv;simp at hv;(try rcases hv with rfl|rfl|rfl)<;>(try subst hv)<;>rfl):Gl sz (w.alloc (.cells vs.toArray T)) (some ⟨w.heap.size,0,none⟩) 1 1 [vs]:=by
 refine Gl.of_cells rfl (a0t _) (by omega) (Each.ZQ h h1) (λ_=>by simp) (λ_=>Kp.C9 (eO.alloc w _ T (by simpa using h2))) λt ht j hj=>?_
 obtain rfl:t=0:=by omega
 rw[a0s,a0r,a0s]
 have hh:(w.alloc (.cells vs.toArray T)).heap[w.heap.size]? =some (.cells vs.toArray T (0,0)):=by
  show(w.heap.push _)[w.heap.size]? =_;rw[a0b]
 simp only[World.cell?,hh];simp
theorem fB [Ol] {P:Program} (w w0:World) {ops:Array Oper} {rest:List Oper} {o:Oper} {a:Act} {Q:Exit->Act->World->Prop}
  (hg:o.guard=none) (s x:Operand) (t:TypeId) (hop:o.op=Op.call { callee:=Callee.builtin a0e,args:= #[s,x],argTypes:= #[t,t] })
  (B:Nat) (e:TypeId) (sz bytes:Nat) (i:TypeInfo) (z:Value) (h1:P.underlying t=some (.slice e)) (h2:P.info? e=some i) (h3:i.zero=some z) (h4:i.size=sz) (h5:i.bytes=bytes) (h6:z.cells.size=sz) (hsz:0<sz)
  (ao:Option Addr) (n cap:Nat) (bS:List (List Value)) (hs:a.eval s=a0g ao n cap) (hown:jb B e sz w ao n cap bS)
  (vs:List Value) (hv:vs.length=sz) (hv1:∀v∈vs,v.oneCell'=true) (cz:∀u∈z.cells.toList,bF u=true) (cn:∀u∈vs,bF u=true) (tt:TypeId) (hx:a.eval x=a0g (some ⟨w.heap.size,0,none⟩) 1 1) (hb:Below B w0 w) (hB:B<=w.heap.size) (b1:n+1<=4398046511104) (b2:(n+1)*bytes<=140737488355328)
  (hK:∀gu cap' w',jb B e sz w' gu (n+1) cap' (bS++[vs])->Below B w0 w'->(w.alloc (.cells vs.toArray tt)).grownBy w' (a0g ao n cap).ownBlock->wpList P ops Q rest (a.put o.dst (a0g gu (n+1) cap')) w'):
  wpList P ops Q (o::rest) a (w.alloc (.cells vs.toArray tt)):=
 dV (w.alloc (.cells vs.toArray tt)) w0 hg s x t hop B e sz bytes i z h1 h2 h3 h4 h5 h6 hsz ao n cap bS hs (hown.below (af w _)) _ 1 1 [vs] hx (Gl.lit sz w vs tt hv hv1 cn) (hb.alloc hB _) (by simp;omega) b1 b2 cz (by simpa using cn) hK
theorem jb.stays {B:Nat} {e:TypeId} {sz:Nat} {w w':World} {ao:Option Addr} {n cap:Nat} {bS:List (List Value)} (h:jb B e sz w ao n cap bS) (hG:w.grownBy w' (a0g ao n cap).ownBlock) {k:IntKind} {x:Int} {ad:Addr} (hc:w.cell? ad=some (.int k x)):w'.cell? ad=some (.int k x):=
 hG.cell hc λeq=>(h.C9 _ eq.symm).far hc rfl
def bD (w:World) (b:Nat) (vs:List Value) (T:TypeId):Prop:=w.heap[b]? =some (.cells vs.toArray T (0,0))
theorem bD.lt {w:World} {b:Nat} {vs:List Value} {T:TypeId} (h:bD w b vs T):b<w.heap.size:=lt_of_block h
theorem bD.cell {w:World} {b:Nat} {vs:List Value} {T:TypeId} (h:bD w b vs T) (j:Nat):w.cell? ⟨b,j,none⟩=vs[j]? :=by
 unfold bD at h;simp[World.cell?,h]
theorem bD.fz {w:World} {b:Nat} {vs:List Value} {T:TypeId} (h:bD w b vs T) (j:Nat):w.frozen? ⟨b,j,none⟩=false:=by
 unfold bD at h;simp[World.frozen?,h]
theorem bD.new (w:World) (vs:List Value) (T:TypeId):bD (w.alloc (.cells vs.toArray T)) w.heap.size vs T:=by
 show(w.heap.push _)[w.heap.size]? =_;rw[a0b]
theorem bD.keep {w w':World} {b:Nat} {vs:List Value} {T:TypeId} (h:bD w b vs T) (e:w'.heap[b]? =w.heap[b]?):bD w' b vs T:=e.trans h
theorem bD.below {w w':World} {b:Nat} {vs:List Value} {T:TypeId} (h:bD w b vs T) (hb:Below w.heap.size w w'):bD w' b vs T:=h.keep (hb.block b h.lt)
theorem bD.set {w:World} {b:Nat} {vs:List Value} {T:TypeId} (h:bD w b vs T) (o:Nat) (u:Value):bD (w.setCell ⟨b,o,none⟩ u) b (vs.set o u) T:=by
 unfold bD at h ⊢;simp[World.setCell,Array.getElem?_modify,h]
theorem bD.far {w:World} {b c:Nat} {vs:List Value} {T:TypeId} (h:bD w b vs T) (hc:c≠b) (o:Nat) (u:Value):bD (w.setCell ⟨c,o,none⟩ u) b vs T:=
 h.keep (Below.heap_setCell _ _ _ _ (λe=>hc e.symm))
theorem bD.grown {B:Nat} {e:TypeId} {sz:Nat} {w w':World} {ao:Option Addr} {n cap:Nat} {bS:List (List Value)} {b:Nat} {vs:List Value} {T:TypeId} (h:bD w b vs T) (hM:jb B e sz w ao n cap bS) (hT:T≠e) (hG:w.grownBy w' (a0g ao n cap).ownBlock):bD w' b vs T:=by
 refine h.keep (hG.block b h.lt λeq=>?_);rcases hM.parts with⟨rfl,_⟩|⟨g,cur,rfl,_,_,_,hh⟩
 ·cases eq
 ·have e':b=g:=a0A eq;subst e';unfold bD at h;rw[h]at hh;cases hh;exact hT rfl
theorem jb.far {B:Nat} {e:TypeId} {sz:Nat} {w:World} {ao:Option Addr} {n cap:Nat} {bS:List (List Value)} (h:jb B e sz w ao n cap bS) {b:Nat} {vs:List Value} {T:TypeId} (hc:bD w b vs T) (hT:T≠e) (o:Nat) (u:Value):jb B e sz (w.setCell ⟨b,o,none⟩ u) ao n cap bS:=by
 refine h.keep λa ha=>Below.heap_setCell _ _ _ _ λeq=>?_
 rcases h.parts with⟨h1,_⟩|⟨g,cur,h1,_,_,_,hh⟩
 ·rw[h1]at ha;cases ha
 ·rw[h1]at ha;cases ha;have e':g=b:=eq;subst e';unfold bD at hc;rw[hc]at hh;cases hh;exact hT rfl
end Go.Proofs.YtmenbpmciblnlaaGreatDoor
