import Derived.Test.YtmenbpmciblnlaaGreatDoorGMem
import Derived.Laws.AppendOwnNone
set_option maxHeartbeats 0
set_option maxRecDepth 100000
open Array renaming getElem?_push_size->ah6,toList_append->ah5
open Go renaming Value->ah8,World->ah7
open Go.Builtin renaming append->ai1,append_->ah9,zeroCells->ai0
open Go.Value renaming ownBlock->ai2,slice->ai3
open Go.Value.slice renaming injEq->ai4
open List renaming eq_nil_of_length_eq_zero->ai9,flatten_cons->ai5,getD->ai8,length_append->ai6,length_drop->aj0,mem_append->ai7,mem_of_mem_drop->aj1,mem_of_mem_take->aj2
open Nat renaming add_assoc->aj7,add_mul->aj3,le_refl->aj6,mod_lt->aj8,mul_comm->ak0,mul_le_mul_right->aj9,zero_add->aj5,zero_mul->aj4
open Option.some renaming inj->ak2,injEq->ak1
namespace Go.Proofs.YtmenbpmciblnlaaGreatDoor
open Go.RowKit
def Each (sz:Nat) (bF:List (List ah8)):Prop:=∀vs∈bF,vs.length=sz/\∀v∈vs,v.oneCell'=true
theorem kO {sz:Nat}:∀{bF:List (List ah8)},Each sz bF->bF.flatten.length=bF.length*sz
 |[],_=>by simp
 |vs::r,h=>by
  rw[ai5,ai6,kO (λx hx=>h x (by simp[hx])),(h vs (by simp)).1,List.length_cons,aj3];omega
theorem oM {sz:Nat}:∀{bF:List (List ah8)},Each sz bF->∀t j,t<bF.length->j<sz->bF.flatten[t*sz+j]? =(bF.getD t [])[j]?
 |vs::r,h,0,j,_,hj=>by
  rw[ai5,aj4,aj5,List.getElem?_append_left (by rw[(h vs (by simp)).1];exact hj)];rfl
 |vs::r,h,t+1,j,ht,hj=>by
  have h1:=(h vs (by simp)).1;rw[ai5,List.getElem?_append_right (by rw[h1,aj3];omega),h1,show(t+1)*sz+j-sz=t*sz+j by rw[aj3];omega];exact oM (λx hx=>h x (by simp[hx])) t j (by simpa using ht) hj
theorem CS {sz:Nat} {bF:List (List ah8)} (h:Each sz bF):∀v∈bF.flatten,v.oneCell'=true:=by
 intro v hv;obtain⟨vs,hvs,hv⟩:=List.mem_flatten.1 hv;exact(h vs hvs).2 v hv
theorem Each.append {sz:Nat} {a b:List (List ah8)} (ha:Each sz a) (hb:Each sz b):Each sz (a++b):=λvs h=>by
 rcases ai7.1 h with h|h
 ·exact ha vs h
 ·exact hb vs h
theorem Each.YA {sz:Nat} {vs:List ah8} (h:vs.length=sz) (h1:∀v∈vs,v.oneCell'=true):Each sz [vs]:=λx hx=>by simp at hx;subst hx;exact⟨h,h1⟩
theorem zh {bF:List (List ah8)} {t:Nat} (h:t<bF.length):bF.getD t []∈bF:=by
 simp only[ai8,List.getElem?_eq_getElem h,Option.getD_some];exact List.getElem_mem h
structure Gl [Ol] (sz:Nat) (w:ah7) (ao:Option Addr) (n ae:Nat) (bF:List (List ah8)):Prop where
 len:bF.length=n
 le:n<=ae
 big:n<=4398046511104
 each:Each sz bF
 nil:ao=none->ae=0
 spot:∀ad,ao=some ad->0<ae->ad.spot=none
 lt:∀ad,ao=some ad->0<n->ad.block<w.heap.size
 cells:∀ad,ao=some ad->∀t,t<n->∀j,j<sz->w.cell? (ad.add (t*sz+j))=(bF.getD t [])[j]?
 kp:0<n->∀ad,ao=some ad->Kp w ad.block
theorem Gl.zero [Ol] (sz:Nat) (w:ah7):Gl sz w none 0 0 []:=
 ⟨rfl,aj6 _,by omega,(λ_ h=>by cases h),(λ_=>rfl),(λ_ h=>by cases h),(λ_ h=>by cases h),(λ_ h=>by cases h),λ_ _ h=>by cases h⟩
theorem eA (a:Addr) (k:Nat):(a.add k).block=a.block:=by unfold Addr.add;split<;>rfl
theorem Gl.below [Ol] {sz:Nat} {w w':ah7} {ao:Z'} {n ae:Nat} {bF:List (List ah8)} (h:Gl sz w ao n ae bF) (hb:Below w.heap.size w w'):Gl sz w' ao n ae bF:=
 ⟨h.len,h.le,h.big,h.each,h.nil,h.spot,(λad had h0=>Nat.lt_of_lt_of_le (h.lt ad had h0) hb.size),λad had t ht j hj=>by
  rw[hb.cell (by rw[eA];exact h.lt ad had (by omega))];exact h.cells ad had t ht j hj,λh0 ad had=>(h.kp h0 ad had).ct (hb.block _ (h.lt ad had h0))⟩
theorem Gl.at [Ol] {sz:Nat} {w:ah7} {ao:Z'} {n ae:Nat} {bF:List (List ah8)} (h:Gl sz w ao n ae bF) (hn:0<n):
  ∃b off,ao=some ⟨b,off,none⟩/\ b<w.heap.size/\∀V:ah7,Below w.heap.size w V->∀t,t<n->∀j,j<sz->V.cell? ⟨b,off+t*sz+j,none⟩=(bF.getD t [])[j]? :=by
 cases hao:ao with
 |none=>have:=h.nil hao;have:=h.le;omega
 |some ad=>
  obtain⟨b,off,s⟩:=ad;have hs:s=none:=h.spot _ hao (by have:=h.le;omega);subst hs;refine⟨b,off,rfl,h.lt _ hao hn,λV hV t ht j hj=>?_⟩;have:=(h.below hV).cells _ hao t ht j hj;rwa[Addr.add_lit,<-aj7]at this
theorem Gl.eK [Ol] {sz:Nat} {w:ah7} {b off n ae:Nat} {bF:List (List ah8)} (h1:bF.length=n) (h2:n<=ae) (h3:n<=4398046511104) (h4:Each sz bF) (hb:0<n->b<w.heap.size) (h5:0<n->Kp w b)
  (hc:∀t,t<n->∀j,j<sz->w.cell? ⟨b,off+t*sz+j,none⟩=(bF.getD t [])[j]?):Gl sz w (some ⟨b,off,none⟩) n ae bF:=
 ⟨h1,h2,h3,h4,(λh=>by cases h),(λad had _=>by cases had;rfl),(λad had h0=>by cases had;exact hb h0),λad had t ht j hj=>by cases had;rw[Addr.add_lit,<-aj7];exact hc t ht j hj,λh0 ad had=>by cases had;exact h5 h0⟩
theorem Gl.empty [Ol] {sz:Nat} {w:ah7} {ao:Z'} {n ae:Nat} {bF:List (List ah8)} (h:Gl sz w ao n ae bF) (hn:n=0):bF=[]:=ai9 (by rw[h.len,hn])
def MV (b off sz k ae:Nat):Option Addr:=if ae=k then some ⟨b,off,none⟩else some ⟨b,off+k*sz,none⟩
theorem Gl.drop [Ol] {sz:Nat} {w:ah7} {b off n ae:Nat} {bF:List (List ah8)} (h:Gl sz w (some ⟨b,off,none⟩) n ae bF) (k:Nat) (hk:k<=n):Gl sz w (MV b off sz k ae) (n-k) (ae-k) (bF.drop k):=by
 have hle:=h.le;have hbig:=h.big;unfold MV;by_cases hc:ae=k
 ·rw[if_pos hc];have hn:n=k:=by omega
  subst hn;rw[List.drop_eq_nil_of_le (by rw[h.len];exact aj6 _),Nat.sub_self];exact⟨rfl,Nat.zero_le _,by omega,(λ_ h=>by cases h),(λh=>by cases h),(λad had _=>by cases had;rfl),(λ_ _ h0=>by omega),(λ_ _ t ht=>by omega),λh0=>by omega⟩
 ·rw[if_neg hc];refine Gl.eK (by rw[aj0,h.len]) (by omega) (by omega) (λvs hv=>h.each vs (aj1 hv)) (λh0=>h.lt _ rfl (by omega)) (λh0=>h.kp (by omega) _ rfl) λt ht j hj=>?_
  have:=h.cells _ rfl (k+t) (by omega) j hj;rw[Addr.add_lit]at this;rw[show off+k*sz+t*sz+j=off+((k+t)*sz+j)by rw[aj3];omega,this];simp[ai8]
theorem Gl.cast [Ol] {sz:Nat} {w:ah7} {ao:Z'} {n ae n' cap':Nat} {bF:List (List ah8)} (h:Gl sz w ao n ae bF) (e:n=n') (e2:ae=cap'):Gl sz w ao n' cap' bF:=by subst e;subst e2;exact h
theorem Gl.AK [Ol] {sz:Nat} {w:ah7} {ao:Z'} {n ae:Nat} {bF:List (List ah8)} (h:Gl sz w ao n ae bF) (k:Nat) (hk:k<=n) (hc:ae=k):Gl sz w ao (n-k) (ae-k) (bF.drop k):=by
 have hle:=h.le;have hbig:=h.big;exact⟨by rw[aj0,h.len],by omega,by omega,(λvs hv=>h.each vs (aj1 hv)),(λ_=>by omega),(λ_ _ h0=>by omega),(λ_ _ h0=>by omega),(λ_ _ t ht=>by omega),λh0=>by omega⟩
theorem Gl.tA [Ol] {sz:Nat} {w:ah7} {b off n ae:Nat} {bF:List (List ah8)} (h:Gl sz w (some ⟨b,off,none⟩) n ae bF) (k:Nat) (hk:k<=n) (hc:ae≠k):Gl sz w (some ⟨b,off+k*sz,none⟩) (n-k) (ae-k) (bF.drop k):=by
 have:=h.drop k hk;unfold MV at this;rwa[if_neg hc]at this
theorem tG {P:Program} (w:ah7) (base:Nat) (t ty e:TypeId) (i:TypeInfo) (z:ah8) (size bytes:Nat) (ht:P.underlying t=some (.slice e)) (hi:P.info? e=some i) (hz:i.zero=some z)
  (hsize:i.size=size) (hby:i.bytes=bytes) (hzs:z.cells.size=size) (hsz:0<size)
  (v:ah8) (n:Nat) (xs:List ah8) (hown:w.ownsRow base e size v n xs)
  (a:Addr) (m c:Nat) (news:List ah8) (hl:news.length=m*size) (hnews:∀j u,news[j]? =some u->w.cell? (a.add j)=some u) (h1:∀u∈news,u.oneCell'=true)
  (h63:n+m<=maxLen) (hbytes:(n+m)*bytes<=140737488355328) (hbase:base<=w.heap.size)
  (cx:∀g,v.ownBlock=some g->dV w g) (cn:∀u∈news,bB u=true) (cz:∀u∈z.cells.toList,bB u=true):
  ∃v' w',(ah9 #[t,t] ty #[v,ai3 (some a) m c]).run P w= .ok v' w'/\ w'.ownsRow base e size v' (n+m) (xs++news)/\ w.grownBy w' v.ownBlock/\∀g,v'.ownBlock=some g->dV w' g:=by
 obtain⟨v',w',hr,h2,h3,_⟩:=run_append_own (P:=P) w base t ty e i z size bytes ht hi hz hsize hby hzs hsz v n xs hown a m c news hl hnews h1 h63 hbytes hbase;refine⟨v',w',hr,h2,h3,λg hg=>?_⟩;subst hsize;subst hby
 have hzc:∀k,∀u∈(ai0 z.cells k).toList,bB u=true:=by
  intro k u hu;simp only[ai0,Array.toList_map,List.mem_map]at hu;obtain⟨j,_,rfl⟩:=hu;have hj:j%z.cells.size<z.cells.size:=aj8 _ (by omega);rw[getElem!_pos z.cells _ hj];exact cz _ (Array.mem_toList_iff.2 (Array.getElem_mem hj))
 rcases hown.2 with⟨rfl,rfl⟩|⟨g0,ae,cur,rfl,hbg,hgg,hnc,hcm,hcs,htake⟩
 ·have hx:xs=[]:=ai9 (by simpa using hown.1);subst hx;by_cases hm:m=0
  ·subst hm;have hn:news=[]:=ai9 (by simpa using hl);subst hn
   have hr2:(ah9 #[t,t] ty #[ai3 none 0 0,ai3 (some a) 0 c]).run P w= .ok (ai3 none 0 0) w:=by
    simp[ah9,run_underlying ht,sizeOf,typeInfo,hi,Builtin.lenOf,Builtin.firstCells,loadCells,loadCellsFrom]
   rw[hr]at hr2;cases hr2;simp[ai2]at hg
  ·have hr2:=run_append_nil (P:=P) w t ty e i z ht hi hz a m c news hl hnews (by omega) (by unfold maxLen at h63;omega) (by have hb:=hbytes;simp only[aj5]at hb;omega);rw[hr]at hr2;cases hr2;simp only[ai2,ak1]at hg;subst hg;refine dV.alloc w.drew _ _ λu hu=>?_
   simp only[ah5,ai7]at hu;rcases hu with hu|hu
   ·exact cn u hu
   ·exact hzc _ u hu
 ·have hcur:∀u∈cur.toList,bB u=true:=cx g0 rfl cur e (0,0) hgg;by_cases hroom:n+m<=ae
  ·have hfit:n*i.size+news.length<=cur.size:=by rw[hl,hcs,<-aj3];exact aj9 _ hroom
   have hr2:=run_append_room (P:=P) w t ty e i ht hi g0 n ae cur hgg a m c news hl hnews h1 hroom hfit;rw[hr]at hr2;cases hr2;simp only[ai2,ak1]at hg;subst hg;intro cur' T' fr' hh;rw[setRow_heap w g0 cur _ e _ hgg]at hh;cases hh;intro u hu;simp only[ai7]at hu;rcases hu with(hu|hu)|hu
   ·exact hcur u (aj2 hu)
   ·exact cn u hu
   ·exact hcur u (aj1 hu)
  ·have holds:∀j u,xs[j]? =some u->w.cell? ((⟨g0,0,none⟩:Addr).add j)=some u:=hown.cells (g:=g0) rfl;have hr2:=run_append_grow (P:=P) w t ty e i z ht hi hz ⟨g0,0,none⟩ n ae xs hown.1 holds a m c news hl hnews (by omega) (by unfold maxLen at h63;omega) (growslice_fits (by omega) hbytes);rw[hr]at hr2;cases hr2;simp only[ai2,ak1]at hg;subst hg;refine dV.alloc w.drew _ _ λu hu=>?_
   simp only[ah5,ai7]at hu;rcases hu with(hu|hu)|hu
   ·rw[<-htake]at hu;exact hcur u (aj2 hu)
   ·exact cn u hu
   ·exact hzc _ u hu
structure gM (B:Nat) (e:TypeId) (sz:Nat) (w:ah7) (ao:Option Addr) (n ae:Nat) (bF:List (List ah8)):Prop where
 row:w.ownsRow B e sz (ai3 ao n ae) n bF.flatten
 len:bF.length=n
 big:n<=4398046511104
 each:Each sz bF
 vk:∀g,(ai3 ao n ae).ownBlock=some g->dV w g
theorem gM.nil (B:Nat) (e:TypeId) (sz:Nat) (w:ah7):gM B e sz w none 0 0 []:=
 ⟨World.ownsRow_nil _ _ _ _,rfl,by omega,(λ_ h=>by cases h),λ_ h=>by cases h⟩
theorem gM.parts {B:Nat} {e:TypeId} {sz:Nat} {w:ah7} {ao:Z'} {n ae:Nat} {bF:List (List ah8)} (h:gM B e sz w ao n ae bF):
  (ao=none/\ n=0/\ ae=0/\ bF=[])∨ ∃g cur,ao=some ⟨g,0,none⟩/\ B<=g/\ g<w.heap.size/\ n<=ae/\ w.heap[g]? =some (.cells cur e (0,0)):=by
 rcases h.row.2 with⟨hv,h0⟩|⟨g,cap',cur,hv,hg,hh,hn,_⟩
 ·simp only[ai4]at hv;exact .inl ⟨hv.1,hv.2.1,hv.2.2,ai9 (by rw[h.len,h0])⟩
 ·simp only[ai4,true_and]at hv;obtain⟨rfl,rfl⟩:=hv;exact .inr ⟨g,cur,rfl,hg,lt_of_block hh,hn,hh⟩
theorem gM.gl [Ol] {B:Nat} {e:TypeId} {sz:Nat} {w:ah7} {ao:Z'} {n ae:Nat} {bF:List (List ah8)} (h:gM B e sz w ao n ae bF):Gl sz w ao n ae bF:=by
 rcases h.parts with⟨rfl,rfl,rfl,rfl⟩|⟨g,cur,rfl,hg,hlt,hn,_⟩
 ·exact Gl.zero sz w
 ·refine Gl.eK h.len hn h.big h.each (λ_=>hlt) (λ_=>Kp.vk (h.vk g rfl)) λt ht j hj=>?_
  have hl:t*sz+j<n*sz:=by
   have:(t+1)*sz<=n*sz:=aj9 _ ht;rw[aj3]at this;omega
  rw[aj5,h.row.cellAt (t*sz+j) hl,oM h.each t j (by rw[h.len];exact ht) hj]
theorem gM.ct {B:Nat} {e:TypeId} {sz:Nat} {w w':ah7} {ao:Z'} {n ae:Nat} {bF:List (List ah8)} (h:gM B e sz w ao n ae bF) (hb:∀a,ao=some a->w'.heap[a.block]? =w.heap[a.block]?):gM B e sz w' ao n ae bF:=by
 refine⟨⟨h.row.1,?_⟩,h.len,h.big,h.each,λg hg=>?_⟩
 ·rcases h.row.2 with h2|⟨g,cap',cur,hv,hg,hh,r⟩
  ·exact .inl h2
  ·simp only[ai4,true_and]at hv;obtain⟨rfl,rfl⟩:=hv;exact .inr ⟨g,ae,cur,rfl,hg,by rw[hb _ rfl];exact hh,r⟩
 ·refine(h.vk g hg).ct ?_;cases ao with
  |none=>cases hg
  |some a=>
   simp only[ai2,ak1]at hg;subst hg;exact hb a rfl
theorem gM.below {B:Nat} {e:TypeId} {sz:Nat} {w w':ah7} {ao:Z'} {n ae:Nat} {bF:List (List ah8)} (h:gM B e sz w ao n ae bF) (hb:Below w.heap.size w w'):gM B e sz w' ao n ae bF:=
 h.ct λa ha=>by
  rcases h.parts with⟨h1,_⟩|⟨g,cur,h1,_,hlt,_⟩
  ·rw[h1]at ha;cases ha
  ·rw[h1]at ha;cases ha;exact hb.block g hlt
theorem CT {w:ah7} {base:Nat} {e:TypeId} {v:ah8} {n s:Nat} {xs:List ah8} (h:w.ownsRow base e s v n xs):∃ao ae,v=ai3 ao n ae:=by
 rcases h.2 with⟨hv,h0⟩|⟨g,ae,cur,hv,_⟩
 ·exact⟨none,0,by rw[hv,h0]⟩
 ·exact⟨_,_,hv⟩
theorem rW [Ol] {P:Program} (wa w0:ah7) {o:Oper} {a:Act} {K:Act->ah7->Prop} {Q:Exit->Act->ah7->Prop}
  (s x:Operand) (t:TypeId) (hop:o.op=Op.call { callee:=Callee.builtin ai1,args:= #[s,x],argTypes:= #[t,t] })
  (B:Nat) (e:TypeId) (sz bytes:Nat) (i:TypeInfo) (z:ah8) (h1:P.underlying t=some (.slice e)) (h2:P.info? e=some i) (h3:i.zero=some z) (h4:i.size=sz) (h5:i.bytes=bytes) (h6:z.cells.size=sz) (hsz:0<sz)
  (JH:Option Addr) (ns caps:Nat) (zs:List (List ah8)) (hs:a.eval s=ai3 JH ns caps) (hO:gM B e sz wa JH ns caps zs) (ao:Option Addr) (n ae:Nat) (xs:List (List ah8)) (hx:a.eval x=ai3 ao n ae) (hS:Gl sz wa ao n ae xs)
  (hb:Below B w0 wa) (hB:B<=wa.heap.size) (hr1:ns+n<=4398046511104) (hr2:(ns+n)*bytes<=140737488355328) (cz:∀u∈z.cells.toList,bB u=true) (cn:∀u∈xs.flatten,bB u=true)
  (hK:∀eP cap' w',gM B e sz w' eP (ns+n) cap' (zs++xs)->Below B w0 w'->wa.grownBy w' (ai3 JH ns caps).ownBlock->K (a.put o.dst (ai3 eP (ns+n) cap')) w'):
  Oper.wp P o a wa K Q:=by
 cases ao with
 |none=>
  have hn:n=0:=by have:=hS.nil rfl;have:=hS.le;omega
  have hc:ae=0:=hS.nil rfl;subst hn;subst hc;have hxs:xs=[]:=hS.empty rfl;subst hxs;have hrun:=run_append_owned_none (P:=P) wa B t o.type e i sz h1 h2 _ ns zs.flatten hO.row;unfold Oper.wp;simp[execOp,hop,resolve,invoke,builtin,hs,hx,hrun,Result.andThen];have hk:=hK JH caps wa (by simpa using hO) hb (World.grownBy.refl _ _);rw[Nat.add_zero]at hk;exact hk
 |some ad=>
  have hnews:∀j u,xs.flatten[j]? =some u->wa.cell? (ad.add j)=some u:=by
   intro j u hj;have hjl:j<n*sz:=by have:=(List.getElem?_eq_some_iff.1 hj).1;rwa[kO hS.each,hS.len]at this
   have hq:j/sz<n:=Nat.div_lt_of_lt_mul (by rw[ak0];exact hjl);have hm:j%sz<sz:=aj8 _ hsz;have he:j/sz*sz+j%sz=j:=by rw[ak0];exact Nat.div_add_mod j sz
   have hc:=hS.cells ad rfl (j/sz) hq (j%sz) hm;rw[he]at hc;rw[hc,<-oM hS.each (j/sz) (j%sz) (by rw[hS.len];exact hq) hm,he,hj]
  obtain⟨v',w',hr,hown',hgrow,hcl⟩:=tG (P:=P) wa B t o.type e i z sz bytes h1 h2 h3 h4 h5 h6 hsz _ ns zs.flatten hO.row ad n ae xs.flatten (by rw[kO hS.each,hS.len]) hnews (CS hS.each) (by unfold maxLen;omega) hr2 hB hO.vk cn cz;obtain⟨eP,cap',rfl⟩:=CT hown';unfold Oper.wp execOp;simp only[hop,resolve,invoke,builtin,Sem.run_bind,Sem.run_pure,Result.andThen_ok,List.map_toArray,List.map_cons,List.map_nil,hs,hx,hr];exact hK eP cap' w' ⟨by rw[List.flatten_append];exact hown',by rw[ai6,hO.len,hS.len],hr1,hO.each.append hS.each,hcl⟩ (hb.grown hgrow hB λk hk=>(hO.row.lt k hk).1) hgrow
theorem dh [Ol] {P:Program} (wa w0:ah7) {ops:Array Oper} {rest:List Oper} {o:Oper} {a:Act} {Q:Exit->Act->ah7->Prop}
  (hg:o.guard=none) (s x:Operand) (t:TypeId) (hop:o.op=Op.call { callee:=Callee.builtin ai1,args:= #[s,x],argTypes:= #[t,t] })
  (B:Nat) (e:TypeId) (sz bytes:Nat) (i:TypeInfo) (z:ah8) (h1:P.underlying t=some (.slice e)) (h2:P.info? e=some i) (h3:i.zero=some z) (h4:i.size=sz) (h5:i.bytes=bytes) (h6:z.cells.size=sz) (hsz:0<sz)
  (JH:Option Addr) (ns caps:Nat) (zs:List (List ah8)) (hs:a.eval s=ai3 JH ns caps) (hO:gM B e sz wa JH ns caps zs) (ao:Option Addr) (n ae:Nat) (xs:List (List ah8)) (hx:a.eval x=ai3 ao n ae) (hS:Gl sz wa ao n ae xs)
  (hb:Below B w0 wa) (hB:B<=wa.heap.size) (hr1:ns+n<=4398046511104) (hr2:(ns+n)*bytes<=140737488355328) (cz:∀u∈z.cells.toList,bB u=true) (cn:∀u∈xs.flatten,bB u=true)
  (hK:∀eP cap' w',gM B e sz w' eP (ns+n) cap' (zs++xs)->Below B w0 w'->wa.grownBy w' (ai3 JH ns caps).ownBlock->wpList P ops Q rest (a.put o.dst (ai3 eP (ns+n) cap')) w'):
  wpList P ops Q (o::rest) a wa:=
 wpList_plain hg λ_ hK'=>rW wa w0 s x t hop B e sz bytes i z h1 h2 h3 h4 h5 h6 hsz JH ns caps zs hs hO ao n ae xs hx hS hb hB hr1 hr2 cz cn λeP cap' w' x1 x2 x3=>hK' _ _ (hK eP cap' w' x1 x2 x3)
theorem Gl.lit [Ol] (sz:Nat) (w:ah7) (vs:List ah8) (T:TypeId) (h:vs.length=sz) (h1:∀v∈vs,v.oneCell'=true) (h2:∀v∈vs,bB v=true:=by intro v hv;simp at hv;(try rcases hv with rfl|rfl|rfl)<;>(try subst hv)<;>rfl):Gl sz (w.alloc (.cells vs.toArray T)) (some ⟨w.heap.size,0,none⟩) 1 1 [vs]:=by
 refine Gl.eK rfl (aj6 _) (by omega) (Each.YA h h1) (λ_=>by simp) (λ_=>Kp.vk (dV.alloc w _ T (by simpa using h2))) λt ht j hj=>?_
 obtain rfl:t=0:=by omega
 rw[aj5,aj4,aj5]
 have hh:(w.alloc (.cells vs.toArray T)).heap[w.heap.size]? =some (.cells vs.toArray T (0,0)):=by
  show(w.heap.push _)[w.heap.size]? =_;rw[ah6]
 simp only[World.cell?,hh];simp
theorem dz [Ol] {P:Program} (w w0:ah7) {ops:Array Oper} {rest:List Oper} {o:Oper} {a:Act} {Q:Exit->Act->ah7->Prop}
  (hg:o.guard=none) (s x:Operand) (t:TypeId) (hop:o.op=Op.call { callee:=Callee.builtin ai1,args:= #[s,x],argTypes:= #[t,t] })
  (B:Nat) (e:TypeId) (sz bytes:Nat) (i:TypeInfo) (z:ah8) (h1:P.underlying t=some (.slice e)) (h2:P.info? e=some i) (h3:i.zero=some z) (h4:i.size=sz) (h5:i.bytes=bytes) (h6:z.cells.size=sz) (hsz:0<sz)
  (ao:Option Addr) (n ae:Nat) (bF:List (List ah8)) (hs:a.eval s=ai3 ao n ae) (hown:gM B e sz w ao n ae bF)
  (vs:List ah8) (hv:vs.length=sz) (hv1:∀v∈vs,v.oneCell'=true) (cz:∀u∈z.cells.toList,bB u=true) (cn:∀u∈vs,bB u=true) (tt:TypeId) (hx:a.eval x=ai3 (some ⟨w.heap.size,0,none⟩) 1 1) (hb:Below B w0 w) (hB:B<=w.heap.size) (b1:n+1<=4398046511104) (b2:(n+1)*bytes<=140737488355328)
  (hK:∀eP cap' w',gM B e sz w' eP (n+1) cap' (bF++[vs])->Below B w0 w'->(w.alloc (.cells vs.toArray tt)).grownBy w' (ai3 ao n ae).ownBlock->wpList P ops Q rest (a.put o.dst (ai3 eP (n+1) cap')) w'):
  wpList P ops Q (o::rest) a (w.alloc (.cells vs.toArray tt)):=
 dh (w.alloc (.cells vs.toArray tt)) w0 hg s x t hop B e sz bytes i z h1 h2 h3 h4 h5 h6 hsz ao n ae bF hs (hown.below (af w _)) _ 1 1 [vs] hx (Gl.lit sz w vs tt hv hv1 cn) (hb.alloc hB _) (by simp;omega) b1 b2 cz (by simpa using cn) hK
theorem gM.eZ {B:Nat} {e:TypeId} {sz:Nat} {w w':ah7} {ao:Z'} {n ae:Nat} {bF:List (List ah8)} (h:gM B e sz w ao n ae bF) (hG:w.grownBy w' (ai3 ao n ae).ownBlock) {k:IntKind} {x:Int} {ad:Addr} (hc:w.cell? ad=some (.int k x)):w'.cell? ad=some (.int k x):=
 hG.cell hc λeq=>(h.vk _ eq.symm).dy hc rfl
def aS (w:ah7) (b:Nat) (vs:List ah8) (T:TypeId):Prop:=w.heap[b]? =some (.cells vs.toArray T (0,0))
theorem aS.lt {w:ah7} {b:Nat} {vs:List ah8} {T:TypeId} (h:aS w b vs T):b<w.heap.size:=lt_of_block h
theorem aS.cell {w:ah7} {b:Nat} {vs:List ah8} {T:TypeId} (h:aS w b vs T) (j:Nat):w.cell? ⟨b,j,none⟩=vs[j]? :=by
 unfold aS at h;simp[World.cell?,h]
theorem aS.fz {w:ah7} {b:Nat} {vs:List ah8} {T:TypeId} (h:aS w b vs T) (j:Nat):w.frozen? ⟨b,j,none⟩=false:=by
 unfold aS at h;simp[World.frozen?,h]
theorem aS.cS (w:ah7) (vs:List ah8) (T:TypeId):aS (w.alloc (.cells vs.toArray T)) w.heap.size vs T:=by
 show(w.heap.push _)[w.heap.size]? =_;rw[ah6]
theorem aS.ct {w w':ah7} {b:Nat} {vs:List ah8} {T:TypeId} (h:aS w b vs T) (e:w'.heap[b]? =w.heap[b]?):aS w' b vs T:=e.trans h
theorem aS.below {w w':ah7} {b:Nat} {vs:List ah8} {T:TypeId} (h:aS w b vs T) (hb:Below w.heap.size w w'):aS w' b vs T:=h.ct (hb.block b h.lt)
theorem aS.set {w:ah7} {b:Nat} {vs:List ah8} {T:TypeId} (h:aS w b vs T) (o:Nat) (u:ah8):aS (w.setCell ⟨b,o,none⟩ u) b (vs.set o u) T:=by
 unfold aS at h ⊢;simp[World.setCell,Array.getElem?_modify,h]
theorem aS.dy {w:ah7} {b c:Nat} {vs:List ah8} {T:TypeId} (h:aS w b vs T) (hc:c≠b) (o:Nat) (u:ah8):aS (w.setCell ⟨c,o,none⟩ u) b vs T:=
 h.ct (Below.heap_setCell _ _ _ _ (λe=>hc e.symm))
theorem aS.grown {B:Nat} {e:TypeId} {sz:Nat} {w w':ah7} {ao:Z'} {n ae:Nat} {bF:List (List ah8)} {b:Nat} {vs:List ah8} {T:TypeId} (h:aS w b vs T) (hM:gM B e sz w ao n ae bF) (hT:T≠e) (hG:w.grownBy w' (ai3 ao n ae).ownBlock):aS w' b vs T:=by
 refine h.ct (hG.block b h.lt λeq=>?_);rcases hM.parts with⟨rfl,_⟩|⟨g,cur,rfl,_,_,_,hh⟩
 ·cases eq
 ·have e':b=g:=ak2 eq;subst e';unfold aS at h;rw[h]at hh;cases hh;exact hT rfl
theorem gM.dy {B:Nat} {e:TypeId} {sz:Nat} {w:ah7} {ao:Z'} {n ae:Nat} {bF:List (List ah8)} (h:gM B e sz w ao n ae bF) {b:Nat} {vs:List ah8} {T:TypeId} (hc:aS w b vs T) (hT:T≠e) (o:Nat) (u:ah8):gM B e sz (w.setCell ⟨b,o,none⟩ u) ao n ae bF:=by
 refine h.ct λa ha=>Below.heap_setCell _ _ _ _ λeq=>?_
 rcases h.parts with⟨h1,_⟩|⟨g,cur,h1,_,_,_,hh⟩
 ·rw[h1]at ha;cases ha
 ·rw[h1]at ha;cases ha;have e':g=b:=eq;subst e';unfold aS at hc;rw[hc]at hh;cases hh;exact hT rfl
end Go.Proofs.YtmenbpmciblnlaaGreatDoor
