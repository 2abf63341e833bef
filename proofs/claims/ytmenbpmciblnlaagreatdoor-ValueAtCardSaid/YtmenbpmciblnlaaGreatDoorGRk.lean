/- RwGen, MRowKit, IntRow, IntAt, PRowKit -/
import Derived.Test.YtmenbpmciblnlaaGreatDoorGP1
import Derived.Deep.SlicePairs
import Derived.Lib.SmallJoins
set_option maxHeartbeats 0
set_option maxRecDepth 100000
open Go.DataW renaming Trod->a0b,trod->a0e,trod_int->a0c,weights->a0f,weightsAll->a0a,weightsEach->a0d
open Go.Value renaming cells->a0g,slice->a0h
open List renaming getD->a0o,getElem?_eq_getElem->a0p,map_append->a0l,mem_append->a0i,mem_cons->a0j,mem_map->a0m,mem_range->a0n,range->a0k
/- What rows over lists of structs share. -/
namespace Go.Proofs.YtmenbpmciblnlaaGreatDoor
section
open Go.ChangeShapes Go.WideShapes Go.ChangeAt Go.RowKit Go.Deep
theorem lZ {H:Type} {P:Program} {e:TypeId}:∀{ds:List (DataW H)} {d:DataW H},d∈ds->∀n∈d.weights P e,n∈a0a P e ds
 |d0::ds,d,hd,n,hn=>by
  simp only[a0a,a0i];rcases a0j.1 hd with rfl|hd
  ·exact .inl hn
  ·exact .inr (lZ hd n hn)
theorem zq {w:World} {a:Addr} {v:Value} (h:w.cell? a=some v):a.block<w.heap.size:=by
 refine Classical.byContradiction λhn=>?_
 unfold World.cell? at h;rw[Array.getElem?_eq_none (by omega)]at h;simp at h
theorem PX {α:Type} {R:List Value->α->Prop} (f:Nat->List Value) (g:Nat->α):∀n,(∀i,i<n->R (f i) (g i))->cB R ((a0k n).map f) ((a0k n).map g)
 |0,_=>trivial
 |n+1,h=>by
  rw[List.range_succ,a0l,a0l];exact cB.append (PX f g n λi hi=>h i (by omega)) ⟨h n (by omega),trivial⟩
end
/- What the rows of laws over lists of powers share: an argument of type api.Mono opened once; closed facts. -/
section
open Go.ChangeShapes Go.WideShapes Go.ChangeAt Go.RowKit Go.Deep
theorem Tryz.MI:Tryz.prog.bytesOf 72=16:=by kernel_rfl
theorem PY {n:Int} (h:(Lit.int .i64 n).wf=true):gQ n:=by
 simp[Lit.wf,IntKind.min,IntKind.max,IntKind.signed,IntKind.bits]at h;unfold gQ;omega
theorem PZ {f:Nat->Value×Value} (n:Nat) {W:World} {a:Addr} (h:∀i,i<n->∃p:Int×Int,f i=(.int .i64 p.1,.int .i64 p.2)/\ gQ p.1/\ gQ p.2)
  (hc:∀i,i<n->W.cell? (a.add (i*2))=some (f i).1/\ W.cell? (a.add (i*2+1))=some (f i).2):
  ∃ps:List (Int×Int),ps.length=n/\ (∀p∈ps,gQ p.1/\ gQ p.2)/\∀t,t<n->W.cell? (a.add (t*2))=some (.int .i64 (ps.getD t (0,0)).1)/\ W.cell? (a.add (t*2+1))=some (.int .i64 (ps.getD t (0,0)).2):=by
 obtain⟨q,hq⟩:=choose_lt h;refine⟨(a0k n).map q,by simp,λp hp=>?_,λt ht=>?_⟩
 ·obtain⟨i,hi,rfl⟩:=a0m.1 hp;exact(hq i (a0n.1 hi)).2
 ·have e:((a0k n).map q).getD t (0,0)=q t:=by simp[a0o,ht]
  have h1:=hc t ht;rw[(hq t ht).1]at h1;rw[e];exact h1
theorem MJ [Ol] {H:Type} {enc:TypeId×Value->H} {W:World} {a0:Option Addr} {len cap:Nat} {d:DataW H} {p:List MemPlace}
  (hd:a0b enc Tryz.prog W 0 (λ_=>true) true 68 (a0h a0 len cap) d p)
  (hlo:W.heap.size<=Ol.lo) (hsz:∀elems spare,d= .slice elems spare->(elems.length+spare.length)*16<=140737488351232):
  ∃ps:List (Int×Int),Ml W a0 len cap ps:=by
 obtain⟨fuel,hf⟩:=hd;rcases open_slice_pairs Tryz.underlying68 Tryz.underlying72 (by kernel_rfl) rfl rfl (by kernel_rfl) (by kernel_rfl) hf with⟨hcs,hx⟩|⟨a,len',cap',m,n,V0,V1,D0,D1,P0,P1,hcs,_,hl,hm,hmm,hx,hi⟩
 ·simp[a0g]at hcs;obtain⟨rfl,rfl,rfl⟩:=hcs;exact⟨[],Ml.zero W⟩
 ·simp[a0g]at hcs;obtain⟨rfl,rfl,rfl⟩:=hcs;simp only[Prod.mk.injEq]at hx;obtain⟨rfl,rfl⟩:=hx;have hs:=hsz _ _ rfl;simp at hs;have hlm:len<=m:=by rw[hmm];split<;>omega
  obtain⟨ps,h1,h2,h3⟩:=PZ (f:=λi=>(V0 i,V1 i)) len (W:=W) (a:=a) (λi hil=>by
   obtain⟨_,_,g0,g1⟩:=hi i (by omega);obtain⟨z0,e0,_,w0⟩:=a0c Tryz.underlying3 g0;obtain⟨z1,e1,_,w1⟩:=a0c Tryz.underlying3 g1;simp at e0 e1;exact⟨(z0,z1),by rw[e0,e1],PY w0,PY w1⟩) (λi hil=>⟨(hi i (by omega)).1,(hi i (by omega)).2.1⟩)
  exact⟨ps,h1,hl,by omega,h2,(λh=>by cases h),(λad had t ht=>by cases had;exact h3 t ht),λh0 ad had=>by
   cases had;have h4:=World.block_lt_of_cell? W _ (h3 0 h0).1;rw[show∀(x:Addr) k,(x.add k).block=x.block from λx k=>by unfold Addr.add;split<;>rfl]at h4;exact .inl (Nat.lt_of_lt_of_le h4 hlo)⟩
end
/- An argument of type api.Int opened: a sign and a slice of limbs. -/
section
open Go.ChangeShapes Go.WideShapes Go.ChangeAt Go.RowKit Go.Joins
theorem CR {P:Program} {H:Type} {ts:List TypeId} {ds:List (DataW H)} (h:(a0d P ts ds).all (·<=reachBytes)=true) {j:Nat} {t:TypeId} {d:DataW H} (ht:ts[j]? =some t) (hd:ds[j]? =some d):
  ∀n∈d.weights P t,n<=reachBytes:=λn hn=>by
 have:=List.all_eq_true.1 h _ (DataW.weights_mem_each ht hd n hn);simpa using this
end
/- A number's two cells opened (api.Int at a place in memory). -/
section
open Go.ChangeShapes Go.WideShapes Go.ChangeAt Go.RowKit Go.Joins
theorem q9 {H:Type} {enc:TypeId×Value->H} {W:World} {fuel:Nat} {c0 c1:Value} {y:DataW H×List MemPlace}
  (hf:a0e enc Tryz.prog W 0 (λ_=>true) true fuel 29 [c0,c1]=some y) (hsz:∀n∈y.1.weights Tryz.prog 29,n<=reachBytes):
  ∃(m:Bool) (ao:Option Addr) (n cap:Nat) (xs:List Nat),c0= .bool m/\ c1=a0h ao n cap/\ Sl W ao n cap xs:=by
 obtain⟨y0,y1,f,rfl,_,g0,g1⟩:=trod_struct2 Tryz.underlying29 hf;have e0:Tryz.prog.cellsOf 4=1:=by kernel_rfl
 have e1:Tryz.prog.cellsOf 27=1:=by kernel_rfl
 have h0:a0e enc Tryz.prog W 0 (λ_=>true) true f 4 [c0]=some y0:=by
  have g:a0e enc Tryz.prog W 0 (λ_=>true) true f 4 ([c0,c1].take (Tryz.prog.cellsOf 4))=some y0:=g0;rw[e0]at g;exact g
 have h1:a0e enc Tryz.prog W 0 (λ_=>true) true f 27 [c1]=some y1:=by
  have g:a0e enc Tryz.prog W 0 (λ_=>true) true f 27 ([c1].take (Tryz.prog.cellsOf 27))=some y1:=g1;rw[e1]at g;exact g
 clear g0 g1;obtain⟨m,hm,_⟩:=DataW.trod_bool Tryz.underlying4 h0;obtain rfl:c0= .bool m:=by simpa using hm
 have hs:∃ao n cap,c1=a0h ao n cap:=by
  rcases open_ints Tryz.underlying27 Tryz.underlying192 Tryz.CY h1 with⟨hcs,_⟩|⟨a,len',cap',zs,hcs,_⟩
  ·exact⟨none,0,0,by simpa using hcs⟩
  ·exact⟨some a,len',cap',by simpa using hcs⟩
 obtain⟨ao,n,cap,rfl⟩:=hs
 obtain⟨xs,hxs⟩:=P7 (d:=y1.1) (p:=y1.2) ⟨f,by simpa[a0g]using h1⟩ (λelems spare he=>by
  have h2:=hsz ((elems.length+spare.length)*Tryz.prog.bytesOf 192) (by
   simp[a0f,Tryz.underlying29,a0d,he,Tryz.underlying27])
  rw[Tryz.MK]at h2;simpa[reachBytes]using h2)
 exact⟨m,ao,n,cap,xs,rfl,rfl,hxs⟩
end
/- What the rows of laws over polynomials share: an argument that is a list of terms (api.Poly, []api.Term) opened once; closed facts. -/
section
open Go.ChangeShapes Go.WideShapes Go.ChangeAt Go.RowKit Go.Deep
theorem Tryz.JA:Tryz.prog.bytesOf 70=56:=by kernel_rfl
theorem Tryz.JB:Tryz.prog.cellsOf 70=3:=by kernel_rfl
theorem Ep [Ol] {H:Type} {enc:TypeId×Value->H} {W:World} {fuel:Nat} {c:Value} {y:DataW H×List MemPlace}
  (hf:a0e enc Tryz.prog W 0 (λ_=>true) true fuel 68 [c]=some y) (hlo:W.heap.size<=Ol.lo) (hsz:∀n∈y.1.weights Tryz.prog 68,n<=reachBytes):
  ∃(ao:Option Addr) (n cap:Nat) (ps:List (Int×Int)),c=a0h ao n cap/\ Ml W ao n cap ps:=by
 have hs:∃ao n cap,c=a0h ao n cap:=by
  rcases open_slice Tryz.underlying68 hf with⟨hcs,_⟩|⟨a,len',cap',_,_,_,_,hcs,_⟩
  ·exact⟨none,0,0,by simpa using hcs⟩
  ·exact⟨some a,len',cap',by simpa using hcs⟩
 obtain⟨ao,n,cap,rfl⟩:=hs
 obtain⟨ps,hps⟩:=MJ (d:=y.1) (p:=y.2) ⟨fuel,by simpa[a0g]using hf⟩ hlo (λelems spare he=>by
  have h2:=hsz ((elems.length+spare.length)*Tryz.prog.bytesOf 72) (by
   rw[he];simp[a0f,Tryz.underlying68])
  rw[Tryz.MI]at h2;simpa[reachBytes]using h2)
 exact⟨ao,n,cap,ps,rfl,hps⟩
theorem Er [Ol] {H:Type} {enc:TypeId×Value->H} {W:World} {fuel:Nat} {c0 c1 c2:Value} {y:DataW H×List MemPlace}
  (hf:a0e enc Tryz.prog W 0 (λ_=>true) true fuel 70 [c0,c1,c2]=some y) (hlo:W.heap.size<=Ol.lo) (hsz:∀n∈y.1.weights Tryz.prog 70,n<=reachBytes):
  ∃t:Raw,XB W [c0,c1,c2] t:=by
 obtain⟨y0,y1,f,hx,_,g0,g1⟩:=trod_struct2 Tryz.underlying70 hf;have hc:Tryz.prog.cellsOf 29=2:=by kernel_rfl
 have hc1:Tryz.prog.cellsOf 68=1:=by kernel_rfl
 simp only[hc,hc1]at g0 g1;have h0:a0e enc Tryz.prog W 0 (λ_=>true) true f 29 [c0,c1]=some y0:=g0;have h1:a0e enc Tryz.prog W 0 (λ_=>true) true f 68 [c2]=some y1:=g1;clear g0 g1;obtain⟨d,p⟩:=y;simp only[Prod.mk.injEq]at hx;obtain⟨rfl,rfl⟩:=hx
 obtain⟨m,ao,n,cap,xs,rfl,rfl,hs⟩:=q9 h0 (λn hn=>hsz n (by
  simp[a0f,Tryz.underlying70,a0d];exact Or.inl hn))
 obtain⟨bo,k,cb,ps,rfl,hm⟩:=Ep h1 hlo (λn hn=>hsz n (by
  simp[a0f,Tryz.underlying70,a0d];exact Or.inr hn))
 exact⟨((m,xs),ps),ao,n,cap,bo,k,cb,rfl,hs,hm⟩
theorem Jl [Ol] {T:TypeId} (hT:Tryz.prog.underlying T=some (.slice 70)) {H:Type} {enc:TypeId×Value->H} {W:World} {a0:Option Addr} {len cap:Nat} {d:DataW H} {p:List MemPlace}
  (hd:a0b enc Tryz.prog W 0 (λ_=>true) true T (a0h a0 len cap) d p) (hlo:W.heap.size<=Ol.lo) (hsz:∀n∈d.weights Tryz.prog T,n<=reachBytes):
  ∃ps:List Raw,Pr W a0 len cap ps:=by
 obtain⟨fuel,hf⟩:=hd;rcases open_slice hT hf with⟨hcs,hx⟩|⟨a,len',cap',m,n,D,Pl,hcs,_,hl,hm,hmm,hx,hi⟩
 ·simp[a0g]at hcs;obtain⟨rfl,rfl,rfl⟩:=hcs;exact⟨[],⟨[],Gl.zero 3 W,trivial⟩⟩
 ·simp[a0g]at hcs;obtain⟨rfl,rfl,rfl⟩:=hcs;simp only[Prod.mk.injEq]at hx;obtain⟨rfl,rfl⟩:=hx;obtain rfl:m=cap:=by simpa using hmm
  rw[Tryz.JB]at hi;have hs:=hsz ((((a0k len).map D).length+((a0k (m-len)).map λj=>D (len+j)).length)*Tryz.prog.bytesOf 70) (by simp[a0f,hT]);rw[Tryz.JA]at hs;simp[reachBytes]at hs
  have each:∀i,i<len->∃q:List Value×Raw,q.1.length=3/\ (∀j,j<3->W.cell? (a.add (i*3+j))=q.1[j]?)/\ XB W q.1 q.2:=by
   intro i hil;obtain⟨cs',h1,h2⟩:=hi i (by omega);obtain⟨_,hlen,hcell⟩:=World.cells?_some h1
   match cs',hlen with
   |[c0,c1,c2],_=>
    obtain⟨t,ht⟩:=Er h2 hlo (λn hn=>hsz n (by
     simp only[a0f,hT,a0j,a0i];exact .inr (.inl (lZ (a0m.2 ⟨i,a0n.2 hil,rfl⟩) n hn))))
    refine⟨([c0,c1,c2],t),rfl,λj hj=>?_,ht⟩;have:=hcell j hj;rwa[add_add]at this
  obtain⟨q,hq⟩:=choose_lt each;have hg:∀t,t<len->((a0k len).map λi=>(q i).1).getD t []=(q t).1:=λt ht=>by simp[a0o,ht]
  have hone:∀i,i<len->∀v∈(q i).1,v.oneCell'=true:=λi hil v hv=>by
   obtain⟨ao,n,cap,bo,k,cb,e,_⟩:=(hq i hil).2.2;rw[e]at hv;simp at hv;rcases hv with rfl|rfl|rfl<;>rfl
  refine⟨(a0k len).map λi=>(q i).2,⟨(a0k len).map λi=>(q i).1,⟨by simp,hl,by omega,λvs hv=>?_,(λh=>by cases h),λad had hc=>?_,λad had h0=>?_,λad had t ht j hj=>?_,λh0 ad had=>?_⟩,PX _ _ len λi hil=>(hq i hil).2.2⟩⟩
  ·obtain⟨i,hil,rfl⟩:=a0m.1 hv;exact⟨(hq i (a0n.1 hil)).1,hone i (a0n.1 hil)⟩
  ·cases had;obtain⟨cs',h1,_⟩:=hi 0 hc;obtain⟨_,hlen,hcell⟩:=World.cells?_some h1
   have h3:=hcell 0 (by omega);rw[a0p (by omega)]at h3;have h4:=World.cell?_spot h3
   simpa[Addr.add]using h4
  ·cases had;have h3:=(hq 0 h0).2.1 0 (by omega);rw[a0p (by rw[(hq 0 h0).1];omega)]at h3;have h4:=zq h3;rwa[ig]at h4
  ·cases had;rw[hg t ht];exact(hq t ht).2.1 j hj
  ·cases had;have h3:=(hq 0 h0).2.1 0 (by omega);rw[a0p (by rw[(hq 0 h0).1];omega)]at h3;have h4:=zq h3;rw[ig]at h4;exact .inl (Nat.lt_of_lt_of_le h4 hlo)
end
end Go.Proofs.YtmenbpmciblnlaaGreatDoor
