import Derived.Test.YtmenbpmciblnlaaGreatDoorGP1
import Derived.Deep.SlicePairs
import Derived.Lib.SmallJoins
set_option maxHeartbeats 0
set_option maxRecDepth 100000
open Go renaming Value->ah6,World->ah5
open Go.DataW renaming Trod->ah8,trod->ai1,trod_int->ah9,weights->ai2,weightsAll->ah7,weightsEach->ai0
open Go.Value renaming cells->ai3,slice->ai4
open List renaming getD->aj1,getElem?_eq_getElem->aj2,map_append->ai8,mem_append->ai5,mem_cons->ai6,mem_map->ai9,mem_range->aj0,range->ai7
namespace Go.Proofs.YtmenbpmciblnlaaGreatDoor
section
open Go.ChangeShapes Go.WideShapes Go.ChangeAt Go.RowKit Go.Deep
theorem jQ {H:Type} {P:Program} {e:TypeId}:∀{ds:List (DataW H)} {d:DataW H},d∈ds->∀n∈d.weights P e,n∈ah7 P e ds
 |d0::ds,d,hd,n,hn=>by
  simp only[ah7,ai5];rcases ai6.1 hd with rfl|hd
  ·exact .inl hn
  ·exact .inr (jQ hd n hn)
theorem vh {w:ah5} {a:Addr} {v:ah6} (h:w.cell? a=some v):a.block<w.heap.size:=by
 refine Classical.byContradiction λhn=>?_
 unfold World.cell? at h;rw[Array.getElem?_eq_none (by omega)]at h;simp at h
theorem L3 {α:Type} {R:List ah6->α->Prop} (f:Nat->List ah6) (g:Nat->α):∀n,(∀i,i<n->R (f i) (g i))->bV R ((ai7 n).map f) ((ai7 n).map g)
 |0,_=>trivial
 |n+1,h=>by
  rw[List.range_succ,ai8,ai8];exact bV.append (L3 f g n λi hi=>h i (by omega)) ⟨h n (by omega),trivial⟩
end
section
open Go.ChangeShapes Go.WideShapes Go.ChangeAt Go.RowKit Go.Deep
theorem Tryz.Jf:Tryz.prog.bytesOf 72=16:=by kernel_rfl
theorem L4 {n:Int} (h:(Lit.int .i64 n).wf=true):fq n:=by
 simp[Lit.wf,IntKind.min,IntKind.max,IntKind.signed,IntKind.bits]at h;unfold fq;omega
theorem L5 {f:Nat->ah6×ah6} (n:Nat) {W:ah5} {a:Addr} (h:∀i,i<n->∃p:Int×Int,f i=(.int .i64 p.1,.int .i64 p.2)/\ fq p.1/\ fq p.2)
  (hc:∀i,i<n->W.cell? (a.add (i*2))=some (f i).1/\ W.cell? (a.add (i*2+1))=some (f i).2):
  ∃ps:List (Int×Int),ps.length=n/\ (∀p∈ps,fq p.1/\ fq p.2)/\∀t,t<n->W.cell? (a.add (t*2))=some (.int .i64 (ps.getD t (0,0)).1)/\ W.cell? (a.add (t*2+1))=some (.int .i64 (ps.getD t (0,0)).2):=by
 obtain⟨q,hq⟩:=choose_lt h;refine⟨(ai7 n).map q,by simp,λp hp=>?_,λt ht=>?_⟩
 ·obtain⟨i,hi,rfl⟩:=ai9.1 hp;exact(hq i (aj0.1 hi)).2
 ·have e:((ai7 n).map q).getD t (0,0)=q t:=by simp[aj1,ht]
  have h1:=hc t ht;rw[(hq t ht).1]at h1;rw[e];exact h1
theorem Jg [Ol] {H:Type} {enc:TypeId×ah6->H} {W:ah5} {a0:Z'} {len ae:Nat} {d:DataW H} {p:List MemPlace}
  (hd:ah8 enc Tryz.prog W 0 (λ_=>true) true 68 (ai4 a0 len ae) d p)
  (hlo:W.heap.size<=Ol.lo) (hsz:∀elems spare,d= .slice elems spare->(elems.length+spare.length)*16<=140737488351232):
  ∃ps:List (Int×Int),Ml W a0 len ae ps:=by
 obtain⟨fuel,hf⟩:=hd;rcases open_slice_pairs Tryz.underlying68 Tryz.underlying72 (by kernel_rfl) rfl rfl (by kernel_rfl) (by kernel_rfl) hf with⟨hcs,hx⟩|⟨a,len',cap',m,n,V0,V1,D0,D1,P0,P1,hcs,_,hl,hm,hmm,hx,hi⟩
 ·simp[ai3]at hcs;obtain⟨rfl,rfl,rfl⟩:=hcs;exact⟨[],Ml.zero W⟩
 ·simp[ai3]at hcs;obtain⟨rfl,rfl,rfl⟩:=hcs;simp only[Prod.mk.injEq]at hx;obtain⟨rfl,rfl⟩:=hx;have hs:=hsz _ _ rfl;simp at hs;have hlm:len<=m:=by rw[hmm];split<;>omega
  obtain⟨ps,h1,h2,h3⟩:=L5 (f:=λi=>(V0 i,V1 i)) len (W:=W) (a:=a) (λi hil=>by
   obtain⟨_,_,g0,g1⟩:=hi i (by omega);obtain⟨z0,e0,_,w0⟩:=ah9 Tryz.underlying3 g0;obtain⟨z1,e1,_,w1⟩:=ah9 Tryz.underlying3 g1;simp at e0 e1;exact⟨(z0,z1),by rw[e0,e1],L4 w0,L4 w1⟩) (λi hil=>⟨(hi i (by omega)).1,(hi i (by omega)).2.1⟩)
  exact⟨ps,h1,hl,by omega,h2,(λh=>by cases h),(λad had t ht=>by cases had;exact h3 t ht),λh0 ad had=>by
   cases had;have h4:=World.block_lt_of_cell? W _ (h3 0 h0).1;rw[show∀(x:Addr) k,(x.add k).block=x.block from λx k=>by unfold Addr.add;split<;>rfl]at h4;exact .inl (Nat.lt_of_lt_of_le h4 hlo)⟩
end
section
open Go.ChangeShapes Go.WideShapes Go.ChangeAt Go.RowKit Go.Joins
theorem tj {P:Program} {H:Type} {ts:List TypeId} {ds:List (DataW H)} (h:(ai0 P ts ds).all (·<=reachBytes)=true) {j:Nat} {t:TypeId} {d:DataW H} (ht:ts[j]? =some t) (hd:ds[j]? =some d):
  ∀n∈d.weights P t,n<=reachBytes:=λn hn=>by
 have:=List.all_eq_true.1 h _ (DataW.weights_mem_each ht hd n hn);simpa using this
end
section
open Go.ChangeShapes Go.WideShapes Go.ChangeAt Go.RowKit Go.Joins
theorem oB {H:Type} {enc:TypeId×ah6->H} {W:ah5} {fuel:Nat} {c0 c1:ah6} {y:DataW H×List MemPlace}
  (hf:ai1 enc Tryz.prog W 0 (λ_=>true) true fuel 29 [c0,c1]=some y) (hsz:∀n∈y.1.weights Tryz.prog 29,n<=reachBytes):
  ∃(m:Bool) (ao:Option Addr) (n ae:Nat) (xs:List Nat),c0= .bool m/\ c1=ai4 ao n ae/\ Sl W ao n ae xs:=by
 obtain⟨y0,y1,f,rfl,_,g0,g1⟩:=trod_struct2 Tryz.underlying29 hf;have e0:Tryz.prog.cellsOf 4=1:=by kernel_rfl
 have e1:Tryz.prog.cellsOf 27=1:=by kernel_rfl
 have h0:ai1 enc Tryz.prog W 0 (λ_=>true) true f 4 [c0]=some y0:=by
  have g:ai1 enc Tryz.prog W 0 (λ_=>true) true f 4 ([c0,c1].take (Tryz.prog.cellsOf 4))=some y0:=g0;rw[e0]at g;exact g
 have h1:ai1 enc Tryz.prog W 0 (λ_=>true) true f 27 [c1]=some y1:=by
  have g:ai1 enc Tryz.prog W 0 (λ_=>true) true f 27 ([c1].take (Tryz.prog.cellsOf 27))=some y1:=g1;rw[e1]at g;exact g
 clear g0 g1;obtain⟨m,hm,_⟩:=DataW.trod_bool Tryz.underlying4 h0;obtain rfl:c0= .bool m:=by simpa using hm
 have hs:∃ao n ae,c1=ai4 ao n ae:=by
  rcases open_ints Tryz.underlying27 Tryz.underlying192 Tryz.yQ h1 with⟨hcs,_⟩|⟨a,len',cap',zs,hcs,_⟩
  ·exact⟨none,0,0,by simpa using hcs⟩
  ·exact⟨some a,len',cap',by simpa using hcs⟩
 obtain⟨ao,n,ae,rfl⟩:=hs
 obtain⟨xs,hxs⟩:=L6 (d:=y1.1) (p:=y1.2) ⟨f,by simpa[ai3]using h1⟩ (λelems spare he=>by
  have h2:=hsz ((elems.length+spare.length)*Tryz.prog.bytesOf 192) (by
   simp[ai2,Tryz.underlying29,ai0,he,Tryz.underlying27])
  rw[Tryz.Jh]at h2;simpa[reachBytes]using h2)
 exact⟨m,ao,n,ae,xs,rfl,rfl,hxs⟩
end
section
open Go.ChangeShapes Go.WideShapes Go.ChangeAt Go.RowKit Go.Deep
theorem Tryz.E9:Tryz.prog.bytesOf 70=56:=by kernel_rfl
theorem Tryz.Fa:Tryz.prog.cellsOf 70=3:=by kernel_rfl
theorem AE [Ol] {H:Type} {enc:TypeId×ah6->H} {W:ah5} {fuel:Nat} {c:ah6} {y:DataW H×List MemPlace}
  (hf:ai1 enc Tryz.prog W 0 (λ_=>true) true fuel 68 [c]=some y) (hlo:W.heap.size<=Ol.lo) (hsz:∀n∈y.1.weights Tryz.prog 68,n<=reachBytes):
  ∃(ao:Option Addr) (n ae:Nat) (ps:List (Int×Int)),c=ai4 ao n ae/\ Ml W ao n ae ps:=by
 have hs:∃ao n ae,c=ai4 ao n ae:=by
  rcases open_slice Tryz.underlying68 hf with⟨hcs,_⟩|⟨a,len',cap',_,_,_,_,hcs,_⟩
  ·exact⟨none,0,0,by simpa using hcs⟩
  ·exact⟨some a,len',cap',by simpa using hcs⟩
 obtain⟨ao,n,ae,rfl⟩:=hs
 obtain⟨ps,hps⟩:=Jg (d:=y.1) (p:=y.2) ⟨fuel,by simpa[ai3]using hf⟩ hlo (λelems spare he=>by
  have h2:=hsz ((elems.length+spare.length)*Tryz.prog.bytesOf 72) (by
   rw[he];simp[ai2,Tryz.underlying68])
  rw[Tryz.Jf]at h2;simpa[reachBytes]using h2)
 exact⟨ao,n,ae,ps,rfl,hps⟩
theorem AG [Ol] {H:Type} {enc:TypeId×ah6->H} {W:ah5} {fuel:Nat} {c0 c1 c2:ah6} {y:DataW H×List MemPlace}
  (hf:ai1 enc Tryz.prog W 0 (λ_=>true) true fuel 70 [c0,c1,c2]=some y) (hlo:W.heap.size<=Ol.lo) (hsz:∀n∈y.1.weights Tryz.prog 70,n<=reachBytes):
  ∃t:kr,TY W [c0,c1,c2] t:=by
 obtain⟨y0,y1,f,hx,_,g0,g1⟩:=trod_struct2 Tryz.underlying70 hf;have hc:Tryz.prog.cellsOf 29=2:=by kernel_rfl
 have hc1:Tryz.prog.cellsOf 68=1:=by kernel_rfl
 simp only[hc,hc1]at g0 g1;have h0:ai1 enc Tryz.prog W 0 (λ_=>true) true f 29 [c0,c1]=some y0:=g0;have h1:ai1 enc Tryz.prog W 0 (λ_=>true) true f 68 [c2]=some y1:=g1;clear g0 g1;obtain⟨d,p⟩:=y;simp only[Prod.mk.injEq]at hx;obtain⟨rfl,rfl⟩:=hx
 obtain⟨m,ao,n,ae,xs,rfl,rfl,hs⟩:=oB h0 (λn hn=>hsz n (by
  simp[ai2,Tryz.underlying70,ai0];exact Or.inl hn))
 obtain⟨bo,k,cb,ps,rfl,hm⟩:=AE h1 hlo (λn hn=>hsz n (by
  simp[ai2,Tryz.underlying70,ai0];exact Or.inr hn))
 exact⟨((m,xs),ps),ao,n,ae,bo,k,cb,rfl,hs,hm⟩
theorem vK [Ol] {T:TypeId} (hT:Tryz.prog.underlying T=some (.slice 70)) {H:Type} {enc:TypeId×ah6->H} {W:ah5} {a0:Z'} {len ae:Nat} {d:DataW H} {p:List MemPlace}
  (hd:ah8 enc Tryz.prog W 0 (λ_=>true) true T (ai4 a0 len ae) d p) (hlo:W.heap.size<=Ol.lo) (hsz:∀n∈d.weights Tryz.prog T,n<=reachBytes):
  ∃ps:List kr,Pr W a0 len ae ps:=by
 obtain⟨fuel,hf⟩:=hd;rcases open_slice hT hf with⟨hcs,hx⟩|⟨a,len',cap',m,n,D,Pl,hcs,_,hl,hm,hmm,hx,hi⟩
 ·simp[ai3]at hcs;obtain⟨rfl,rfl,rfl⟩:=hcs;exact⟨[],⟨[],Gl.zero 3 W,trivial⟩⟩
 ·simp[ai3]at hcs;obtain⟨rfl,rfl,rfl⟩:=hcs;simp only[Prod.mk.injEq]at hx;obtain⟨rfl,rfl⟩:=hx;obtain rfl:m=ae:=by simpa using hmm
  rw[Tryz.Fa]at hi;have hs:=hsz ((((ai7 len).map D).length+((ai7 (m-len)).map λj=>D (len+j)).length)*Tryz.prog.bytesOf 70) (by simp[ai2,hT]);rw[Tryz.E9]at hs;simp[reachBytes]at hs
  have each:∀i,i<len->∃q:List ah6×kr,q.1.length=3/\ (∀j,j<3->W.cell? (a.add (i*3+j))=q.1[j]?)/\ TY W q.1 q.2:=by
   intro i hil;obtain⟨cs',h1,h2⟩:=hi i (by omega);obtain⟨_,hlen,hcell⟩:=World.cells?_some h1
   match cs',hlen with
   |[c0,c1,c2],_=>
    obtain⟨t,ht⟩:=AG h2 hlo (λn hn=>hsz n (by
     simp only[ai2,hT,ai6,ai5];exact .inr (.inl (jQ (ai9.2 ⟨i,aj0.2 hil,rfl⟩) n hn))))
    refine⟨([c0,c1,c2],t),rfl,λj hj=>?_,ht⟩;have:=hcell j hj;rwa[add_add]at this
  obtain⟨q,hq⟩:=choose_lt each;have hg:∀t,t<len->((ai7 len).map λi=>(q i).1).getD t []=(q t).1:=λt ht=>by simp[aj1,ht]
  have hone:∀i,i<len->∀v∈(q i).1,v.oneCell'=true:=λi hil v hv=>by
   obtain⟨ao,n,ae,bo,k,cb,e,_⟩:=(hq i hil).2.2;rw[e]at hv;simp at hv;rcases hv with rfl|rfl|rfl<;>rfl
  refine⟨(ai7 len).map λi=>(q i).2,⟨(ai7 len).map λi=>(q i).1,⟨by simp,hl,by omega,λvs hv=>?_,(λh=>by cases h),λad had hc=>?_,λad had h0=>?_,λad had t ht j hj=>?_,λh0 ad had=>?_⟩,L3 _ _ len λi hil=>(hq i hil).2.2⟩⟩
  ·obtain⟨i,hil,rfl⟩:=ai9.1 hv;exact⟨(hq i (aj0.1 hil)).1,hone i (aj0.1 hil)⟩
  ·cases had;obtain⟨cs',h1,_⟩:=hi 0 hc;obtain⟨_,hlen,hcell⟩:=World.cells?_some h1
   have h3:=hcell 0 (by omega);rw[aj2 (by omega)]at h3;have h4:=World.cell?_spot h3
   simpa[Addr.add]using h4
  ·cases had;have h3:=(hq 0 h0).2.1 0 (by omega);rw[aj2 (by rw[(hq 0 h0).1];omega)]at h3;have h4:=vh h3;rwa[eA]at h4
  ·cases had;rw[hg t ht];exact(hq t ht).2.1 j hj
  ·cases had;have h3:=(hq 0 h0).2.1 0 (by omega);rw[aj2 (by rw[(hq 0 h0).1];omega)]at h3;have h4:=vh h3;rw[eA]at h4;exact .inl (Nat.lt_of_lt_of_le h4 hlo)
end
end Go.Proofs.YtmenbpmciblnlaaGreatDoor
