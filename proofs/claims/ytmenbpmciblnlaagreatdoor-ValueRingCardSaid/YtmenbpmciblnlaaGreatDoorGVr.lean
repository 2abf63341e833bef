import Derived.Test.YtmenbpmciblnlaaGreatDoorGRk
import Derived.Test.YtmenbpmciblnlaaGreatDoorVaKn
import Derived.LaidMore
import Derived.Lay
import Derived.Stop.Joined
import Derived.Stop.LaidErr
set_option maxHeartbeats 0
set_option maxRecDepth 100000
open Go.DataW renaming trod->ah5,weights->ah6,weightsEach->ah7
open List renaming getD->ai1,getElem?_eq_getElem->ai2,mem_map->ah9,mem_range->ai0,range->ah8
namespace Go.Proofs.YtmenbpmciblnlaaGreatDoor
section
open Go.ChangeShapes Go.WideShapes Go.ChangeAt Go.RowKit Go.Joins
end
section
open Go.ChangeShapes Go.WideShapes Go.ChangeAt Go.RowKit
def cB:List (String×DataW Unit):=Rows.valueOneRow.laid
theorem EW (os:Os) (args:Array Value):laidMetH Tryz.prog cB ((World.laidAll Tryz.prog os cB).forCall (λ_ _=>0) ⟨#[],args,[]⟩).memory:=by
 rw[MakeChecks.laidMetH_plain _ _ _ (by kernel_rfl)];exact laidMet_laidAll _ (by kernel_rfl) (by kernel_rfl)
theorem E7:Rows.laid_internal_strconv_uint64pow10 (H:=Unit)=Lib.tabData .u64 Lib.pow10Tab:=by kernel_rfl
theorem Cy : "*" ++ "errors.errorString" = "*errors.errorString" := by decide
theorem Qf (u : TypeId) (h : Tryz.prog.typeName? 3 u = some "*errors.errorString") : u = 320 :=
 typeName_ptr_named (nm := "errors.errorString") (by rw [Cy]; kernel_rfl) (by kernel_rfl) (by decide) u (by rw [Cy]; exact h)
theorem Cr {W:World} (h:laidMetH Tryz.prog cB W):EU W:=by
 rw[MakeChecks.laidMetH_plain _ _ _ (by kernel_rfl)]at h;have h1:laidMet Tryz.prog (_::_::_::_::_::_) W:=h;have h3:=h1.tail.tail;have h5:=h3.tail.tail;rw[E7]at h3
 have e1 : Tryz.prog.globalNamed "strconv.ErrRange" = some 6 := by kernel_rfl
 obtain⟨a,s,hv,_⟩:=laid_sentinel h5 e1 (show(Tryz.prog.globals[6]?).map (·.type)=some 103 by kernel_rfl) Tryz.underlying103 Qf Tryz.underlying320 Tryz.underlying322 rfl rfl Tryz.underlying9 (by kernel_rfl) (by kernel_rfl);have hc:=World.var?_cell e1 hv 0
 exact⟨Lib.tabIs_of_head (g:=2) (t:=295) (e:=147) (n:=20) (by kernel_rfl) (by kernel_rfl) Tryz.underlying295 Tryz.underlying147 (by kernel_rfl) (by kernel_rfl) h3,⟨_,_,hc⟩,World.block_lt_of_cell? W _ hc⟩
end
section
open Go.ChangeShapes Go.WideShapes Go.ChangeAt Go.RowKit Go.Deep
theorem Tryz.Jb:Tryz.prog.bytesOf 31=64:=by kernel_rfl
theorem Tryz.Jc:Tryz.prog.cellsOf 31=4:=by kernel_rfl
theorem Cz {H:Type} {enc:TypeId×Value->H} {W:World} {fuel:Nat} {c0 c1 c2 c3:Value} {y:DataW H×List MemPlace}
  (hf:ah5 enc Tryz.prog W 0 (λ_=>true) true fuel 31 [c0,c1,c2,c3]=some y) (hsz:∀n∈y.1.weights Tryz.prog 31,n<=reachBytes):
  ∃r:ly,∃a k c a2 k2 c2',[c0,c1,c2,c3]=[.bool r.1.1,.slice a k c,.bool r.2.1,.slice a2 k2 c2']/\ Sl W a k c r.1.2/\ Sl W a2 k2 c2' r.2.2:=by
 obtain⟨y0,y1,f,hx,_,g0,g1⟩:=trod_struct2 Tryz.underlying31 hf;have hc:Tryz.prog.cellsOf 29=2:=by kernel_rfl
 simp only[hc]at g0 g1;have h0:ah5 enc Tryz.prog W 0 (λ_=>true) true f 29 [c0,c1]=some y0:=g0;have h1:ah5 enc Tryz.prog W 0 (λ_=>true) true f 29 [c2,c3]=some y1:=g1;clear g0 g1;obtain⟨d,p⟩:=y;simp only[Prod.mk.injEq]at hx;obtain⟨rfl,rfl⟩:=hx
 obtain⟨m,ao,n,ae,xs,rfl,rfl,hs⟩:=oB h0 (λn hn=>hsz n (by
  simp[ah6,Tryz.underlying31,ah7];exact Or.inl hn))
 obtain⟨k,bo,l,cb,ys,rfl,rfl,ht⟩:=oB h1 (λn hn=>hsz n (by
  simp[ah6,Tryz.underlying31,ah7];exact Or.inr hn))
 exact⟨((m,xs),(k,ys)),ao,n,ae,bo,l,cb,rfl,hs,ht⟩
theorem EX [Ol] {H:Type} {enc:TypeId×Value->H} {W:World} {a0:Z'} {len ae:Nat} {d:DataW H} {p:List MemPlace}
  (hd:DataW.Trod enc Tryz.prog W 0 (λ_=>true) true 24 (.slice a0 len ae) d p) (hlo:W.heap.size<=Ol.lo) (hsz:∀n∈d.weights Tryz.prog 24,n<=reachBytes):
  ∃rs:List ly,xW W a0 len ae rs:=by
 obtain⟨fuel,hf⟩:=hd;rcases open_slice Tryz.underlying24 hf with⟨hcs,hx⟩|⟨a,len',cap',m,n,D,Pl,hcs,_,hl,hm,hmm,hx,hi⟩
 ·simp[Value.cells]at hcs;obtain⟨rfl,rfl,rfl⟩:=hcs;exact⟨[],xW.nil W⟩
 ·simp[Value.cells]at hcs;obtain⟨rfl,rfl,rfl⟩:=hcs;simp only[Prod.mk.injEq]at hx;obtain⟨rfl,rfl⟩:=hx;obtain rfl:m=ae:=by simpa using hmm
  rw[Tryz.Jc]at hi;have hs:=hsz ((((ah8 len).map D).length+((ah8 (m-len)).map λj=>D (len+j)).length)*Tryz.prog.bytesOf 31) (by simp[ah6,Tryz.underlying24]);rw[Tryz.Jb]at hs;simp[reachBytes]at hs
  have each:∀i,i<len->∃q:List Value×ly,q.1.length=4/\ (∀j,j<4->W.cell? (a.add (i*4+j))=q.1[j]?)/\∃a k c a2 k2 c2,q.1=[.bool q.2.1.1,.slice a k c,.bool q.2.2.1,.slice a2 k2 c2]/\ Sl W a k c q.2.1.2/\ Sl W a2 k2 c2 q.2.2.2:=by
   intro i hil;obtain⟨cs',h1,h2⟩:=hi i (by omega);obtain⟨_,hlen,hcell⟩:=World.cells?_some h1
   match cs',hlen with
   |[c0,c1,c2,c3],_=>
    obtain⟨t,ht⟩:=Cz h2 (λn hn=>hsz n (by
     simp only[ah6,Tryz.underlying24,List.mem_cons,List.mem_append];exact .inr (.inl (jQ (ah9.2 ⟨i,ai0.2 hil,rfl⟩) n hn))))
    refine⟨([c0,c1,c2,c3],t),rfl,λj hj=>?_,ht⟩;have:=hcell j hj;rwa[add_add]at this
  obtain⟨q,hq⟩:=choose_lt each;have hg:∀t,t<len->((ah8 len).map λi=>(q i).1).getD t []=(q t).1:=λt ht=>by simp[ai1,ht]
  have hg2:∀t,t<len->((ah8 len).map λi=>(q i).2).getD t jq=(q t).2:=λt ht=>by simp[ai1,ht]
  have hone:∀i,i<len->∀v∈(q i).1,v.oneCell'=true:=λi hil v hv=>by
   obtain⟨a,k,c,a2,k2,c2,e,_⟩:=(hq i hil).2.2;rw[e]at hv;simp at hv;rcases hv with rfl|rfl|rfl|rfl<;>rfl
  refine⟨(ah8 len).map λi=>(q i).2,⟨by simp,(ah8 len).map λi=>(q i).1,⟨by simp,hl,by omega,λvs hv=>?_,(λh=>by cases h),λad had hc=>?_,λad had h0=>?_,λad had t ht j hj=>?_,λh0 ad had=>?_⟩,λi hil=>?_⟩⟩
  ·obtain⟨i,hil,rfl⟩:=ah9.1 hv;exact⟨(hq i (ai0.1 hil)).1,hone i (ai0.1 hil)⟩
  ·cases had;obtain⟨cs',h1,_⟩:=hi 0 hc;obtain⟨_,hlen,hcell⟩:=World.cells?_some h1
   have h3:=hcell 0 (by omega);rw[ai2 (by omega)]at h3;have h4:=World.cell?_spot h3
   simpa[Addr.add]using h4
  ·cases had;have h3:=(hq 0 h0).2.1 0 (by omega);rw[ai2 (by rw[(hq 0 h0).1];omega)]at h3;have h4:=vh h3;rwa[eA]at h4
  ·cases had;rw[hg t ht];exact(hq t ht).2.1 j hj
  ·cases had;have h3:=(hq 0 h0).2.1 0 (by omega);rw[ai2 (by rw[(hq 0 h0).1];omega)]at h3;have h4:=vh h3;rw[eA]at h4;exact .inl (Nat.lt_of_lt_of_le h4 hlo)
  ·rw[hg i hil,hg2 i hil];exact(hq i hil).2.2
end
end Go.Proofs.YtmenbpmciblnlaaGreatDoor
