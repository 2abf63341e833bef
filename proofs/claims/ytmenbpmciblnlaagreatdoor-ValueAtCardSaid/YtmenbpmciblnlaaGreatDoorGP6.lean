/- PlPush -/
import Derived.Test.YtmenbpmciblnlaaGreatDoorGP4
set_option maxHeartbeats 0
set_option maxRecDepth 100000
open Go.Builtin renaming append_->a0a,zeroCells->a0b
open Go.Value renaming agg->a0c,slice->a0d
open List renaming append_assoc->a0e,getElem?_append_left->a0f
open Nat renaming le_refl->a0i,mul_le_mul_right->a0g,zero_add->a0h
namespace Go.Proofs.YtmenbpmciblnlaaGreatDoor
open Go.RowKit
def QH [Ol] (B K:Nat) (w:World) (po:Option Addr) (pn:Nat) (p:List Term) (v:Value) (W:World):Prop:=
 ∃ro rc,v=a0d ro (pn+1) rc/\ Pw B K W ro (pn+1) rc p/\ w.grownBy W (blk po)/\ (blk ro=blk po∨ ∀g',blk ro=some g'->w.heap.size<=g')
theorem DL [Ol] {B K:Nat} {V:World} {g c':Nat} {O vs Z:List Value} {X:List (List Value)} {p:List Term} {t:Term} (hA:bD V g (O++vs++Z) 70) (hB:B<=g) (hX:Seg 3 O 0 X) (hE:Each 3 X) (hOl:O.length=X.length*3) (hOc:Clean O) (hvc:Clean vs) (hZc:Clean Z) (hv3:vs.length=3) (hv1:∀v∈vs,v.oneCell'=true)
  (Vd:Z.length=(c'-(X.length+1))*3) (hc:X.length+1<=c') (hbig:c'<=maxLen) (hn:X.length<1000000) (hT:cB (kD K V) X p) (ht:kD K V vs t):Pw B K V (some ⟨g,0,none⟩) (X.length+1) c' (p++[t]):=by
 refine⟨X++[vs],⟨.inr ⟨g,0,O++vs++Z,rfl,hB,hA,wB (wB hOc hvc) hZc,?_,hc,hbig,by omega,by simp,hE.append (Each.ZQ hv3 hv1),?_⟩⟩,cB.append hT ⟨ht,trivial⟩⟩
 ·simp only[List.length_append,hOl,hv3,Vd];omega
 ·refine Seg.append ?_ ?_
  ·intro k hk j hj;have:(k+1)*3<=X.length*3:=a0g _ hk;rw[a0e,a0f (by omega)];exact hX k hk j hj
  ·intro k hk j hj;have hk0:k=0:=by simpa using hk
   subst hk0;rw[a0e,List.getElem?_append_right (by omega),a0f (by omega)];rw[show 0+X.length*3+0*3+j-O.length=j by omega];rfl
theorem Gy [Ol] {B K:Nat} {po:Option Addr} {pn pc:Nat} {p:List Term} {w:World} (h:Pw B K w po pn pc p) (hB:B<=w.heap.size) (hn:pn<1000000) {m:Bool} {ao:Option Addr} {n cap:Nat} {bo:Option Addr} {l cb:Nat} {t:Term} (hC:Cn w m ao n cap t.1) (hb:Bd t.1 K) (hM:Ml w bo l cb t.2) (tt ty:TypeId):
  ∃v W,(a0a #[23,23] ty #[a0d po pn pc,a0d (some ⟨w.heap.size,0,none⟩) 1 1]).run Tryz.prog (w.alloc (.cells #[.bool m,a0d ao n cap,a0d bo l cb] tt))= .ok v W/\ QH B K w po pn (p++[t]) v W:=by
 obtain⟨i0,hi,hz0,hz1,hz2⟩:=info_parts Tryz.Ns;obtain⟨vs,hvs⟩:∃vs:List Value,vs=[.bool m,a0d ao n cap,a0d bo l cb]:=⟨_,rfl⟩;obtain⟨w1,hw1⟩:∃w1,w1=w.alloc (.cells #[.bool m,a0d ao n cap,a0d bo l cb] tt):=⟨_,rfl⟩;have hA1:bD w1 w.heap.size vs tt:=by rw[hw1,hvs];exact bD.new w _ tt
 have hB1:Below w.heap.size w w1:=by rw[hw1];exact af _ _
 have hs1:w1.heap.size=w.heap.size+1:=by rw[hw1];simp
 rw[<-hw1];have hvc:Clean vs:=by rw[hvs];exact xE _ _ _ _ _ _ _
 have hv1:∀v∈vs,v.oneCell'=true:=by rw[hvs];intro v hv;simp at hv;rcases hv with rfl|rfl|rfl<;>rfl
 have hv3:vs.length=3:=by rw[hvs];rfl
 have ht1:kD K w1 vs t:=⟨m,ao,n,cap,bo,l,cb,hvs,hC.below hB1,hb,hM.below hB1⟩;have hnews:∀j v,vs[j]? =some v->w1.cell? ((⟨w.heap.size,0,none⟩:Addr).add j)=some v:=λj v hj=>by rw[Addr.add_lit,hA1.cell,a0h,hj]
 clear hC hM hw1 hvs;obtain⟨X,hR,hT⟩:=h;have hT1:=nA hT hB1;have hnl:vs.length=1*i0.size:=by rw[hz1,hv3]
 rcases hR.ex with⟨rfl,rfl,rfl,rfl⟩|⟨g,off,L,rfl,hBg,hA,hCl,hroom,hnc,hbig,al9,hX,hE,hS⟩
 ·have hr:=run_append_nil (P:=Tryz.prog) w1 23 ty 70 i0 _ Tryz.underlying23 hi hz0 ⟨w.heap.size,0,none⟩ 1 1 vs hnl hnews (by omega) (by omega) (by rw[hz2];omega);obtain⟨c',hc'⟩:∃c',c'=grownCap w1 1 0 70:=⟨_,rfl⟩;have hge:1<=c':=by rw[hc'];exact grownCap_ge _ _ _ _
  have hle:c'<=maxLen:=by rw[hc'];exact grownCap_le_maxLen _ _ _ _ (by unfold maxLen;omega)
  rw[<-hc']at hr;obtain⟨Z,hZ⟩:∃Z,Z=(a0b (a0c #[.bool false,a0d none 0 0,a0d none 0 0]).cells (c'-1)).toList:=⟨_,rfl⟩;have hZc:Clean Z:=by rw[hZ];exact wz _
  have Vd:Z.length=(c'-1)*3:=by rw[hZ];exact Dq _
  have hMe:vs.toArray++a0b (a0c #[.bool false,a0d none 0 0,a0d none 0 0]).cells (c'-1)=([]++vs++Z).toArray:=by
   apply Array.ext';rw[hZ];simp
  rw[hMe]at hr;have Pv:Below w1.heap.size w1 (w1.drew.alloc (.cells ([]++vs++Z).toArray 70)):=(Below.refl _ w1).drew.alloc (a0i _) _;refine⟨_,_,hr,some ⟨w1.heap.size,0,none⟩,c',rfl,DL (O:=[]) (X:=[]) (bD.new _ _ _) (by omega) (Seg.nil _ _ _) (λ_ h=>by cases h) rfl (λ_ h=>by cases h) hvc hZc hv3 hv1 Vd hge hle (by simp) (nA hT1 Pv) (ht1.below Pv),eU _ ((Below.steps hB1 Pv)),.inr λg' e=>by have e':w1.heap.size=g':=Option.some.inj e;omega⟩
 ·by_cases hr:pn+1<=pc
  ·have hlt:off+(pn+1)*3<=L.length:=Nat.le_trans (Nat.add_le_add_left (a0g _ hr) _) hroom;have NS:=hA.below hB1
   have hrun:=uE (P:=Tryz.prog) w1 23 ty 70 i0 Tryz.underlying23 hi g off pn pc ⟨w.heap.size,0,none⟩ 1 1 vs hnl hnews hv1 hr (λj hj=>by
     rw[NS.cell,hz1,List.getElem?_eq_getElem (by omega)];rfl) (λj hj=>NS.fz _)
   rw[hz1]at hrun;have hG:=uT g vs w1 (off+pn*3);have hcb:=NS.fT hCl;refine⟨_,_,hrun,some ⟨g,off,none⟩,pc,rfl,⟨X++[vs],⟨.inr ⟨g,off,pF L (off+pn*3) vs,rfl,hBg,NS.put vs _,tJ _ _ _ hCl hvc,by rw[iO];exact hroom,hr,hbig,by omega,by simp[hX],hE.append (Each.ZQ hv3 hv1),?_⟩⟩,cB.append (uS hT1 hcb hG) ⟨ht1.fM hcb hG,trivial⟩⟩,?_,.inl rfl⟩
   ·refine Seg.append (hS.far (.inr (by rw[hX];omega))) ?_;rw[hX];have:=Seg.here (L:=L) (o:=off+pn*3) (X:=[vs]) (Each.ZQ hv3 hv1) (by simp;omega);simpa using this
   ·exact dS (eU _ hB1) hG
  ·obtain rfl:pn=pc:=by omega
   obtain⟨O,hO⟩:∃O,O=(L.drop off).take (pn*3):=⟨_,rfl⟩;have hOl:O.length=pn*3:=by rw[hO,List.length_take,List.length_drop];omega
   have hOg:∀j,j<pn*3->O[j]? =L[off+j]? :=λj hj=>by rw[hO,List.getElem?_take,if_pos hj,List.getElem?_drop]
   have NS:=hA.below hB1
   have hr:=run_append_grow (P:=Tryz.prog) w1 23 ty 70 i0 _ Tryz.underlying23 hi hz0 ⟨g,off,none⟩ pn pn O (by rw[hOl,hz1]) (λj v hj=>by
     have hj2:j<pn*3:=by rw[<-hOl];exact(List.getElem?_eq_some_iff.1 hj).1
     rw[Addr.add_lit,NS.cell,<-hOg j hj2,hj]) ⟨w.heap.size,0,none⟩ 1 1 vs hnl hnews (by omega) (by omega) (by rw[hz2];exact growslice_fits (by omega) (by omega))
   obtain⟨c',hc'⟩:∃c',c'=grownCap w1 (pn+1) pn 70:=⟨_,rfl⟩;have hge:pn+1<=c':=by rw[hc'];exact grownCap_ge _ _ _ _
   have hle:c'<=maxLen:=by rw[hc'];exact grownCap_le_maxLen _ _ _ _ (by unfold maxLen;omega)
   rw[<-hc']at hr;obtain⟨Z,hZ⟩:∃Z,Z=(a0b (a0c #[.bool false,a0d none 0 0,a0d none 0 0]).cells (c'-(pn+1))).toList:=⟨_,rfl⟩;have hZc:Clean Z:=by rw[hZ];exact wz _
   have Vd:Z.length=(c'-(pn+1))*3:=by rw[hZ];exact Dq _
   have hOc:Clean O:=λu hu=>hCl u (List.mem_of_mem_drop (List.mem_of_mem_take (hO▸hu)))
   have hMe:O.toArray++vs.toArray++a0b (a0c #[.bool false,a0d none 0 0,a0d none 0 0]).cells (c'-(pn+1))=(O++vs++Z).toArray:=by
    apply Array.ext';rw[hZ];simp
   rw[hMe]at hr
   have hMS:Seg 3 O 0 X:=λt ht j hj=>by
    have:(t+1)*3<=pn*3:=a0g _ (by omega);rw[a0h,hOg _ (by omega),<-hS t ht j hj,Nat.add_assoc]
   have Pv:Below w1.heap.size w1 (w1.drew.alloc (.cells (O++vs++Z).toArray 70)):=(Below.refl _ w1).drew.alloc (a0i _) _;refine⟨_,_,hr,some ⟨w1.heap.size,0,none⟩,c',rfl,?_,eU _ (Below.steps hB1 Pv),.inr λg' e=>by have e':w1.heap.size=g':=Option.some.inj e;omega⟩;have:=DL (B:=B) (p:=p) (bD.new w1.drew (O++vs++Z) 70) (by show B<=w1.heap.size;omega) hMS hE (by rw[hOl,hX]) hOc hvc hZc hv3 hv1 (by rw[hX];exact Vd) (by rw[hX];exact hge) hle (by rw[hX];exact hn) (nA hT1 Pv) (ht1.below Pv);rw[hX]at this;exact this
theorem Aj {P:Program} {w:World} {ops:Array Oper} {o:Oper} {a:Act} {K:Act->World->Prop} {Q:Exit->Act->World->Prop} {E:Prop} (hg:o.guard=none) (s x:Operand) (t t2:TypeId) (hop:o.op=Op.call { callee:=Callee.builtin Builtin.append,args:= #[s,x],argTypes:= #[t,t2] })
  {u y v:Value} {w':World} (hs:a.eval s=u) (hx:a.eval x=y) (hrun:(a0a #[t,t2] o.type #[u,y]).run P w= .ok v w') (hK:K (a.put o.dst v) w'):if Region.wanted o (yielded ops a.tmps)=true then Oper.wp P o a w K Q else E:=by
 have hw:Region.wanted o (yielded ops a.tmps)=true:=by simp[Region.wanted,hg]
 rw[if_pos hw];unfold Oper.wp;simp[execOp,hop,resolve,invoke,builtin,hs,hx,hrun,Result.andThen];exact hK
end Go.Proofs.YtmenbpmciblnlaaGreatDoor
