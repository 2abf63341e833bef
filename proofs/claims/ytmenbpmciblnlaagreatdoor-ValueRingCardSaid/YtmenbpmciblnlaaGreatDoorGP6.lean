import Derived.Test.YtmenbpmciblnlaaGreatDoorGP4
set_option maxHeartbeats 0
set_option maxRecDepth 100000
open Go.Builtin renaming append_->ah5,zeroCells->ah6
open Go.Value renaming agg->ah7,bool->ah9,slice->ah8
open List renaming append_assoc->ai0,getElem?_append_left->ai1
open Nat renaming le_refl->ai4,mul_le_mul_right->ai2,zero_add->ai3
namespace Go.Proofs.YtmenbpmciblnlaaGreatDoor
open Go.RowKit
def MI [Ol] (B K:Nat) (w:World) (po:Option Addr) (pn:Nat) (p:List ai) (v:Value) (W:World):Prop:=
 ∃ro rc,v=ah8 ro (pn+1) rc/\ Pw B K W ro (pn+1) rc p/\ w.grownBy W (eQ po)/\ (eQ ro=eQ po∨ ∀g',eQ ro=some g'->w.heap.size<=g')
theorem zE [Ol] {B K:Nat} {V:World} {g c':Nat} {O vs Z:List Value} {X:List (List Value)} {p:List ai} {t:ai} (hA:aS V g (O++vs++Z) 70) (hB:B<=g) (hX:jo 3 O 0 X) (hE:Each 3 X) (Ny:O.length=X.length*3) (WJ:et O) (YO:et vs) (YP:et Z) (hv3:vs.length=3) (hv1:∀v∈vs,v.oneCell'=true)
  (Q7:Z.length=(c'-(X.length+1))*3) (hc:X.length+1<=c') (hbig:c'<=maxLen) (hn:X.length<1000000) (hT:bV (gL K V) X p) (ht:gL K V vs t):Pw B K V (some ⟨g,0,none⟩) (X.length+1) c' (p++[t]):=by
 refine⟨X++[vs],⟨.inr ⟨g,0,O++vs++Z,rfl,hB,hA,iY (iY WJ YO) YP,?_,hc,hbig,by omega,by simp,hE.append (Each.YA hv3 hv1),?_⟩⟩,bV.append hT ⟨ht,trivial⟩⟩
 ·simp only[List.length_append,Ny,hv3,Q7];omega
 ·refine jo.append ?_ ?_
  ·intro k hk j hj;have:(k+1)*3<=X.length*3:=ai2 _ hk;rw[ai0,ai1 (by omega)];exact hX k hk j hj
  ·intro k hk j hj;have hk0:k=0:=by simpa using hk
   subst hk0;rw[ai0,List.getElem?_append_right (by omega),ai1 (by omega)];rw[show 0+X.length*3+0*3+j-O.length=j by omega];rfl
theorem CM [Ol] {B K:Nat} {po:Z'} {pn pc:Nat} {p:List ai} {w:World} (h:Pw B K w po pn pc p) (hB:B<=w.heap.size) (hn:pn<1000000) {m:Bool} {ao:Z'} {n ae:Nat} {bo:Z'} {l cb:Nat} {t:ai} (hC:Cn w m ao n ae t.1) (hb:Bd t.1 K) (hM:Ml w bo l cb t.2) (tt ty:TypeId):
  ∃v W,(ah5 #[23,23] ty #[ah8 po pn pc,ah8 (some ⟨w.heap.size,0,none⟩) 1 1]).run Tryz.prog (w.alloc (.cells #[ah9 m,ah8 ao n ae,ah8 bo l cb] tt))= .ok v W/\ MI B K w po pn (p++[t]) v W:=by
 obtain⟨i0,hi,hz0,hz1,hz2⟩:=info_parts Tryz.qh;obtain⟨vs,hvs⟩:∃vs:List Value,vs=[ah9 m,ah8 ao n ae,ah8 bo l cb]:=⟨_,rfl⟩;obtain⟨w1,hw1⟩:∃w1,w1=w.alloc (.cells #[ah9 m,ah8 ao n ae,ah8 bo l cb] tt):=⟨_,rfl⟩;have hA1:aS w1 w.heap.size vs tt:=by rw[hw1,hvs];exact aS.cS w _ tt
 have hB1:Below w.heap.size w w1:=by rw[hw1];exact af _ _
 have hs1:w1.heap.size=w.heap.size+1:=by rw[hw1];simp
 rw[<-hw1];have YO:et vs:=by rw[hvs];exact jS _ _ _ _ _ _ _
 have hv1:∀v∈vs,v.oneCell'=true:=by rw[hvs];intro v hv;simp at hv;rcases hv with rfl|rfl|rfl<;>rfl
 have hv3:vs.length=3:=by rw[hvs];rfl
 have ht1:gL K w1 vs t:=⟨m,ao,n,ae,bo,l,cb,hvs,hC.below hB1,hb,hM.below hB1⟩;have hnews:∀j v,vs[j]? =some v->w1.cell? ((⟨w.heap.size,0,none⟩:Addr).add j)=some v:=λj v hj=>by rw[Addr.add_lit,hA1.cell,ai3,hj]
 clear hC hM hw1 hvs;obtain⟨X,hR,hT⟩:=h;have hT1:=fF hT hB1;have hnl:vs.length=1*i0.size:=by rw[hz1,hv3]
 rcases hR.ex with⟨rfl,rfl,rfl,rfl⟩|⟨g,off,L,rfl,hBg,hA,hCl,hroom,hnc,hbig,ac1,hX,hE,hS⟩
 ·have hr:=run_append_nil (P:=Tryz.prog) w1 23 ty 70 i0 _ Tryz.underlying23 hi hz0 ⟨w.heap.size,0,none⟩ 1 1 vs hnl hnews (by omega) (by omega) (by rw[hz2];omega);obtain⟨c',hc'⟩:∃c',c'=grownCap w1 1 0 70:=⟨_,rfl⟩;have hge:1<=c':=by rw[hc'];exact grownCap_ge _ _ _ _
  have hle:c'<=maxLen:=by rw[hc'];exact grownCap_le_maxLen _ _ _ _ (by unfold maxLen;omega)
  rw[<-hc']at hr;obtain⟨Z,hZ⟩:∃Z,Z=(ah6 (ah7 #[ah9 false,ah8 none 0 0,ah8 none 0 0]).cells (c'-1)).toList:=⟨_,rfl⟩;have YP:et Z:=by rw[hZ];exact gj _
  have Q7:Z.length=(c'-1)*3:=by rw[hZ];exact jv _
  have hMe:vs.toArray++ah6 (ah7 #[ah9 false,ah8 none 0 0,ah8 none 0 0]).cells (c'-1)=([]++vs++Z).toArray:=by
   apply Array.ext';rw[hZ];simp
  rw[hMe]at hr;have Io:Below w1.heap.size w1 (w1.drew.alloc (.cells ([]++vs++Z).toArray 70)):=(Below.refl _ w1).drew.alloc (ai4 _) _;refine⟨_,_,hr,some ⟨w1.heap.size,0,none⟩,c',rfl,zE (O:=[]) (X:=[]) (aS.cS _ _ _) (by omega) (jo.nil _ _ _) (λ_ h=>by cases h) rfl (λ_ h=>by cases h) YO YP hv3 hv1 Q7 hge hle (by simp) (fF hT1 Io) (ht1.below Io),cu _ ((Below.ar hB1 Io)),.inr λg' e=>by have e':w1.heap.size=g':=Option.some.inj e;omega⟩
 ·by_cases hr:pn+1<=pc
  ·have hlt:off+(pn+1)*3<=L.length:=Nat.le_trans (Nat.add_le_add_left (ai2 _ hr) _) hroom;have J6:=hA.below hB1
   have hrun:=lU (P:=Tryz.prog) w1 23 ty 70 i0 Tryz.underlying23 hi g off pn pc ⟨w.heap.size,0,none⟩ 1 1 vs hnl hnews hv1 hr (λj hj=>by
     rw[J6.cell,hz1,List.getElem?_eq_getElem (by omega)];rfl) (λj hj=>J6.fz _)
   rw[hz1]at hrun;have hG:=ju g vs w1 (off+pn*3);have hcb:=J6.dD hCl;refine⟨_,_,hrun,some ⟨g,off,none⟩,pc,rfl,⟨X++[vs],⟨.inr ⟨g,off,lV L (off+pn*3) vs,rfl,hBg,J6.put vs _,jw _ _ _ hCl YO,by rw[dJ];exact hroom,hr,hbig,by omega,by simp[hX],hE.append (Each.YA hv3 hv1),?_⟩⟩,bV.append (qP hT1 hcb hG) ⟨ht1.fM hcb hG,trivial⟩⟩,?_,.inl rfl⟩
   ·refine jo.append (hS.dy (.inr (by rw[hX];omega))) ?_;rw[hX];have:=jo.here (L:=L) (o:=off+pn*3) (X:=[vs]) (Each.YA hv3 hv1) (by simp;omega);simpa using this
   ·exact cD (cu _ hB1) hG
  ·obtain rfl:pn=pc:=by omega
   obtain⟨O,hO⟩:∃O,O=(L.drop off).take (pn*3):=⟨_,rfl⟩;have Ny:O.length=pn*3:=by rw[hO,List.length_take,List.length_drop];omega
   have WK:∀j,j<pn*3->O[j]? =L[off+j]? :=λj hj=>by rw[hO,List.getElem?_take,if_pos hj,List.getElem?_drop]
   have J6:=hA.below hB1
   have hr:=run_append_grow (P:=Tryz.prog) w1 23 ty 70 i0 _ Tryz.underlying23 hi hz0 ⟨g,off,none⟩ pn pn O (by rw[Ny,hz1]) (λj v hj=>by
     have hj2:j<pn*3:=by rw[<-Ny];exact(List.getElem?_eq_some_iff.1 hj).1
     rw[Addr.add_lit,J6.cell,<-WK j hj2,hj]) ⟨w.heap.size,0,none⟩ 1 1 vs hnl hnews (by omega) (by omega) (by rw[hz2];exact growslice_fits (by omega) (by omega))
   obtain⟨c',hc'⟩:∃c',c'=grownCap w1 (pn+1) pn 70:=⟨_,rfl⟩;have hge:pn+1<=c':=by rw[hc'];exact grownCap_ge _ _ _ _
   have hle:c'<=maxLen:=by rw[hc'];exact grownCap_le_maxLen _ _ _ _ (by unfold maxLen;omega)
   rw[<-hc']at hr;obtain⟨Z,hZ⟩:∃Z,Z=(ah6 (ah7 #[ah9 false,ah8 none 0 0,ah8 none 0 0]).cells (c'-(pn+1))).toList:=⟨_,rfl⟩;have YP:et Z:=by rw[hZ];exact gj _
   have Q7:Z.length=(c'-(pn+1))*3:=by rw[hZ];exact jv _
   have WJ:et O:=λu hu=>hCl u (List.mem_of_mem_drop (List.mem_of_mem_take (hO▸hu)))
   have hMe:O.toArray++vs.toArray++ah6 (ah7 #[ah9 false,ah8 none 0 0,ah8 none 0 0]).cells (c'-(pn+1))=(O++vs++Z).toArray:=by
    apply Array.ext';rw[hZ];simp
   rw[hMe]at hr
   have hMS:jo 3 O 0 X:=λt ht j hj=>by
    have:(t+1)*3<=pn*3:=ai2 _ (by omega);rw[ai3,WK _ (by omega),<-hS t ht j hj,Nat.add_assoc]
   have Io:Below w1.heap.size w1 (w1.drew.alloc (.cells (O++vs++Z).toArray 70)):=(Below.refl _ w1).drew.alloc (ai4 _) _;refine⟨_,_,hr,some ⟨w1.heap.size,0,none⟩,c',rfl,?_,cu _ (Below.ar hB1 Io),.inr λg' e=>by have e':w1.heap.size=g':=Option.some.inj e;omega⟩;have:=zE (B:=B) (p:=p) (aS.cS w1.drew (O++vs++Z) 70) (by show B<=w1.heap.size;omega) hMS hE (by rw[Ny,hX]) WJ YO YP hv3 hv1 (by rw[hX];exact Q7) (by rw[hX];exact hge) hle (by rw[hX];exact hn) (fF hT1 Io) (ht1.below Io);rw[hX]at this;exact this
theorem wq {P:Program} {w:World} {ops:Array Oper} {o:Oper} {a:Act} {K:Act->World->Prop} {Q:Exit->Act->World->Prop} {E:Prop} (hg:o.guard=none) (s x:Operand) (t t2:TypeId) (hop:o.op=Op.call { callee:=Callee.builtin Builtin.append,args:= #[s,x],argTypes:= #[t,t2] })
  {u y v:Value} {w':World} (hs:a.eval s=u) (hx:a.eval x=y) (hrun:(ah5 #[t,t2] o.type #[u,y]).run P w= .ok v w') (hK:K (a.put o.dst v) w'):if Region.wanted o (yielded ops a.tmps)=true then Oper.wp P o a w K Q else E:=by
 have hw:Region.wanted o (yielded ops a.tmps)=true:=by simp[Region.wanted,hg]
 rw[if_pos hw];unfold Oper.wp;simp[execOp,hop,resolve,invoke,builtin,hs,hx,hrun,Result.andThen];exact hK
end Go.Proofs.YtmenbpmciblnlaaGreatDoor
