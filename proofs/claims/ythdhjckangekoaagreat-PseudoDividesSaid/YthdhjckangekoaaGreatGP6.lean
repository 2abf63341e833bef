/- PlPush -/
import Derived.Test.YthdhjckangekoaaGreatGP4
set_option maxHeartbeats 40000000
set_option maxRecDepth 100000
namespace Go.Proofs.YthdhjckangekoaaGreat
open Go.RowKit
def Xy [Ol] (B K:Nat) (w:World) (po:Option Addr) (pn:Nat) (p:List Term) (v:Value) (W:World):Prop:=
 ∃ro rc,v= .slice ro (pn+1) rc/\ Pw B K W ro (pn+1) rc p/\ w.grownBy W (blk po)/\ (blk ro=blk po∨ ∀g',blk ro=some g'->w.heap.size<=g')
theorem Bo [Ol] {B K:Nat} {V:World} {g c':Nat} {O vs Z:List Value} {X:List (List Value)} {p:List Term} {t:Term} (hA:aN V g (O++vs++Z) 54) (hB:B<=g) (hX:Seg 3 O 0 X) (hE:Each 3 X) (Qn:O.length=X.length*3) (Yu:Clean O) (hvc:Clean vs) (hZc:Clean Z) (hv3:vs.length=3) (hv1:∀v∈vs,v.oneCell'=true)
  (hZl:Z.length=(c'-(X.length+1))*3) (hc:X.length+1<=c') (hbig:c'<=maxLen) (hn:X.length<1000000) (hT:bG (fP K V) X p) (ht:fP K V vs t):Pw B K V (some ⟨g,0,none⟩) (X.length+1) c' (p++[t]):=by
 refine⟨X++[vs],⟨.inr ⟨g,0,O++vs++Z,rfl,hB,hA,jG (jG Yu hvc) hZc,?_,hc,hbig,by omega,by simp,hE.append (Each.V8 hv3 hv1),?_⟩⟩,bG.append hT ⟨ht,trivial⟩⟩
 ·simp only[List.length_append,Qn,hv3,hZl];omega
 ·refine Seg.append ?_ ?_
  ·intro k hk j hj;have:(k+1)*3<=X.length*3:=Nat.mul_le_mul_right _ hk;rw[List.append_assoc,List.getElem?_append_left (by omega)];exact hX k hk j hj
  ·intro k hk j hj;have hk0:k=0:=by simpa using hk
   subst hk0;rw[List.append_assoc,List.getElem?_append_right (by omega),List.getElem?_append_left (by omega)];rw[show 0+X.length*3+0*3+j-O.length=j by omega];rfl
theorem FB [Ol] {B K:Nat} {po:Option Addr} {pn pc:Nat} {p:List Term} {w:World} (h:Pw B K w po pn pc p) (hB:B<=w.heap.size) (hn:pn<1000000) {m:Bool} {ao:Option Addr} {n cap:Nat} {bo:Option Addr} {l cb:Nat} {t:Term} (hC:Cn w m ao n cap t.1) (hb:Bd t.1 K) (hM:Ml w bo l cb t.2) (tt ty:TypeId):
  ∃v W,(Builtin.append_ #[23,23] ty #[.slice po pn pc,.slice (some ⟨w.heap.size,0,none⟩) 1 1]).run Tryz.prog (w.alloc (.cells #[.bool m,.slice ao n cap,.slice bo l cb] tt))= .ok v W/\ Xy B K w po pn (p++[t]) v W:=by
 obtain⟨i0,hi,hz0,hz1,hz2⟩:=info_parts Tryz.oh;obtain⟨vs,hvs⟩:∃vs:List Value,vs=[.bool m,.slice ao n cap,.slice bo l cb]:=⟨_,rfl⟩;obtain⟨w1,hw1⟩:∃w1,w1=w.alloc (.cells #[.bool m,.slice ao n cap,.slice bo l cb] tt):=⟨_,rfl⟩;have hA1:aN w1 w.heap.size vs tt:=by rw[hw1,hvs];exact aN.new w _ tt
 have hB1:Below w.heap.size w w1:=by rw[hw1];exact af _ _
 have hs1:w1.heap.size=w.heap.size+1:=by rw[hw1];simp
 rw[<-hw1];have hvc:Clean vs:=by rw[hvs];exact qP _ _ _ _ _ _ _
 have hv1:∀v∈vs,v.oneCell'=true:=by rw[hvs];intro v hv;simp at hv;rcases hv with rfl|rfl|rfl<;>rfl
 have hv3:vs.length=3:=by rw[hvs];rfl
 have ht1:fP K w1 vs t:=⟨m,ao,n,cap,bo,l,cb,hvs,hC.below hB1,hb,hM.below hB1⟩;have hnews:∀j v,vs[j]? =some v->w1.cell? ((⟨w.heap.size,0,none⟩:Addr).add j)=some v:=fun j v hj=>by rw[Addr.add_lit,hA1.cell,Nat.zero_add,hj]
 clear hC hM hw1 hvs;obtain⟨X,hR,hT⟩:=h;have hT1:=fA hT hB1;have hnl:vs.length=1*i0.size:=by rw[hz1,hv3]
 rcases hR.ex with⟨rfl,rfl,rfl,rfl⟩|⟨g,off,L,rfl,hBg,hA,hCl,hroom,hnc,hbig,aj1,hX,hE,hS⟩
 ·have hr:=run_append_nil (P:=Tryz.prog) w1 23 ty 54 i0 _ Tryz.underlying23 hi hz0 ⟨w.heap.size,0,none⟩ 1 1 vs hnl hnews (by omega) (by omega) (by rw[hz2];omega);obtain⟨c',hc'⟩:∃c',c'=grownCap w1 1 0 54:=⟨_,rfl⟩;have hge:1<=c':=by rw[hc'];exact grownCap_ge _ _ _ _
  have hle:c'<=maxLen:=by rw[hc'];exact grownCap_le_maxLen _ _ _ _ (by unfold maxLen;omega)
  rw[<-hc']at hr;obtain⟨Z,hZ⟩:∃Z,Z=(Builtin.zeroCells (Value.agg #[.bool false,.slice none 0 0,.slice none 0 0]).cells (c'-1)).toList:=⟨_,rfl⟩;have hZc:Clean Z:=by rw[hZ];exact gM _
  have hZl:Z.length=(c'-1)*3:=by rw[hZ];exact jT _
  have hMe:vs.toArray++Builtin.zeroCells (Value.agg #[.bool false,.slice none 0 0,.slice none 0 0]).cells (c'-1)=([]++vs++Z).toArray:=by
   apply Array.ext';rw[hZ];simp
  rw[hMe]at hr;have SN:Below w1.heap.size w1 (w1.drew.alloc (.cells ([]++vs++Z).toArray 54)):=(Below.refl _ w1).drew.alloc (Nat.le_refl _) _;refine⟨_,_,hr,some ⟨w1.heap.size,0,none⟩,c',rfl,Bo (O:=[]) (X:=[]) (aN.new _ _ _) (by omega) (Seg.nil _ _ _) (fun _ h=>by cases h) rfl (fun _ h=>by cases h) hvc hZc hv3 hv1 hZl hge hle (by simp) (fA hT1 SN) (ht1.below SN),aH _ ((Below.steps hB1 SN)),.inr fun g' e=>by have e':w1.heap.size=g':=Option.some.inj e;omega⟩
 ·by_cases hr:pn+1<=pc
  ·have hlt:off+(pn+1)*3<=L.length:=Nat.le_trans (Nat.add_le_add_left (Nat.mul_le_mul_right _ hr) _) hroom;have Yv:=hA.below hB1
   have hrun:=sj (P:=Tryz.prog) w1 23 ty 54 i0 Tryz.underlying23 hi g off pn pc ⟨w.heap.size,0,none⟩ 1 1 vs hnl hnews hv1 hr (fun j hj=>by
     rw[Yv.cell,hz1,List.getElem?_eq_getElem (by omega)];rfl) (fun j hj=>Yv.fz _)
   rw[hz1]at hrun;have hG:=jb g vs w1 (off+pn*3);have hcb:=Yv.dF hCl;refine⟨_,_,hrun,some ⟨g,off,none⟩,pc,rfl,⟨X++[vs],⟨.inr ⟨g,off,p9 L (off+pn*3) vs,rfl,hBg,Yv.put vs _,gW _ _ _ hCl hvc,by rw[dK];exact hroom,hr,hbig,by omega,by simp[hX],hE.append (Each.V8 hv3 hv1),?_⟩⟩,bG.append (lT hT1 hcb hG) ⟨ht1.eY hcb hG,trivial⟩⟩,?_,.inl rfl⟩
   ·refine Seg.append (hS.far (.inr (by rw[hX];omega))) ?_;rw[hX];have:=Seg.here (L:=L) (o:=off+pn*3) (X:=[vs]) (Each.V8 hv3 hv1) (by simp;omega);simpa using this
   ·exact ay (aH _ hB1) hG
  ·obtain rfl:pn=pc:=by omega
   obtain⟨O,hO⟩:∃O,O=(L.drop off).take (pn*3):=⟨_,rfl⟩;have Qn:O.length=pn*3:=by rw[hO,List.length_take,List.length_drop];omega
   have Yw:∀j,j<pn*3->O[j]? =L[off+j]? :=fun j hj=>by rw[hO,List.getElem?_take,if_pos hj,List.getElem?_drop]
   have Yv:=hA.below hB1
   have hr:=run_append_grow (P:=Tryz.prog) w1 23 ty 54 i0 _ Tryz.underlying23 hi hz0 ⟨g,off,none⟩ pn pn O (by rw[Qn,hz1]) (fun j v hj=>by
     have hj2:j<pn*3:=by rw[<-Qn];exact(List.getElem?_eq_some_iff.1 hj).1
     rw[Addr.add_lit,Yv.cell,<-Yw j hj2,hj]) ⟨w.heap.size,0,none⟩ 1 1 vs hnl hnews (by omega) (by omega) (by rw[hz2];exact growslice_fits (by omega) (by omega))
   obtain⟨c',hc'⟩:∃c',c'=grownCap w1 (pn+1) pn 54:=⟨_,rfl⟩;have hge:pn+1<=c':=by rw[hc'];exact grownCap_ge _ _ _ _
   have hle:c'<=maxLen:=by rw[hc'];exact grownCap_le_maxLen _ _ _ _ (by unfold maxLen;omega)
   rw[<-hc']at hr;obtain⟨Z,hZ⟩:∃Z,Z=(Builtin.zeroCells (Value.agg #[.bool false,.slice none 0 0,.slice none 0 0]).cells (c'-(pn+1))).toList:=⟨_,rfl⟩;have hZc:Clean Z:=by rw[hZ];exact gM _
   have hZl:Z.length=(c'-(pn+1))*3:=by rw[hZ];exact jT _
   have Yu:Clean O:=fun u hu=>hCl u (List.mem_of_mem_drop (List.mem_of_mem_take (hO▸hu)))
   have hMe:O.toArray++vs.toArray++Builtin.zeroCells (Value.agg #[.bool false,.slice none 0 0,.slice none 0 0]).cells (c'-(pn+1))=(O++vs++Z).toArray:=by
    apply Array.ext';rw[hZ];simp
   rw[hMe]at hr
   have hMS:Seg 3 O 0 X:=fun t ht j hj=>by
    have:(t+1)*3<=pn*3:=Nat.mul_le_mul_right _ (by omega);rw[Nat.zero_add,Yw _ (by omega),<-hS t ht j hj,Nat.add_assoc]
   have SN:Below w1.heap.size w1 (w1.drew.alloc (.cells (O++vs++Z).toArray 54)):=(Below.refl _ w1).drew.alloc (Nat.le_refl _) _;refine⟨_,_,hr,some ⟨w1.heap.size,0,none⟩,c',rfl,?_,aH _ (Below.steps hB1 SN),.inr fun g' e=>by have e':w1.heap.size=g':=Option.some.inj e;omega⟩;have:=Bo (B:=B) (p:=p) (aN.new w1.drew (O++vs++Z) 54) (by show B<=w1.heap.size;omega) hMS hE (by rw[Qn,hX]) Yu hvc hZc hv3 hv1 (by rw[hX];exact hZl) (by rw[hX];exact hge) hle (by rw[hX];exact hn) (fA hT1 SN) (ht1.below SN);rw[hX]at this;exact this
theorem zY [Ol] {K:Nat} {ao:Option Addr} {n cap:Nat} {p:List Term} {w:World} (h:Pc K w ao n cap p) (hn:n<=1000000):
  Calls Tryz.prog 83 #[.slice ao n cap] w (qN K w p):=by
 have q1:∀(w:World) (a:Option Addr) (n c n' c':Nat),(binOp .eql 23 (.slice a n c) (.slice none n' c')).run Tryz.prog w= .ok (.bool a.isNone) w:=fun w a n c n' c'=>Lib.run_eql_slice_nil w _ _ a n c n' c' Tryz.underlying23
 obtain⟨i0,hi,hz0,hz1,hz2⟩:=info_parts Tryz.oh;cases ao with
 |none=>
  obtain⟨aW,hG,hT⟩:=h.ex;have h1:=hG.nil rfl;have h2:=hG.le;obtain rfl:n=0:=by omega
  have hp:p=[]:=List.eq_nil_of_length_eq_zero h.len;have HP:Hid (p=[]):=hp;clear h h1 h2 hp hG hT;go_enter Tryz.func83,Tryz.ntmps83;go_wp2;go_ret;exact⟨none,0,0,rfl,by rw[HP.out];exact Pw.zero _ _ _,Below.refl _ _⟩
 |some ad=>
  obtain⟨aW,hG,hT⟩:=h.ex
  have hcn:∀u∈aW.flatten,aX u=true:=fun u hu=>by
   obtain⟨v,hv,huv⟩:=List.mem_flatten.1 hu;obtain⟨i,hi2,rfl⟩:=List.mem_iff_getElem.1 hv;obtain⟨xm,xa,xn,xc,xp,xq,xr,e,_⟩:=bG.get (0,[]) hT i (by rw[<-hT.len];exact hi2);rw[bJ [] hi2]at e;rw[e]at huv;simp at huv;rcases huv with rfl|rfl|rfl<;>rfl
  have HG:=Lib.hid hG;have HT:=Lib.hid hT;clear h hG hT;go_enter Tryz.func83,Tryz.ntmps83;go_wp2_with (at_builtin;refine DZ w w rfl (.tmp 5) (.tmp 6) 23 rfl w.heap.size 54 3 56 i0 (.agg #[.bool false,.slice none 0 0,.slice none 0 0]) Tryz.underlying23 hi hz0 hz1 hz2 rfl (by omega) rfl _ _ _ _ rfl HG.out (Below.refl _ _) (Nat.le_refl _) (by omega) (by intro u hu;simp[Value.cells]at hu;rcases hu with rfl|rfl|rfl<;>rfl) hcn ?_;intro mo cm w1 hM hB _;have HM:=Lib.hid hM;have HB:=Lib.hid hB;clear hM hB HG hi hz0 hz1 hz2);go_ret;exact⟨_,_,_,rfl,⟨aW,HM.out.rw,fA HT.out HB.out⟩,HB.out⟩
end Go.Proofs.YthdhjckangekoaaGreat
