import Derived.Test.YtmenbpmciblnlaaGreatDoorGP2
set_option maxHeartbeats 0
set_option maxRecDepth 100000
namespace Go.Proofs.YtmenbpmciblnlaaGreatDoor
open Go.RowKit
def kx:List ai:=[(1,[(1,1)])]
def ky:List ai:=[(1,[(2,1)])]
theorem gN {p:List ai} (h1:∀t∈p,t.1≠0/\ aQ 0 t.2=true) (h2:H7 p=p):bD p:=by
 rw[<-h2];exact(wb λt ht=>(h1 t ht).2).1
theorem Hx:bD kx:=gN (by decide+kernel) (by decide+kernel)
theorem Hw:bD ky:=gN (by decide+kernel) (by decide+kernel)
theorem Ml.lit [Ol] (w:World) (u v:Int) (T:TypeId) (hu:fq u) (hv:fq v) (hT:NP.contains T=false:=by decide):Ml (w.alloc (.cells #[.int .i64 u,.int .i64 v] T)) (some ⟨w.heap.size,0,none⟩) 1 1 [(u,v)]:=by
 refine Ml.eK rfl (Nat.le_refl _) (by omega) (λp hp=>by simp at hp;subst hp;exact⟨hu,hv⟩) (λ_=>Kp.cS w _ T hT) λt ht=>?_
 obtain rfl:t=0:=by omega
 have hh:(w.alloc (.cells #[.int .i64 u,.int .i64 v] T)).heap[w.heap.size]? =some (.cells #[.int .i64 u,.int .i64 v] T (0,0)):=by
  show(w.heap.push _)[w.heap.size]? =_;rw[Array.getElem?_push_size]
 simp only[World.cell?,hh];simp
theorem Mb [Ol] (v:Int) (w:World) (h:fq v):
  Calls Tryz.prog 33 #[.int .i64 v] w (rS 2 w [(1,[(v,1)])]):=by
 have HV:=Lib.hid h;clear h;go_enter Tryz.func33,Tryz.ntmps33;go_wp2_with fail;refine(nv 1 w (by omega)).mono ?_;rintro e w1 ⟨m,ao,k,ae,rfl,hX,hB⟩;have HX:=Lib.hid hX;have HB:=Lib.hid hB;clear hX hB;go_wp2_with fail;go_ret;have hgl:=Gl.lit 3 (w1.alloc (.cells #[.int .i64 v,.int .i64 1] 72)) [.bool m,.slice ao k ae,.slice (some ⟨w1.heap.size,0,none⟩) 1 1] 87 rfl (by simp[Value.oneCell']);rw[show(w1.alloc (.cells #[.int .i64 v,.int .i64 1] 72)).heap.size=w1.heap.size+1 from by simp]at hgl;refine⟨_,_,_,rfl,⟨_,hgl,?_⟩,?_⟩
 ·have hM:=Ml.lit w1 v 1 72 HV.o (by unfold fq;omega);have hZ:=(HX.o.below (af w1 (.cells #[.int .i64 v,.int .i64 1] 72)));exact⟨⟨_,_,_,_,_,_,_,rfl,hZ.below (af _ _),CG (by omega),hM.below (af _ _)⟩,trivial⟩
 ·have h:=HB.o.size;exact(HB.o.alloc h _).alloc (by simp;omega) _
open Lib (hid)
def wide (t:kr):Bool:=decide ((20:Int)<t.1.2.length)||decide ((12:Int)<t.2.length)
def nL (ps:List kr) (most:Int):Bool:=ps.any wide||decide (most<(ps.length:Int))
theorem Jd {ps:List kr} {most:Int} (h:nL ps most=false):(∀t∈ps,t.1.2.length<=20/\ t.2.length<=12)/\ (ps.length:Int)<=most:=by
 unfold nL at h;rw[Bool.or_eq_false_iff]at h;refine⟨λt ht=>?_,by have:=of_decide_eq_false h.2;omega⟩;have h1:=h.1;rw[List.any_eq_false]at h1;have h2:=h1 t ht;unfold wide at h2;simp at h2;omega
theorem Gb [Ol] (r:Bool) (most:Int) {ao:Z'} {n ae:Nat} {ps:List kr} {w:World} (hp:Pr w ao n ae ps) (h:nL ps most=r):
  Calls Tryz.prog 19 #[.slice ao n ae,.int .i64 most] w (cr (.bool r) w):=by
 obtain⟨bF,hG,hT⟩:=hp.ex;have hbig:=hG.big;have yu:=hid hp.len;have Ui:=hid hG;have Uj:=hid hT;have HR:=hid h;clear hp hG hT h;go_enter Tryz.func19,Tryz.ntmps19;go_wp2;go_loopw [5] (λi wr=>∃k:Nat,i= .int .i64 k/\ k<=n/\ Hid (∀t,t<k->wide (ps.getD t gO)=false)/\ Hid (Below w.heap.size w wr)) (λi _=>n-(intOf i).toNat)
 case atStart=>exact⟨0,rfl,Nat.zero_le _,λt h=>by omega,Below.refl _ _⟩
 case round=>
  obtain⟨k,rfl,hk,HE,HB⟩:=hrel;by_cases hkn:k<n
  ·obtain⟨b,off,rfl,_,hca⟩:=Ui.o.at (by omega);have HCA:=hid hca;clear hca;have hcl:=HCA.o;obtain⟨xa,xn,xc,xp,xq,xr,hv,tz,qE⟩:=bV.get gO Uj.o k (by rw[yu.o];omega);have AL:k<ps.length:=by rw[yu.o];omega
   have Jp:ps.getD k gO=ps[k]:=by simp[List.getD,List.getElem?_eq_getElem AL]
   have hcells:∀V:World,Below w.heap.size w V->(V.cell? ⟨b,off+k*3,none⟩=some (.bool (ps.getD k gO).1.1)/\ V.cell? ⟨b,off+k*3+1,none⟩=some (.slice xa xn xc)/\ V.cell? ⟨b,off+k*3+2,none⟩=some (.slice xp xq xr)):=by
    intro V hV;have h0:=hcl V hV k (by omega) 0 (by omega);have h1:=hcl V hV k (by omega) 1 (by omega);have h2:=hcl V hV k (by omega) 2 (by omega);rw[hv]at h0 h1 h2;exact⟨h0,h1,h2⟩
   rw[Jp]at tz qE;obtain⟨xm,hxm⟩:∃xm,xm=(ps.getD k gO).1.1:=⟨_,rfl⟩;rw[<-hxm]at hcells;rw[Jp]at hxm;have vo:=hid hcells;have MC:=hid tz;have PM:=hid qE;have HNP:=hid hxm;clear hcl hv hcells tz qE Jp hxm;obtain⟨A,hA⟩:∃A,decide ((20:Int)<(xn:Int))=A:=⟨_,rfl⟩;obtain⟨C,hC⟩:∃C,decide ((12:Int)<(xq:Int))=C:=⟨_,rfl⟩;have HT:Hid (wide (ps[k])=(A||C)):=by rw[Hid,<-hA,<-hC];unfold wide;rw[MC.o.len,PM.o.len]
   have Zf:Hid ((A||C)=true->nL ps most=true):=λg=>by
    unfold nL;rw[Bool.or_eq_true,List.any_eq_true];exact .inl ⟨ps[k],List.getElem_mem _,by rw[HT.o];exact g⟩
   obtain⟨c0,c1,c2⟩:=vo.o _ HB.o;cases A with
   |true=>
    have HR2:Hid (r=true):=HR.o.symm.trans (Zf.o rfl);go_wp2_with fail;go_ret;have hr:=HR2.o;subst hr;exact⟨rfl,HB.o⟩
   |false=>
    cases C with
    |true=>
     have HR2:Hid (r=true):=HR.o.symm.trans (Zf.o rfl);go_wp2_with fail;go_ret;have hr:=HR2.o;subst hr;exact⟨rfl,HB.o⟩
    |false=>
     have HE2:Hid (∀t,t<k+1->wide (ps.getD t gO)=false):=λt ht=>by
      by_cases h:t<k
      ·exact HE.o t h
      ·obtain rfl:t=k:=by omega
       rw[RX AL,HT.o];rfl
     go_wp2_with fail;go_roundw
     case rel=>exact⟨k+1,by go_num,by omega,HE2,HB⟩
     case measure=>simp[intOf];omega
  ·obtain rfl:k=n:=by omega
   have HR2:Hid (r=decide (most<(k:Int))):=by
    rw[Hid,<-HR.o];unfold nL
    rw[show ps.any wide=false from by
     rw[List.any_eq_false];intro t ht;obtain⟨j,hj,rfl⟩:=List.getElem_of_mem ht;rw[<-RX hj,HE.o j (by rw[<-yu.o];exact hj)];simp,yu.o]
    rfl
   go_wp2_with fail;go_ret;have hr:=HR2.o;subst hr;exact⟨rfl,HB.o⟩
end Go.Proofs.YtmenbpmciblnlaaGreatDoor
