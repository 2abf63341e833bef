/- PKnownP, PX, PGreat -/
import Derived.Test.YtmenbpmciblnlaaGreatDoorGP2
set_option maxHeartbeats 0
set_option maxRecDepth 100000
namespace Go.Proofs.YtmenbpmciblnlaaGreatDoor
open Go.RowKit
def kx:List Term:=[(1,[(1,1)])]
def ky:List Term:=[(1,[(2,1)])]
theorem jo {p:List Term} (h1:∀t∈p,t.1≠0/\ aZ 0 t.2=true) (h2:Co p=p):fall p:=by
 rw[<-h2];exact(oZ λt ht=>(h1 t ht).2).1
theorem Li:fall kx:=jo (by decide+kernel) (by decide+kernel)
theorem Lh:fall ky:=jo (by decide+kernel) (by decide+kernel)
theorem Ml.lit [Ol] (w:World) (u v:Int) (T:TypeId) (hu:gQ u) (hv:gQ v) (hT:JE.contains T=false:=by decide):Ml (w.alloc (.cells #[.int .i64 u,.int .i64 v] T)) (some ⟨w.heap.size,0,none⟩) 1 1 [(u,v)]:=by
 refine Ml.of_cells rfl (Nat.le_refl _) (by omega) (λp hp=>by simp at hp;subst hp;exact⟨hu,hv⟩) (λ_=>Kp.new w _ T hT) λt ht=>?_
 obtain rfl:t=0:=by omega
 have hh:(w.alloc (.cells #[.int .i64 u,.int .i64 v] T)).heap[w.heap.size]? =some (.cells #[.int .i64 u,.int .i64 v] T (0,0)):=by
  show(w.heap.push _)[w.heap.size]? =_;rw[Array.getElem?_push_size]
 simp only[World.cell?,hh];simp
theorem Qb [Ol] (v:Int) (w:World) (h:gQ v):
  Calls Tryz.prog 33 #[.int .i64 v] w (uz 2 w [(1,[(v,1)])]):=by
 have HV:=Lib.hid h;clear h;go_enter Tryz.func33,Tryz.ntmps33;go_wp2_with fail;refine(jX 1 w (by omega)).mono ?_;rintro e w1 ⟨m,ao,k,cap,rfl,hX,hB⟩;have HX:=Lib.hid hX;have HB:=Lib.hid hB;clear hX hB;go_wp2_with fail;go_ret;have hgl:=Gl.lit 3 (w1.alloc (.cells #[.int .i64 v,.int .i64 1] 72)) [.bool m,.slice ao k cap,.slice (some ⟨w1.heap.size,0,none⟩) 1 1] 87 rfl (by simp[Value.oneCell']);rw[show(w1.alloc (.cells #[.int .i64 v,.int .i64 1] 72)).heap.size=w1.heap.size+1 from by simp]at hgl;refine⟨_,_,_,rfl,⟨_,hgl,?_⟩,?_⟩
 ·have hM:=Ml.lit w1 v 1 72 HV.out (by unfold gQ;omega);have hZ:=(HX.out.below (af w1 (.cells #[.int .i64 v,.int .i64 1] 72)));exact⟨⟨_,_,_,_,_,_,_,rfl,hZ.below (af _ _),Gm (by omega),hM.below (af _ _)⟩,trivial⟩
 ·have h:=HB.out.size;exact(HB.out.alloc h _).alloc (by simp;omega) _
open Lib (hid)
def wide (t:Raw):Bool:=decide ((20:Int)<t.1.2.length)||decide ((12:Int)<t.2.length)
def qh (ps:List Raw) (most:Int):Bool:=ps.any wide||decide (most<(ps.length:Int))
theorem sM {ps:List Raw} {most:Int} (h:qh ps most=false):(∀t∈ps,t.1.2.length<=20/\ t.2.length<=12)/\ (ps.length:Int)<=most:=by
 unfold qh at h;rw[Bool.or_eq_false_iff]at h;refine⟨λt ht=>?_,by have:=of_decide_eq_false h.2;omega⟩;have h1:=h.1;rw[List.any_eq_false]at h1;have h2:=h1 t ht;unfold wide at h2;simp at h2;omega
theorem JF [Ol] (r:Bool) (most:Int) {ao:Option Addr} {n cap:Nat} {ps:List Raw} {w:World} (hp:Pr w ao n cap ps) (h:qh ps most=r):
  Calls Tryz.prog 19 #[.slice ao n cap,.int .i64 most] w (cu (.bool r) w):=by
 obtain⟨bS,hG,hT⟩:=hp.ex;have hbig:=hG.big;have xw:=hid hp.len;have Ut:=hid hG;have TV:=hid hT;have HR:=hid h;clear hp hG hT h;go_enter Tryz.func19,Tryz.ntmps19;go_wp2;go_loopw [5] (λi wr=>∃k:Nat,i= .int .i64 k/\ k<=n/\ Hid (∀t,t<k->wide (ps.getD t iq)=false)/\ Hid (Below w.heap.size w wr)) (λi _=>n-(intOf i).toNat)
 case atStart=>exact⟨0,rfl,Nat.zero_le _,λt h=>by omega,Below.refl _ _⟩
 case round=>
  obtain⟨k,rfl,hk,HE,HB⟩:=hrel;by_cases hkn:k<n
  ·obtain⟨b,off,rfl,_,hca⟩:=Ut.out.at (by omega);have XR:=hid hca;clear hca;have hcl:=XR.out;obtain⟨xa,xn,xc,xp,xq,xr,hv,tz,oF⟩:=cB.get iq TV.out k (by rw[xw.out];omega);have vG:k<ps.length:=by rw[xw.out];omega
   have Gn:ps.getD k iq=ps[k]:=by simp[List.getD,List.getElem?_eq_getElem vG]
   have hcells:∀V:World,Below w.heap.size w V->(V.cell? ⟨b,off+k*3,none⟩=some (.bool (ps.getD k iq).1.1)/\ V.cell? ⟨b,off+k*3+1,none⟩=some (.slice xa xn xc)/\ V.cell? ⟨b,off+k*3+2,none⟩=some (.slice xp xq xr)):=by
    intro V hV;have h0:=hcl V hV k (by omega) 0 (by omega);have h1:=hcl V hV k (by omega) 1 (by omega);have h2:=hcl V hV k (by omega) 2 (by omega);rw[hv]at h0 h1 h2;exact⟨h0,h1,h2⟩
   rw[Gn]at tz oF;obtain⟨xm,hxm⟩:∃xm,xm=(ps.getD k iq).1.1:=⟨_,rfl⟩;rw[<-hxm]at hcells;rw[Gn]at hxm;have vR:=hid hcells;have Lr:=hid tz;have Qk:=hid oF;have HNP:=hid hxm;clear hcl hv hcells tz oF Gn hxm;obtain⟨A,hA⟩:∃A,decide ((20:Int)<(xn:Int))=A:=⟨_,rfl⟩;obtain⟨C,hC⟩:∃C,decide ((12:Int)<(xq:Int))=C:=⟨_,rfl⟩;have HT:Hid (wide (ps[k])=(A||C)):=by rw[Hid,<-hA,<-hC];unfold wide;rw[Lr.out.len,Qk.out.len]
   have ac6:Hid ((A||C)=true->qh ps most=true):=λg=>by
    unfold qh;rw[Bool.or_eq_true,List.any_eq_true];exact .inl ⟨ps[k],List.getElem_mem _,by rw[HT.out];exact g⟩
   obtain⟨c0,c1,c2⟩:=vR.out _ HB.out;cases A with
   |true=>
    have HR2:Hid (r=true):=HR.out.symm.trans (ac6.out rfl);go_wp2_with fail;go_ret;have hr:=HR2.out;subst hr;exact⟨rfl,HB.out⟩
   |false=>
    cases C with
    |true=>
     have HR2:Hid (r=true):=HR.out.symm.trans (ac6.out rfl);go_wp2_with fail;go_ret;have hr:=HR2.out;subst hr;exact⟨rfl,HB.out⟩
    |false=>
     have HE2:Hid (∀t,t<k+1->wide (ps.getD t iq)=false):=λt ht=>by
      by_cases h:t<k
      ·exact HE.out t h
      ·obtain rfl:t=k:=by omega
       rw[Ac vG,HT.out];rfl
     go_wp2_with fail;go_roundw
     case rel=>exact⟨k+1,by go_num,by omega,HE2,HB⟩
     case measure=>simp[intOf];omega
  ·obtain rfl:k=n:=by omega
   have HR2:Hid (r=decide (most<(k:Int))):=by
    rw[Hid,<-HR.out];unfold qh
    rw[show ps.any wide=false from by
     rw[List.any_eq_false];intro t ht;obtain⟨j,hj,rfl⟩:=List.getElem_of_mem ht;rw[<-Ac hj,HE.out j (by rw[<-xw.out];exact hj)];simp,xw.out]
    rfl
   go_wp2_with fail;go_ret;have hr:=HR2.out;subst hr;exact⟨rfl,HB.out⟩
end Go.Proofs.YtmenbpmciblnlaaGreatDoor
