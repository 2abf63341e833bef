/- PKnownP, PX -/
import Derived.Test.YtmenbpmciblnlaaGreatDoorGP1
set_option maxHeartbeats 40000000
set_option maxRecDepth 100000
namespace Go.Proofs.YtmenbpmciblnlaaGreatDoor
open Go.RowKit
def kx:List Term:=[(1,[(1,1)])]
def ky:List Term:=[(1,[(2,1)])]
theorem iR {p:List Term} (h1:∀t∈p,t.1≠0/\ bA 0 t.2=true) (h2:Tm p=p):fall p:=by
 rw[<-h2];exact(Eh fun t ht=>(h1 t ht).2).1
theorem IK:fall kx:=iR (by decide+kernel) (by decide+kernel)
theorem IJ:fall ky:=iR (by decide+kernel) (by decide+kernel)
theorem Ml.lit [Ol] (w:World) (u v:Int) (T:TypeId) (hu:jL u) (hv:jL v) (hT:Gu.contains T=false:=by decide):Ml (w.alloc (.cells #[.int .i64 u,.int .i64 v] T)) (some ⟨w.heap.size,0,none⟩) 1 1 [(u,v)]:=by
 refine Ml.of_cells rfl (Nat.le_refl _) (by omega) (fun p hp=>by simp at hp;subst hp;exact⟨hu,hv⟩) (fun _=>Kp.new w _ T hT) fun t ht=>?_
 obtain rfl:t=0:=by omega
 have hh:(w.alloc (.cells #[.int .i64 u,.int .i64 v] T)).heap[w.heap.size]? =some (.cells #[.int .i64 u,.int .i64 v] T (0,0)):=by
  show(w.heap.push _)[w.heap.size]? =_;rw[Array.getElem?_push_size]
 simp only[World.cell?,hh];simp
theorem Mv [Ol] (v:Int) (w:World) (h:jL v):
  Calls Tryz.prog 33 #[.int .i64 v] w (uy 2 w [(1,[(v,1)])]):=by
 have HV:=Lib.hid h;clear h;go_enter Tryz.func33,Tryz.ntmps33;go_wp2_with fail;refine(oQ 1 w (by omega)).mono ?_;rintro e w1 ⟨m,ao,k,cap,rfl,hX,hB⟩;have HX:=Lib.hid hX;have HB:=Lib.hid hB;clear hX hB;go_wp2_with fail;go_ret;have hgl:=Gl.lit 3 (w1.alloc (.cells #[.int .i64 v,.int .i64 1] 72)) [.bool m,.slice ao k cap,.slice (some ⟨w1.heap.size,0,none⟩) 1 1] 87 rfl (by simp[Value.oneCell']);rw[show(w1.alloc (.cells #[.int .i64 v,.int .i64 1] 72)).heap.size=w1.heap.size+1 from by simp]at hgl;refine⟨_,_,_,rfl,⟨_,hgl,?_⟩,?_⟩
 ·have hM:=Ml.lit w1 v 1 72 HV.out (by unfold jL;omega);have hZ:=(HX.out.below (af w1 (.cells #[.int .i64 v,.int .i64 1] 72)));exact⟨⟨_,_,_,_,_,_,_,rfl,hZ.below (af _ _),Ei (by omega),hM.below (af _ _)⟩,trivial⟩
 ·have h:=HB.out.size;exact(HB.out.alloc h _).alloc (by simp;omega) _
end Go.Proofs.YtmenbpmciblnlaaGreatDoor
