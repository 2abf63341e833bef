/- PlLimbs -/
import Derived.Test.YtmenbpmciblnlaaGreatDoorGP5
set_option maxHeartbeats 40000000
set_option maxRecDepth 100000
namespace Go.Proofs.YtmenbpmciblnlaaGreatDoor
open Go.RowKit
def Dq (ps:List Raw):List Term:=if nK ps=true then ps.map rU else[]
theorem P9 {ps:List Raw} (h:nK ps=false):Dq ps=[]:=by unfold Dq;rw[h];rfl
theorem Du {ps:List Raw} (h:nK ps=true):Dq ps=ps.map rU:=if_pos h
theorem PO {ps:List Raw} (hw:∀t∈ps,Wf t.1.2):fall (Dq ps):=by
 cases h:nK ps with
 |false=>rw[P9 h];trivial
 |true=>rw[Du h];exact(yB hw h).1
theorem Q9 {p:List Term} (h:fall p):Dq (p.map jr)=p:=by
 rw[Du (Br h),List.map_map,show rU ∘ jr=id from funext qW,List.map_id]
theorem Pr.wfs [Ol] {w:World} {ao:Option Addr} {n cap:Nat} {ps:List Raw} (h:Pr w ao n cap ps):∀t∈ps,Wf t.1.2:=by
 intro t ht;obtain⟨i,hi,rfl⟩:=List.mem_iff_getElem.1 ht;obtain⟨_,_,_,_,_,_,_,_,_,_,_,hs,_⟩:=h.at (k:=i) (by rw[<-h.len];exact hi);rw[uM _ hi]at hs;exact hs.wf
theorem Pr.pln [Ol] {K:Nat} {w:World} {ao:Option Addr} {n cap:Nat} {ps:List Raw} (h:Pr w ao n cap ps) (hl:∀t∈ps,t.1.2.length<=K) (hm:nK ps=true):Pc K w ao n cap (Dq ps)/\ ps=(Dq ps).map jr:=by
 obtain⟨h1,h2⟩:=yB h.wfs hm;rw[Du hm];exact⟨Pr.pc (h2▸h) (h2▸hl),h2⟩
def OrZ [Ol] (K:Nat) (w:World) (n:Nat) (ps:List Raw) (e:Ending) (w':World):Prop:=∃ao k cap,e= .returned (.slice ao k cap)/\ Pc K w' ao k cap (Dq ps)/\ k<=n/\ Below w.heap.size w w'
section
variable {K:Nat} {ao:Option Addr} {n cap:Nat} {ps:List Raw} {w:World}
theorem VD [Ol] (hp:Pr w ao n cap ps) (hl:∀t∈ps,t.1.2.length<=K) {f:Nat}
  (h:∀r,nK ps=r->Calls Tryz.prog f #[.slice ao n cap] w (dI (if r=true then .slice ao n cap else .slice none 0 0) w)):Calls Tryz.prog f #[.slice ao n cap] w (OrZ K w n ps):=by
 cases hm:nK ps with
 |true=>
  refine(h true hm).mono ?_;rintro e w1 ⟨rfl,hB⟩;exact⟨ao,n,cap,rfl,(hp.pln hl hm).1.below hB,Nat.le_refl _,hB⟩
 |false=>
  refine(h false hm).mono ?_;rintro e w1 ⟨rfl,hB⟩;exact⟨none,0,0,rfl,by rw[P9 hm];exact Pc.zero K w1,Nat.zero_le _,hB⟩
end
end Go.Proofs.YtmenbpmciblnlaaGreatDoor
