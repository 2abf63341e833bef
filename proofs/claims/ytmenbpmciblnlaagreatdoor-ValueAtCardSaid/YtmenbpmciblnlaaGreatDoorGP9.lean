/- PlLimbs -/
import Derived.Test.YtmenbpmciblnlaaGreatDoorGP5
set_option maxHeartbeats 0
set_option maxRecDepth 100000
namespace Go.Proofs.YtmenbpmciblnlaaGreatDoor
open Go.RowKit
def Eu (ps:List Raw):List Term:=if kX ps=true then ps.map mq else[]
theorem Q0 {ps:List Raw} (h:kX ps=false):Eu ps=[]:=by unfold Eu;rw[h];rfl
theorem EL {ps:List Raw} (h:kX ps=true):Eu ps=ps.map mq:=if_pos h
theorem Qj {ps:List Raw} (hw:∀t∈ps,Wf t.1.2):fall (Eu ps):=by
 cases h:kX ps with
 |false=>rw[Q0 h];trivial
 |true=>rw[EL h];exact(vL hw h).1
theorem UU {p:List Term} (h:fall p):Eu (p.map jO)=p:=by
 rw[EL (Dp h),List.map_map,show mq ∘ jO=id from funext sZ,List.map_id]
theorem Pr.wfs [Ol] {w:World} {ao:Option Addr} {n cap:Nat} {ps:List Raw} (h:Pr w ao n cap ps):∀t∈ps,Wf t.1.2:=by
 intro t ht;obtain⟨i,hi,rfl⟩:=List.mem_iff_getElem.1 ht;obtain⟨_,_,_,_,_,_,_,_,_,_,_,hs,_⟩:=h.at (k:=i) (by rw[<-h.len];exact hi);rw[sP _ hi]at hs;exact hs.wf
theorem Pr.pln [Ol] {K:Nat} {w:World} {ao:Option Addr} {n cap:Nat} {ps:List Raw} (h:Pr w ao n cap ps) (hl:∀t∈ps,t.1.2.length<=K) (hm:kX ps=true):Pc K w ao n cap (Eu ps)/\ ps=(Eu ps).map jO:=by
 obtain⟨h1,h2⟩:=vL h.wfs hm;rw[EL hm];exact⟨Pr.pc (h2▸h) (h2▸hl),h2⟩
def OrZ [Ol] (K:Nat) (w:World) (n:Nat) (ps:List Raw) (e:Ending) (w':World):Prop:=∃ao k cap,e= .returned (.slice ao k cap)/\ Pc K w' ao k cap (Eu ps)/\ k<=n/\ Below w.heap.size w w'
section
variable {K:Nat} {ao:Option Addr} {n cap:Nat} {ps:List Raw} {w:World}
theorem XQ [Ol] (hp:Pr w ao n cap ps) (hl:∀t∈ps,t.1.2.length<=K) {f:Nat}
  (h:∀r,kX ps=r->Calls Tryz.prog f #[.slice ao n cap] w (cu (if r=true then .slice ao n cap else .slice none 0 0) w)):Calls Tryz.prog f #[.slice ao n cap] w (OrZ K w n ps):=by
 cases hm:kX ps with
 |true=>
  refine(h true hm).mono ?_;rintro e w1 ⟨rfl,hB⟩;exact⟨ao,n,cap,rfl,(hp.pln hl hm).1.below hB,Nat.le_refl _,hB⟩
 |false=>
  refine(h false hm).mono ?_;rintro e w1 ⟨rfl,hB⟩;exact⟨none,0,0,rfl,by rw[Q0 hm];exact Pc.zero K w1,Nat.zero_le _,hB⟩
end
end Go.Proofs.YtmenbpmciblnlaaGreatDoor
