import Derived.Test.YtmenbpmciblnlaaGreatDoorGP5
set_option maxHeartbeats 0
set_option maxRecDepth 100000
namespace Go.Proofs.YtmenbpmciblnlaaGreatDoor
open Go.RowKit
def BZ (ps:List kr):List ai:=if jZ ps=true then ps.map iP else[]
theorem PC {ps:List kr} (h:jZ ps=false):BZ ps=[]:=by unfold BZ;rw[h];rfl
theorem B8 {ps:List kr} (h:jZ ps=true):BZ ps=ps.map iP:=if_pos h
theorem Pv {ps:List kr} (hw:∀t∈ps,Wf t.1.2):bD (BZ ps):=by
 cases h:jZ ps with
 |false=>rw[PC h];trivial
 |true=>rw[B8 h];exact(rQ hw h).1
theorem Re {p:List ai} (h:bD p):BZ (p.map ir)=p:=by
 rw[B8 (zH h),List.map_map,show iP ∘ ir=id from funext pT,List.map_id]
theorem Pr.wfs [Ol] {w:World} {ao:Z'} {n ae:Nat} {ps:List kr} (h:Pr w ao n ae ps):∀t∈ps,Wf t.1.2:=by
 intro t ht;obtain⟨i,hi,rfl⟩:=List.mem_iff_getElem.1 ht;obtain⟨_,_,_,_,_,_,_,_,_,_,_,hs,_⟩:=h.at (k:=i) (by rw[<-h.len];exact hi);rw[gI _ hi]at hs;exact hs.wf
theorem Pr.pln [Ol] {K:Nat} {w:World} {ao:Z'} {n ae:Nat} {ps:List kr} (h:Pr w ao n ae ps) (hl:∀t∈ps,t.1.2.length<=K) (hm:jZ ps=true):Pc K w ao n ae (BZ ps)/\ ps=(BZ ps).map ir:=by
 obtain⟨h1,h2⟩:=rQ h.wfs hm;rw[B8 hm];exact⟨Pr.pc (h2▸h) (h2▸hl),h2⟩
def OrZ [Ol] (K:Nat) (w:World) (n:Nat) (ps:List kr) (e:Ending) (w':World):Prop:=∃ao k ae,e= .returned (.slice ao k ae)/\ Pc K w' ao k ae (BZ ps)/\ k<=n/\ Below w.heap.size w w'
section
variable {K:Nat} {ao:Option Addr} {n ae:Nat} {ps:List kr} {w:World}
theorem Wc [Ol] (hp:Pr w ao n ae ps) (hl:∀t∈ps,t.1.2.length<=K) {f:Nat}
  (h:∀r,jZ ps=r->Calls Tryz.prog f #[.slice ao n ae] w (cr (if r=true then .slice ao n ae else .slice none 0 0) w)):Calls Tryz.prog f #[.slice ao n ae] w (OrZ K w n ps):=by
 cases hm:jZ ps with
 |true=>
  refine(h true hm).mono ?_;rintro e w1 ⟨rfl,hB⟩;exact⟨ao,n,ae,rfl,(hp.pln hl hm).1.below hB,Nat.le_refl _,hB⟩
 |false=>
  refine(h false hm).mono ?_;rintro e w1 ⟨rfl,hB⟩;exact⟨none,0,0,rfl,by rw[PC hm];exact Pc.zero K w1,Nat.zero_le _,hB⟩
end
end Go.Proofs.YtmenbpmciblnlaaGreatDoor
