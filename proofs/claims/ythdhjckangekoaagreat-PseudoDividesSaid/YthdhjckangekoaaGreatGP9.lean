/- PlTry, PlLimbs -/
import Derived.Test.YthdhjckangekoaaGreatGP5
set_option maxHeartbeats 40000000
set_option maxRecDepth 100000
namespace Go.Proofs.YthdhjckangekoaaGreat
open Go.RowKit
def LY (p q:List Term):Int:=if zI p q=true then 0 else 8
theorem CZ {p q:List Term} (h:iA p q):LY p q=0:=if_pos (iM.2 h)
theorem XV {p q:List Term} (h:¬iA p q):LY p q=8:=if_neg (fun g=>h (iM.1 g))
theorem PE.mono [Ol] {K L:Nat} {w:World} {p:List Term} {er:Int} {e:Ending} {w':World} (h:PE K w p er e w') (hk:K<=L):PE L w p er e w':=by
 obtain⟨ao,n,cap,h1,h2,h3⟩:=h;exact⟨ao,n,cap,h1,h2.mono hk,h3⟩
theorem Pr.wf' [Ol] {w:World} {ao:Option Addr} {n cap:Nat} {ps:List Raw} (h:Pr w ao n cap ps):∀t∈ps,Wf t.1.2:=by
 intro t ht;obtain⟨i,hi,rfl⟩:=List.mem_iff_getElem.1 ht;obtain⟨_,_,_,_,_,_,_,_,_,_,_,hs,_⟩:=h.at (k:=i) (by rw[<-h.len];exact hi);rw[bJ _ hi]at hs;exact hs.wf
section
variable {K:Nat} {ao bo:Option Addr} {n cap m cb:Nat} {p q:List Term} {ps qs:List Raw} {w:World}
theorem Iz [Ol] (hp:Pc K w ao n cap p) (hq:Pc K w bo m cb q) (hfp:fall p) (jM:fall q) (hn:n<=300000) (hm:m<=300000) (hnm:n*m<=1000000) (hK:K<=1000):
  Calls Tryz.prog 127 #[.slice ao n cap,.slice bo m cb] w (PE (K+K+n+m) w (uR p q).1 (LY p q)):=by
 by_cases h:iA p q
 ·rw[qj h,CZ h];exact yZ hp hq hfp jM hn hm hnm hK (iM.2 h)
 ·rw[Jd h,XV h];refine(MF hp hq hfp jM hn hm hK (by simpa using fun g=>h (iM.1 g))).mono fun e V h=>h.mono (Nat.zero_le _)
end
def ow (ps:List Raw):List Term:=if iV ps=true then ps.map mQ else[]
theorem Gj {ps:List Raw} (h:iV ps=false):ow ps=[]:=by unfold ow;rw[h];rfl
theorem wQ {ps:List Raw} (h:iV ps=true):ow ps=ps.map mQ:=if_pos h
theorem FO {ps:List Raw} (hw:∀t∈ps,Wf t.1.2):fall (ow ps):=by
 cases h:iV ps with
 |false=>rw[Gj h];trivial
 |true=>rw[wQ h];exact(qf hw h).1
theorem BM {p:List Term} (h:fall p):ow (p.map iL)=p:=by
 rw[wQ (qV h),List.map_map,show mQ ∘ iL=id from funext qY,List.map_id]
theorem Pr.wfs [Ol] {w:World} {ao:Option Addr} {n cap:Nat} {ps:List Raw} (h:Pr w ao n cap ps):∀t∈ps,Wf t.1.2:=by
 intro t ht;obtain⟨i,hi,rfl⟩:=List.mem_iff_getElem.1 ht;obtain⟨_,_,_,_,_,_,_,_,_,_,_,hs,_⟩:=h.at (k:=i) (by rw[<-h.len];exact hi);rw[bJ _ hi]at hs;exact hs.wf
theorem Pr.pln [Ol] {K:Nat} {w:World} {ao:Option Addr} {n cap:Nat} {ps:List Raw} (h:Pr w ao n cap ps) (hl:∀t∈ps,t.1.2.length<=K) (hm:iV ps=true):Pc K w ao n cap (ow ps)/\ ps=(ow ps).map iL:=by
 obtain⟨h1,h2⟩:=qf h.wfs hm;rw[wQ hm];exact⟨Pr.pc (h2▸h) (h2▸hl),h2⟩
def OrZ [Ol] (K:Nat) (w:World) (n:Nat) (ps:List Raw) (e:Ending) (w':World):Prop:=∃ao k cap,e= .returned (.slice ao k cap)/\ Pc K w' ao k cap (ow ps)/\ k<=n/\ Below w.heap.size w w'
section
variable {K:Nat} {ao:Option Addr} {n cap:Nat} {ps:List Raw} {w:World}
theorem XG [Ol] (hp:Pr w ao n cap ps) (hl:∀t∈ps,t.1.2.length<=K) {f:Nat}
  (h:∀r,iV ps=r->Calls Tryz.prog f #[.slice ao n cap] w (bN (if r=true then .slice ao n cap else .slice none 0 0) w)):Calls Tryz.prog f #[.slice ao n cap] w (OrZ K w n ps):=by
 cases hm:iV ps with
 |true=>
  refine(h true hm).mono ?_;rintro e w1 ⟨rfl,hB⟩;exact⟨ao,n,cap,rfl,(hp.pln hl hm).1.below hB,Nat.le_refl _,hB⟩
 |false=>
  refine(h false hm).mono ?_;rintro e w1 ⟨rfl,hB⟩;exact⟨none,0,0,rfl,by rw[Gj hm];exact Pc.zero K w1,Nat.zero_le _,hB⟩
end
end Go.Proofs.YthdhjckangekoaaGreat
