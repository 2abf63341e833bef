/-
  The law PseudoDivides.
-/
import Derived.Test.YthdhjckangekoaaGreatPdvMain
import Derived.Test.YthdhjckangekoaaGreatPdvBad
set_option maxHeartbeats 40000000
set_option maxRecDepth 100000
namespace Go.Proofs.YthdhjckangekoaaGreat
open Go.RowKit
theorem sW [Ol] {fu li te pi:Int} {nn:Bool} {ao bo:Option Addr} {n cap m cb:Nat} {ps qs:List Raw} {w:World} (v:Int) (hp:Pr w ao n cap ps) (hq:Pr w bo m cb qs) (hlo:Ol.lo<=w.heap.size):Calls Tryz.prog 3 #[.slice ao n cap,.slice bo m cb,.int .i64 v,.agg #[.int .i64 fu,.int .i64 li,.int .i64 te,.int .i64 pi],.bool nn] w (bN (.bool true) w):=by
 cases h1:iV ps with
 |false=>exact I5 v hp hq hlo ⟨.inl h1,fun h=>by rw[h1]at h;cases h⟩ (.inl h1)
 |true=>
  have bad:=fun(h2:aI (ow qs) v=0)=>I5 (fu:=fu) (li:=li) (te:=te) (pi:=pi) (nn:=nn) v hp hq hlo ⟨.inr ⟨h1,h2⟩,fun _=>h2⟩
  cases h3:iV qs with
  |false=>exact bad (by rw[Gj h3];rfl) (.inr (.inl ⟨h1,h3⟩))
  |true=>
   by_cases h2:aI (ow qs) v=0
   ·exact bad h2 (.inr (.inr (by
     by_cases ha:v<1
     ·exact .inl ⟨h1,h3,ha⟩
     ·by_cases hb:200<v
      ·exact .inr (.inl ⟨h1,h3,hb⟩)
      ·exact .inr (.inr ⟨h1,h3,by omega,by omega⟩))))
   ·obtain⟨hfp,hpp⟩:=qf hp.wf' h1;obtain⟨jM,hqq⟩:=qf hq.wf' h3;rw[wQ h3]at h2;generalize ps.map mQ=p at hpp hfp;generalize qs.map mQ=q at hqq jM h2;subst hpp;subst hqq;have hv:1<=v/\ v<=200:=Classical.byContradiction fun h=>h2 (MR (ah jM) (by omega))
    exact MU v hp hq hlo hfp jM hv (by have:=uM q v;omega)
end Go.Proofs.YthdhjckangekoaaGreat
