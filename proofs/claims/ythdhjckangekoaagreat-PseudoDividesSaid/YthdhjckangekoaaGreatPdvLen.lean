/-
  How long quotients and rests are.
-/
import Derived.Test.YthdhjckangekoaaGreatPsO
set_option maxHeartbeats 40000000
set_option maxRecDepth 100000
namespace Go.Proofs.YthdhjckangekoaaGreat
open Go.RowKit
theorem Dy {g f:List Term} {v E F:Int} {N C Cq SG SF K:Nat} {kq:Bool} {o:Option MS} {q r:List Term} {s:Nat} {e:Int} {t:Option MS} (hd:lI g f v E F N) (hz:VX g f N C Cq SG SF K) (h:Ends g f v kq o ⟨q,r,s,e,t⟩):q.length<=100000/\ r.length<=100000:=by
 obtain⟨n,h1,h3⟩:=h;have hs:=hz.ok hd kq n (kX h1);rcases h3 with⟨a,h⟩|⟨_,⟨b,h⟩|⟨_,⟨c,h⟩|⟨_,d,h⟩⟩⟩<;>(simp only[Out.mk.injEq]at h;obtain⟨rfl,rfl,_⟩:=h)
 ·exact⟨hs.qq,hs.ll⟩
 all_goals exact⟨by simp,by simp⟩
theorem vT [Ol] {mv:Value} {b0:Option Nat} {o:Option MS} {fo Am:Option Addr} {fn fc gn gc:Nat} {fs gs:List Raw} {v:Int} {kq:Bool} {w:World} (hM:dB w mv b0 o) (hp:Pr w fo fn fc fs) (hl:∀t∈fs,t.1.2.length<=1000) (hg:Pr w Am gn gc gs) (hlg:∀t∈gs,t.1.2.length<=1000) (h:iV fs=false∨(iV fs=true/\ aI (ow gs) v=0)):
  Calls Tryz.prog 24 #[mv,.slice fo fn fc,.slice Am gn gc,.int .i64 v,.bool kq] w (wL w mv b0 (fun u=>u=⟨[],[],0,2,o⟩) 0):=by
 rcases h with h|⟨h,h2⟩
 ·exact NM hM hp hl h
 ·exact NN hM hp hl h hg hlg h2
end Go.Proofs.YthdhjckangekoaaGreat
