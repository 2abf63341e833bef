/-
  What the law PolyPow wants: powers in one contract, what is told of two answers, a list of one term.
-/
import Derived.Test.YtmbgljjfmbhelaaGreatGPc
import Derived.Test.YtmbgljjfmbhelaaGreatPlKn
import Derived.Test.YtmbgljjfmbhelaaGreatPPow
set_option maxHeartbeats 40000000
set_option maxRecDepth 100000
namespace Go.Proofs.YtmbgljjfmbhelaaGreat
open Go.RowKit
theorem limbs_1 : limbs 1 = [1] := by decide +kernel
theorem pr_lit {w : World} {m : Bool} {ao : Option Addr} {n cap : Nat} (h : Cn w m ao n cap 1) {bo : Option Addr} {l cb : Nat} {ms : List (Int × Int)} (hM : Ml w bo l cb ms) (T : TypeId) :
  Pr (w.alloc (.cells #[.bool m, .slice ao n cap, .slice bo l cb] T)) (some ⟨w.heap.size, 0, none⟩) 1 1 [((false, [1]), ms)] := by
 have hs := h.sl; have hn := h.neg; rw [show (1 : Int).natAbs = 1 from rfl, limbs_1] at hs
 obtain rfl : m = false := by rw [hn]; rfl
 exact ⟨_, Gl.lit 3 w [.bool false, .slice ao n cap, .slice bo l cb] T rfl (by simp [Value.oneCell']), ⟨⟨_, _, _, _, _, _, rfl, hs.below (below_alloc _ _), hM.below (below_alloc _ _)⟩, trivial⟩⟩
theorem may_lit {ms : List (Int × Int)} {r : Bool} (h : mayM 0 ms = r) : mayR [((false, [1]), ms)] = r := by
 have e : [((false, [1]), ms)] = ([(1, ms)] : List Term).map rawC := by
  show _ = [rawC (1, ms)]
  unfold rawC
  rw [show ((1 : Int), ms).1.natAbs = 1 from rfl, limbs_1]
  rfl
 cases r with
 | true => rw [e]; exact mayR_rawC (p := [(1, ms)]) ⟨(by show (1 : Int) ≠ 0; decide), h, (fun _ h => by cases h), trivial⟩
 | false => exact mayR_no 0 (by simp) (by simp [okAt, mayT, h])
end Go.Proofs.YtmbgljjfmbhelaaGreat
