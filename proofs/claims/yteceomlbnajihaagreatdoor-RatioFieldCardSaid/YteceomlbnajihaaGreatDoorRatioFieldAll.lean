/-
  The law RatioField: all cases.
-/
import Derived.Test.YteceomlbnajihaaGreatDoorRatioFieldA
import Derived.Test.YteceomlbnajihaaGreatDoorRatioFieldM
import Derived.Deep.Cut
import Derived.Deep.CutRange
set_option maxRecDepth 8192
namespace Go.Proofs.YteceomlbnajihaaGreatDoor
open Go.RowKit

theorem ratioField_row {m0 k0 : Bool} {a0 b0 : Option Addr} {n0 c0 l0 d0 : Nat} {m1 k1 : Bool} {a1 b1 : Option Addr} {n1 c1 l1 d1 : Nat} {xs0 ys0 xs1 ys1 : List Nat} {w : World} (hs0 : Sl w a0 n0 c0 xs0) (ht0 : Sl w b0 l0 d0 ys0) (hs1 : Sl w a1 n1 c1 xs1) (ht1 : Sl w b1 l1 d1 ys1) (ht : Tab w) :
    Calls Tryz.prog 3 #[.agg #[.bool m0, .slice a0 n0 c0, .bool k0, .slice b0 l0 d0], .agg #[.bool m1, .slice a1 n1 c1, .bool k1, .slice b1 l1 d1]] w (RetB (.bool true) w) := by
  cases hg : ((decide (8 < n0) || decide (8 < l0)) || (decide (8 < n1) || decide (8 < l1))) with
  | true => exact ratioField_long ht hg
  | false =>
    simp only [Bool.or_eq_false_iff, decide_eq_false_iff_not, Nat.not_lt] at hg
    exact ratioField_main hs0 ht0 hs1 ht1 ht hg.1.1 hg.1.2 hg.2.1 hg.2.2

end Go.Proofs.YteceomlbnajihaaGreatDoor
