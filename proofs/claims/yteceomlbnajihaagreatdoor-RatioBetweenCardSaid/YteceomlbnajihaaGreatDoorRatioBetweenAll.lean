/-
  The law RatioBetween: all cases.
-/
import Derived.Test.YteceomlbnajihaaGreatDoorRatioBetween
import Derived.Deep.Cut
import Derived.Deep.CutRange
set_option maxRecDepth 8192
namespace Go.Proofs.YteceomlbnajihaaGreatDoor
open Go.RowKit

theorem ratioBetween_row {m0 k0 : Bool} {a0 b0 : Option Addr} {n0 c0 l0 d0 : Nat} {m1 k1 : Bool} {a1 b1 : Option Addr} {n1 c1 l1 d1 : Nat} {m2 k2 : Bool} {a2 b2 : Option Addr} {n2 c2 l2 d2 : Nat} {xs0 ys0 xs1 ys1 xs2 ys2 : List Nat} {w : World} (hs0 : Sl w a0 n0 c0 xs0) (ht0 : Sl w b0 l0 d0 ys0) (hs1 : Sl w a1 n1 c1 xs1) (ht1 : Sl w b1 l1 d1 ys1) (hs2 : Sl w a2 n2 c2 xs2) (ht2 : Sl w b2 l2 d2 ys2) (ht : Tab w) :
    Calls Tryz.prog 7 #[.agg #[.bool m0, .slice a0 n0 c0, .bool k0, .slice b0 l0 d0], .agg #[.bool m1, .slice a1 n1 c1, .bool k1, .slice b1 l1 d1], .agg #[.bool m2, .slice a2 n2 c2, .bool k2, .slice b2 l2 d2]] w (RetB (.bool true) w) := by
  cases hg : ((decide (8 < n0) || decide (8 < l0)) || (decide (8 < n1) || decide (8 < l1)) || (decide (8 < n2) || decide (8 < l2))) with
  | true => exact ratioBetween_long ht hg
  | false =>
    simp only [Bool.or_eq_false_iff, decide_eq_false_iff_not, Nat.not_lt] at hg
    by_cases h0 : qv (zOf m0 (val xs0)) (zOf k0 (val ys0)) = 0
    · exact ratioBetween_zero hs0 ht0 hs1 ht1 hs2 ht2 ht hg.1.1.1 hg.1.1.2 hg.1.2.1 hg.1.2.2 hg.2.1 hg.2.2 h0
    · exact ratioBetween_some hs0 ht0 hs1 ht1 hs2 ht2 ht hg.1.1.1 hg.1.1.2 hg.1.2.1 hg.1.2.2 hg.2.1 hg.2.2 h0

end Go.Proofs.YteceomlbnajihaaGreatDoor
