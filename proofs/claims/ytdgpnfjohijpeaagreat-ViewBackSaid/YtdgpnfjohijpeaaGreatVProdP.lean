/-
  Products, sums and derivatives of polynomials as ones in a variable, in plain words: degrees, classes, initials, derivatives.
-/
import Derived.Test.YtdgpnfjohijpeaaGreatGV
set_option maxHeartbeats 40000000
set_option maxRecDepth 100000
namespace Go.Proofs.YtdgpnfjohijpeaaGreat
open Go.RowKit
theorem lin_zero (p : List Term) : lin (fun _ => 0) p = 0 := by
 induction p with
 | nil => rfl
 | cons t r ih => simp only [lin, ih]; omega
theorem timesT_fall {p q : List Term} (hp : fall p) (hq : fall q) (hf : fitT p q) : fall (timesT p q) := (timesT_spec (fall_mays hp) (fall_mays hq) hf).1
end Go.Proofs.YtdgpnfjohijpeaaGreat
