/-
  Products, sums and derivatives of polynomials as ones in a variable, in plain words: degrees, classes, initials, derivatives.
-/
import Derived.Test.YtodcddkiodmklaaGreatGV
set_option maxHeartbeats 40000000
set_option maxRecDepth 100000
namespace Go.Proofs.YtodcddkiodmklaaGreat
open Go.RowKit
theorem zz188 {p q : List Term} (hp : fall p) (hq : fall q) (hf : fitT p q) : fall (timesT p q) := (zz190 (zz58 hp) (zz58 hq) hf).1
end Go.Proofs.YtodcddkiodmklaaGreat
