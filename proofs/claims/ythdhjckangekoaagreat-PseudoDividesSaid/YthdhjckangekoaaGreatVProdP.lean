/-
  Products, sums and derivatives of polynomials as ones in a variable, in plain words: degrees, classes, initials, derivatives.
-/
import Derived.Test.YthdhjckangekoaaGreatGV
set_option maxHeartbeats 40000000
set_option maxRecDepth 100000
namespace Go.Proofs.YthdhjckangekoaaGreat
open Go.RowKit
theorem bY {p q:List Term} (hp:fall p) (hq:fall q) (hf:iA p q):fall (aU p q):=(eO (ah hp) (ah hq) hf).1
end Go.Proofs.YthdhjckangekoaaGreat
