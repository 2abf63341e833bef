/-
  Products, sums and derivatives of polynomials as ones in a variable, in plain words: degrees, classes, initials, derivatives.
-/
import Derived.Test.YtdgpnfjohijpeaaGreatGV
set_option maxHeartbeats 40000000
set_option maxRecDepth 100000
namespace Go.Proofs.YtdgpnfjohijpeaaGreat
open Go.RowKit
end Go.Proofs.YtdgpnfjohijpeaaGreat
