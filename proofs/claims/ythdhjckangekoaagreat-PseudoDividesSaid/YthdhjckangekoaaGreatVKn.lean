/-
  The contracts of porismlaw09.known (true) and plain.
-/
import Derived.Test.YthdhjckangekoaaGreatGVR
set_option maxHeartbeats 40000000
set_option maxRecDepth 100000
namespace Go.Proofs.YthdhjckangekoaaGreat
open Go.RowKit
end Go.Proofs.YthdhjckangekoaaGreat
