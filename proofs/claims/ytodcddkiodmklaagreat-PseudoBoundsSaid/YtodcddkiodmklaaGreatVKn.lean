/-
  The contracts of porismlaw09.known (true) and plain.
-/
import Derived.Test.YtodcddkiodmklaaGreatGVR
set_option maxHeartbeats 40000000
set_option maxRecDepth 100000
namespace Go.Proofs.YtodcddkiodmklaaGreat
open Go.RowKit
end Go.Proofs.YtodcddkiodmklaaGreat
