/-
  The contracts of porismref08.Pow.
-/
import Derived.Test.YtmbgljjfmbhelaaGreatGP1
set_option maxHeartbeats 40000000
set_option maxRecDepth 100000
namespace Go.Proofs.YtmbgljjfmbhelaaGreat
open Go.RowKit
end Go.Proofs.YtmbgljjfmbhelaaGreat
