/-
  What is alive in a walk, in one fact: variables with their cells, and values that go on standing for what they stand for while the blocks that they look at stay.
-/
import Derived.Test.YtmbgljjfmbhelaaGreatGWInt
import Derived.Test.YtmbgljjfmbhelaaGreatGSt
set_option maxHeartbeats 40000000
set_option maxRecDepth 100000
namespace Go.Proofs.YtmbgljjfmbhelaaGreat
open Go.RowKit
end Go.Proofs.YtmbgljjfmbhelaaGreat
