/- WDiv, WGcd -/
import Derived.Test.YtmmgipcacceakaaGreatGWA
import Derived.Test.YtmmgipcacceakaaGreatGDiv
import Derived.Deep.LoopGhost
set_option maxHeartbeats 40000000
set_option maxRecDepth 100000
namespace Go.Proofs.YtmmgipcacceakaaGreat
open Go.RowKit
end Go.Proofs.YtmmgipcacceakaaGreat
