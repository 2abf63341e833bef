/- WDiv, WGcd -/
import Derived.Test.YtmmgipcacceakaaGWA
import Derived.Test.YtmmgipcacceakaaGDiv
import Derived.Deep.LoopGhost
set_option maxHeartbeats 40000000
set_option maxRecDepth 100000
namespace Go.Proofs.Ytmmgipcacceakaa
open Go.RowKit
end Go.Proofs.Ytmmgipcacceakaa
