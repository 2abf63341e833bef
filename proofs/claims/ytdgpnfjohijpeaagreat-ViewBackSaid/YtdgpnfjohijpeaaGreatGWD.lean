/- WDiv, WGcd -/
import Derived.Test.YtdgpnfjohijpeaaGreatGWA
import Derived.Test.YtdgpnfjohijpeaaGreatGDiv
import Derived.Deep.LoopGhost
set_option maxHeartbeats 40000000
set_option maxRecDepth 100000
namespace Go.Proofs.YtdgpnfjohijpeaaGreat
open Go.RowKit
end Go.Proofs.YtdgpnfjohijpeaaGreat
