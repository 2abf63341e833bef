/- WDiv, WGcd -/
import Derived.Test.YtodcddkiodmklaaGreatGWA
import Derived.Test.YtodcddkiodmklaaGreatGDiv
import Derived.Deep.LoopGhost
set_option maxHeartbeats 40000000
set_option maxRecDepth 100000
namespace Go.Proofs.YtodcddkiodmklaaGreat
open Go.RowKit
end Go.Proofs.YtodcddkiodmklaaGreat
