/- VPlain -/
import Derived.Test.YtmbgljjfmbhelaaGreatGP2
set_option maxHeartbeats 40000000
set_option maxRecDepth 100000
namespace Go.Proofs.YtmbgljjfmbhelaaGreat
open Go.RowKit
end Go.Proofs.YtmbgljjfmbhelaaGreat
