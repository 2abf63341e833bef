/- WDiv, WGcd -/
import Derived.Test.YthdhjckangekoaaGreatGWA
import Derived.Test.YthdhjckangekoaaGreatGDiv
import Derived.Deep.LoopGhost
set_option maxHeartbeats 40000000
set_option maxRecDepth 100000
namespace Go.Proofs.YthdhjckangekoaaGreat
open Go.RowKit
theorem RI (m k:Bool) (a b:Nat):dV m (a%b)=(dV m a).tmod (dV k b):=by cases m<;>cases k<;>simp[dV,Int.tmod_neg,Int.neg_tmod,Int.tmod_eq_emod_of_nonneg]
end Go.Proofs.YthdhjckangekoaaGreat
