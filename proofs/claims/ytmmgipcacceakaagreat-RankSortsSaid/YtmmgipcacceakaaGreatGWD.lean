/- WDiv, WGcd -/
import Derived.Test.YtmmgipcacceakaaGreatGWA
import Derived.Test.YtmmgipcacceakaaGreatGDiv
import Derived.Deep.LoopGhost
set_option maxHeartbeats 40000000
set_option maxRecDepth 100000
namespace Go.Proofs.YtmmgipcacceakaaGreat
open Go.RowKit
theorem zOf_mod (m k : Bool) (a b : Nat) : zOf m (a % b) = (zOf m a).tmod (zOf k b) := by cases m <;> cases k <;> simp [zOf, Int.tmod_neg, Int.neg_tmod, Int.tmod_eq_emod_of_nonneg]
end Go.Proofs.YtmmgipcacceakaaGreat
