/-
  In one: WDiv, WGcd.
-/
import Derived.Test.YtmaanhmdgmjhdaaGreatGWA
import Derived.Test.YtmaanhmdgmjhdaaGreatGDiv
import Derived.Deep.Cut
import Derived.Test.YtmaanhmdgmjhdaaGreatGNatB
import Derived.Deep.LoopGhost
import Derived.Deep.QuietTactic
import Derived.BigQuiet
set_option maxRecDepth 8192
namespace Go.Proofs.YtmaanhmdgmjhdaaGreat
open Go.RowKit
theorem zOf_mod (m k : Bool) (a b : Nat) : zOf m (a % b) = (zOf m a).tmod (zOf k b) := by cases m <;> cases k <;> simp [zOf, Int.tmod_neg, Int.neg_tmod, Int.tmod_eq_emod_of_nonneg]
end Go.Proofs.YtmaanhmdgmjhdaaGreat
