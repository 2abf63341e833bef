/-
  In one: WDiv, WGcd.
-/
import Derived.Test.YtmaanhmdgmjhdaaGWA
import Derived.Test.YtmaanhmdgmjhdaaGDiv
import Derived.Deep.Cut
import Derived.Test.YtmaanhmdgmjhdaaGNatB
import Derived.Deep.LoopGhost
import Derived.Deep.QuietTactic
import Derived.BigQuiet
set_option maxRecDepth 8192
namespace Go.Proofs.Ytmaanhmdgmjhdaa
open Go.RowKit
end Go.Proofs.Ytmaanhmdgmjhdaa
