/-
  The contracts of the reference's Of, Less, Reduced, By of layer 15.
-/
import Derived.Test.YtmmgipcacceakaaRkP
import Derived.Test.YtmmgipcacceakaaVPz
set_option maxHeartbeats 40000000
set_option maxRecDepth 100000
namespace Go.Proofs.Ytmmgipcacceakaa
open Go.RowKit
section
variable {K B : Nat} {ao bo : Option Addr} {n cap m cb : Nat} {p q : List Term} {w : World}
end
end Go.Proofs.Ytmmgipcacceakaa
