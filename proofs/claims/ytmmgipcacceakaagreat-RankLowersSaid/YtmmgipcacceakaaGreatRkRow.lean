/-
  An argument that is a list of polynomials, whatever its length.
-/
import Derived.Test.YtmmgipcacceakaaGreatLPRow
import Derived.Test.YtmmgipcacceakaaGreatGRk3
set_option maxHeartbeats 40000000
set_option maxRecDepth 100000
namespace Go.Proofs.YtmmgipcacceakaaGreat
open Go.ChangeShapes Go.WideShapes Go.ChangeAt Go.RowKit Go.Deep
end Go.Proofs.YtmmgipcacceakaaGreat
