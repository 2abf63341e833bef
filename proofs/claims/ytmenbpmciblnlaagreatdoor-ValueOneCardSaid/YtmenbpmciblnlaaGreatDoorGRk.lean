/- IntRow -/
import Derived.Test.YtmenbpmciblnlaaGreatDoorGLaw
import Derived.Lib.SmallJoins
import Derived.ChangeArms
set_option maxHeartbeats 40000000
set_option maxRecDepth 100000
namespace Go.Proofs.YtmenbpmciblnlaaGreatDoor
open Go.ChangeShapes Go.WideShapes Go.ChangeAt Go.RowKit Go.Joins
end Go.Proofs.YtmenbpmciblnlaaGreatDoor
