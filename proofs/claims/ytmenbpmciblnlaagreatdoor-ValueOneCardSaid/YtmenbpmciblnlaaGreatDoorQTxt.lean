/-
  Quotients' texts, in plain lists: where the stroke stands, that texts of unlike quotients are unlike, and which texts with a stroke are a quotient's.
-/
import Derived.Test.YtmenbpmciblnlaaGreatDoorGTxtA
import Derived.Test.YtmenbpmciblnlaaGreatDoorGRa
set_option maxHeartbeats 40000000
set_option maxRecDepth 100000
namespace Go.Proofs.YtmenbpmciblnlaaGreatDoor
open Lib
end Go.Proofs.YtmenbpmciblnlaaGreatDoor
