/-
  What the rows of laws that list the library's tables share: from the row's condition to the table of powers of ten; a start that meets it.
-/
import Derived.Test.YteceomlbnajihaaGreatDoorGTxtA
import Derived.Test.YteceomlbnajihaaGreatDoorGLaw
import Derived.LaidMore
import Derived.OpenShut
import Derived.Stop.Joined
import Derived.Stop.LaidErr
import Derived.Lib.LaidTab
set_option maxRecDepth 8192
namespace Go.Proofs.YteceomlbnajihaaGreatDoor
open Go.ChangeShapes Go.WideShapes Go.ChangeAt Go.RowKit

/-- the variables that this seat's rows list -/
def listed : List (String × DataW Unit) := Rows.ratioFieldRow.laid

theorem door_met (os : Os) (args : Array Value) : laidMetH Tryz.prog listed ((World.doorLaid Tryz.prog 400 os).forCall (fun _ _ => 0) ⟨#[], args, []⟩).memory :=
  laidMetH_of_parts3 (fuel := 8) (laidMet_of_run' 8 (by kernel_rfl) (by kernel_rfl)) (by kernel_rfl) (by kernel_rfl)

theorem tab_listed : Rows.laid_internal_strconv_uint64pow10 (H := Unit) = Lib.tabData .u64 Lib.pow10Tab := by kernel_rfl

theorem tab_of_laid {W : World} (h : laidMetH Tryz.prog listed W) : Tab W := by
  rw [MakeChecks.laidMetH_plain _ _ _ (by kernel_rfl)] at h
  have h1 : laidMet Tryz.prog (_ :: _ :: _ :: _) W := h
  have h3 := h1.tail.tail
  rw [tab_listed] at h3
  exact Lib.tabIs_of_head (g := 2) (t := 173) (e := 87) (n := 20) (by kernel_rfl) (by kernel_rfl) Tryz.underlying173 Tryz.underlying87 (by kernel_rfl) (by kernel_rfl) h3

end Go.Proofs.YteceomlbnajihaaGreatDoor
