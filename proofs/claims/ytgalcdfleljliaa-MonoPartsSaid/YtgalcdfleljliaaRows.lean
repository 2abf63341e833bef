/-
  No cell of these rows narrows 'for every input' (looked for: loops, veiled, ifaces, maps, wideKeys, modest, calm, conditions, laid).
  DERIVED. THE GIVEN ROWS OF THIS SEAT. 6 by the template 'for every input the law returns true; each argument reads behind the call as it read before'; 0 by the template 'total and deterministic' (their statements: YtgalcdfleljliaaTotals.lean).
  GIVEN WITH THE SEED: the statements are not yours to turn. If you find one false, say at which input.
  Laid BY PROGRAM, IN A SANDBOX (cutbox-rows.mjs): the forced cells as the released guide's own fill.sh prints them over the translation 9e450b6d5438286a… (all of the seat's roots in one cut). By AI agents, Wed Nov 11 2026. No macro, syntax, notation, axiom, sorry.
-/
import Derived.Test.YtgalcdfleljliaaChecked
import GoSem.Claim
import GoSem.ClaimJoined
import GoSem.ClaimMapViews
import Derived.JoinedTies
import Derived.KernelRfl
namespace Go.Proofs.Ytgalcdfleljliaa
/- THE CELL 'sum', in the pinned program and in every row, IS THE sha256 OF THE DUMP (.gsa) THAT YtgalcdfleljliaaProg.lean LOADS. Nothing in Lean hashes anything: it is a label: what it is worth is what the hold of that sum in a sandbox is worth. -/
noncomputable def Try.pinned : Pinned := { name := "ytgalcdfleljliaa", sum := "9e450b6d5438286a997e75b13017978c107ffafd22ad34f02d06d5765fc3d2a3", checked := Try.checked }
namespace Rows
def none {H : Type} : Left H := { results := [], args := [] }

/-- 'porismlaw07.MonoTimes': WHATEVER THE INPUT: true; the input reads as it did. -/
def monoTimesSpec : ChangeSpec := { name := "monoTimes", fn := fun _ => fun
  | [d1, d2] => { results := [.lit (.bool true)], args := [d1, d2] }
  | _ => none }
def monoTimesRow : OpenClaim := { program := "ytgalcdfleljliaa", sum := "9e450b6d5438286a997e75b13017978c107ffafd22ad34f02d06d5765fc3d2a3", func := "porism/porismlaw07.MonoTimes", spec := "monoTimes", unfollowed := true, recurses := true, apart := false }
def MonoTimesSaid : Prop := monoTimesRow.holds Try.pinned (OpenSpec.ofChange monoTimesSpec)

/-- ITS FALSE NEIGHBOUR: 'it returns false'. Refute it at one input. -/
def monoTimesWrong : ChangeSpec := { name := "monoTimes", fn := fun _ => fun
  | [d1, d2] => { results := [.lit (.bool false)], args := [d1, d2] }
  | _ => none }
def MonoTimesWrongFalsely : Prop := monoTimesRow.holds Try.pinned (OpenSpec.ofChange monoTimesWrong)

/-- 'porismlaw07.MonoOrders': WHATEVER THE INPUT: true; the input reads as it did. -/
def monoOrdersSpec : ChangeSpec := { name := "monoOrders", fn := fun _ => fun
  | [d1, d2, d3] => { results := [.lit (.bool true)], args := [d1, d2, d3] }
  | _ => none }
def monoOrdersRow : OpenClaim := { program := "ytgalcdfleljliaa", sum := "9e450b6d5438286a997e75b13017978c107ffafd22ad34f02d06d5765fc3d2a3", func := "porism/porismlaw07.MonoOrders", spec := "monoOrders", unfollowed := true, recurses := true, apart := false }
def MonoOrdersSaid : Prop := monoOrdersRow.holds Try.pinned (OpenSpec.ofChange monoOrdersSpec)

/-- ITS FALSE NEIGHBOUR: 'it returns false'. Refute it at one input. -/
def monoOrdersWrong : ChangeSpec := { name := "monoOrders", fn := fun _ => fun
  | [d1, d2, d3] => { results := [.lit (.bool false)], args := [d1, d2, d3] }
  | _ => none }
def MonoOrdersWrongFalsely : Prop := monoOrdersRow.holds Try.pinned (OpenSpec.ofChange monoOrdersWrong)

/-- 'porismlaw07.MonoCommon': WHATEVER THE INPUT: true; the input reads as it did. -/
def monoCommonSpec : ChangeSpec := { name := "monoCommon", fn := fun _ => fun
  | [d1, d2, d3] => { results := [.lit (.bool true)], args := [d1, d2, d3] }
  | _ => none }
def monoCommonRow : OpenClaim := { program := "ytgalcdfleljliaa", sum := "9e450b6d5438286a997e75b13017978c107ffafd22ad34f02d06d5765fc3d2a3", func := "porism/porismlaw07.MonoCommon", spec := "monoCommon", unfollowed := true, recurses := true, apart := false }
def MonoCommonSaid : Prop := monoCommonRow.holds Try.pinned (OpenSpec.ofChange monoCommonSpec)

/-- ITS FALSE NEIGHBOUR: 'it returns false'. Refute it at one input. -/
def monoCommonWrong : ChangeSpec := { name := "monoCommon", fn := fun _ => fun
  | [d1, d2, d3] => { results := [.lit (.bool false)], args := [d1, d2, d3] }
  | _ => none }
def MonoCommonWrongFalsely : Prop := monoCommonRow.holds Try.pinned (OpenSpec.ofChange monoCommonWrong)

/-- 'porismlaw07.MonoBack': WHATEVER THE INPUT: true; the input reads as it did. -/
def monoBackSpec : ChangeSpec := { name := "monoBack", fn := fun _ => fun
  | [d1, d2] => { results := [.lit (.bool true)], args := [d1, d2] }
  | _ => none }
def monoBackRow : OpenClaim := { program := "ytgalcdfleljliaa", sum := "9e450b6d5438286a997e75b13017978c107ffafd22ad34f02d06d5765fc3d2a3", func := "porism/porismlaw07.MonoBack", spec := "monoBack", unfollowed := true, recurses := true, apart := false }
def MonoBackSaid : Prop := monoBackRow.holds Try.pinned (OpenSpec.ofChange monoBackSpec)

/-- ITS FALSE NEIGHBOUR: 'it returns false'. Refute it at one input. -/
def monoBackWrong : ChangeSpec := { name := "monoBack", fn := fun _ => fun
  | [d1, d2] => { results := [.lit (.bool false)], args := [d1, d2] }
  | _ => none }
def MonoBackWrongFalsely : Prop := monoBackRow.holds Try.pinned (OpenSpec.ofChange monoBackWrong)

/-- 'porismlaw07.MonoTotal': WHATEVER THE INPUT: true; the input reads as it did. -/
def monoTotalSpec : ChangeSpec := { name := "monoTotal", fn := fun _ => fun
  | [d1, d2, d3] => { results := [.lit (.bool true)], args := [d1, d2, d3] }
  | _ => none }
def monoTotalRow : OpenClaim := { program := "ytgalcdfleljliaa", sum := "9e450b6d5438286a997e75b13017978c107ffafd22ad34f02d06d5765fc3d2a3", func := "porism/porismlaw07.MonoTotal", spec := "monoTotal", unfollowed := true, recurses := true, apart := false }
def MonoTotalSaid : Prop := monoTotalRow.holds Try.pinned (OpenSpec.ofChange monoTotalSpec)

/-- ITS FALSE NEIGHBOUR: 'it returns false'. Refute it at one input. -/
def monoTotalWrong : ChangeSpec := { name := "monoTotal", fn := fun _ => fun
  | [d1, d2, d3] => { results := [.lit (.bool false)], args := [d1, d2, d3] }
  | _ => none }
def MonoTotalWrongFalsely : Prop := monoTotalRow.holds Try.pinned (OpenSpec.ofChange monoTotalWrong)

/-- 'porismlaw07.MonoParts': WHATEVER THE INPUT: true; the input reads as it did. -/
def monoPartsSpec : ChangeSpec := { name := "monoParts", fn := fun _ => fun
  | [d] => { results := [.lit (.bool true)], args := [d] }
  | _ => none }
def monoPartsRow : OpenClaim := { program := "ytgalcdfleljliaa", sum := "9e450b6d5438286a997e75b13017978c107ffafd22ad34f02d06d5765fc3d2a3", func := "porism/porismlaw07.MonoParts", spec := "monoParts", unfollowed := true, recurses := true, apart := false }
def MonoPartsSaid : Prop := monoPartsRow.holds Try.pinned (OpenSpec.ofChange monoPartsSpec)

/-- ITS FALSE NEIGHBOUR: 'it returns false'. Refute it at one input. -/
def monoPartsWrong : ChangeSpec := { name := "monoParts", fn := fun _ => fun
  | [d] => { results := [.lit (.bool false)], args := [d] }
  | _ => none }
def MonoPartsWrongFalsely : Prop := monoPartsRow.holds Try.pinned (OpenSpec.ofChange monoPartsWrong)

/- THE SECOND FORM. 'bulk': how many values and letters a reading holds, each counted each time it is reached (what is shared counts as often as it is met; a slice's spare places count too). A statement '..UptoSaid' is the law's where the arguments, and the package variables that the reading takes, are together of bulk at most 1048576: NARROWER than '..Said'. Prove '..Said' where nothing that the law and all that it calls make is longer than what came in: it says more and counts as full. Else prove '..UptoSaid'. A law counts once. -/
mutual
def uptoBulk {H : Type} : DataW H → Nat
  | .lit (.string bytes) => bytes.length + 1
  | .lit _ => 1
  | .nil => 1
  | .ptr d => uptoBulk d + 1
  | .slice elems spare => uptoBulkAll elems + uptoBulkAll spare + 1
  | .agg parts => uptoBulkAll parts + 1
  | .iface _ d => uptoBulk d + 1
  | .map entries => uptoBulkEntries entries + 1
  | .held _ => 1
def uptoBulkAll {H : Type} : List (DataW H) → Nat
  | [] => 0
  | d :: r => uptoBulk d + uptoBulkAll r
def uptoBulkEntries {H : Type} : List (Lit × DataW H) → Nat
  | [] => 0
  | x :: r => uptoBulkEntry x + uptoBulkEntries r
def uptoBulkEntry {H : Type} : Lit × DataW H → Nat
  | (.string bytes, d) => bytes.length + uptoBulk d + 1
  | (_, d) => uptoBulk d + 1
 end
def uptoSmall : (H : Type) → List (DataW H) → Bool := fun _ ds => decide (uptoBulkAll ds ≤ 1048576)
def OpenSpec.upto (s : _root_.Go.ChangeSpec) : _root_.Go.OpenSpec := { _root_.Go.OpenSpec.ofChange s with cond := some uptoSmall }

/-- 'porismlaw07.MonoTimes', WHERE WHAT IT READS IS OF BULK AT MOST 1048576: true; the input reads as it did. -/
def monoTimesUptoRow : OpenClaim := { program := "ytgalcdfleljliaa", sum := "9e450b6d5438286a997e75b13017978c107ffafd22ad34f02d06d5765fc3d2a3", func := "porism/porismlaw07.MonoTimes", spec := "monoTimes", unfollowed := true, recurses := true, apart := false, narrowed := true }
def MonoTimesUptoSaid : Prop := monoTimesUptoRow.holds Try.pinned (OpenSpec.upto monoTimesSpec)

/-- 'porismlaw07.MonoOrders', WHERE WHAT IT READS IS OF BULK AT MOST 1048576: true; the input reads as it did. -/
def monoOrdersUptoRow : OpenClaim := { program := "ytgalcdfleljliaa", sum := "9e450b6d5438286a997e75b13017978c107ffafd22ad34f02d06d5765fc3d2a3", func := "porism/porismlaw07.MonoOrders", spec := "monoOrders", unfollowed := true, recurses := true, apart := false, narrowed := true }
def MonoOrdersUptoSaid : Prop := monoOrdersUptoRow.holds Try.pinned (OpenSpec.upto monoOrdersSpec)

/-- 'porismlaw07.MonoCommon', WHERE WHAT IT READS IS OF BULK AT MOST 1048576: true; the input reads as it did. -/
def monoCommonUptoRow : OpenClaim := { program := "ytgalcdfleljliaa", sum := "9e450b6d5438286a997e75b13017978c107ffafd22ad34f02d06d5765fc3d2a3", func := "porism/porismlaw07.MonoCommon", spec := "monoCommon", unfollowed := true, recurses := true, apart := false, narrowed := true }
def MonoCommonUptoSaid : Prop := monoCommonUptoRow.holds Try.pinned (OpenSpec.upto monoCommonSpec)

/-- 'porismlaw07.MonoBack', WHERE WHAT IT READS IS OF BULK AT MOST 1048576: true; the input reads as it did. -/
def monoBackUptoRow : OpenClaim := { program := "ytgalcdfleljliaa", sum := "9e450b6d5438286a997e75b13017978c107ffafd22ad34f02d06d5765fc3d2a3", func := "porism/porismlaw07.MonoBack", spec := "monoBack", unfollowed := true, recurses := true, apart := false, narrowed := true }
def MonoBackUptoSaid : Prop := monoBackUptoRow.holds Try.pinned (OpenSpec.upto monoBackSpec)

/-- 'porismlaw07.MonoTotal', WHERE WHAT IT READS IS OF BULK AT MOST 1048576: true; the input reads as it did. -/
def monoTotalUptoRow : OpenClaim := { program := "ytgalcdfleljliaa", sum := "9e450b6d5438286a997e75b13017978c107ffafd22ad34f02d06d5765fc3d2a3", func := "porism/porismlaw07.MonoTotal", spec := "monoTotal", unfollowed := true, recurses := true, apart := false, narrowed := true }
def MonoTotalUptoSaid : Prop := monoTotalUptoRow.holds Try.pinned (OpenSpec.upto monoTotalSpec)

/-- 'porismlaw07.MonoParts', WHERE WHAT IT READS IS OF BULK AT MOST 1048576: true; the input reads as it did. -/
def monoPartsUptoRow : OpenClaim := { program := "ytgalcdfleljliaa", sum := "9e450b6d5438286a997e75b13017978c107ffafd22ad34f02d06d5765fc3d2a3", func := "porism/porismlaw07.MonoParts", spec := "monoParts", unfollowed := true, recurses := true, apart := false, narrowed := true }
def MonoPartsUptoSaid : Prop := monoPartsUptoRow.holds Try.pinned (OpenSpec.upto monoPartsSpec)

end Rows
end Go.Proofs.Ytgalcdfleljliaa
