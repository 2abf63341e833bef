/-
  No cell of these rows narrows 'for every input' (looked for: loops, veiled, ifaces, maps, wideKeys, modest, calm, conditions, laid).
  DERIVED. THE GIVEN ROWS OF THIS SEAT. 10 by the template 'for every input the law returns true; each argument reads behind the call as it read before'; 0 by the template 'total and deterministic' (their statements: YtmbgljjfmbhelaaGreatTotals.lean).
  GIVEN WITH THE SEED: the statements are not yours to turn. If you find one false, say at which input.
  Laid BY PROGRAM, IN A SANDBOX (cutbox-rows.mjs): the forced cells as the released guide's own fill.sh prints them over the translation 9bebc55668ddc262… (all of the seat's roots in one cut). By AI agents, Wed Nov 11 2026. No macro, syntax, notation, axiom, sorry.
-/
import Derived.Test.YtmbgljjfmbhelaaGreatChecked
import GoSem.Claim
import GoSem.ClaimJoined
import GoSem.ClaimMapViews
import Derived.JoinedTies
import Derived.KernelRfl
namespace Go.Proofs.YtmbgljjfmbhelaaGreat
/- THE CELL 'sum', in the pinned program and in every row, IS THE sha256 OF THE DUMP (.gsa) THAT YtmbgljjfmbhelaaGreatProg.lean LOADS. Nothing in Lean hashes anything: it is a label: what it is worth is what the hold of that sum in a sandbox is worth. -/
noncomputable def Tryz.pinned : Pinned := { name := "ytmbgljjfmbhelaagreat", sum := "9bebc55668ddc26267bd2bd42ad610d996dea7567f557f257b351b593e98b7ab", checked := Tryz.checked }
namespace Rows
def none {H : Type} : Left H := { results := [], args := [] }

/-- 'porismlaw08.PolyRing': WHATEVER THE INPUT: true; the input reads as it did. -/
def polyRingSpec : ChangeSpec := { name := "polyRing", fn := fun _ => fun
  | [d1, d2] => { results := [.lit (.bool true)], args := [d1, d2] }
  | _ => none }
def polyRingRow : OpenClaim := { program := "ytmbgljjfmbhelaagreat", sum := "9bebc55668ddc26267bd2bd42ad610d996dea7567f557f257b351b593e98b7ab", func := "porism/porismlaw08.PolyRing", spec := "polyRing", unfollowed := true, recurses := true, named := ["math/bits.overflowError"], apart := false }
def PolyRingSaid : Prop := polyRingRow.holds Tryz.pinned (OpenSpec.ofChange polyRingSpec)

/-- ITS FALSE NEIGHBOUR: 'it returns false'. Refute it at one input. -/
def polyRingWrong : ChangeSpec := { name := "polyRing", fn := fun _ => fun
  | [d1, d2] => { results := [.lit (.bool false)], args := [d1, d2] }
  | _ => none }
def PolyRingWrongFalsely : Prop := polyRingRow.holds Tryz.pinned (OpenSpec.ofChange polyRingWrong)

/-- 'porismlaw08.PolyOf': WHATEVER THE INPUT: true; the input reads as it did. -/
def polyOfSpec : ChangeSpec := { name := "polyOf", fn := fun _ => fun
  | [d1, d2, d3, d4] => { results := [.lit (.bool true)], args := [d1, d2, d3, d4] }
  | _ => none }
def polyOfRow : OpenClaim := { program := "ytmbgljjfmbhelaagreat", sum := "9bebc55668ddc26267bd2bd42ad610d996dea7567f557f257b351b593e98b7ab", func := "porism/porismlaw08.PolyOf", spec := "polyOf", unfollowed := true, recurses := true, named := ["math/bits.overflowError"], apart := false }
def PolyOfSaid : Prop := polyOfRow.holds Tryz.pinned (OpenSpec.ofChange polyOfSpec)

/-- ITS FALSE NEIGHBOUR: 'it returns false'. Refute it at one input. -/
def polyOfWrong : ChangeSpec := { name := "polyOf", fn := fun _ => fun
  | [d1, d2, d3, d4] => { results := [.lit (.bool false)], args := [d1, d2, d3, d4] }
  | _ => none }
def PolyOfWrongFalsely : Prop := polyOfRow.holds Tryz.pinned (OpenSpec.ofChange polyOfWrong)

/-- 'porismlaw08.PolyOver': WHATEVER THE INPUT: true; the input reads as it did. -/
def polyOverSpec : ChangeSpec := { name := "polyOver", fn := fun _ => fun
  | [d1, d2] => { results := [.lit (.bool true)], args := [d1, d2] }
  | _ => none }
def polyOverRow : OpenClaim := { program := "ytmbgljjfmbhelaagreat", sum := "9bebc55668ddc26267bd2bd42ad610d996dea7567f557f257b351b593e98b7ab", func := "porism/porismlaw08.PolyOver", spec := "polyOver", unfollowed := true, recurses := true, named := ["math/bits.overflowError"], apart := false }
def PolyOverSaid : Prop := polyOverRow.holds Tryz.pinned (OpenSpec.ofChange polyOverSpec)

/-- ITS FALSE NEIGHBOUR: 'it returns false'. Refute it at one input. -/
def polyOverWrong : ChangeSpec := { name := "polyOver", fn := fun _ => fun
  | [d1, d2] => { results := [.lit (.bool false)], args := [d1, d2] }
  | _ => none }
def PolyOverWrongFalsely : Prop := polyOverRow.holds Tryz.pinned (OpenSpec.ofChange polyOverWrong)

/-- 'porismlaw08.PolyPow': WHATEVER THE INPUT: true; the input reads as it did. -/
def polyPowSpec : ChangeSpec := { name := "polyPow", fn := fun _ => fun
  | [d1, d2, d3, d4] => { results := [.lit (.bool true)], args := [d1, d2, d3, d4] }
  | _ => none }
def polyPowRow : OpenClaim := { program := "ytmbgljjfmbhelaagreat", sum := "9bebc55668ddc26267bd2bd42ad610d996dea7567f557f257b351b593e98b7ab", func := "porism/porismlaw08.PolyPow", spec := "polyPow", unfollowed := true, recurses := true, named := ["math/bits.overflowError"], apart := false }
def PolyPowSaid : Prop := polyPowRow.holds Tryz.pinned (OpenSpec.ofChange polyPowSpec)

/-- ITS FALSE NEIGHBOUR: 'it returns false'. Refute it at one input. -/
def polyPowWrong : ChangeSpec := { name := "polyPow", fn := fun _ => fun
  | [d1, d2, d3, d4] => { results := [.lit (.bool false)], args := [d1, d2, d3, d4] }
  | _ => none }
def PolyPowWrongFalsely : Prop := polyPowRow.holds Tryz.pinned (OpenSpec.ofChange polyPowWrong)

/-- 'porismlaw08.PolyLaws': WHATEVER THE INPUT: true; the input reads as it did. -/
def polyLawsSpec : ChangeSpec := { name := "polyLaws", fn := fun _ => fun
  | [d1, d2, d3] => { results := [.lit (.bool true)], args := [d1, d2, d3] }
  | _ => none }
def polyLawsRow : OpenClaim := { program := "ytmbgljjfmbhelaagreat", sum := "9bebc55668ddc26267bd2bd42ad610d996dea7567f557f257b351b593e98b7ab", func := "porism/porismlaw08.PolyLaws", spec := "polyLaws", unfollowed := true, recurses := true, named := ["math/bits.overflowError"], apart := false }
def PolyLawsSaid : Prop := polyLawsRow.holds Tryz.pinned (OpenSpec.ofChange polyLawsSpec)

/-- ITS FALSE NEIGHBOUR: 'it returns false'. Refute it at one input. -/
def polyLawsWrong : ChangeSpec := { name := "polyLaws", fn := fun _ => fun
  | [d1, d2, d3] => { results := [.lit (.bool false)], args := [d1, d2, d3] }
  | _ => none }
def PolyLawsWrongFalsely : Prop := polyLawsRow.holds Tryz.pinned (OpenSpec.ofChange polyLawsWrong)

/-- 'porismlaw08.PolyBack': WHATEVER THE INPUT: true; the input reads as it did. -/
def polyBackSpec : ChangeSpec := { name := "polyBack", fn := fun _ => fun
  | [d1, d2] => { results := [.lit (.bool true)], args := [d1, d2] }
  | _ => none }
def polyBackRow : OpenClaim := { program := "ytmbgljjfmbhelaagreat", sum := "9bebc55668ddc26267bd2bd42ad610d996dea7567f557f257b351b593e98b7ab", func := "porism/porismlaw08.PolyBack", spec := "polyBack", unfollowed := true, recurses := true, named := ["math/bits.overflowError"], apart := false }
def PolyBackSaid : Prop := polyBackRow.holds Tryz.pinned (OpenSpec.ofChange polyBackSpec)

/-- ITS FALSE NEIGHBOUR: 'it returns false'. Refute it at one input. -/
def polyBackWrong : ChangeSpec := { name := "polyBack", fn := fun _ => fun
  | [d1, d2] => { results := [.lit (.bool false)], args := [d1, d2] }
  | _ => none }
def PolyBackWrongFalsely : Prop := polyBackRow.holds Tryz.pinned (OpenSpec.ofChange polyBackWrong)

/-- 'porismlaw09.ViewTells': WHATEVER THE INPUT: true; the input reads as it did. -/
def viewTellsSpec : ChangeSpec := { name := "viewTells", fn := fun _ => fun
  | [d1, d2, d3] => { results := [.lit (.bool true)], args := [d1, d2, d3] }
  | _ => none }
def viewTellsRow : OpenClaim := { program := "ytmbgljjfmbhelaagreat", sum := "9bebc55668ddc26267bd2bd42ad610d996dea7567f557f257b351b593e98b7ab", func := "porism/porismlaw09.ViewTells", spec := "viewTells", unfollowed := true, recurses := true, apart := false }
def ViewTellsSaid : Prop := viewTellsRow.holds Tryz.pinned (OpenSpec.ofChange viewTellsSpec)

/-- ITS FALSE NEIGHBOUR: 'it returns false'. Refute it at one input. -/
def viewTellsWrong : ChangeSpec := { name := "viewTells", fn := fun _ => fun
  | [d1, d2, d3] => { results := [.lit (.bool false)], args := [d1, d2, d3] }
  | _ => none }
def ViewTellsWrongFalsely : Prop := viewTellsRow.holds Tryz.pinned (OpenSpec.ofChange viewTellsWrong)

/-- 'porismlaw09.ViewBuilds': WHATEVER THE INPUT: true; the input reads as it did. -/
def viewBuildsSpec : ChangeSpec := { name := "viewBuilds", fn := fun _ => fun
  | [d1, d2, d3] => { results := [.lit (.bool true)], args := [d1, d2, d3] }
  | _ => none }
def viewBuildsRow : OpenClaim := { program := "ytmbgljjfmbhelaagreat", sum := "9bebc55668ddc26267bd2bd42ad610d996dea7567f557f257b351b593e98b7ab", func := "porism/porismlaw09.ViewBuilds", spec := "viewBuilds", unfollowed := true, recurses := true, apart := false }
def ViewBuildsSaid : Prop := viewBuildsRow.holds Tryz.pinned (OpenSpec.ofChange viewBuildsSpec)

/-- ITS FALSE NEIGHBOUR: 'it returns false'. Refute it at one input. -/
def viewBuildsWrong : ChangeSpec := { name := "viewBuilds", fn := fun _ => fun
  | [d1, d2, d3] => { results := [.lit (.bool false)], args := [d1, d2, d3] }
  | _ => none }
def ViewBuildsWrongFalsely : Prop := viewBuildsRow.holds Tryz.pinned (OpenSpec.ofChange viewBuildsWrong)

/-- 'porismlaw09.ViewBack': WHATEVER THE INPUT: true; the input reads as it did. -/
def viewBackSpec : ChangeSpec := { name := "viewBack", fn := fun _ => fun
  | [d1, d2] => { results := [.lit (.bool true)], args := [d1, d2] }
  | _ => none }
def viewBackRow : OpenClaim := { program := "ytmbgljjfmbhelaagreat", sum := "9bebc55668ddc26267bd2bd42ad610d996dea7567f557f257b351b593e98b7ab", func := "porism/porismlaw09.ViewBack", spec := "viewBack", unfollowed := true, recurses := true, apart := false }
def ViewBackSaid : Prop := viewBackRow.holds Tryz.pinned (OpenSpec.ofChange viewBackSpec)

/-- ITS FALSE NEIGHBOUR: 'it returns false'. Refute it at one input. -/
def viewBackWrong : ChangeSpec := { name := "viewBack", fn := fun _ => fun
  | [d1, d2] => { results := [.lit (.bool false)], args := [d1, d2] }
  | _ => none }
def ViewBackWrongFalsely : Prop := viewBackRow.holds Tryz.pinned (OpenSpec.ofChange viewBackWrong)

/-- 'porismlaw09.ViewProducts': WHATEVER THE INPUT: true; the input reads as it did. -/
def viewProductsSpec : ChangeSpec := { name := "viewProducts", fn := fun _ => fun
  | [d1, d2, d3] => { results := [.lit (.bool true)], args := [d1, d2, d3] }
  | _ => none }
def viewProductsRow : OpenClaim := { program := "ytmbgljjfmbhelaagreat", sum := "9bebc55668ddc26267bd2bd42ad610d996dea7567f557f257b351b593e98b7ab", func := "porism/porismlaw09.ViewProducts", spec := "viewProducts", unfollowed := true, recurses := true, apart := false }
def ViewProductsSaid : Prop := viewProductsRow.holds Tryz.pinned (OpenSpec.ofChange viewProductsSpec)

/-- ITS FALSE NEIGHBOUR: 'it returns false'. Refute it at one input. -/
def viewProductsWrong : ChangeSpec := { name := "viewProducts", fn := fun _ => fun
  | [d1, d2, d3] => { results := [.lit (.bool false)], args := [d1, d2, d3] }
  | _ => none }
def ViewProductsWrongFalsely : Prop := viewProductsRow.holds Tryz.pinned (OpenSpec.ofChange viewProductsWrong)

/- THE SECOND FORM. 'bulk': how many values and letters a reading holds, each counted each time it is reached (what is shared counts as often as it is met; a slice's spare places count too). A statement '..UptoSaid' is the law's where the arguments, and the package variables that the reading takes, are together of bulk at most 1048576: NARROWER than '..Said'. Prove '..Said' where nothing that the law and all that it calls make is longer than what came in: it says more and counts as full. Else prove '..UptoSaid'. A law counts once. -/
mutual
def uptoBulk {H : Type} : DataW H → Nat
  | .lit (.string bytes) => bytes.length + 1
  | .lit _ => 1
  | .nil => 1
  | .ptr d => uptoBulk d + 1
  | .slice elems spare => uptoBulkAll elems + uptoBulkAll spare + 1
  | .agg parts => uptoBulkAll parts + 1
  | .iface _ d => uptoBulk d + 1
  | .map entries => uptoBulkEntries entries + 1
  | .held _ => 1
def uptoBulkAll {H : Type} : List (DataW H) → Nat
  | [] => 0
  | d :: r => uptoBulk d + uptoBulkAll r
def uptoBulkEntries {H : Type} : List (Lit × DataW H) → Nat
  | [] => 0
  | x :: r => uptoBulkEntry x + uptoBulkEntries r
def uptoBulkEntry {H : Type} : Lit × DataW H → Nat
  | (.string bytes, d) => bytes.length + uptoBulk d + 1
  | (_, d) => uptoBulk d + 1
 end
def uptoSmall : (H : Type) → List (DataW H) → Bool := fun _ ds => decide (uptoBulkAll ds ≤ 1048576)
def OpenSpec.upto (s : _root_.Go.ChangeSpec) : _root_.Go.OpenSpec := { _root_.Go.OpenSpec.ofChange s with cond := some uptoSmall }

/-- 'porismlaw08.PolyRing', WHERE WHAT IT READS IS OF BULK AT MOST 1048576: true; the input reads as it did. -/
def polyRingUptoRow : OpenClaim := { program := "ytmbgljjfmbhelaagreat", sum := "9bebc55668ddc26267bd2bd42ad610d996dea7567f557f257b351b593e98b7ab", func := "porism/porismlaw08.PolyRing", spec := "polyRing", unfollowed := true, recurses := true, named := ["math/bits.overflowError"], apart := false, narrowed := true }
def PolyRingUptoSaid : Prop := polyRingUptoRow.holds Tryz.pinned (OpenSpec.upto polyRingSpec)

/-- 'porismlaw08.PolyOf', WHERE WHAT IT READS IS OF BULK AT MOST 1048576: true; the input reads as it did. -/
def polyOfUptoRow : OpenClaim := { program := "ytmbgljjfmbhelaagreat", sum := "9bebc55668ddc26267bd2bd42ad610d996dea7567f557f257b351b593e98b7ab", func := "porism/porismlaw08.PolyOf", spec := "polyOf", unfollowed := true, recurses := true, named := ["math/bits.overflowError"], apart := false, narrowed := true }
def PolyOfUptoSaid : Prop := polyOfUptoRow.holds Tryz.pinned (OpenSpec.upto polyOfSpec)

/-- 'porismlaw08.PolyOver', WHERE WHAT IT READS IS OF BULK AT MOST 1048576: true; the input reads as it did. -/
def polyOverUptoRow : OpenClaim := { program := "ytmbgljjfmbhelaagreat", sum := "9bebc55668ddc26267bd2bd42ad610d996dea7567f557f257b351b593e98b7ab", func := "porism/porismlaw08.PolyOver", spec := "polyOver", unfollowed := true, recurses := true, named := ["math/bits.overflowError"], apart := false, narrowed := true }
def PolyOverUptoSaid : Prop := polyOverUptoRow.holds Tryz.pinned (OpenSpec.upto polyOverSpec)

/-- 'porismlaw08.PolyPow', WHERE WHAT IT READS IS OF BULK AT MOST 1048576: true; the input reads as it did. -/
def polyPowUptoRow : OpenClaim := { program := "ytmbgljjfmbhelaagreat", sum := "9bebc55668ddc26267bd2bd42ad610d996dea7567f557f257b351b593e98b7ab", func := "porism/porismlaw08.PolyPow", spec := "polyPow", unfollowed := true, recurses := true, named := ["math/bits.overflowError"], apart := false, narrowed := true }
def PolyPowUptoSaid : Prop := polyPowUptoRow.holds Tryz.pinned (OpenSpec.upto polyPowSpec)

/-- 'porismlaw08.PolyLaws', WHERE WHAT IT READS IS OF BULK AT MOST 1048576: true; the input reads as it did. -/
def polyLawsUptoRow : OpenClaim := { program := "ytmbgljjfmbhelaagreat", sum := "9bebc55668ddc26267bd2bd42ad610d996dea7567f557f257b351b593e98b7ab", func := "porism/porismlaw08.PolyLaws", spec := "polyLaws", unfollowed := true, recurses := true, named := ["math/bits.overflowError"], apart := false, narrowed := true }
def PolyLawsUptoSaid : Prop := polyLawsUptoRow.holds Tryz.pinned (OpenSpec.upto polyLawsSpec)

/-- 'porismlaw08.PolyBack', WHERE WHAT IT READS IS OF BULK AT MOST 1048576: true; the input reads as it did. -/
def polyBackUptoRow : OpenClaim := { program := "ytmbgljjfmbhelaagreat", sum := "9bebc55668ddc26267bd2bd42ad610d996dea7567f557f257b351b593e98b7ab", func := "porism/porismlaw08.PolyBack", spec := "polyBack", unfollowed := true, recurses := true, named := ["math/bits.overflowError"], apart := false, narrowed := true }
def PolyBackUptoSaid : Prop := polyBackUptoRow.holds Tryz.pinned (OpenSpec.upto polyBackSpec)

/-- 'porismlaw09.ViewTells', WHERE WHAT IT READS IS OF BULK AT MOST 1048576: true; the input reads as it did. -/
def viewTellsUptoRow : OpenClaim := { program := "ytmbgljjfmbhelaagreat", sum := "9bebc55668ddc26267bd2bd42ad610d996dea7567f557f257b351b593e98b7ab", func := "porism/porismlaw09.ViewTells", spec := "viewTells", unfollowed := true, recurses := true, apart := false, narrowed := true }
def ViewTellsUptoSaid : Prop := viewTellsUptoRow.holds Tryz.pinned (OpenSpec.upto viewTellsSpec)

/-- 'porismlaw09.ViewBuilds', WHERE WHAT IT READS IS OF BULK AT MOST 1048576: true; the input reads as it did. -/
def viewBuildsUptoRow : OpenClaim := { program := "ytmbgljjfmbhelaagreat", sum := "9bebc55668ddc26267bd2bd42ad610d996dea7567f557f257b351b593e98b7ab", func := "porism/porismlaw09.ViewBuilds", spec := "viewBuilds", unfollowed := true, recurses := true, apart := false, narrowed := true }
def ViewBuildsUptoSaid : Prop := viewBuildsUptoRow.holds Tryz.pinned (OpenSpec.upto viewBuildsSpec)

/-- 'porismlaw09.ViewBack', WHERE WHAT IT READS IS OF BULK AT MOST 1048576: true; the input reads as it did. -/
def viewBackUptoRow : OpenClaim := { program := "ytmbgljjfmbhelaagreat", sum := "9bebc55668ddc26267bd2bd42ad610d996dea7567f557f257b351b593e98b7ab", func := "porism/porismlaw09.ViewBack", spec := "viewBack", unfollowed := true, recurses := true, apart := false, narrowed := true }
def ViewBackUptoSaid : Prop := viewBackUptoRow.holds Tryz.pinned (OpenSpec.upto viewBackSpec)

/-- 'porismlaw09.ViewProducts', WHERE WHAT IT READS IS OF BULK AT MOST 1048576: true; the input reads as it did. -/
def viewProductsUptoRow : OpenClaim := { program := "ytmbgljjfmbhelaagreat", sum := "9bebc55668ddc26267bd2bd42ad610d996dea7567f557f257b351b593e98b7ab", func := "porism/porismlaw09.ViewProducts", spec := "viewProducts", unfollowed := true, recurses := true, apart := false, narrowed := true }
def ViewProductsUptoSaid : Prop := viewProductsUptoRow.holds Tryz.pinned (OpenSpec.upto viewProductsSpec)

end Rows
end Go.Proofs.YtmbgljjfmbhelaaGreat
