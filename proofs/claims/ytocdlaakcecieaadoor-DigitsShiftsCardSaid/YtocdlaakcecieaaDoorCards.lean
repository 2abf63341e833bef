/-
  DERIVED. GIVEN WITH THE SEED: THE CARDS: each row of YtocdlaakcecieaaDoorRows.lean that lists a variable, with what it lists TIED to the program's text (the seventh form; the later family's looks); each row that meets fmt, with fmt's text TOLD by the authors' own Lean function (tested against real Go, not proved from fmt's source: count such statements apart). THE CARD IS WHAT COUNTS. Prove the row's statement (the work); the ties are given (YtocdlaakcecieaaDoorTie.lean); close each card by the builder's one call (the guide's Derived/Test/ToyasCard.lean, 'card_holds'). Laid BY PROGRAM, IN A SANDBOX (cutbox-door.mjs). By AI agents, Wed Nov 11 2026. No macro, syntax, notation, axiom, sorry.
-/
import Derived.Test.YtocdlaakcecieaaDoorRows
import GoSem.ClaimSeven
namespace Go.Proofs.YtocdlaakcecieaaDoor
namespace Rows

/-- THE TIED CARD OF 'porismlaw05.DigitsText'. -/
def digitsTextCard : Claim7 := { stood := { row := digitsTextRow, standIns := [], harness := (true, "a6edce6011c036dd225bcdf02bb2e7343227907c14c9e1090475e3bc58356977"), looks := true }, kinds := [], alts := [], laidByText := true, laidKinds := [.data, .data, .data, .sentinel, .sentinel], laidTests := true, laidLooks := .later }
def DigitsTextCardSaid : Prop := Claim7.holds Tryd.pinned (.plain (OpenSpec.ofChange digitsTextSpec)) digitsTextCard

/-- THE TIED CARD OF 'porismlaw05.DigitsParse'. -/
def digitsParseCard : Claim7 := { stood := { row := digitsParseRow, standIns := [], harness := (true, "a6edce6011c036dd225bcdf02bb2e7343227907c14c9e1090475e3bc58356977"), looks := true }, kinds := [], alts := [], laidByText := true, laidKinds := [.data, .data, .data, .sentinel, .sentinel], laidTests := true, laidLooks := .later }
def DigitsParseCardSaid : Prop := Claim7.holds Tryd.pinned (.plain (OpenSpec.ofChange digitsParseSpec)) digitsParseCard

/-- THE TIED CARD OF 'porismlaw05.DigitsOnly'. -/
def digitsOnlyCard : Claim7 := { stood := { row := digitsOnlyRow, standIns := [], harness := (true, "a6edce6011c036dd225bcdf02bb2e7343227907c14c9e1090475e3bc58356977"), looks := true }, kinds := [], alts := [], laidByText := true, laidKinds := [.data, .data, .data, .sentinel, .sentinel], laidTests := true, laidLooks := .later }
def DigitsOnlyCardSaid : Prop := Claim7.holds Tryd.pinned (.plain (OpenSpec.ofChange digitsOnlySpec)) digitsOnlyCard

/-- THE TIED CARD OF 'porismlaw05.DigitsShifts'. -/
def digitsShiftsCard : Claim7 := { stood := { row := digitsShiftsRow, standIns := [], harness := (true, "a6edce6011c036dd225bcdf02bb2e7343227907c14c9e1090475e3bc58356977"), looks := true }, kinds := [], alts := [], laidByText := true, laidKinds := [.data, .data, .data, .sentinel, .sentinel], laidTests := true, laidLooks := .later }
def DigitsShiftsCardSaid : Prop := Claim7.holds Tryd.pinned (.plain (OpenSpec.ofChange digitsShiftsSpec)) digitsShiftsCard

/-- THE SECOND FORM's CARD OF 'porismlaw05.DigitsText'. -/
def digitsTextUptoCard : Claim7 := { stood := { row := digitsTextUptoRow, standIns := [], harness := (true, "a6edce6011c036dd225bcdf02bb2e7343227907c14c9e1090475e3bc58356977"), looks := true }, kinds := [], alts := [], laidByText := true, laidKinds := [.data, .data, .data, .sentinel, .sentinel], laidTests := true, laidLooks := .later }
def DigitsTextUptoCardSaid : Prop := Claim7.holds Tryd.pinned (.plain (OpenSpec.upto digitsTextSpec)) digitsTextUptoCard

/-- THE SECOND FORM's CARD OF 'porismlaw05.DigitsParse'. -/
def digitsParseUptoCard : Claim7 := { stood := { row := digitsParseUptoRow, standIns := [], harness := (true, "a6edce6011c036dd225bcdf02bb2e7343227907c14c9e1090475e3bc58356977"), looks := true }, kinds := [], alts := [], laidByText := true, laidKinds := [.data, .data, .data, .sentinel, .sentinel], laidTests := true, laidLooks := .later }
def DigitsParseUptoCardSaid : Prop := Claim7.holds Tryd.pinned (.plain (OpenSpec.upto digitsParseSpec)) digitsParseUptoCard

/-- THE SECOND FORM's CARD OF 'porismlaw05.DigitsOnly'. -/
def digitsOnlyUptoCard : Claim7 := { stood := { row := digitsOnlyUptoRow, standIns := [], harness := (true, "a6edce6011c036dd225bcdf02bb2e7343227907c14c9e1090475e3bc58356977"), looks := true }, kinds := [], alts := [], laidByText := true, laidKinds := [.data, .data, .data, .sentinel, .sentinel], laidTests := true, laidLooks := .later }
def DigitsOnlyUptoCardSaid : Prop := Claim7.holds Tryd.pinned (.plain (OpenSpec.upto digitsOnlySpec)) digitsOnlyUptoCard

/-- THE SECOND FORM's CARD OF 'porismlaw05.DigitsShifts'. -/
def digitsShiftsUptoCard : Claim7 := { stood := { row := digitsShiftsUptoRow, standIns := [], harness := (true, "a6edce6011c036dd225bcdf02bb2e7343227907c14c9e1090475e3bc58356977"), looks := true }, kinds := [], alts := [], laidByText := true, laidKinds := [.data, .data, .data, .sentinel, .sentinel], laidTests := true, laidLooks := .later }
def DigitsShiftsUptoCardSaid : Prop := Claim7.holds Tryd.pinned (.plain (OpenSpec.upto digitsShiftsSpec)) digitsShiftsUptoCard
end Rows
end Go.Proofs.YtocdlaakcecieaaDoor
