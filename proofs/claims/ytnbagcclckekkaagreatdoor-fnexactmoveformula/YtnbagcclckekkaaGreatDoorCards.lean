/-
  DERIVED. GIVEN WITH THE SEED: THE CARDS: each row of YtnbagcclckekkaaGreatDoorRows.lean that lists a variable, with what it lists TIED to the program's text (the seventh form; the later family's looks); each row that meets fmt, with fmt's text TOLD by the authors' own Lean function (tested against real Go, not proved from fmt's source: count such statements apart). THE CARD IS WHAT COUNTS. Prove the row's statement (the work); the ties are given (YtnbagcclckekkaaGreatDoorTie.lean); close each card by the builder's one call (the guide's Derived/Test/ToyasCard.lean, 'card_holds'). Laid BY PROGRAM, IN A SANDBOX (cutbox-door.mjs). By AI agents, Wed Nov 11 2026. No macro, syntax, notation, axiom, sorry.
-/
import Derived.Test.YtnbagcclckekkaaGreatDoorRows
import GoSem.ClaimSeven
namespace Go.Proofs.YtnbagcclckekkaaGreatDoor
namespace Rows

/-- THE TIED CARD OF 'laws.FnExactTurnFormula'. -/
def fnExactTurnFormulaCard : Claim7 := { stood := { row := fnExactTurnFormulaRow, standIns := [], harness := (true, "6768dcdb483df1feca61e41e658743ddd1e3b043137944f2ca6c9b2cb357479e"), looks := true }, kinds := [], alts := [], laidByText := true, laidKinds := [.data, .data, .data, .data, .sentinel, .sentinel, .data, .data, .data, .pinned], laidTests := true, laidLooks := .later }
def FnExactTurnFormulaCardSaid : Prop := Claim7.holds Tryz.pinned (.plain (OpenSpec.ofChange fnExactTurnFormulaSpec)) fnExactTurnFormulaCard

/-- THE TIED CARD OF 'laws.FnExactFilled'. -/
def fnExactFilledCard : Claim7 := { stood := { row := fnExactFilledRow, standIns := [], harness := (true, "6768dcdb483df1feca61e41e658743ddd1e3b043137944f2ca6c9b2cb357479e"), looks := true }, kinds := [], alts := [], laidByText := true, laidKinds := [.data, .data, .data, .data, .sentinel, .sentinel, .data, .data, .data, .pinned], laidTests := true, laidLooks := .later }
def FnExactFilledCardSaid : Prop := Claim7.holds Tryz.pinned (.plain (OpenSpec.ofChange fnExactFilledSpec)) fnExactFilledCard

/-- THE TIED CARD OF 'laws.FnExactMoveFormula'. -/
def fnExactMoveFormulaCard : Claim7 := { stood := { row := fnExactMoveFormulaRow, standIns := [], harness := (true, "6768dcdb483df1feca61e41e658743ddd1e3b043137944f2ca6c9b2cb357479e"), looks := true }, kinds := [], alts := [], laidByText := true, laidKinds := [.data, .data, .data, .data, .sentinel, .sentinel, .data, .data, .data, .pinned], laidTests := true, laidLooks := .later }
def FnExactMoveFormulaCardSaid : Prop := Claim7.holds Tryz.pinned (.plain (OpenSpec.ofChange fnExactMoveFormulaSpec)) fnExactMoveFormulaCard

/-- THE SECOND FORM's CARD OF 'laws.FnExactTurnFormula'. -/
def fnExactTurnFormulaUptoCard : Claim7 := { stood := { row := fnExactTurnFormulaUptoRow, standIns := [], harness := (true, "6768dcdb483df1feca61e41e658743ddd1e3b043137944f2ca6c9b2cb357479e"), looks := true }, kinds := [], alts := [], laidByText := true, laidKinds := [.data, .data, .data, .data, .sentinel, .sentinel, .data, .data, .data, .pinned], laidTests := true, laidLooks := .later }
def FnExactTurnFormulaUptoCardSaid : Prop := Claim7.holds Tryz.pinned (.plain (OpenSpec.upto fnExactTurnFormulaSpec)) fnExactTurnFormulaUptoCard

/-- THE SECOND FORM's CARD OF 'laws.FnExactFilled'. -/
def fnExactFilledUptoCard : Claim7 := { stood := { row := fnExactFilledUptoRow, standIns := [], harness := (true, "6768dcdb483df1feca61e41e658743ddd1e3b043137944f2ca6c9b2cb357479e"), looks := true }, kinds := [], alts := [], laidByText := true, laidKinds := [.data, .data, .data, .data, .sentinel, .sentinel, .data, .data, .data, .pinned], laidTests := true, laidLooks := .later }
def FnExactFilledUptoCardSaid : Prop := Claim7.holds Tryz.pinned (.plain (OpenSpec.upto fnExactFilledSpec)) fnExactFilledUptoCard

/-- THE SECOND FORM's CARD OF 'laws.FnExactMoveFormula'. -/
def fnExactMoveFormulaUptoCard : Claim7 := { stood := { row := fnExactMoveFormulaUptoRow, standIns := [], harness := (true, "6768dcdb483df1feca61e41e658743ddd1e3b043137944f2ca6c9b2cb357479e"), looks := true }, kinds := [], alts := [], laidByText := true, laidKinds := [.data, .data, .data, .data, .sentinel, .sentinel, .data, .data, .data, .pinned], laidTests := true, laidLooks := .later }
def FnExactMoveFormulaUptoCardSaid : Prop := Claim7.holds Tryz.pinned (.plain (OpenSpec.upto fnExactMoveFormulaSpec)) fnExactMoveFormulaUptoCard
end Rows
end Go.Proofs.YtnbagcclckekkaaGreatDoor
