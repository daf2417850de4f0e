/-
  DERIVED. GIVEN WITH THE SEED: THE CARDS: each row of YtcjjobciokfehaaGreatDoorRows.lean that lists a variable, with what it lists TIED to the program's text (the seventh form; the later family's looks); each row that meets fmt, with fmt's text TOLD by the authors' own Lean function (tested against real Go, not proved from fmt's source: count such statements apart). THE CARD IS WHAT COUNTS. Prove the row's statement (the work); the ties are given (YtcjjobciokfehaaGreatDoorTie.lean); close each card by the builder's one call (the guide's Derived/Test/ToyasCard.lean, 'card_holds'). Laid BY PROGRAM, IN A SANDBOX (cutbox-door.mjs). By AI agents, Wed Nov 11 2026. No macro, syntax, notation, axiom, sorry.
-/
import Derived.Test.YtcjjobciokfehaaGreatDoorRows
import GoSem.ClaimSeven
namespace Go.Proofs.YtcjjobciokfehaaGreatDoor
namespace Rows

/-- THE TIED CARD OF 'laws.FnExactGoodFormula'. -/
def fnExactGoodFormulaCard : Claim7 := { stood := { row := fnExactGoodFormulaRow, standIns := [], harness := (true, "3e1e7a0817fd84de76b6dd7c1655263cf3e15b3a7f1cc762016bc436012990d2"), looks := true }, kinds := [], alts := [], laidByText := true, laidKinds := [.data, .data, .data, .data, .sentinel, .sentinel, .data, .data, .data, .pinned], laidTests := true, laidLooks := .later }
def FnExactGoodFormulaCardSaid : Prop := Claim7.holds Tryz.pinned (.plain (OpenSpec.ofChange fnExactGoodFormulaSpec)) fnExactGoodFormulaCard

/-- THE TIED CARD OF 'laws.FnExactUsedAreas'. -/
def fnExactUsedAreasCard : Claim7 := { stood := { row := fnExactUsedAreasRow, standIns := [], harness := (true, "3e1e7a0817fd84de76b6dd7c1655263cf3e15b3a7f1cc762016bc436012990d2"), looks := true }, kinds := [], alts := [], laidByText := true, laidKinds := [.data, .data, .data, .data, .sentinel, .sentinel, .data, .data, .data, .pinned], laidTests := true, laidLooks := .later }
def FnExactUsedAreasCardSaid : Prop := Claim7.holds Tryz.pinned (.plain (OpenSpec.ofChange fnExactUsedAreasSpec)) fnExactUsedAreasCard

/-- THE TIED CARD OF 'laws.FnExactUsedNames'. -/
def fnExactUsedNamesCard : Claim7 := { stood := { row := fnExactUsedNamesRow, standIns := [], harness := (true, "3e1e7a0817fd84de76b6dd7c1655263cf3e15b3a7f1cc762016bc436012990d2"), looks := true }, kinds := [], alts := [], laidByText := true, laidKinds := [.data, .data, .data, .data, .sentinel, .sentinel, .data, .data, .data, .pinned], laidTests := true, laidLooks := .later }
def FnExactUsedNamesCardSaid : Prop := Claim7.holds Tryz.pinned (.plain (OpenSpec.ofChange fnExactUsedNamesSpec)) fnExactUsedNamesCard

/-- THE SECOND FORM's CARD OF 'laws.FnExactGoodFormula'. -/
def fnExactGoodFormulaUptoCard : Claim7 := { stood := { row := fnExactGoodFormulaUptoRow, standIns := [], harness := (true, "3e1e7a0817fd84de76b6dd7c1655263cf3e15b3a7f1cc762016bc436012990d2"), looks := true }, kinds := [], alts := [], laidByText := true, laidKinds := [.data, .data, .data, .data, .sentinel, .sentinel, .data, .data, .data, .pinned], laidTests := true, laidLooks := .later }
def FnExactGoodFormulaUptoCardSaid : Prop := Claim7.holds Tryz.pinned (.plain (OpenSpec.upto fnExactGoodFormulaSpec)) fnExactGoodFormulaUptoCard

/-- THE SECOND FORM's CARD OF 'laws.FnExactUsedAreas'. -/
def fnExactUsedAreasUptoCard : Claim7 := { stood := { row := fnExactUsedAreasUptoRow, standIns := [], harness := (true, "3e1e7a0817fd84de76b6dd7c1655263cf3e15b3a7f1cc762016bc436012990d2"), looks := true }, kinds := [], alts := [], laidByText := true, laidKinds := [.data, .data, .data, .data, .sentinel, .sentinel, .data, .data, .data, .pinned], laidTests := true, laidLooks := .later }
def FnExactUsedAreasUptoCardSaid : Prop := Claim7.holds Tryz.pinned (.plain (OpenSpec.upto fnExactUsedAreasSpec)) fnExactUsedAreasUptoCard

/-- THE SECOND FORM's CARD OF 'laws.FnExactUsedNames'. -/
def fnExactUsedNamesUptoCard : Claim7 := { stood := { row := fnExactUsedNamesUptoRow, standIns := [], harness := (true, "3e1e7a0817fd84de76b6dd7c1655263cf3e15b3a7f1cc762016bc436012990d2"), looks := true }, kinds := [], alts := [], laidByText := true, laidKinds := [.data, .data, .data, .data, .sentinel, .sentinel, .data, .data, .data, .pinned], laidTests := true, laidLooks := .later }
def FnExactUsedNamesUptoCardSaid : Prop := Claim7.holds Tryz.pinned (.plain (OpenSpec.upto fnExactUsedNamesSpec)) fnExactUsedNamesUptoCard
end Rows
end Go.Proofs.YtcjjobciokfehaaGreatDoor
