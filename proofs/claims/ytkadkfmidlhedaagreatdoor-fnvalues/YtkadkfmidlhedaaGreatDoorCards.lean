/-
  DERIVED. GIVEN WITH THE SEED: THE CARDS: each row of YtkadkfmidlhedaaGreatDoorRows.lean that lists a variable, with what it lists TIED to the program's text (the seventh form; the later family's looks); each row that meets fmt, with fmt's text TOLD by the authors' own Lean function (tested against real Go, not proved from fmt's source: count such statements apart). THE CARD IS WHAT COUNTS. Prove the row's statement (the work); the ties are given (YtkadkfmidlhedaaGreatDoorTie.lean); close each card by the builder's one call (the guide's Derived/Test/ToyasCard.lean, 'card_holds'). Laid BY PROGRAM, IN A SANDBOX (cutbox-door.mjs). By AI agents, Wed Nov 11 2026. No macro, syntax, notation, axiom, sorry.
-/
import Derived.Test.YtkadkfmidlhedaaGreatDoorRows
import GoSem.ClaimSeven
namespace Go.Proofs.YtkadkfmidlhedaaGreatDoor
namespace Rows

/-- THE TIED CARD OF 'laws.FnValues'. -/
def fnValuesCard : Claim7 := { stood := { row := fnValuesRow, standIns := [], harness := (true, "5c9a8f9c191a8e0936aebc7743aff2234b6f7dbffdb904f25534ec45b9b89100"), looks := false }, kinds := [], alts := [], laidByText := true, laidKinds := [.data, .data, .data, .data, .data, .data, .pinned], laidTests := true, laidLooks := .later }
def FnValuesCardSaid : Prop := Claim7.holds Tryz.pinned (.plain (OpenSpec.ofChange fnValuesSpec)) fnValuesCard

/-- THE TIED CARD OF 'laws.FnExactApply'. -/
def fnExactApplyCard : Claim7 := { stood := { row := fnExactApplyRow, standIns := [], harness := (true, "5c9a8f9c191a8e0936aebc7743aff2234b6f7dbffdb904f25534ec45b9b89100"), looks := false }, kinds := [], alts := [], laidByText := true, laidKinds := [.data, .data, .data, .data, .data, .data, .pinned], laidTests := true, laidLooks := .later }
def FnExactApplyCardSaid : Prop := Claim7.holds Tryz.pinned (.plain (OpenSpec.ofChange fnExactApplySpec)) fnExactApplyCard

/-- THE TIED CARD OF 'laws.FnExactApplyGrid'. -/
def fnExactApplyGridCard : Claim7 := { stood := { row := fnExactApplyGridRow, standIns := [], harness := (true, "5c9a8f9c191a8e0936aebc7743aff2234b6f7dbffdb904f25534ec45b9b89100"), looks := false }, kinds := [], alts := [], laidByText := true, laidKinds := [.data, .data, .data, .data, .data, .data, .pinned], laidTests := true, laidLooks := .later }
def FnExactApplyGridCardSaid : Prop := Claim7.holds Tryz.pinned (.plain (OpenSpec.ofChange fnExactApplyGridSpec)) fnExactApplyGridCard

/-- THE TIED CARD OF 'laws.FnExactCriterion'. -/
def fnExactCriterionCard : Claim7 := { stood := { row := fnExactCriterionRow, standIns := [], harness := (true, "5c9a8f9c191a8e0936aebc7743aff2234b6f7dbffdb904f25534ec45b9b89100"), looks := false }, kinds := [], alts := [], laidByText := true, laidKinds := [.data, .data, .data, .data, .pinned], laidTests := true, laidLooks := .later }
def FnExactCriterionCardSaid : Prop := Claim7.holds Tryz.pinned (.plain (OpenSpec.ofChange fnExactCriterionSpec)) fnExactCriterionCard

/-- THE TIED CARD OF 'laws.FnExactMeets'. -/
def fnExactMeetsCard : Claim7 := { stood := { row := fnExactMeetsRow, standIns := [], harness := (true, "5c9a8f9c191a8e0936aebc7743aff2234b6f7dbffdb904f25534ec45b9b89100"), looks := false }, kinds := [], alts := [], laidByText := true, laidKinds := [.data, .data, .data, .data, .data, .data, .pinned], laidTests := true, laidLooks := .later }
def FnExactMeetsCardSaid : Prop := Claim7.holds Tryz.pinned (.plain (OpenSpec.ofChange fnExactMeetsSpec)) fnExactMeetsCard

/-- THE SECOND FORM's CARD OF 'laws.FnValues'. -/
def fnValuesUptoCard : Claim7 := { stood := { row := fnValuesUptoRow, standIns := [], harness := (true, "5c9a8f9c191a8e0936aebc7743aff2234b6f7dbffdb904f25534ec45b9b89100"), looks := false }, kinds := [], alts := [], laidByText := true, laidKinds := [.data, .data, .data, .data, .data, .data, .pinned], laidTests := true, laidLooks := .later }
def FnValuesUptoCardSaid : Prop := Claim7.holds Tryz.pinned (.plain (OpenSpec.upto fnValuesSpec)) fnValuesUptoCard

/-- THE SECOND FORM's CARD OF 'laws.FnExactApply'. -/
def fnExactApplyUptoCard : Claim7 := { stood := { row := fnExactApplyUptoRow, standIns := [], harness := (true, "5c9a8f9c191a8e0936aebc7743aff2234b6f7dbffdb904f25534ec45b9b89100"), looks := false }, kinds := [], alts := [], laidByText := true, laidKinds := [.data, .data, .data, .data, .data, .data, .pinned], laidTests := true, laidLooks := .later }
def FnExactApplyUptoCardSaid : Prop := Claim7.holds Tryz.pinned (.plain (OpenSpec.upto fnExactApplySpec)) fnExactApplyUptoCard

/-- THE SECOND FORM's CARD OF 'laws.FnExactApplyGrid'. -/
def fnExactApplyGridUptoCard : Claim7 := { stood := { row := fnExactApplyGridUptoRow, standIns := [], harness := (true, "5c9a8f9c191a8e0936aebc7743aff2234b6f7dbffdb904f25534ec45b9b89100"), looks := false }, kinds := [], alts := [], laidByText := true, laidKinds := [.data, .data, .data, .data, .data, .data, .pinned], laidTests := true, laidLooks := .later }
def FnExactApplyGridUptoCardSaid : Prop := Claim7.holds Tryz.pinned (.plain (OpenSpec.upto fnExactApplyGridSpec)) fnExactApplyGridUptoCard

/-- THE SECOND FORM's CARD OF 'laws.FnExactCriterion'. -/
def fnExactCriterionUptoCard : Claim7 := { stood := { row := fnExactCriterionUptoRow, standIns := [], harness := (true, "5c9a8f9c191a8e0936aebc7743aff2234b6f7dbffdb904f25534ec45b9b89100"), looks := false }, kinds := [], alts := [], laidByText := true, laidKinds := [.data, .data, .data, .data, .pinned], laidTests := true, laidLooks := .later }
def FnExactCriterionUptoCardSaid : Prop := Claim7.holds Tryz.pinned (.plain (OpenSpec.upto fnExactCriterionSpec)) fnExactCriterionUptoCard

/-- THE SECOND FORM's CARD OF 'laws.FnExactMeets'. -/
def fnExactMeetsUptoCard : Claim7 := { stood := { row := fnExactMeetsUptoRow, standIns := [], harness := (true, "5c9a8f9c191a8e0936aebc7743aff2234b6f7dbffdb904f25534ec45b9b89100"), looks := false }, kinds := [], alts := [], laidByText := true, laidKinds := [.data, .data, .data, .data, .data, .data, .pinned], laidTests := true, laidLooks := .later }
def FnExactMeetsUptoCardSaid : Prop := Claim7.holds Tryz.pinned (.plain (OpenSpec.upto fnExactMeetsSpec)) fnExactMeetsUptoCard
end Rows
end Go.Proofs.YtkadkfmidlhedaaGreatDoor
