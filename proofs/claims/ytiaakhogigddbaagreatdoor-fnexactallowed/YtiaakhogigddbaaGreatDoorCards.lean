/-
  DERIVED. GIVEN WITH THE SEED: THE CARDS: each row of YtiaakhogigddbaaGreatDoorRows.lean that lists a variable, with what it lists TIED to the program's text (the seventh form; the later family's looks); each row that meets fmt, with fmt's text TOLD by the authors' own Lean function (tested against real Go, not proved from fmt's source: count such statements apart). THE CARD IS WHAT COUNTS. Prove the row's statement (the work); the ties are given (YtiaakhogigddbaaGreatDoorTie.lean); close each card by the builder's one call (the guide's Derived/Test/ToyasCard.lean, 'card_holds'). Laid BY PROGRAM, IN A SANDBOX (cutbox-door.mjs). By AI agents, Wed Nov 11 2026. No macro, syntax, notation, axiom, sorry.
-/
import Derived.Test.YtiaakhogigddbaaGreatDoorRows
import GoSem.ClaimSeven
namespace Go.Proofs.YtiaakhogigddbaaGreatDoor
namespace Rows

/-- THE TIED CARD OF 'laws.FnExactFilterRows'. -/
def fnExactFilterRowsCard : Claim7 := { stood := { row := fnExactFilterRowsRow, standIns := [], harness := (true, "6ee743092e0fd6d84216b60c4e0c4aa13186d38e8a9bdbd8e050825b06b0385d"), looks := false }, kinds := [], alts := [], laidByText := true, laidKinds := [.data, .data, .data, .data, .data, .data, .pinned], laidTests := true, laidLooks := .later }
def FnExactFilterRowsCardSaid : Prop := Claim7.holds Tryz.pinned (.plain (OpenSpec.ofChange fnExactFilterRowsSpec)) fnExactFilterRowsCard

/-- THE TIED CARD OF 'laws.FnExactAllowed'. -/
def fnExactAllowedCard : Claim7 := { stood := { row := fnExactAllowedRow, standIns := [], harness := (true, "6ee743092e0fd6d84216b60c4e0c4aa13186d38e8a9bdbd8e050825b06b0385d"), looks := false }, kinds := [], alts := [], laidByText := true, laidKinds := [.data, .data, .data, .data, .data, .data, .pinned], laidTests := true, laidLooks := .later }
def FnExactAllowedCardSaid : Prop := Claim7.holds Tryz.pinned (.plain (OpenSpec.ofChange fnExactAllowedSpec)) fnExactAllowedCard

/-- THE SECOND FORM's CARD OF 'laws.FnExactFilterRows'. -/
def fnExactFilterRowsUptoCard : Claim7 := { stood := { row := fnExactFilterRowsUptoRow, standIns := [], harness := (true, "6ee743092e0fd6d84216b60c4e0c4aa13186d38e8a9bdbd8e050825b06b0385d"), looks := false }, kinds := [], alts := [], laidByText := true, laidKinds := [.data, .data, .data, .data, .data, .data, .pinned], laidTests := true, laidLooks := .later }
def FnExactFilterRowsUptoCardSaid : Prop := Claim7.holds Tryz.pinned (.plain (OpenSpec.upto fnExactFilterRowsSpec)) fnExactFilterRowsUptoCard

/-- THE SECOND FORM's CARD OF 'laws.FnExactAllowed'. -/
def fnExactAllowedUptoCard : Claim7 := { stood := { row := fnExactAllowedUptoRow, standIns := [], harness := (true, "6ee743092e0fd6d84216b60c4e0c4aa13186d38e8a9bdbd8e050825b06b0385d"), looks := false }, kinds := [], alts := [], laidByText := true, laidKinds := [.data, .data, .data, .data, .data, .data, .pinned], laidTests := true, laidLooks := .later }
def FnExactAllowedUptoCardSaid : Prop := Claim7.holds Tryz.pinned (.plain (OpenSpec.upto fnExactAllowedSpec)) fnExactAllowedUptoCard
end Rows
end Go.Proofs.YtiaakhogigddbaaGreatDoor
