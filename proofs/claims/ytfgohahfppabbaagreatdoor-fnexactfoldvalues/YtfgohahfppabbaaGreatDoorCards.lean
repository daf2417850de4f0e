/-
  DERIVED. GIVEN WITH THE SEED: THE CARDS: each row of YtfgohahfppabbaaGreatDoorRows.lean that lists a variable, with what it lists TIED to the program's text (the seventh form; the later family's looks); each row that meets fmt, with fmt's text TOLD by the authors' own Lean function (tested against real Go, not proved from fmt's source: count such statements apart). THE CARD IS WHAT COUNTS. Prove the row's statement (the work); the ties are given (YtfgohahfppabbaaGreatDoorTie.lean); close each card by the builder's one call (the guide's Derived/Test/ToyasCard.lean, 'card_holds'). Laid BY PROGRAM, IN A SANDBOX (cutbox-door.mjs). By AI agents, Wed Nov 11 2026. No macro, syntax, notation, axiom, sorry.
-/
import Derived.Test.YtfgohahfppabbaaGreatDoorRows
import GoSem.ClaimSeven
namespace Go.Proofs.YtfgohahfppabbaaGreatDoor
namespace Rows

/-- THE TIED CARD OF 'laws.FnExactFoldValues'. -/
def fnExactFoldValuesCard : Claim7 := { stood := { row := fnExactFoldValuesRow, standIns := [], harness := (true, "81af0a79db361fd672fd1371862c6a68ecbfe0578ccd5acc52168e70e114920b"), looks := false }, kinds := [], alts := [], laidByText := true, laidKinds := [.data, .data, .data, .data, .data, .data, .pinned], laidTests := true, laidLooks := .later }
def FnExactFoldValuesCardSaid : Prop := Claim7.holds Tryz.pinned (.plain (OpenSpec.ofChange fnExactFoldValuesSpec)) fnExactFoldValuesCard

/-- THE SECOND FORM's CARD OF 'laws.FnExactFoldValues'. -/
def fnExactFoldValuesUptoCard : Claim7 := { stood := { row := fnExactFoldValuesUptoRow, standIns := [], harness := (true, "81af0a79db361fd672fd1371862c6a68ecbfe0578ccd5acc52168e70e114920b"), looks := false }, kinds := [], alts := [], laidByText := true, laidKinds := [.data, .data, .data, .data, .data, .data, .pinned], laidTests := true, laidLooks := .later }
def FnExactFoldValuesUptoCardSaid : Prop := Claim7.holds Tryz.pinned (.plain (OpenSpec.upto fnExactFoldValuesSpec)) fnExactFoldValuesUptoCard
end Rows
end Go.Proofs.YtfgohahfppabbaaGreatDoor
