/-
  DERIVED. GIVEN WITH THE SEED: THE CARDS: each row of YtjlojlgdkfpcdaaGreatDoorRows.lean that lists a variable, with what it lists TIED to the program's text (the seventh form; the later family's looks); each row that meets fmt, with fmt's text TOLD by the authors' own Lean function (tested against real Go, not proved from fmt's source: count such statements apart). THE CARD IS WHAT COUNTS. Prove the row's statement (the work); the ties are given (YtjlojlgdkfpcdaaGreatDoorTie.lean); close each card by the builder's one call (the guide's Derived/Test/ToyasCard.lean, 'card_holds'). Laid BY PROGRAM, IN A SANDBOX (cutbox-door.mjs). By AI agents, Wed Nov 11 2026. No macro, syntax, notation, axiom, sorry.
-/
import Derived.Test.YtjlojlgdkfpcdaaGreatDoorRows
import GoSem.ClaimSeven
namespace Go.Proofs.YtjlojlgdkfpcdaaGreatDoor
namespace Rows

/-- THE TIED CARD OF 'laws.FnFormats'. -/
def fnFormatsCard : Claim7 := { stood := { row := fnFormatsRow, standIns := [], harness := (true, "58a777135123a016c164ba827b2546bc89573ebd9366a7046a0a0487b0633232"), looks := false }, kinds := [], alts := [], laidByText := true, laidKinds := [.data, .data, .data, .data, .wider, .data, .data, .data, .data, .data, .pinned], laidTests := true, laidLooks := .later }
def FnFormatsCardSaid : Prop := Claim7.holds Tryz.pinned (.plain (OpenSpec.ofChange fnFormatsSpec)) fnFormatsCard

/-- THE TIED CARD OF 'laws.FnExactShowBy'. -/
def fnExactShowByCard : Claim7 := { stood := { row := fnExactShowByRow, standIns := [], harness := (true, "58a777135123a016c164ba827b2546bc89573ebd9366a7046a0a0487b0633232"), looks := false }, kinds := [], alts := [], laidByText := true, laidKinds := [.data, .data, .data, .data, .wider, .data, .data, .data, .data, .data, .pinned], laidTests := true, laidLooks := .later }
def FnExactShowByCardSaid : Prop := Claim7.holds Tryz.pinned (.plain (OpenSpec.ofChange fnExactShowBySpec)) fnExactShowByCard

/-- THE SECOND FORM's CARD OF 'laws.FnFormats'. -/
def fnFormatsUptoCard : Claim7 := { stood := { row := fnFormatsUptoRow, standIns := [], harness := (true, "58a777135123a016c164ba827b2546bc89573ebd9366a7046a0a0487b0633232"), looks := false }, kinds := [], alts := [], laidByText := true, laidKinds := [.data, .data, .data, .data, .wider, .data, .data, .data, .data, .data, .pinned], laidTests := true, laidLooks := .later }
def FnFormatsUptoCardSaid : Prop := Claim7.holds Tryz.pinned (.plain (OpenSpec.upto fnFormatsSpec)) fnFormatsUptoCard

/-- THE SECOND FORM's CARD OF 'laws.FnExactShowBy'. -/
def fnExactShowByUptoCard : Claim7 := { stood := { row := fnExactShowByUptoRow, standIns := [], harness := (true, "58a777135123a016c164ba827b2546bc89573ebd9366a7046a0a0487b0633232"), looks := false }, kinds := [], alts := [], laidByText := true, laidKinds := [.data, .data, .data, .data, .wider, .data, .data, .data, .data, .data, .pinned], laidTests := true, laidLooks := .later }
def FnExactShowByUptoCardSaid : Prop := Claim7.holds Tryz.pinned (.plain (OpenSpec.upto fnExactShowBySpec)) fnExactShowByUptoCard
end Rows
end Go.Proofs.YtjlojlgdkfpcdaaGreatDoor
