/-
  DERIVED. GIVEN WITH THE SEED: THE CARDS: each row of YtbebmjiopijheaaDoorRows.lean that lists a variable, with what it lists TIED to the program's text (the seventh form; the later family's looks); each row that meets fmt, with fmt's text TOLD by the authors' own Lean function (tested against real Go, not proved from fmt's source: count such statements apart). THE CARD IS WHAT COUNTS. Prove the row's statement (the work); the ties are given (YtbebmjiopijheaaDoorTie.lean); close each card by the builder's one call (the guide's Derived/Test/ToyasCard.lean, 'card_holds'). Laid BY PROGRAM, IN A SANDBOX (cutbox-door.mjs). By AI agents, Wed Nov 11 2026. No macro, syntax, notation, axiom, sorry.
-/
import Derived.Test.YtbebmjiopijheaaDoorRows
import GoSem.ClaimSeven
namespace Go.Proofs.YtbebmjiopijheaaDoor
namespace Rows

/-- THE TIED CARD OF 'laws.FnExactCellField'. -/
def fnExactCellFieldCard : Claim7 := { stood := { row := fnExactCellFieldRow, standIns := [], harness := (true, "1d6601ecfe4123c3f7351272c4ff1403ccb8115629b823438abdeb7af7ec0809"), looks := false }, kinds := [], alts := [], laidByText := true, laidKinds := [.data, .data, .data, .data, .data], laidTests := true, laidLooks := .later }
def FnExactCellFieldCardSaid : Prop := Claim7.holds Tryd.pinned (.plain (OpenSpec.ofChange fnExactCellFieldSpec)) fnExactCellFieldCard

/-- THE SECOND FORM's CARD OF 'laws.FnExactCellField'. -/
def fnExactCellFieldUptoCard : Claim7 := { stood := { row := fnExactCellFieldUptoRow, standIns := [], harness := (true, "1d6601ecfe4123c3f7351272c4ff1403ccb8115629b823438abdeb7af7ec0809"), looks := false }, kinds := [], alts := [], laidByText := true, laidKinds := [.data, .data, .data, .data, .data], laidTests := true, laidLooks := .later }
def FnExactCellFieldUptoCardSaid : Prop := Claim7.holds Tryd.pinned (.plain (OpenSpec.upto fnExactCellFieldSpec)) fnExactCellFieldUptoCard
end Rows
end Go.Proofs.YtbebmjiopijheaaDoor
