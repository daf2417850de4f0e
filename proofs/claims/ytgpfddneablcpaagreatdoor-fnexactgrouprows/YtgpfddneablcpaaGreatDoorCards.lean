/-
  DERIVED. GIVEN WITH THE SEED: THE CARDS: each row of YtgpfddneablcpaaGreatDoorRows.lean that lists a variable, with what it lists TIED to the program's text (the seventh form; the later family's looks); each row that meets fmt, with fmt's text TOLD by the authors' own Lean function (tested against real Go, not proved from fmt's source: count such statements apart). THE CARD IS WHAT COUNTS. Prove the row's statement (the work); the ties are given (YtgpfddneablcpaaGreatDoorTie.lean); close each card by the builder's one call (the guide's Derived/Test/ToyasCard.lean, 'card_holds'). Laid BY PROGRAM, IN A SANDBOX (cutbox-door.mjs). By AI agents, Wed Nov 11 2026. No macro, syntax, notation, axiom, sorry.
-/
import Derived.Test.YtgpfddneablcpaaGreatDoorRows
import GoSem.ClaimSeven
namespace Go.Proofs.YtgpfddneablcpaaGreatDoor
namespace Rows

/-- THE TIED CARD OF 'laws.FnExactGroupRows'. -/
def fnExactGroupRowsCard : Claim7 := { stood := { row := fnExactGroupRowsRow, standIns := [], harness := (true, "4dce8360494f77052ce92500a98bcea172f6a33fa9626ac6e94c4a4cf401d626"), looks := false }, kinds := [], alts := [], laidByText := true, laidKinds := [.data, .data, .data, .data, .data, .data, .pinned], laidTests := true, laidLooks := .later }
def FnExactGroupRowsCardSaid : Prop := Claim7.holds Tryz.pinned (.plain (OpenSpec.ofChange fnExactGroupRowsSpec)) fnExactGroupRowsCard

/-- THE SECOND FORM's CARD OF 'laws.FnExactGroupRows'. -/
def fnExactGroupRowsUptoCard : Claim7 := { stood := { row := fnExactGroupRowsUptoRow, standIns := [], harness := (true, "4dce8360494f77052ce92500a98bcea172f6a33fa9626ac6e94c4a4cf401d626"), looks := false }, kinds := [], alts := [], laidByText := true, laidKinds := [.data, .data, .data, .data, .data, .data, .pinned], laidTests := true, laidLooks := .later }
def FnExactGroupRowsUptoCardSaid : Prop := Claim7.holds Tryz.pinned (.plain (OpenSpec.upto fnExactGroupRowsSpec)) fnExactGroupRowsUptoCard
end Rows
end Go.Proofs.YtgpfddneablcpaaGreatDoor
