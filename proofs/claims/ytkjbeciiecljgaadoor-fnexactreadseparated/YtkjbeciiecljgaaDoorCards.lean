/-
  DERIVED. GIVEN WITH THE SEED: THE CARDS: each row of YtkjbeciiecljgaaDoorRows.lean that lists a variable, with what it lists TIED to the program's text (the seventh form; the later family's looks); each row that meets fmt, with fmt's text TOLD by the authors' own Lean function (tested against real Go, not proved from fmt's source: count such statements apart). THE CARD IS WHAT COUNTS. Prove the row's statement (the work); the ties are given (YtkjbeciiecljgaaDoorTie.lean); close each card by the builder's one call (the guide's Derived/Test/ToyasCard.lean, 'card_holds'). Laid BY PROGRAM, IN A SANDBOX (cutbox-door.mjs). By AI agents, Wed Nov 11 2026. No macro, syntax, notation, axiom, sorry.
-/
import Derived.Test.YtkjbeciiecljgaaDoorRows
import GoSem.ClaimSeven
namespace Go.Proofs.YtkjbeciiecljgaaDoor
namespace Rows

/-- THE TIED CARD OF 'laws.FnExactReadSeparated'. -/
def fnExactReadSeparatedCard : Claim7 := { stood := { row := fnExactReadSeparatedRow, standIns := [], harness := (true, "a3595302bbba7578160ec3fc7eb4dc4b33e64f9d9067a5a3ac7a67424018442a"), looks := true }, kinds := [], alts := [], laidByText := true, laidKinds := [.handle, .sentinel, .sentinel, .sentinel, .sentinel, .sentinel, .sentinel], laidTests := true, laidLooks := .later }
def FnExactReadSeparatedCardSaid : Prop := Claim7.holds Tryd.pinned (.plain (OpenSpec.ofChange fnExactReadSeparatedSpec)) fnExactReadSeparatedCard

/-- THE SECOND FORM's CARD OF 'laws.FnExactReadSeparated'. -/
def fnExactReadSeparatedUptoCard : Claim7 := { stood := { row := fnExactReadSeparatedUptoRow, standIns := [], harness := (true, "a3595302bbba7578160ec3fc7eb4dc4b33e64f9d9067a5a3ac7a67424018442a"), looks := true }, kinds := [], alts := [], laidByText := true, laidKinds := [.handle, .sentinel, .sentinel, .sentinel, .sentinel, .sentinel, .sentinel], laidTests := true, laidLooks := .later }
def FnExactReadSeparatedUptoCardSaid : Prop := Claim7.holds Tryd.pinned (.plain (OpenSpec.upto fnExactReadSeparatedSpec)) fnExactReadSeparatedUptoCard
end Rows
end Go.Proofs.YtkjbeciiecljgaaDoor
