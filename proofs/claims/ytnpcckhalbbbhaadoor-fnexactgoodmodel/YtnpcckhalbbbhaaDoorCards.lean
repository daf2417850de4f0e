/-
  DERIVED. GIVEN WITH THE SEED: THE CARDS: each row of YtnpcckhalbbbhaaDoorRows.lean that lists a variable, with what it lists TIED to the program's text (the seventh form; the later family's looks); each row that meets fmt, with fmt's text TOLD by the authors' own Lean function (tested against real Go, not proved from fmt's source: count such statements apart). THE CARD IS WHAT COUNTS. Prove the row's statement (the work); the ties are given (YtnpcckhalbbbhaaDoorTie.lean); close each card by the builder's one call (the guide's Derived/Test/ToyasCard.lean, 'card_holds'). Laid BY PROGRAM, IN A SANDBOX (cutbox-door.mjs). By AI agents, Wed Nov 11 2026. No macro, syntax, notation, axiom, sorry.
-/
import Derived.Test.YtnpcckhalbbbhaaDoorRows
import GoSem.ClaimSeven
namespace Go.Proofs.YtnpcckhalbbbhaaDoor
namespace Rows

/-- THE TIED CARD OF 'laws.FnExactGoodModel'. -/
def fnExactGoodModelCard : Claim7 := { stood := { row := fnExactGoodModelRow, standIns := [], harness := (true, "117dc0928444414a9dcf1511f1bc9c9cb18850e6c0e2dbd9744d1ef950dd3742"), looks := false }, kinds := [], alts := [], laidByText := true, laidKinds := [.data], laidTests := true, laidLooks := .later }
def FnExactGoodModelCardSaid : Prop := Claim7.holds Tryd.pinned (.plain (OpenSpec.ofChange fnExactGoodModelSpec)) fnExactGoodModelCard

/-- THE SECOND FORM's CARD OF 'laws.FnExactGoodModel'. -/
def fnExactGoodModelUptoCard : Claim7 := { stood := { row := fnExactGoodModelUptoRow, standIns := [], harness := (true, "117dc0928444414a9dcf1511f1bc9c9cb18850e6c0e2dbd9744d1ef950dd3742"), looks := false }, kinds := [], alts := [], laidByText := true, laidKinds := [.data], laidTests := true, laidLooks := .later }
def FnExactGoodModelUptoCardSaid : Prop := Claim7.holds Tryd.pinned (.plain (OpenSpec.upto fnExactGoodModelSpec)) fnExactGoodModelUptoCard
end Rows
end Go.Proofs.YtnpcckhalbbbhaaDoor
