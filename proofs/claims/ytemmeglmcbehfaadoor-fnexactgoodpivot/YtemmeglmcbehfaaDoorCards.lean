/-
  DERIVED. GIVEN WITH THE SEED: THE CARDS: each row of YtemmeglmcbehfaaDoorRows.lean that lists a variable, with what it lists TIED to the program's text (the seventh form; the later family's looks); each row that meets fmt, with fmt's text TOLD by the authors' own Lean function (tested against real Go, not proved from fmt's source: count such statements apart). THE CARD IS WHAT COUNTS. Prove the row's statement (the work); the ties are given (YtemmeglmcbehfaaDoorTie.lean); close each card by the builder's one call (the guide's Derived/Test/ToyasCard.lean, 'card_holds'). Laid BY PROGRAM, IN A SANDBOX (cutbox-door.mjs). By AI agents, Wed Nov 11 2026. No macro, syntax, notation, axiom, sorry.
-/
import Derived.Test.YtemmeglmcbehfaaDoorRows
import GoSem.ClaimSeven
namespace Go.Proofs.YtemmeglmcbehfaaDoor
namespace Rows

/-- THE TIED CARD OF 'laws.FnExactGoodPivot'. -/
def fnExactGoodPivotCard : Claim7 := { stood := { row := fnExactGoodPivotRow, standIns := [], harness := (true, "53343f63ca0aa8882bf93a01ded6262f6fac730a285ee05d7f6df4b416eb0d48"), looks := false }, kinds := [], alts := [], laidByText := true, laidKinds := [.data, .data], laidTests := true, laidLooks := .later }
def FnExactGoodPivotCardSaid : Prop := Claim7.holds Tryd.pinned (.plain (OpenSpec.ofChange fnExactGoodPivotSpec)) fnExactGoodPivotCard

/-- THE SECOND FORM's CARD OF 'laws.FnExactGoodPivot'. -/
def fnExactGoodPivotUptoCard : Claim7 := { stood := { row := fnExactGoodPivotUptoRow, standIns := [], harness := (true, "53343f63ca0aa8882bf93a01ded6262f6fac730a285ee05d7f6df4b416eb0d48"), looks := false }, kinds := [], alts := [], laidByText := true, laidKinds := [.data, .data], laidTests := true, laidLooks := .later }
def FnExactGoodPivotUptoCardSaid : Prop := Claim7.holds Tryd.pinned (.plain (OpenSpec.upto fnExactGoodPivotSpec)) fnExactGoodPivotUptoCard
end Rows
end Go.Proofs.YtemmeglmcbehfaaDoor
