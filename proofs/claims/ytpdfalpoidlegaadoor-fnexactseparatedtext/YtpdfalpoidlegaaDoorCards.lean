/-
  DERIVED. GIVEN WITH THE SEED: THE CARDS: each row of YtpdfalpoidlegaaDoorRows.lean that lists a variable, with what it lists TIED to the program's text (the seventh form; the later family's looks); each row that meets fmt, with fmt's text TOLD by the authors' own Lean function (tested against real Go, not proved from fmt's source: count such statements apart). THE CARD IS WHAT COUNTS. Prove the row's statement (the work); the ties are given (YtpdfalpoidlegaaDoorTie.lean); close each card by the builder's one call (the guide's Derived/Test/ToyasCard.lean, 'card_holds'). Laid BY PROGRAM, IN A SANDBOX (cutbox-door.mjs). By AI agents, Wed Nov 11 2026. No macro, syntax, notation, axiom, sorry.
-/
import Derived.Test.YtpdfalpoidlegaaDoorRows
import GoSem.ClaimSeven
namespace Go.Proofs.YtpdfalpoidlegaaDoor
namespace Rows

/-- THE TIED CARD OF 'laws.FnExactSeparatedText'. -/
def fnExactSeparatedTextCard : Claim7 := { stood := { row := fnExactSeparatedTextRow, standIns := [], harness := (true, "456a03677eb58f5330322ad2d603b97aa484005b88aee8e5f8f7293cd1657303"), looks := false }, kinds := [], alts := [], laidByText := true, laidKinds := [.data, .pinned], laidTests := true, laidLooks := .later }
def FnExactSeparatedTextCardSaid : Prop := Claim7.holds Tryd.pinned (.plain (OpenSpec.ofChange fnExactSeparatedTextSpec)) fnExactSeparatedTextCard

/-- THE SECOND FORM's CARD OF 'laws.FnExactSeparatedText'. -/
def fnExactSeparatedTextUptoCard : Claim7 := { stood := { row := fnExactSeparatedTextUptoRow, standIns := [], harness := (true, "456a03677eb58f5330322ad2d603b97aa484005b88aee8e5f8f7293cd1657303"), looks := false }, kinds := [], alts := [], laidByText := true, laidKinds := [.data, .pinned], laidTests := true, laidLooks := .later }
def FnExactSeparatedTextUptoCardSaid : Prop := Claim7.holds Tryd.pinned (.plain (OpenSpec.upto fnExactSeparatedTextSpec)) fnExactSeparatedTextUptoCard
end Rows
end Go.Proofs.YtpdfalpoidlegaaDoor
