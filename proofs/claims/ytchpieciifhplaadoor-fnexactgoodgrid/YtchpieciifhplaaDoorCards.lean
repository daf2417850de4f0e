/-
  DERIVED. GIVEN WITH THE SEED: THE CARDS: each row of YtchpieciifhplaaDoorRows.lean that lists a variable, with what it lists TIED to the program's text (the seventh form; the later family's looks); each row that meets fmt, with fmt's text TOLD by the authors' own Lean function (tested against real Go, not proved from fmt's source: count such statements apart). THE CARD IS WHAT COUNTS. Prove the row's statement (the work); the ties are given (YtchpieciifhplaaDoorTie.lean); close each card by the builder's one call (the guide's Derived/Test/ToyasCard.lean, 'card_holds'). Laid BY PROGRAM, IN A SANDBOX (cutbox-door.mjs). By AI agents, Wed Nov 11 2026. No macro, syntax, notation, axiom, sorry.
-/
import Derived.Test.YtchpieciifhplaaDoorRows
import GoSem.ClaimSeven
namespace Go.Proofs.YtchpieciifhplaaDoor
namespace Rows

/-- THE TIED CARD OF 'laws.FnExactGoodValue'. -/
def fnExactGoodValueCard : Claim7 := { stood := { row := fnExactGoodValueRow, standIns := [], harness := (true, "1d12740f60a87400f4624d45cbe297cf2f83fec3dd5df6a138342cbc4d7aedf5"), looks := false }, kinds := [], alts := [], laidByText := true, laidKinds := [.data, .data], laidTests := true, laidLooks := .later }
def FnExactGoodValueCardSaid : Prop := Claim7.holds Tryd.pinned (.plain (OpenSpec.ofChange fnExactGoodValueSpec)) fnExactGoodValueCard

/-- THE TIED CARD OF 'laws.FnExactGoodGrid'. -/
def fnExactGoodGridCard : Claim7 := { stood := { row := fnExactGoodGridRow, standIns := [], harness := (true, "1d12740f60a87400f4624d45cbe297cf2f83fec3dd5df6a138342cbc4d7aedf5"), looks := false }, kinds := [], alts := [], laidByText := true, laidKinds := [.data, .data], laidTests := true, laidLooks := .later }
def FnExactGoodGridCardSaid : Prop := Claim7.holds Tryd.pinned (.plain (OpenSpec.ofChange fnExactGoodGridSpec)) fnExactGoodGridCard

/-- THE TIED CARD OF 'laws.FnExactTextOf'. -/
def fnExactTextOfCard : Claim7 := { stood := { row := fnExactTextOfRow, standIns := [], harness := (true, "1d12740f60a87400f4624d45cbe297cf2f83fec3dd5df6a138342cbc4d7aedf5"), looks := false }, kinds := [], alts := [], laidByText := true, laidKinds := [.data, .data, .data, .data, .data], laidTests := true, laidLooks := .later }
def FnExactTextOfCardSaid : Prop := Claim7.holds Tryd.pinned (.plain (OpenSpec.ofChange fnExactTextOfSpec)) fnExactTextOfCard

/-- THE TIED CARD OF 'laws.FnExactBoolOf'. -/
def fnExactBoolOfCard : Claim7 := { stood := { row := fnExactBoolOfRow, standIns := [], harness := (true, "1d12740f60a87400f4624d45cbe297cf2f83fec3dd5df6a138342cbc4d7aedf5"), looks := false }, kinds := [], alts := [], laidByText := true, laidKinds := [.data, .data], laidTests := true, laidLooks := .later }
def FnExactBoolOfCardSaid : Prop := Claim7.holds Tryd.pinned (.plain (OpenSpec.ofChange fnExactBoolOfSpec)) fnExactBoolOfCard

/-- THE TIED CARD OF 'laws.FnExactShowValue'. -/
def fnExactShowValueCard : Claim7 := { stood := { row := fnExactShowValueRow, standIns := [], harness := (true, "1d12740f60a87400f4624d45cbe297cf2f83fec3dd5df6a138342cbc4d7aedf5"), looks := false }, kinds := [], alts := [], laidByText := true, laidKinds := [.data, .data, .data, .data, .data], laidTests := true, laidLooks := .later }
def FnExactShowValueCardSaid : Prop := Claim7.holds Tryd.pinned (.plain (OpenSpec.ofChange fnExactShowValueSpec)) fnExactShowValueCard

/-- THE SECOND FORM's CARD OF 'laws.FnExactGoodValue'. -/
def fnExactGoodValueUptoCard : Claim7 := { stood := { row := fnExactGoodValueUptoRow, standIns := [], harness := (true, "1d12740f60a87400f4624d45cbe297cf2f83fec3dd5df6a138342cbc4d7aedf5"), looks := false }, kinds := [], alts := [], laidByText := true, laidKinds := [.data, .data], laidTests := true, laidLooks := .later }
def FnExactGoodValueUptoCardSaid : Prop := Claim7.holds Tryd.pinned (.plain (OpenSpec.upto fnExactGoodValueSpec)) fnExactGoodValueUptoCard

/-- THE SECOND FORM's CARD OF 'laws.FnExactGoodGrid'. -/
def fnExactGoodGridUptoCard : Claim7 := { stood := { row := fnExactGoodGridUptoRow, standIns := [], harness := (true, "1d12740f60a87400f4624d45cbe297cf2f83fec3dd5df6a138342cbc4d7aedf5"), looks := false }, kinds := [], alts := [], laidByText := true, laidKinds := [.data, .data], laidTests := true, laidLooks := .later }
def FnExactGoodGridUptoCardSaid : Prop := Claim7.holds Tryd.pinned (.plain (OpenSpec.upto fnExactGoodGridSpec)) fnExactGoodGridUptoCard

/-- THE SECOND FORM's CARD OF 'laws.FnExactTextOf'. -/
def fnExactTextOfUptoCard : Claim7 := { stood := { row := fnExactTextOfUptoRow, standIns := [], harness := (true, "1d12740f60a87400f4624d45cbe297cf2f83fec3dd5df6a138342cbc4d7aedf5"), looks := false }, kinds := [], alts := [], laidByText := true, laidKinds := [.data, .data, .data, .data, .data], laidTests := true, laidLooks := .later }
def FnExactTextOfUptoCardSaid : Prop := Claim7.holds Tryd.pinned (.plain (OpenSpec.upto fnExactTextOfSpec)) fnExactTextOfUptoCard

/-- THE SECOND FORM's CARD OF 'laws.FnExactBoolOf'. -/
def fnExactBoolOfUptoCard : Claim7 := { stood := { row := fnExactBoolOfUptoRow, standIns := [], harness := (true, "1d12740f60a87400f4624d45cbe297cf2f83fec3dd5df6a138342cbc4d7aedf5"), looks := false }, kinds := [], alts := [], laidByText := true, laidKinds := [.data, .data], laidTests := true, laidLooks := .later }
def FnExactBoolOfUptoCardSaid : Prop := Claim7.holds Tryd.pinned (.plain (OpenSpec.upto fnExactBoolOfSpec)) fnExactBoolOfUptoCard

/-- THE SECOND FORM's CARD OF 'laws.FnExactShowValue'. -/
def fnExactShowValueUptoCard : Claim7 := { stood := { row := fnExactShowValueUptoRow, standIns := [], harness := (true, "1d12740f60a87400f4624d45cbe297cf2f83fec3dd5df6a138342cbc4d7aedf5"), looks := false }, kinds := [], alts := [], laidByText := true, laidKinds := [.data, .data, .data, .data, .data], laidTests := true, laidLooks := .later }
def FnExactShowValueUptoCardSaid : Prop := Claim7.holds Tryd.pinned (.plain (OpenSpec.upto fnExactShowValueSpec)) fnExactShowValueUptoCard
end Rows
end Go.Proofs.YtchpieciifhplaaDoor
