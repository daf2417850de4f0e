/-
  DERIVED. GIVEN WITH THE SEED: THE CARDS: each row of YtmcmohooodpfeaaGreatDoorRows.lean that lists a variable, with what it lists TIED to the program's text (the seventh form; the later family's looks); each row that meets fmt, with fmt's text TOLD by the authors' own Lean function (tested against real Go, not proved from fmt's source: count such statements apart). THE CARD IS WHAT COUNTS. Prove the row's statement (the work); the ties are given (YtmcmohooodpfeaaGreatDoorTie.lean); close each card by the builder's one call (the guide's Derived/Test/ToyasCard.lean, 'card_holds'). Laid BY PROGRAM, IN A SANDBOX (cutbox-door.mjs). By AI agents, Wed Nov 11 2026. No macro, syntax, notation, axiom, sorry.
-/
import Derived.Test.YtmcmohooodpfeaaGreatDoorRows
import GoSem.ClaimSeven
namespace Go.Proofs.YtmcmohooodpfeaaGreatDoor
namespace Rows

/-- THE TIED CARD OF 'laws.FnDays'. -/
def fnDaysCard : Claim7 := { stood := { row := fnDaysRow, standIns := [], harness := (true, "8abc05cec703f0b119a9a3b56a1ab6f74051cedc6c8f17f8434a138cf02b1696"), looks := true }, kinds := [], alts := [], laidByText := true, laidKinds := [.data, .data, .data, .data, .sentinel, .sentinel, .data, .data, .pinned], laidTests := true, laidLooks := .later }
def FnDaysCardSaid : Prop := Claim7.holds Tryz.pinned (.plain (OpenSpec.ofChange fnDaysSpec)) fnDaysCard

/-- THE TIED CARD OF 'laws.FnExactReadDate'. -/
def fnExactReadDateCard : Claim7 := { stood := { row := fnExactReadDateRow, standIns := [], harness := (true, "8abc05cec703f0b119a9a3b56a1ab6f74051cedc6c8f17f8434a138cf02b1696"), looks := true }, kinds := [], alts := [], laidByText := true, laidKinds := [.data, .data, .data, .data, .sentinel, .sentinel, .data, .data, .pinned], laidTests := true, laidLooks := .later }
def FnExactReadDateCardSaid : Prop := Claim7.holds Tryz.pinned (.plain (OpenSpec.ofChange fnExactReadDateSpec)) fnExactReadDateCard

/-- THE SECOND FORM's CARD OF 'laws.FnDays'. -/
def fnDaysUptoCard : Claim7 := { stood := { row := fnDaysUptoRow, standIns := [], harness := (true, "8abc05cec703f0b119a9a3b56a1ab6f74051cedc6c8f17f8434a138cf02b1696"), looks := true }, kinds := [], alts := [], laidByText := true, laidKinds := [.data, .data, .data, .data, .sentinel, .sentinel, .data, .data, .pinned], laidTests := true, laidLooks := .later }
def FnDaysUptoCardSaid : Prop := Claim7.holds Tryz.pinned (.plain (OpenSpec.upto fnDaysSpec)) fnDaysUptoCard

/-- THE SECOND FORM's CARD OF 'laws.FnExactReadDate'. -/
def fnExactReadDateUptoCard : Claim7 := { stood := { row := fnExactReadDateUptoRow, standIns := [], harness := (true, "8abc05cec703f0b119a9a3b56a1ab6f74051cedc6c8f17f8434a138cf02b1696"), looks := true }, kinds := [], alts := [], laidByText := true, laidKinds := [.data, .data, .data, .data, .sentinel, .sentinel, .data, .data, .pinned], laidTests := true, laidLooks := .later }
def FnExactReadDateUptoCardSaid : Prop := Claim7.holds Tryz.pinned (.plain (OpenSpec.upto fnExactReadDateSpec)) fnExactReadDateUptoCard
end Rows
end Go.Proofs.YtmcmohooodpfeaaGreatDoor
