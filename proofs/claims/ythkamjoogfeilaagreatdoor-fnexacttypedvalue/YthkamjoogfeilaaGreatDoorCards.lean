/-
  DERIVED. GIVEN WITH THE SEED: THE CARDS: each row of YthkamjoogfeilaaGreatDoorRows.lean that lists a variable, with what it lists TIED to the program's text (the seventh form; the later family's looks); each row that meets fmt, with fmt's text TOLD by the authors' own Lean function (tested against real Go, not proved from fmt's source: count such statements apart). THE CARD IS WHAT COUNTS. Prove the row's statement (the work); the ties are given (YthkamjoogfeilaaGreatDoorTie.lean); close each card by the builder's one call (the guide's Derived/Test/ToyasCard.lean, 'card_holds'). Laid BY PROGRAM, IN A SANDBOX (cutbox-door.mjs). By AI agents, Wed Nov 11 2026. No macro, syntax, notation, axiom, sorry.
-/
import Derived.Test.YthkamjoogfeilaaGreatDoorRows
import GoSem.ClaimSeven
namespace Go.Proofs.YthkamjoogfeilaaGreatDoor
namespace Rows

/-- THE TIED CARD OF 'laws.FnExactNumberOf'. -/
def fnExactNumberOfCard : Claim7 := { stood := { row := fnExactNumberOfRow, standIns := [], harness := (true, "2750d641f7ae3b3887514485f47853f6b504181817ae087d9ff00cf6ca11b328"), looks := false }, kinds := [], alts := [], laidByText := true, laidKinds := [.data, .data, .data, .pinned], laidTests := true, laidLooks := .later }
def FnExactNumberOfCardSaid : Prop := Claim7.holds Tryz.pinned (.plain (OpenSpec.ofChange fnExactNumberOfSpec)) fnExactNumberOfCard

/-- THE TIED CARD OF 'laws.FnExactTypedValue'. -/
def fnExactTypedValueCard : Claim7 := { stood := { row := fnExactTypedValueRow, standIns := [], harness := (true, "2750d641f7ae3b3887514485f47853f6b504181817ae087d9ff00cf6ca11b328"), looks := false }, kinds := [], alts := [], laidByText := true, laidKinds := [.data, .data, .data, .pinned], laidTests := true, laidLooks := .later }
def FnExactTypedValueCardSaid : Prop := Claim7.holds Tryz.pinned (.plain (OpenSpec.ofChange fnExactTypedValueSpec)) fnExactTypedValueCard

/-- THE SECOND FORM's CARD OF 'laws.FnExactNumberOf'. -/
def fnExactNumberOfUptoCard : Claim7 := { stood := { row := fnExactNumberOfUptoRow, standIns := [], harness := (true, "2750d641f7ae3b3887514485f47853f6b504181817ae087d9ff00cf6ca11b328"), looks := false }, kinds := [], alts := [], laidByText := true, laidKinds := [.data, .data, .data, .pinned], laidTests := true, laidLooks := .later }
def FnExactNumberOfUptoCardSaid : Prop := Claim7.holds Tryz.pinned (.plain (OpenSpec.upto fnExactNumberOfSpec)) fnExactNumberOfUptoCard

/-- THE SECOND FORM's CARD OF 'laws.FnExactTypedValue'. -/
def fnExactTypedValueUptoCard : Claim7 := { stood := { row := fnExactTypedValueUptoRow, standIns := [], harness := (true, "2750d641f7ae3b3887514485f47853f6b504181817ae087d9ff00cf6ca11b328"), looks := false }, kinds := [], alts := [], laidByText := true, laidKinds := [.data, .data, .data, .pinned], laidTests := true, laidLooks := .later }
def FnExactTypedValueUptoCardSaid : Prop := Claim7.holds Tryz.pinned (.plain (OpenSpec.upto fnExactTypedValueSpec)) fnExactTypedValueUptoCard
end Rows
end Go.Proofs.YthkamjoogfeilaaGreatDoor
