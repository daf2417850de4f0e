/-
  DERIVED. GIVEN WITH THE SEED: THE CARDS: each row of YtlofnhhoopefcaaGreatDoorRows.lean that lists a variable, with what it lists TIED to the program's text (the seventh form; the later family's looks); each row that meets fmt, with fmt's text TOLD by the authors' own Lean function (tested against real Go, not proved from fmt's source: count such statements apart). THE CARD IS WHAT COUNTS. Prove the row's statement (the work); the ties are given (YtlofnhhoopefcaaGreatDoorTie.lean); close each card by the builder's one call (the guide's Derived/Test/ToyasCard.lean, 'card_holds'). Laid BY PROGRAM, IN A SANDBOX (cutbox-door.mjs). By AI agents, Wed Nov 11 2026. No macro, syntax, notation, axiom, sorry.
-/
import Derived.Test.YtlofnhhoopefcaaGreatDoorRows
import GoSem.ClaimSeven
namespace Go.Proofs.YtlofnhhoopefcaaGreatDoor
namespace Rows

/-- THE TIED CARD OF 'laws.FnExactSortRows'. -/
def fnExactSortRowsCard : Claim7 := { stood := { row := fnExactSortRowsRow, standIns := [], harness := (true, "a6534f879714668d216563c42a65bad6a1badc231f2a833d440d111aec9de018"), looks := false }, kinds := [], alts := [], laidByText := true, laidKinds := [.data, .data, .data, .data, .data, .data, .pinned], laidTests := true, laidLooks := .later }
def FnExactSortRowsCardSaid : Prop := Claim7.holds Tryz.pinned (.plain (OpenSpec.ofChange fnExactSortRowsSpec)) fnExactSortRowsCard

/-- THE TIED CARD OF 'laws.FnExactRuns'. -/
def fnExactRunsCard : Claim7 := { stood := { row := fnExactRunsRow, standIns := [], harness := (true, "a6534f879714668d216563c42a65bad6a1badc231f2a833d440d111aec9de018"), looks := false }, kinds := [], alts := [], laidByText := true, laidKinds := [.data, .data, .data, .data, .data, .data, .pinned], laidTests := true, laidLooks := .later }
def FnExactRunsCardSaid : Prop := Claim7.holds Tryz.pinned (.plain (OpenSpec.ofChange fnExactRunsSpec)) fnExactRunsCard

/-- THE SECOND FORM's CARD OF 'laws.FnExactSortRows'. -/
def fnExactSortRowsUptoCard : Claim7 := { stood := { row := fnExactSortRowsUptoRow, standIns := [], harness := (true, "a6534f879714668d216563c42a65bad6a1badc231f2a833d440d111aec9de018"), looks := false }, kinds := [], alts := [], laidByText := true, laidKinds := [.data, .data, .data, .data, .data, .data, .pinned], laidTests := true, laidLooks := .later }
def FnExactSortRowsUptoCardSaid : Prop := Claim7.holds Tryz.pinned (.plain (OpenSpec.upto fnExactSortRowsSpec)) fnExactSortRowsUptoCard

/-- THE SECOND FORM's CARD OF 'laws.FnExactRuns'. -/
def fnExactRunsUptoCard : Claim7 := { stood := { row := fnExactRunsUptoRow, standIns := [], harness := (true, "a6534f879714668d216563c42a65bad6a1badc231f2a833d440d111aec9de018"), looks := false }, kinds := [], alts := [], laidByText := true, laidKinds := [.data, .data, .data, .data, .data, .data, .pinned], laidTests := true, laidLooks := .later }
def FnExactRunsUptoCardSaid : Prop := Claim7.holds Tryz.pinned (.plain (OpenSpec.upto fnExactRunsSpec)) fnExactRunsUptoCard
end Rows
end Go.Proofs.YtlofnhhoopefcaaGreatDoor
