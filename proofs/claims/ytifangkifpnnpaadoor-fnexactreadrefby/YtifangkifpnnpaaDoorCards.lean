/-
  DERIVED. GIVEN WITH THE SEED: THE CARDS: each row of YtifangkifpnnpaaDoorRows.lean that lists a variable, with what it lists TIED to the program's text (the seventh form; the later family's looks); each row that meets fmt, with fmt's text TOLD by the authors' own Lean function (tested against real Go, not proved from fmt's source: count such statements apart). THE CARD IS WHAT COUNTS. Prove the row's statement (the work); the ties are given (YtifangkifpnnpaaDoorTie.lean); close each card by the builder's one call (the guide's Derived/Test/ToyasCard.lean, 'card_holds'). Laid BY PROGRAM, IN A SANDBOX (cutbox-door.mjs). By AI agents, Wed Nov 11 2026. No macro, syntax, notation, axiom, sorry.
-/
import Derived.Test.YtifangkifpnnpaaDoorRows
import GoSem.ClaimSeven
namespace Go.Proofs.YtifangkifpnnpaaDoor
namespace Rows

/-- THE TIED CARD OF 'laws.FnAreas'. -/
def fnAreasCard : Claim7 := { stood := { row := fnAreasRow, standIns := [], harness := (true, "38073db29661b865cb85c85f708afeb8e7c8e9e5b4a40472c25d3141517097e8"), looks := true }, kinds := [], alts := [], laidByText := true, laidKinds := [.data], laidTests := true, laidLooks := .later }
def FnAreasCardSaid : Prop := Claim7.holds Tryd.pinned (.plain (OpenSpec.ofChange fnAreasSpec)) fnAreasCard

/-- THE TIED CARD OF 'laws.FnExactRefText'. -/
def fnExactRefTextCard : Claim7 := { stood := { row := fnExactRefTextRow, standIns := [], harness := (true, "38073db29661b865cb85c85f708afeb8e7c8e9e5b4a40472c25d3141517097e8"), looks := true }, kinds := [], alts := [], laidByText := true, laidKinds := [.data, .data, .data], laidTests := true, laidLooks := .later }
def FnExactRefTextCardSaid : Prop := Claim7.holds Tryd.pinned (.plain (OpenSpec.ofChange fnExactRefTextSpec)) fnExactRefTextCard

/-- THE TIED CARD OF 'laws.FnExactReadRef'. -/
def fnExactReadRefCard : Claim7 := { stood := { row := fnExactReadRefRow, standIns := [], harness := (true, "38073db29661b865cb85c85f708afeb8e7c8e9e5b4a40472c25d3141517097e8"), looks := true }, kinds := [], alts := [], laidByText := true, laidKinds := [.data, .data, .data, .data, .sentinel, .sentinel, .pinned], laidTests := true, laidLooks := .later }
def FnExactReadRefCardSaid : Prop := Claim7.holds Tryd.pinned (.plain (OpenSpec.ofChange fnExactReadRefSpec)) fnExactReadRefCard

/-- THE TIED CARD OF 'laws.FnExactRefTextBy'. -/
def fnExactRefTextByCard : Claim7 := { stood := { row := fnExactRefTextByRow, standIns := [], harness := (true, "38073db29661b865cb85c85f708afeb8e7c8e9e5b4a40472c25d3141517097e8"), looks := true }, kinds := [], alts := [], laidByText := true, laidKinds := [.data, .data, .data], laidTests := true, laidLooks := .later }
def FnExactRefTextByCardSaid : Prop := Claim7.holds Tryd.pinned (.plain (OpenSpec.ofChange fnExactRefTextBySpec)) fnExactRefTextByCard

/-- THE TIED CARD OF 'laws.FnExactReadRefBy'. -/
def fnExactReadRefByCard : Claim7 := { stood := { row := fnExactReadRefByRow, standIns := [], harness := (true, "38073db29661b865cb85c85f708afeb8e7c8e9e5b4a40472c25d3141517097e8"), looks := true }, kinds := [], alts := [], laidByText := true, laidKinds := [.data, .data, .data, .sentinel, .sentinel], laidTests := true, laidLooks := .later }
def FnExactReadRefByCardSaid : Prop := Claim7.holds Tryd.pinned (.plain (OpenSpec.ofChange fnExactReadRefBySpec)) fnExactReadRefByCard

/-- THE TIED CARD OF 'laws.FnExactWithout'. -/
def fnExactWithoutCard : Claim7 := { stood := { row := fnExactWithoutRow, standIns := [], harness := (true, "38073db29661b865cb85c85f708afeb8e7c8e9e5b4a40472c25d3141517097e8"), looks := true }, kinds := [], alts := [], laidByText := true, laidKinds := [.data], laidTests := true, laidLooks := .later }
def FnExactWithoutCardSaid : Prop := Claim7.holds Tryd.pinned (.plain (OpenSpec.ofChange fnExactWithoutSpec)) fnExactWithoutCard

/-- THE SECOND FORM's CARD OF 'laws.FnAreas'. -/
def fnAreasUptoCard : Claim7 := { stood := { row := fnAreasUptoRow, standIns := [], harness := (true, "38073db29661b865cb85c85f708afeb8e7c8e9e5b4a40472c25d3141517097e8"), looks := true }, kinds := [], alts := [], laidByText := true, laidKinds := [.data], laidTests := true, laidLooks := .later }
def FnAreasUptoCardSaid : Prop := Claim7.holds Tryd.pinned (.plain (OpenSpec.upto fnAreasSpec)) fnAreasUptoCard

/-- THE SECOND FORM's CARD OF 'laws.FnExactRefText'. -/
def fnExactRefTextUptoCard : Claim7 := { stood := { row := fnExactRefTextUptoRow, standIns := [], harness := (true, "38073db29661b865cb85c85f708afeb8e7c8e9e5b4a40472c25d3141517097e8"), looks := true }, kinds := [], alts := [], laidByText := true, laidKinds := [.data, .data, .data], laidTests := true, laidLooks := .later }
def FnExactRefTextUptoCardSaid : Prop := Claim7.holds Tryd.pinned (.plain (OpenSpec.upto fnExactRefTextSpec)) fnExactRefTextUptoCard

/-- THE SECOND FORM's CARD OF 'laws.FnExactReadRef'. -/
def fnExactReadRefUptoCard : Claim7 := { stood := { row := fnExactReadRefUptoRow, standIns := [], harness := (true, "38073db29661b865cb85c85f708afeb8e7c8e9e5b4a40472c25d3141517097e8"), looks := true }, kinds := [], alts := [], laidByText := true, laidKinds := [.data, .data, .data, .data, .sentinel, .sentinel, .pinned], laidTests := true, laidLooks := .later }
def FnExactReadRefUptoCardSaid : Prop := Claim7.holds Tryd.pinned (.plain (OpenSpec.upto fnExactReadRefSpec)) fnExactReadRefUptoCard

/-- THE SECOND FORM's CARD OF 'laws.FnExactRefTextBy'. -/
def fnExactRefTextByUptoCard : Claim7 := { stood := { row := fnExactRefTextByUptoRow, standIns := [], harness := (true, "38073db29661b865cb85c85f708afeb8e7c8e9e5b4a40472c25d3141517097e8"), looks := true }, kinds := [], alts := [], laidByText := true, laidKinds := [.data, .data, .data], laidTests := true, laidLooks := .later }
def FnExactRefTextByUptoCardSaid : Prop := Claim7.holds Tryd.pinned (.plain (OpenSpec.upto fnExactRefTextBySpec)) fnExactRefTextByUptoCard

/-- THE SECOND FORM's CARD OF 'laws.FnExactReadRefBy'. -/
def fnExactReadRefByUptoCard : Claim7 := { stood := { row := fnExactReadRefByUptoRow, standIns := [], harness := (true, "38073db29661b865cb85c85f708afeb8e7c8e9e5b4a40472c25d3141517097e8"), looks := true }, kinds := [], alts := [], laidByText := true, laidKinds := [.data, .data, .data, .sentinel, .sentinel], laidTests := true, laidLooks := .later }
def FnExactReadRefByUptoCardSaid : Prop := Claim7.holds Tryd.pinned (.plain (OpenSpec.upto fnExactReadRefBySpec)) fnExactReadRefByUptoCard

/-- THE SECOND FORM's CARD OF 'laws.FnExactWithout'. -/
def fnExactWithoutUptoCard : Claim7 := { stood := { row := fnExactWithoutUptoRow, standIns := [], harness := (true, "38073db29661b865cb85c85f708afeb8e7c8e9e5b4a40472c25d3141517097e8"), looks := true }, kinds := [], alts := [], laidByText := true, laidKinds := [.data], laidTests := true, laidLooks := .later }
def FnExactWithoutUptoCardSaid : Prop := Claim7.holds Tryd.pinned (.plain (OpenSpec.upto fnExactWithoutSpec)) fnExactWithoutUptoCard
end Rows
end Go.Proofs.YtifangkifpnnpaaDoor
