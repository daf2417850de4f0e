/-
  DERIVED. GIVEN WITH THE SEED: THE CARDS: each row of YtpoihneecafijaaDoorRows.lean that lists a variable, with what it lists TIED to the program's text (the seventh form; the later family's looks); each row that meets fmt, with fmt's text TOLD by the authors' own Lean function (tested against real Go, not proved from fmt's source: count such statements apart). THE CARD IS WHAT COUNTS. Prove the row's statement (the work); the ties are given (YtpoihneecafijaaDoorTie.lean); close each card by the builder's one call (the guide's Derived/Test/ToyasCard.lean, 'card_holds'). Laid BY PROGRAM, IN A SANDBOX (cutbox-door.mjs). By AI agents, Wed Nov 11 2026. No macro, syntax, notation, axiom, sorry.
-/
import Derived.Test.YtpoihneecafijaaDoorRows
import GoSem.ClaimSeven
namespace Go.Proofs.YtpoihneecafijaaDoor
namespace Rows

/-- THE TIED CARD OF 'laws.FnExactGoodDec'. -/
def fnExactGoodDecCard : Claim7 := { stood := { row := fnExactGoodDecRow, standIns := [], harness := (true, "1e91a96440ace87d1f5df1ffd3c4bac9a1100a1894806b4ced126157997ea6a0"), looks := false }, kinds := [], alts := [], laidByText := true, laidKinds := [.data], laidTests := true, laidLooks := .later }
def FnExactGoodDecCardSaid : Prop := Claim7.holds Tryd.pinned (.plain (OpenSpec.ofChange fnExactGoodDecSpec)) fnExactGoodDecCard

/-- THE TIED CARD OF 'laws.FnExactDecOf'. -/
def fnExactDecOfCard : Claim7 := { stood := { row := fnExactDecOfRow, standIns := [], harness := (true, "1e91a96440ace87d1f5df1ffd3c4bac9a1100a1894806b4ced126157997ea6a0"), looks := false }, kinds := [], alts := [], laidByText := true, laidKinds := [.data], laidTests := true, laidLooks := .later }
def FnExactDecOfCardSaid : Prop := Claim7.holds Tryd.pinned (.plain (OpenSpec.ofChange fnExactDecOfSpec)) fnExactDecOfCard

/-- THE TIED CARD OF 'laws.FnExactDecAdd'. -/
def fnExactDecAddCard : Claim7 := { stood := { row := fnExactDecAddRow, standIns := [], harness := (true, "1e91a96440ace87d1f5df1ffd3c4bac9a1100a1894806b4ced126157997ea6a0"), looks := false }, kinds := [], alts := [], laidByText := true, laidKinds := [.data], laidTests := true, laidLooks := .later }
def FnExactDecAddCardSaid : Prop := Claim7.holds Tryd.pinned (.plain (OpenSpec.ofChange fnExactDecAddSpec)) fnExactDecAddCard

/-- THE TIED CARD OF 'laws.FnExactDecSub'. -/
def fnExactDecSubCard : Claim7 := { stood := { row := fnExactDecSubRow, standIns := [], harness := (true, "1e91a96440ace87d1f5df1ffd3c4bac9a1100a1894806b4ced126157997ea6a0"), looks := false }, kinds := [], alts := [], laidByText := true, laidKinds := [.data], laidTests := true, laidLooks := .later }
def FnExactDecSubCardSaid : Prop := Claim7.holds Tryd.pinned (.plain (OpenSpec.ofChange fnExactDecSubSpec)) fnExactDecSubCard

/-- THE TIED CARD OF 'laws.FnExactDecMul'. -/
def fnExactDecMulCard : Claim7 := { stood := { row := fnExactDecMulRow, standIns := [], harness := (true, "1e91a96440ace87d1f5df1ffd3c4bac9a1100a1894806b4ced126157997ea6a0"), looks := false }, kinds := [], alts := [], laidByText := true, laidKinds := [.data], laidTests := true, laidLooks := .later }
def FnExactDecMulCardSaid : Prop := Claim7.holds Tryd.pinned (.plain (OpenSpec.ofChange fnExactDecMulSpec)) fnExactDecMulCard

/-- THE TIED CARD OF 'laws.FnExactDecDiv'. -/
def fnExactDecDivCard : Claim7 := { stood := { row := fnExactDecDivRow, standIns := [], harness := (true, "1e91a96440ace87d1f5df1ffd3c4bac9a1100a1894806b4ced126157997ea6a0"), looks := false }, kinds := [], alts := [], laidByText := true, laidKinds := [.data], laidTests := true, laidLooks := .later }
def FnExactDecDivCardSaid : Prop := Claim7.holds Tryd.pinned (.plain (OpenSpec.ofChange fnExactDecDivSpec)) fnExactDecDivCard

/-- THE TIED CARD OF 'laws.FnExactDecCmp'. -/
def fnExactDecCmpCard : Claim7 := { stood := { row := fnExactDecCmpRow, standIns := [], harness := (true, "1e91a96440ace87d1f5df1ffd3c4bac9a1100a1894806b4ced126157997ea6a0"), looks := false }, kinds := [], alts := [], laidByText := true, laidKinds := [.data], laidTests := true, laidLooks := .later }
def FnExactDecCmpCardSaid : Prop := Claim7.holds Tryd.pinned (.plain (OpenSpec.ofChange fnExactDecCmpSpec)) fnExactDecCmpCard

/-- THE TIED CARD OF 'laws.FnExactDecPow'. -/
def fnExactDecPowCard : Claim7 := { stood := { row := fnExactDecPowRow, standIns := [], harness := (true, "1e91a96440ace87d1f5df1ffd3c4bac9a1100a1894806b4ced126157997ea6a0"), looks := false }, kinds := [], alts := [], laidByText := true, laidKinds := [.data], laidTests := true, laidLooks := .later }
def FnExactDecPowCardSaid : Prop := Claim7.holds Tryd.pinned (.plain (OpenSpec.ofChange fnExactDecPowSpec)) fnExactDecPowCard

/-- THE TIED CARD OF 'laws.FnExactDecSqrt'. -/
def fnExactDecSqrtCard : Claim7 := { stood := { row := fnExactDecSqrtRow, standIns := [], harness := (true, "1e91a96440ace87d1f5df1ffd3c4bac9a1100a1894806b4ced126157997ea6a0"), looks := false }, kinds := [], alts := [], laidByText := true, laidKinds := [.data], laidTests := true, laidLooks := .later }
def FnExactDecSqrtCardSaid : Prop := Claim7.holds Tryd.pinned (.plain (OpenSpec.ofChange fnExactDecSqrtSpec)) fnExactDecSqrtCard

/-- THE TIED CARD OF 'laws.FnExactDecRound'. -/
def fnExactDecRoundCard : Claim7 := { stood := { row := fnExactDecRoundRow, standIns := [], harness := (true, "1e91a96440ace87d1f5df1ffd3c4bac9a1100a1894806b4ced126157997ea6a0"), looks := false }, kinds := [], alts := [], laidByText := true, laidKinds := [.data], laidTests := true, laidLooks := .later }
def FnExactDecRoundCardSaid : Prop := Claim7.holds Tryd.pinned (.plain (OpenSpec.ofChange fnExactDecRoundSpec)) fnExactDecRoundCard

/-- THE TIED CARD OF 'laws.FnExactDecInt'. -/
def fnExactDecIntCard : Claim7 := { stood := { row := fnExactDecIntRow, standIns := [], harness := (true, "1e91a96440ace87d1f5df1ffd3c4bac9a1100a1894806b4ced126157997ea6a0"), looks := false }, kinds := [], alts := [], laidByText := true, laidKinds := [.data], laidTests := true, laidLooks := .later }
def FnExactDecIntCardSaid : Prop := Claim7.holds Tryd.pinned (.plain (OpenSpec.ofChange fnExactDecIntSpec)) fnExactDecIntCard

/-- THE TIED CARD OF 'laws.FnExactDecText'. -/
def fnExactDecTextCard : Claim7 := { stood := { row := fnExactDecTextRow, standIns := [], harness := (true, "1e91a96440ace87d1f5df1ffd3c4bac9a1100a1894806b4ced126157997ea6a0"), looks := false }, kinds := [], alts := [], laidByText := true, laidKinds := [.data, .data, .data, .data], laidTests := true, laidLooks := .later }
def FnExactDecTextCardSaid : Prop := Claim7.holds Tryd.pinned (.plain (OpenSpec.ofChange fnExactDecTextSpec)) fnExactDecTextCard

/-- THE TIED CARD OF 'laws.FnExactReadDec'. -/
def fnExactReadDecCard : Claim7 := { stood := { row := fnExactReadDecRow, standIns := [], harness := (true, "1e91a96440ace87d1f5df1ffd3c4bac9a1100a1894806b4ced126157997ea6a0"), looks := false }, kinds := [], alts := [], laidByText := true, laidKinds := [.data, .data, .pinned], laidTests := true, laidLooks := .later }
def FnExactReadDecCardSaid : Prop := Claim7.holds Tryd.pinned (.plain (OpenSpec.ofChange fnExactReadDecSpec)) fnExactReadDecCard

/-- THE SECOND FORM's CARD OF 'laws.FnExactGoodDec'. -/
def fnExactGoodDecUptoCard : Claim7 := { stood := { row := fnExactGoodDecUptoRow, standIns := [], harness := (true, "1e91a96440ace87d1f5df1ffd3c4bac9a1100a1894806b4ced126157997ea6a0"), looks := false }, kinds := [], alts := [], laidByText := true, laidKinds := [.data], laidTests := true, laidLooks := .later }
def FnExactGoodDecUptoCardSaid : Prop := Claim7.holds Tryd.pinned (.plain (OpenSpec.upto fnExactGoodDecSpec)) fnExactGoodDecUptoCard

/-- THE SECOND FORM's CARD OF 'laws.FnExactDecOf'. -/
def fnExactDecOfUptoCard : Claim7 := { stood := { row := fnExactDecOfUptoRow, standIns := [], harness := (true, "1e91a96440ace87d1f5df1ffd3c4bac9a1100a1894806b4ced126157997ea6a0"), looks := false }, kinds := [], alts := [], laidByText := true, laidKinds := [.data], laidTests := true, laidLooks := .later }
def FnExactDecOfUptoCardSaid : Prop := Claim7.holds Tryd.pinned (.plain (OpenSpec.upto fnExactDecOfSpec)) fnExactDecOfUptoCard

/-- THE SECOND FORM's CARD OF 'laws.FnExactDecAdd'. -/
def fnExactDecAddUptoCard : Claim7 := { stood := { row := fnExactDecAddUptoRow, standIns := [], harness := (true, "1e91a96440ace87d1f5df1ffd3c4bac9a1100a1894806b4ced126157997ea6a0"), looks := false }, kinds := [], alts := [], laidByText := true, laidKinds := [.data], laidTests := true, laidLooks := .later }
def FnExactDecAddUptoCardSaid : Prop := Claim7.holds Tryd.pinned (.plain (OpenSpec.upto fnExactDecAddSpec)) fnExactDecAddUptoCard

/-- THE SECOND FORM's CARD OF 'laws.FnExactDecSub'. -/
def fnExactDecSubUptoCard : Claim7 := { stood := { row := fnExactDecSubUptoRow, standIns := [], harness := (true, "1e91a96440ace87d1f5df1ffd3c4bac9a1100a1894806b4ced126157997ea6a0"), looks := false }, kinds := [], alts := [], laidByText := true, laidKinds := [.data], laidTests := true, laidLooks := .later }
def FnExactDecSubUptoCardSaid : Prop := Claim7.holds Tryd.pinned (.plain (OpenSpec.upto fnExactDecSubSpec)) fnExactDecSubUptoCard

/-- THE SECOND FORM's CARD OF 'laws.FnExactDecMul'. -/
def fnExactDecMulUptoCard : Claim7 := { stood := { row := fnExactDecMulUptoRow, standIns := [], harness := (true, "1e91a96440ace87d1f5df1ffd3c4bac9a1100a1894806b4ced126157997ea6a0"), looks := false }, kinds := [], alts := [], laidByText := true, laidKinds := [.data], laidTests := true, laidLooks := .later }
def FnExactDecMulUptoCardSaid : Prop := Claim7.holds Tryd.pinned (.plain (OpenSpec.upto fnExactDecMulSpec)) fnExactDecMulUptoCard

/-- THE SECOND FORM's CARD OF 'laws.FnExactDecDiv'. -/
def fnExactDecDivUptoCard : Claim7 := { stood := { row := fnExactDecDivUptoRow, standIns := [], harness := (true, "1e91a96440ace87d1f5df1ffd3c4bac9a1100a1894806b4ced126157997ea6a0"), looks := false }, kinds := [], alts := [], laidByText := true, laidKinds := [.data], laidTests := true, laidLooks := .later }
def FnExactDecDivUptoCardSaid : Prop := Claim7.holds Tryd.pinned (.plain (OpenSpec.upto fnExactDecDivSpec)) fnExactDecDivUptoCard

/-- THE SECOND FORM's CARD OF 'laws.FnExactDecCmp'. -/
def fnExactDecCmpUptoCard : Claim7 := { stood := { row := fnExactDecCmpUptoRow, standIns := [], harness := (true, "1e91a96440ace87d1f5df1ffd3c4bac9a1100a1894806b4ced126157997ea6a0"), looks := false }, kinds := [], alts := [], laidByText := true, laidKinds := [.data], laidTests := true, laidLooks := .later }
def FnExactDecCmpUptoCardSaid : Prop := Claim7.holds Tryd.pinned (.plain (OpenSpec.upto fnExactDecCmpSpec)) fnExactDecCmpUptoCard

/-- THE SECOND FORM's CARD OF 'laws.FnExactDecPow'. -/
def fnExactDecPowUptoCard : Claim7 := { stood := { row := fnExactDecPowUptoRow, standIns := [], harness := (true, "1e91a96440ace87d1f5df1ffd3c4bac9a1100a1894806b4ced126157997ea6a0"), looks := false }, kinds := [], alts := [], laidByText := true, laidKinds := [.data], laidTests := true, laidLooks := .later }
def FnExactDecPowUptoCardSaid : Prop := Claim7.holds Tryd.pinned (.plain (OpenSpec.upto fnExactDecPowSpec)) fnExactDecPowUptoCard

/-- THE SECOND FORM's CARD OF 'laws.FnExactDecSqrt'. -/
def fnExactDecSqrtUptoCard : Claim7 := { stood := { row := fnExactDecSqrtUptoRow, standIns := [], harness := (true, "1e91a96440ace87d1f5df1ffd3c4bac9a1100a1894806b4ced126157997ea6a0"), looks := false }, kinds := [], alts := [], laidByText := true, laidKinds := [.data], laidTests := true, laidLooks := .later }
def FnExactDecSqrtUptoCardSaid : Prop := Claim7.holds Tryd.pinned (.plain (OpenSpec.upto fnExactDecSqrtSpec)) fnExactDecSqrtUptoCard

/-- THE SECOND FORM's CARD OF 'laws.FnExactDecRound'. -/
def fnExactDecRoundUptoCard : Claim7 := { stood := { row := fnExactDecRoundUptoRow, standIns := [], harness := (true, "1e91a96440ace87d1f5df1ffd3c4bac9a1100a1894806b4ced126157997ea6a0"), looks := false }, kinds := [], alts := [], laidByText := true, laidKinds := [.data], laidTests := true, laidLooks := .later }
def FnExactDecRoundUptoCardSaid : Prop := Claim7.holds Tryd.pinned (.plain (OpenSpec.upto fnExactDecRoundSpec)) fnExactDecRoundUptoCard

/-- THE SECOND FORM's CARD OF 'laws.FnExactDecInt'. -/
def fnExactDecIntUptoCard : Claim7 := { stood := { row := fnExactDecIntUptoRow, standIns := [], harness := (true, "1e91a96440ace87d1f5df1ffd3c4bac9a1100a1894806b4ced126157997ea6a0"), looks := false }, kinds := [], alts := [], laidByText := true, laidKinds := [.data], laidTests := true, laidLooks := .later }
def FnExactDecIntUptoCardSaid : Prop := Claim7.holds Tryd.pinned (.plain (OpenSpec.upto fnExactDecIntSpec)) fnExactDecIntUptoCard

/-- THE SECOND FORM's CARD OF 'laws.FnExactDecText'. -/
def fnExactDecTextUptoCard : Claim7 := { stood := { row := fnExactDecTextUptoRow, standIns := [], harness := (true, "1e91a96440ace87d1f5df1ffd3c4bac9a1100a1894806b4ced126157997ea6a0"), looks := false }, kinds := [], alts := [], laidByText := true, laidKinds := [.data, .data, .data, .data], laidTests := true, laidLooks := .later }
def FnExactDecTextUptoCardSaid : Prop := Claim7.holds Tryd.pinned (.plain (OpenSpec.upto fnExactDecTextSpec)) fnExactDecTextUptoCard

/-- THE SECOND FORM's CARD OF 'laws.FnExactReadDec'. -/
def fnExactReadDecUptoCard : Claim7 := { stood := { row := fnExactReadDecUptoRow, standIns := [], harness := (true, "1e91a96440ace87d1f5df1ffd3c4bac9a1100a1894806b4ced126157997ea6a0"), looks := false }, kinds := [], alts := [], laidByText := true, laidKinds := [.data, .data, .pinned], laidTests := true, laidLooks := .later }
def FnExactReadDecUptoCardSaid : Prop := Claim7.holds Tryd.pinned (.plain (OpenSpec.upto fnExactReadDecSpec)) fnExactReadDecUptoCard
end Rows
end Go.Proofs.YtpoihneecafijaaDoor
