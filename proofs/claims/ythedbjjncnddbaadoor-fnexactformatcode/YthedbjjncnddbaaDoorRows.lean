/-
  NARROWER THAN 'FOR EVERY INPUT', by the rows' own cells (each row's printed sentence says how): FnExactReadFormat: laid · FnExactFormatCode: laid.
  DERIVED. THE GIVEN ROWS OF THIS SEAT. 2 by the template 'for every input the law returns true; each argument reads behind the call as it read before'; 0 by the template 'total and deterministic' (their statements: YthedbjjncnddbaaDoorTotals.lean).
  GIVEN WITH THE SEED: the statements are not yours to turn. If you find one false, say at which input.
  Laid BY PROGRAM, IN A SANDBOX (cutbox-rows.mjs): the forced cells as the released guide's own fill.sh prints them over the translation 462da0edde5504b3… (all of the seat's roots in one cut). By AI agents, Wed Nov 11 2026. No macro, syntax, notation, axiom, sorry.
-/
import Derived.Test.YthedbjjncnddbaaDoorChecked
import GoSem.PinnedTables
import GoSem.Claim
import GoSem.ClaimJoined
import GoSem.ClaimMapViews
import Derived.JoinedTies
import Derived.KernelRfl
namespace Go.Proofs.YthedbjjncnddbaaDoor
/- THE CELL 'sum', in the pinned program and in every row, IS THE sha256 OF THE DUMP (.gsa) THAT YthedbjjncnddbaaDoorProg.lean LOADS. Nothing in Lean hashes anything: it is a label: what it is worth is what the hold of that sum in a sandbox is worth. -/
noncomputable def Tryd.pinned : Pinned := { name := "ythedbjjncnddbaadoor", sum := "462da0edde5504b3fe37018e5067aadbe04dae52ff2f4d02b047bb00313bcef2", checked := Tryd.checked }
namespace Rows
def none {H : Type} : Left H := { results := [], args := [] }

/- WHAT THE LISTED PACKAGE-LEVEL VARIABLES READ AS WHEN THE CALL BEGINS. Each datum BY PROGRAM (the guide's laid-datum.mjs) off the statement by which the dump's own 'gosem.cut.vars' lays the variable. In a bare row this is a premise. The card (YthedbjjncnddbaaDoorCards.lean) ties it to the program's text. -/
def laid_unicode_utf8_acceptRanges {H : Type} : DataW H := .agg [.agg [.lit (.int .u8 128), .lit (.int .u8 191)], .agg [.lit (.int .u8 160), .lit (.int .u8 191)], .agg [.lit (.int .u8 128), .lit (.int .u8 159)], .agg [.lit (.int .u8 144), .lit (.int .u8 191)], .agg [.lit (.int .u8 128), .lit (.int .u8 143)], .agg [.lit (.int .u8 0), .lit (.int .u8 0)], .agg [.lit (.int .u8 0), .lit (.int .u8 0)], .agg [.lit (.int .u8 0), .lit (.int .u8 0)], .agg [.lit (.int .u8 0), .lit (.int .u8 0)], .agg [.lit (.int .u8 0), .lit (.int .u8 0)], .agg [.lit (.int .u8 0), .lit (.int .u8 0)], .agg [.lit (.int .u8 0), .lit (.int .u8 0)], .agg [.lit (.int .u8 0), .lit (.int .u8 0)], .agg [.lit (.int .u8 0), .lit (.int .u8 0)], .agg [.lit (.int .u8 0), .lit (.int .u8 0)], .agg [.lit (.int .u8 0), .lit (.int .u8 0)]]
def laid_loop_example_g00025_impl_mayBeAhead {H : Type} : DataW H := .agg [.lit (.int .u16 0), .lit (.int .u16 1), .lit (.int .u16 3), .lit (.int .u16 7), .lit (.int .u16 8), .lit (.int .u16 16), .lit (.int .u16 48), .lit (.int .u16 104), .lit (.int .u16 3), .lit (.int .u16 488), .lit (.int .u16 1000)]
def laid_loop_example_g00025_impl_dateWords {H : Type} : DataW H := .agg [.lit (.string [121, 121, 121, 121]), .lit (.string [121, 121]), .lit (.string [109, 109]), .lit (.string [109]), .lit (.string [100, 100]), .lit (.string [100]), .lit (.string [104, 104]), .lit (.string [110, 110]), .lit (.string [115, 115]), .lit (.string [45]), .lit (.string [47]), .lit (.string [58]), .lit (.string [46]), .lit (.string [32])]
/-- One of Go's own tables, pinned by name: the form's constant. -/
def laid_unicode_utf8_first : DataW Unit := Go.Pinned.utf8First

/-- 'laws.FnExactReadFormat': WHATEVER THE INPUT: true; the input reads as it did. -/
def fnExactReadFormatSpec : ChangeSpec := { name := "fnExactReadFormat", vars := ["loop.example/g00025/impl.mayBeAhead", "loop.example/g00025/impl.dateWords"], fn := fun _ => fun
  | [d, g1, g2] => { results := [.lit (.bool true)], args := [d], vars := [g1, g2] }
  | _ => none }
def fnExactReadFormatRow : OpenClaim := { program := "ythedbjjncnddbaadoor", sum := "462da0edde5504b3fe37018e5067aadbe04dae52ff2f4d02b047bb00313bcef2", func := "loop.example/g00025/laws.FnExactReadFormat", spec := "fnExactReadFormat", inPlace := ["internal/bytealg.IndexByteString", "internal/bytealg.IndexString"], named := ["loop.example/g00025/impl.mayBeAhead", "internal/bytealg.MaxLen", "unicode/utf8.first", "unicode/utf8.acceptRanges", "loop.example/g00025/impl.dateWords"], apart := false, laid := [("unicode/utf8.acceptRanges", laid_unicode_utf8_acceptRanges), ("loop.example/g00025/impl.mayBeAhead", laid_loop_example_g00025_impl_mayBeAhead), ("loop.example/g00025/impl.dateWords", laid_loop_example_g00025_impl_dateWords), ("unicode/utf8.first", laid_unicode_utf8_first)] }
def FnExactReadFormatSaid : Prop := fnExactReadFormatRow.holds Tryd.pinned (OpenSpec.ofChange fnExactReadFormatSpec)

/-- ITS FALSE NEIGHBOUR: 'it returns false'. Refute it at one input. -/
def fnExactReadFormatWrong : ChangeSpec := { name := "fnExactReadFormat", vars := ["loop.example/g00025/impl.mayBeAhead", "loop.example/g00025/impl.dateWords"], fn := fun _ => fun
  | [d, g1, g2] => { results := [.lit (.bool false)], args := [d], vars := [g1, g2] }
  | _ => none }
def FnExactReadFormatWrongFalsely : Prop := fnExactReadFormatRow.holds Tryd.pinned (OpenSpec.ofChange fnExactReadFormatWrong)

/-- 'laws.FnExactFormatCode': WHATEVER THE INPUT: true; the input reads as it did. -/
def fnExactFormatCodeSpec : ChangeSpec := { name := "fnExactFormatCode", vars := ["loop.example/g00025/impl.mayBeAhead", "loop.example/g00025/impl.dateWords"], fn := fun _ => fun
  | [d, g1, g2] => { results := [.lit (.bool true)], args := [d], vars := [g1, g2] }
  | _ => none }
def fnExactFormatCodeRow : OpenClaim := { program := "ythedbjjncnddbaadoor", sum := "462da0edde5504b3fe37018e5067aadbe04dae52ff2f4d02b047bb00313bcef2", func := "loop.example/g00025/laws.FnExactFormatCode", spec := "fnExactFormatCode", inPlace := ["internal/abi.NoEscape", "internal/bytealg.MakeNoZero", "internal/bytealg.IndexByteString", "internal/bytealg.IndexString"], named := ["loop.example/g00025/impl.mayBeAhead", "internal/bytealg.MaxLen", "unicode/utf8.first", "unicode/utf8.acceptRanges", "loop.example/g00025/impl.dateWords"], apart := false, laid := [("unicode/utf8.acceptRanges", laid_unicode_utf8_acceptRanges), ("loop.example/g00025/impl.mayBeAhead", laid_loop_example_g00025_impl_mayBeAhead), ("loop.example/g00025/impl.dateWords", laid_loop_example_g00025_impl_dateWords), ("unicode/utf8.first", laid_unicode_utf8_first)] }
def FnExactFormatCodeSaid : Prop := fnExactFormatCodeRow.holds Tryd.pinned (OpenSpec.ofChange fnExactFormatCodeSpec)

/-- ITS FALSE NEIGHBOUR: 'it returns false'. Refute it at one input. -/
def fnExactFormatCodeWrong : ChangeSpec := { name := "fnExactFormatCode", vars := ["loop.example/g00025/impl.mayBeAhead", "loop.example/g00025/impl.dateWords"], fn := fun _ => fun
  | [d, g1, g2] => { results := [.lit (.bool false)], args := [d], vars := [g1, g2] }
  | _ => none }
def FnExactFormatCodeWrongFalsely : Prop := fnExactFormatCodeRow.holds Tryd.pinned (OpenSpec.ofChange fnExactFormatCodeWrong)

/- THE SECOND FORM. 'bulk': how many values and letters a reading holds, each counted each time it is reached (what is shared counts as often as it is met; a slice's spare places count too). A statement '..UptoSaid' is the law's where the arguments, and the package variables that the reading takes, are together of bulk at most 1048576: NARROWER than '..Said'. Prove '..Said' where nothing that the law and all that it calls make is longer than what came in: it says more and counts as full. Else prove '..UptoSaid'. A law counts once. -/
mutual
def uptoBulk {H : Type} : DataW H → Nat
  | .lit (.string bytes) => bytes.length + 1
  | .lit _ => 1
  | .nil => 1
  | .ptr d => uptoBulk d + 1
  | .slice elems spare => uptoBulkAll elems + uptoBulkAll spare + 1
  | .agg parts => uptoBulkAll parts + 1
  | .iface _ d => uptoBulk d + 1
  | .map entries => uptoBulkEntries entries + 1
  | .held _ => 1
def uptoBulkAll {H : Type} : List (DataW H) → Nat
  | [] => 0
  | d :: r => uptoBulk d + uptoBulkAll r
def uptoBulkEntries {H : Type} : List (Lit × DataW H) → Nat
  | [] => 0
  | x :: r => uptoBulkEntry x + uptoBulkEntries r
def uptoBulkEntry {H : Type} : Lit × DataW H → Nat
  | (.string bytes, d) => bytes.length + uptoBulk d + 1
  | (_, d) => uptoBulk d + 1
 end
def uptoSmall : (H : Type) → List (DataW H) → Bool := fun _ ds => decide (uptoBulkAll ds ≤ 1048576)
def OpenSpec.upto (s : _root_.Go.ChangeSpec) : _root_.Go.OpenSpec := { _root_.Go.OpenSpec.ofChange s with cond := some uptoSmall }

/-- 'laws.FnExactReadFormat', WHERE WHAT IT READS IS OF BULK AT MOST 1048576: true; the input reads as it did. -/
def fnExactReadFormatUptoRow : OpenClaim := { program := "ythedbjjncnddbaadoor", sum := "462da0edde5504b3fe37018e5067aadbe04dae52ff2f4d02b047bb00313bcef2", func := "loop.example/g00025/laws.FnExactReadFormat", spec := "fnExactReadFormat", inPlace := ["internal/bytealg.IndexByteString", "internal/bytealg.IndexString"], named := ["loop.example/g00025/impl.mayBeAhead", "internal/bytealg.MaxLen", "unicode/utf8.first", "unicode/utf8.acceptRanges", "loop.example/g00025/impl.dateWords"], apart := false, laid := [("unicode/utf8.acceptRanges", laid_unicode_utf8_acceptRanges), ("loop.example/g00025/impl.mayBeAhead", laid_loop_example_g00025_impl_mayBeAhead), ("loop.example/g00025/impl.dateWords", laid_loop_example_g00025_impl_dateWords), ("unicode/utf8.first", laid_unicode_utf8_first)], narrowed := true }
def FnExactReadFormatUptoSaid : Prop := fnExactReadFormatUptoRow.holds Tryd.pinned (OpenSpec.upto fnExactReadFormatSpec)

/-- 'laws.FnExactFormatCode', WHERE WHAT IT READS IS OF BULK AT MOST 1048576: true; the input reads as it did. -/
def fnExactFormatCodeUptoRow : OpenClaim := { program := "ythedbjjncnddbaadoor", sum := "462da0edde5504b3fe37018e5067aadbe04dae52ff2f4d02b047bb00313bcef2", func := "loop.example/g00025/laws.FnExactFormatCode", spec := "fnExactFormatCode", inPlace := ["internal/abi.NoEscape", "internal/bytealg.MakeNoZero", "internal/bytealg.IndexByteString", "internal/bytealg.IndexString"], named := ["loop.example/g00025/impl.mayBeAhead", "internal/bytealg.MaxLen", "unicode/utf8.first", "unicode/utf8.acceptRanges", "loop.example/g00025/impl.dateWords"], apart := false, laid := [("unicode/utf8.acceptRanges", laid_unicode_utf8_acceptRanges), ("loop.example/g00025/impl.mayBeAhead", laid_loop_example_g00025_impl_mayBeAhead), ("loop.example/g00025/impl.dateWords", laid_loop_example_g00025_impl_dateWords), ("unicode/utf8.first", laid_unicode_utf8_first)], narrowed := true }
def FnExactFormatCodeUptoSaid : Prop := fnExactFormatCodeUptoRow.holds Tryd.pinned (OpenSpec.upto fnExactFormatCodeSpec)

end Rows
end Go.Proofs.YthedbjjncnddbaaDoor
