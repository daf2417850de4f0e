/-
  NARROWER THAN 'FOR EVERY INPUT', by the rows' own cells (each row's printed sentence says how): FnExactGoodDec: laid · FnExactDecOf: laid · FnExactDecAdd: laid · FnExactDecSub: laid · FnExactDecMul: laid · FnExactDecDiv: laid · FnExactDecCmp: laid · FnExactDecPow: laid · FnExactDecSqrt: laid · FnExactDecRound: laid · FnExactDecInt: laid · FnExactDecText: laid · FnExactReadDec: laid.
  DERIVED. THE GIVEN ROWS OF THIS SEAT. 13 by the template 'for every input the law returns true; each argument reads behind the call as it read before'; 0 by the template 'total and deterministic' (their statements: YtpoihneecafijaaDoorTotals.lean).
  GIVEN WITH THE SEED: the statements are not yours to turn. If you find one false, say at which input.
  Laid BY PROGRAM, IN A SANDBOX (cutbox-rows.mjs): the forced cells as the released guide's own fill.sh prints them over the translation bfe7480ec9e6e649… (all of the seat's roots in one cut). By AI agents, Wed Nov 11 2026. No macro, syntax, notation, axiom, sorry.
-/
import Derived.Test.YtpoihneecafijaaDoorChecked
import GoSem.PinnedTables
import GoSem.Claim
import GoSem.ClaimJoined
import GoSem.ClaimMapViews
import Derived.JoinedTies
import Derived.KernelRfl
namespace Go.Proofs.YtpoihneecafijaaDoor
/- THE CELL 'sum', in the pinned program and in every row, IS THE sha256 OF THE DUMP (.gsa) THAT YtpoihneecafijaaDoorProg.lean LOADS. Nothing in Lean hashes anything: it is a label: what it is worth is what the hold of that sum in a sandbox is worth. -/
noncomputable def Tryd.pinned : Pinned := { name := "ytpoihneecafijaadoor", sum := "bfe7480ec9e6e64994808cff0026ccf81752fa983a77d857a6574372f3712cd9", checked := Tryd.checked }
namespace Rows
def none {H : Type} : Left H := { results := [], args := [] }

/- WHAT THE LISTED PACKAGE-LEVEL VARIABLES READ AS WHEN THE CALL BEGINS. Each datum BY PROGRAM (the guide's laid-datum.mjs) off the statement by which the dump's own 'gosem.cut.vars' lays the variable. In a bare row this is a premise. The card (YtpoihneecafijaaDoorCards.lean) ties it to the program's text. -/
def laid_loop_example_g00025_impl_tens {H : Type} : DataW H := .agg [.lit (.int .u64 1), .lit (.int .u64 10), .lit (.int .u64 100), .lit (.int .u64 1000), .lit (.int .u64 10000), .lit (.int .u64 100000), .lit (.int .u64 1000000), .lit (.int .u64 10000000), .lit (.int .u64 100000000), .lit (.int .u64 1000000000), .lit (.int .u64 10000000000), .lit (.int .u64 100000000000), .lit (.int .u64 1000000000000), .lit (.int .u64 10000000000000), .lit (.int .u64 100000000000000), .lit (.int .u64 1000000000000000), .lit (.int .u64 10000000000000000), .lit (.int .u64 100000000000000000), .lit (.int .u64 1000000000000000000), .lit (.int .u64 10000000000000000000)]
def laid_math_bits_deBruijn32tab {H : Type} : DataW H := .agg [.lit (.int .u8 0), .lit (.int .u8 1), .lit (.int .u8 28), .lit (.int .u8 2), .lit (.int .u8 29), .lit (.int .u8 14), .lit (.int .u8 24), .lit (.int .u8 3), .lit (.int .u8 30), .lit (.int .u8 22), .lit (.int .u8 20), .lit (.int .u8 15), .lit (.int .u8 25), .lit (.int .u8 17), .lit (.int .u8 4), .lit (.int .u8 8), .lit (.int .u8 31), .lit (.int .u8 27), .lit (.int .u8 13), .lit (.int .u8 23), .lit (.int .u8 21), .lit (.int .u8 19), .lit (.int .u8 16), .lit (.int .u8 7), .lit (.int .u8 26), .lit (.int .u8 12), .lit (.int .u8 18), .lit (.int .u8 6), .lit (.int .u8 11), .lit (.int .u8 5), .lit (.int .u8 10), .lit (.int .u8 9)]
def laid_math_bits_deBruijn64tab {H : Type} : DataW H := .agg [.lit (.int .u8 0), .lit (.int .u8 1), .lit (.int .u8 56), .lit (.int .u8 2), .lit (.int .u8 57), .lit (.int .u8 49), .lit (.int .u8 28), .lit (.int .u8 3), .lit (.int .u8 61), .lit (.int .u8 58), .lit (.int .u8 42), .lit (.int .u8 50), .lit (.int .u8 38), .lit (.int .u8 29), .lit (.int .u8 17), .lit (.int .u8 4), .lit (.int .u8 62), .lit (.int .u8 47), .lit (.int .u8 59), .lit (.int .u8 36), .lit (.int .u8 45), .lit (.int .u8 43), .lit (.int .u8 51), .lit (.int .u8 22), .lit (.int .u8 53), .lit (.int .u8 39), .lit (.int .u8 33), .lit (.int .u8 30), .lit (.int .u8 24), .lit (.int .u8 18), .lit (.int .u8 12), .lit (.int .u8 5), .lit (.int .u8 63), .lit (.int .u8 55), .lit (.int .u8 48), .lit (.int .u8 27), .lit (.int .u8 60), .lit (.int .u8 41), .lit (.int .u8 37), .lit (.int .u8 16), .lit (.int .u8 46), .lit (.int .u8 35), .lit (.int .u8 44), .lit (.int .u8 21), .lit (.int .u8 52), .lit (.int .u8 32), .lit (.int .u8 23), .lit (.int .u8 11), .lit (.int .u8 54), .lit (.int .u8 26), .lit (.int .u8 40), .lit (.int .u8 15), .lit (.int .u8 34), .lit (.int .u8 20), .lit (.int .u8 31), .lit (.int .u8 10), .lit (.int .u8 25), .lit (.int .u8 14), .lit (.int .u8 19), .lit (.int .u8 9), .lit (.int .u8 13), .lit (.int .u8 8), .lit (.int .u8 7), .lit (.int .u8 6)]
def laid_internal_strconv_uint64pow10 {H : Type} : DataW H := .agg [.lit (.int .u64 1), .lit (.int .u64 10), .lit (.int .u64 100), .lit (.int .u64 1000), .lit (.int .u64 10000), .lit (.int .u64 100000), .lit (.int .u64 1000000), .lit (.int .u64 10000000), .lit (.int .u64 100000000), .lit (.int .u64 1000000000), .lit (.int .u64 10000000000), .lit (.int .u64 100000000000), .lit (.int .u64 1000000000000), .lit (.int .u64 10000000000000), .lit (.int .u64 100000000000000), .lit (.int .u64 1000000000000000), .lit (.int .u64 10000000000000000), .lit (.int .u64 100000000000000000), .lit (.int .u64 1000000000000000000), .lit (.int .u64 10000000000000000000)]
def laid_unicode_utf8_acceptRanges {H : Type} : DataW H := .agg [.agg [.lit (.int .u8 128), .lit (.int .u8 191)], .agg [.lit (.int .u8 160), .lit (.int .u8 191)], .agg [.lit (.int .u8 128), .lit (.int .u8 159)], .agg [.lit (.int .u8 144), .lit (.int .u8 191)], .agg [.lit (.int .u8 128), .lit (.int .u8 143)], .agg [.lit (.int .u8 0), .lit (.int .u8 0)], .agg [.lit (.int .u8 0), .lit (.int .u8 0)], .agg [.lit (.int .u8 0), .lit (.int .u8 0)], .agg [.lit (.int .u8 0), .lit (.int .u8 0)], .agg [.lit (.int .u8 0), .lit (.int .u8 0)], .agg [.lit (.int .u8 0), .lit (.int .u8 0)], .agg [.lit (.int .u8 0), .lit (.int .u8 0)], .agg [.lit (.int .u8 0), .lit (.int .u8 0)], .agg [.lit (.int .u8 0), .lit (.int .u8 0)], .agg [.lit (.int .u8 0), .lit (.int .u8 0)], .agg [.lit (.int .u8 0), .lit (.int .u8 0)]]
/-- One of Go's own tables, pinned by name: the form's constant. -/
def laid_unicode_utf8_first : DataW Unit := Go.Pinned.utf8First

/-- 'laws.FnExactGoodDec': WHATEVER THE INPUT: true; the input reads as it did. -/
def fnExactGoodDecSpec : ChangeSpec := { name := "fnExactGoodDec", vars := ["loop.example/g00025/impl.tens"], fn := fun _ => fun
  | [d, g1] => { results := [.lit (.bool true)], args := [d], vars := [g1] }
  | _ => none }
def fnExactGoodDecRow : OpenClaim := { program := "ytpoihneecafijaadoor", sum := "bfe7480ec9e6e64994808cff0026ccf81752fa983a77d857a6574372f3712cd9", func := "loop.example/g00025/laws.FnExactGoodDec", spec := "fnExactGoodDec", named := ["loop.example/g00025/impl.tens"], apart := false, laid := [("loop.example/g00025/impl.tens", laid_loop_example_g00025_impl_tens)] }
def FnExactGoodDecSaid : Prop := fnExactGoodDecRow.holds Tryd.pinned (OpenSpec.ofChange fnExactGoodDecSpec)

/-- ITS FALSE NEIGHBOUR: 'it returns false'. Refute it at one input. -/
def fnExactGoodDecWrong : ChangeSpec := { name := "fnExactGoodDec", vars := ["loop.example/g00025/impl.tens"], fn := fun _ => fun
  | [d, g1] => { results := [.lit (.bool false)], args := [d], vars := [g1] }
  | _ => none }
def FnExactGoodDecWrongFalsely : Prop := fnExactGoodDecRow.holds Tryd.pinned (OpenSpec.ofChange fnExactGoodDecWrong)

/-- 'laws.FnExactDecOf': WHATEVER THE INPUT: true; the input reads as it did. -/
def fnExactDecOfSpec : ChangeSpec := { name := "fnExactDecOf", vars := ["loop.example/g00025/impl.tens"], fn := fun _ => fun
  | [d1, d2, g1] => { results := [.lit (.bool true)], args := [d1, d2], vars := [g1] }
  | _ => none }
def fnExactDecOfRow : OpenClaim := { program := "ytpoihneecafijaadoor", sum := "bfe7480ec9e6e64994808cff0026ccf81752fa983a77d857a6574372f3712cd9", func := "loop.example/g00025/laws.FnExactDecOf", spec := "fnExactDecOf", inPlace := ["math/bits.Add64"], unfollowed := true, recurses := true, named := ["loop.example/g00025/impl.tens", "math/bits.divideError", "math/bits.overflowError"], apart := false, laid := [("loop.example/g00025/impl.tens", laid_loop_example_g00025_impl_tens)] }
def FnExactDecOfSaid : Prop := fnExactDecOfRow.holds Tryd.pinned (OpenSpec.ofChange fnExactDecOfSpec)

/-- ITS FALSE NEIGHBOUR: 'it returns false'. Refute it at one input. -/
def fnExactDecOfWrong : ChangeSpec := { name := "fnExactDecOf", vars := ["loop.example/g00025/impl.tens"], fn := fun _ => fun
  | [d1, d2, g1] => { results := [.lit (.bool false)], args := [d1, d2], vars := [g1] }
  | _ => none }
def FnExactDecOfWrongFalsely : Prop := fnExactDecOfRow.holds Tryd.pinned (OpenSpec.ofChange fnExactDecOfWrong)

/-- 'laws.FnExactDecAdd': WHATEVER THE INPUT: true; the input reads as it did. -/
def fnExactDecAddSpec : ChangeSpec := { name := "fnExactDecAdd", vars := ["loop.example/g00025/impl.tens"], fn := fun _ => fun
  | [d1, d2, g1] => { results := [.lit (.bool true)], args := [d1, d2], vars := [g1] }
  | _ => none }
def fnExactDecAddRow : OpenClaim := { program := "ytpoihneecafijaadoor", sum := "bfe7480ec9e6e64994808cff0026ccf81752fa983a77d857a6574372f3712cd9", func := "loop.example/g00025/laws.FnExactDecAdd", spec := "fnExactDecAdd", inPlace := ["math/bits.Add64", "math/bits.Sub64"], unfollowed := true, recurses := true, named := ["loop.example/g00025/impl.tens", "math/bits.divideError", "math/bits.overflowError"], apart := false, laid := [("loop.example/g00025/impl.tens", laid_loop_example_g00025_impl_tens)] }
def FnExactDecAddSaid : Prop := fnExactDecAddRow.holds Tryd.pinned (OpenSpec.ofChange fnExactDecAddSpec)

/-- ITS FALSE NEIGHBOUR: 'it returns false'. Refute it at one input. -/
def fnExactDecAddWrong : ChangeSpec := { name := "fnExactDecAdd", vars := ["loop.example/g00025/impl.tens"], fn := fun _ => fun
  | [d1, d2, g1] => { results := [.lit (.bool false)], args := [d1, d2], vars := [g1] }
  | _ => none }
def FnExactDecAddWrongFalsely : Prop := fnExactDecAddRow.holds Tryd.pinned (OpenSpec.ofChange fnExactDecAddWrong)

/-- 'laws.FnExactDecSub': WHATEVER THE INPUT: true; the input reads as it did. -/
def fnExactDecSubSpec : ChangeSpec := { name := "fnExactDecSub", vars := ["loop.example/g00025/impl.tens"], fn := fun _ => fun
  | [d1, d2, g1] => { results := [.lit (.bool true)], args := [d1, d2], vars := [g1] }
  | _ => none }
def fnExactDecSubRow : OpenClaim := { program := "ytpoihneecafijaadoor", sum := "bfe7480ec9e6e64994808cff0026ccf81752fa983a77d857a6574372f3712cd9", func := "loop.example/g00025/laws.FnExactDecSub", spec := "fnExactDecSub", inPlace := ["math/bits.Add64", "math/bits.Sub64"], unfollowed := true, recurses := true, named := ["loop.example/g00025/impl.tens", "math/bits.divideError", "math/bits.overflowError"], apart := false, laid := [("loop.example/g00025/impl.tens", laid_loop_example_g00025_impl_tens)] }
def FnExactDecSubSaid : Prop := fnExactDecSubRow.holds Tryd.pinned (OpenSpec.ofChange fnExactDecSubSpec)

/-- ITS FALSE NEIGHBOUR: 'it returns false'. Refute it at one input. -/
def fnExactDecSubWrong : ChangeSpec := { name := "fnExactDecSub", vars := ["loop.example/g00025/impl.tens"], fn := fun _ => fun
  | [d1, d2, g1] => { results := [.lit (.bool false)], args := [d1, d2], vars := [g1] }
  | _ => none }
def FnExactDecSubWrongFalsely : Prop := fnExactDecSubRow.holds Tryd.pinned (OpenSpec.ofChange fnExactDecSubWrong)

/-- 'laws.FnExactDecMul': WHATEVER THE INPUT: true; the input reads as it did. -/
def fnExactDecMulSpec : ChangeSpec := { name := "fnExactDecMul", vars := ["loop.example/g00025/impl.tens"], fn := fun _ => fun
  | [d1, d2, g1] => { results := [.lit (.bool true)], args := [d1, d2], vars := [g1] }
  | _ => none }
def fnExactDecMulRow : OpenClaim := { program := "ytpoihneecafijaadoor", sum := "bfe7480ec9e6e64994808cff0026ccf81752fa983a77d857a6574372f3712cd9", func := "loop.example/g00025/laws.FnExactDecMul", spec := "fnExactDecMul", inPlace := ["math/bits.Add64"], unfollowed := true, recurses := true, named := ["loop.example/g00025/impl.tens", "math/bits.divideError", "math/bits.overflowError"], apart := false, laid := [("loop.example/g00025/impl.tens", laid_loop_example_g00025_impl_tens)] }
def FnExactDecMulSaid : Prop := fnExactDecMulRow.holds Tryd.pinned (OpenSpec.ofChange fnExactDecMulSpec)

/-- ITS FALSE NEIGHBOUR: 'it returns false'. Refute it at one input. -/
def fnExactDecMulWrong : ChangeSpec := { name := "fnExactDecMul", vars := ["loop.example/g00025/impl.tens"], fn := fun _ => fun
  | [d1, d2, g1] => { results := [.lit (.bool false)], args := [d1, d2], vars := [g1] }
  | _ => none }
def FnExactDecMulWrongFalsely : Prop := fnExactDecMulRow.holds Tryd.pinned (OpenSpec.ofChange fnExactDecMulWrong)

/-- 'laws.FnExactDecDiv': WHATEVER THE INPUT: true; the input reads as it did. -/
def fnExactDecDivSpec : ChangeSpec := { name := "fnExactDecDiv", vars := ["loop.example/g00025/impl.tens"], fn := fun _ => fun
  | [d1, d2, g1] => { results := [.lit (.bool true)], args := [d1, d2], vars := [g1] }
  | _ => none }
def fnExactDecDivRow : OpenClaim := { program := "ytpoihneecafijaadoor", sum := "bfe7480ec9e6e64994808cff0026ccf81752fa983a77d857a6574372f3712cd9", func := "loop.example/g00025/laws.FnExactDecDiv", spec := "fnExactDecDiv", inPlace := ["math/bits.Add64"], unfollowed := true, recurses := true, named := ["loop.example/g00025/impl.tens", "math/bits.divideError", "math/bits.overflowError"], apart := false, laid := [("loop.example/g00025/impl.tens", laid_loop_example_g00025_impl_tens)] }
def FnExactDecDivSaid : Prop := fnExactDecDivRow.holds Tryd.pinned (OpenSpec.ofChange fnExactDecDivSpec)

/-- ITS FALSE NEIGHBOUR: 'it returns false'. Refute it at one input. -/
def fnExactDecDivWrong : ChangeSpec := { name := "fnExactDecDiv", vars := ["loop.example/g00025/impl.tens"], fn := fun _ => fun
  | [d1, d2, g1] => { results := [.lit (.bool false)], args := [d1, d2], vars := [g1] }
  | _ => none }
def FnExactDecDivWrongFalsely : Prop := fnExactDecDivRow.holds Tryd.pinned (OpenSpec.ofChange fnExactDecDivWrong)

/-- 'laws.FnExactDecCmp': WHATEVER THE INPUT: true; the input reads as it did. -/
def fnExactDecCmpSpec : ChangeSpec := { name := "fnExactDecCmp", vars := ["loop.example/g00025/impl.tens"], fn := fun _ => fun
  | [d1, d2, g1] => { results := [.lit (.bool true)], args := [d1, d2], vars := [g1] }
  | _ => none }
def fnExactDecCmpRow : OpenClaim := { program := "ytpoihneecafijaadoor", sum := "bfe7480ec9e6e64994808cff0026ccf81752fa983a77d857a6574372f3712cd9", func := "loop.example/g00025/laws.FnExactDecCmp", spec := "fnExactDecCmp", named := ["loop.example/g00025/impl.tens"], apart := false, laid := [("loop.example/g00025/impl.tens", laid_loop_example_g00025_impl_tens)] }
def FnExactDecCmpSaid : Prop := fnExactDecCmpRow.holds Tryd.pinned (OpenSpec.ofChange fnExactDecCmpSpec)

/-- ITS FALSE NEIGHBOUR: 'it returns false'. Refute it at one input. -/
def fnExactDecCmpWrong : ChangeSpec := { name := "fnExactDecCmp", vars := ["loop.example/g00025/impl.tens"], fn := fun _ => fun
  | [d1, d2, g1] => { results := [.lit (.bool false)], args := [d1, d2], vars := [g1] }
  | _ => none }
def FnExactDecCmpWrongFalsely : Prop := fnExactDecCmpRow.holds Tryd.pinned (OpenSpec.ofChange fnExactDecCmpWrong)

/-- 'laws.FnExactDecPow': WHATEVER THE INPUT: true; the input reads as it did. -/
def fnExactDecPowSpec : ChangeSpec := { name := "fnExactDecPow", vars := ["loop.example/g00025/impl.tens"], fn := fun _ => fun
  | [d1, d2, g1] => { results := [.lit (.bool true)], args := [d1, d2], vars := [g1] }
  | _ => none }
def fnExactDecPowRow : OpenClaim := { program := "ytpoihneecafijaadoor", sum := "bfe7480ec9e6e64994808cff0026ccf81752fa983a77d857a6574372f3712cd9", func := "loop.example/g00025/laws.FnExactDecPow", spec := "fnExactDecPow", inPlace := ["math/bits.Add64"], unfollowed := true, recurses := true, named := ["loop.example/g00025/impl.tens", "math/bits.divideError", "math/bits.overflowError"], apart := false, laid := [("loop.example/g00025/impl.tens", laid_loop_example_g00025_impl_tens)] }
def FnExactDecPowSaid : Prop := fnExactDecPowRow.holds Tryd.pinned (OpenSpec.ofChange fnExactDecPowSpec)

/-- ITS FALSE NEIGHBOUR: 'it returns false'. Refute it at one input. -/
def fnExactDecPowWrong : ChangeSpec := { name := "fnExactDecPow", vars := ["loop.example/g00025/impl.tens"], fn := fun _ => fun
  | [d1, d2, g1] => { results := [.lit (.bool false)], args := [d1, d2], vars := [g1] }
  | _ => none }
def FnExactDecPowWrongFalsely : Prop := fnExactDecPowRow.holds Tryd.pinned (OpenSpec.ofChange fnExactDecPowWrong)

/-- 'laws.FnExactDecSqrt': WHATEVER THE INPUT: true; the input reads as it did. -/
def fnExactDecSqrtSpec : ChangeSpec := { name := "fnExactDecSqrt", vars := ["loop.example/g00025/impl.tens"], fn := fun _ => fun
  | [d, g1] => { results := [.lit (.bool true)], args := [d], vars := [g1] }
  | _ => none }
def fnExactDecSqrtRow : OpenClaim := { program := "ytpoihneecafijaadoor", sum := "bfe7480ec9e6e64994808cff0026ccf81752fa983a77d857a6574372f3712cd9", func := "loop.example/g00025/laws.FnExactDecSqrt", spec := "fnExactDecSqrt", inPlace := ["math/bits.Add64"], unfollowed := true, recurses := true, named := ["loop.example/g00025/impl.tens", "math/bits.divideError", "math/bits.overflowError"], apart := false, laid := [("loop.example/g00025/impl.tens", laid_loop_example_g00025_impl_tens)] }
def FnExactDecSqrtSaid : Prop := fnExactDecSqrtRow.holds Tryd.pinned (OpenSpec.ofChange fnExactDecSqrtSpec)

/-- ITS FALSE NEIGHBOUR: 'it returns false'. Refute it at one input. -/
def fnExactDecSqrtWrong : ChangeSpec := { name := "fnExactDecSqrt", vars := ["loop.example/g00025/impl.tens"], fn := fun _ => fun
  | [d, g1] => { results := [.lit (.bool false)], args := [d], vars := [g1] }
  | _ => none }
def FnExactDecSqrtWrongFalsely : Prop := fnExactDecSqrtRow.holds Tryd.pinned (OpenSpec.ofChange fnExactDecSqrtWrong)

/-- 'laws.FnExactDecRound': WHATEVER THE INPUT: true; the input reads as it did. -/
def fnExactDecRoundSpec : ChangeSpec := { name := "fnExactDecRound", vars := ["loop.example/g00025/impl.tens"], fn := fun _ => fun
  | [d1, d2, d3, g1] => { results := [.lit (.bool true)], args := [d1, d2, d3], vars := [g1] }
  | _ => none }
def fnExactDecRoundRow : OpenClaim := { program := "ytpoihneecafijaadoor", sum := "bfe7480ec9e6e64994808cff0026ccf81752fa983a77d857a6574372f3712cd9", func := "loop.example/g00025/laws.FnExactDecRound", spec := "fnExactDecRound", inPlace := ["math/bits.Add64"], unfollowed := true, recurses := true, named := ["loop.example/g00025/impl.tens", "math/bits.divideError", "math/bits.overflowError"], apart := false, laid := [("loop.example/g00025/impl.tens", laid_loop_example_g00025_impl_tens)] }
def FnExactDecRoundSaid : Prop := fnExactDecRoundRow.holds Tryd.pinned (OpenSpec.ofChange fnExactDecRoundSpec)

/-- ITS FALSE NEIGHBOUR: 'it returns false'. Refute it at one input. -/
def fnExactDecRoundWrong : ChangeSpec := { name := "fnExactDecRound", vars := ["loop.example/g00025/impl.tens"], fn := fun _ => fun
  | [d1, d2, d3, g1] => { results := [.lit (.bool false)], args := [d1, d2, d3], vars := [g1] }
  | _ => none }
def FnExactDecRoundWrongFalsely : Prop := fnExactDecRoundRow.holds Tryd.pinned (OpenSpec.ofChange fnExactDecRoundWrong)

/-- 'laws.FnExactDecInt': WHATEVER THE INPUT: true; the input reads as it did. -/
def fnExactDecIntSpec : ChangeSpec := { name := "fnExactDecInt", vars := ["loop.example/g00025/impl.tens"], fn := fun _ => fun
  | [d, g1] => { results := [.lit (.bool true)], args := [d], vars := [g1] }
  | _ => none }
def fnExactDecIntRow : OpenClaim := { program := "ytpoihneecafijaadoor", sum := "bfe7480ec9e6e64994808cff0026ccf81752fa983a77d857a6574372f3712cd9", func := "loop.example/g00025/laws.FnExactDecInt", spec := "fnExactDecInt", named := ["loop.example/g00025/impl.tens"], apart := false, laid := [("loop.example/g00025/impl.tens", laid_loop_example_g00025_impl_tens)] }
def FnExactDecIntSaid : Prop := fnExactDecIntRow.holds Tryd.pinned (OpenSpec.ofChange fnExactDecIntSpec)

/-- ITS FALSE NEIGHBOUR: 'it returns false'. Refute it at one input. -/
def fnExactDecIntWrong : ChangeSpec := { name := "fnExactDecInt", vars := ["loop.example/g00025/impl.tens"], fn := fun _ => fun
  | [d, g1] => { results := [.lit (.bool false)], args := [d], vars := [g1] }
  | _ => none }
def FnExactDecIntWrongFalsely : Prop := fnExactDecIntRow.holds Tryd.pinned (OpenSpec.ofChange fnExactDecIntWrong)

/-- 'laws.FnExactDecText': WHATEVER THE INPUT: true; the input reads as it did. -/
def fnExactDecTextSpec : ChangeSpec := { name := "fnExactDecText", vars := ["loop.example/g00025/impl.tens"], fn := fun _ => fun
  | [d, g1] => { results := [.lit (.bool true)], args := [d], vars := [g1] }
  | _ => none }
def fnExactDecTextRow : OpenClaim := { program := "ytpoihneecafijaadoor", sum := "bfe7480ec9e6e64994808cff0026ccf81752fa983a77d857a6574372f3712cd9", func := "loop.example/g00025/laws.FnExactDecText", spec := "fnExactDecText", inPlace := ["internal/abi.NoEscape", "internal/bytealg.MakeNoZero"], named := ["loop.example/g00025/impl.tens", "internal/strconv.uint64pow10", "math/bits.deBruijn32tab", "math/bits.deBruijn64tab"], apart := false, laid := [("math/bits.deBruijn32tab", laid_math_bits_deBruijn32tab), ("math/bits.deBruijn64tab", laid_math_bits_deBruijn64tab), ("internal/strconv.uint64pow10", laid_internal_strconv_uint64pow10), ("loop.example/g00025/impl.tens", laid_loop_example_g00025_impl_tens)] }
def FnExactDecTextSaid : Prop := fnExactDecTextRow.holds Tryd.pinned (OpenSpec.ofChange fnExactDecTextSpec)

/-- ITS FALSE NEIGHBOUR: 'it returns false'. Refute it at one input. -/
def fnExactDecTextWrong : ChangeSpec := { name := "fnExactDecText", vars := ["loop.example/g00025/impl.tens"], fn := fun _ => fun
  | [d, g1] => { results := [.lit (.bool false)], args := [d], vars := [g1] }
  | _ => none }
def FnExactDecTextWrongFalsely : Prop := fnExactDecTextRow.holds Tryd.pinned (OpenSpec.ofChange fnExactDecTextWrong)

/-- 'laws.FnExactReadDec': WHATEVER THE INPUT: true; the input reads as it did. -/
def fnExactReadDecSpec : ChangeSpec := { name := "fnExactReadDec", vars := ["loop.example/g00025/impl.tens"], fn := fun _ => fun
  | [d, g1] => { results := [.lit (.bool true)], args := [d], vars := [g1] }
  | _ => none }
def fnExactReadDecRow : OpenClaim := { program := "ytpoihneecafijaadoor", sum := "bfe7480ec9e6e64994808cff0026ccf81752fa983a77d857a6574372f3712cd9", func := "loop.example/g00025/laws.FnExactReadDec", spec := "fnExactReadDec", inPlace := ["internal/bytealg.IndexByteString", "internal/bytealg.IndexString", "math/bits.Add64"], unfollowed := true, recurses := true, named := ["unicode/utf8.first", "unicode/utf8.acceptRanges", "loop.example/g00025/impl.tens", "math/bits.divideError", "math/bits.overflowError", "internal/bytealg.MaxLen"], apart := false, laid := [("unicode/utf8.acceptRanges", laid_unicode_utf8_acceptRanges), ("loop.example/g00025/impl.tens", laid_loop_example_g00025_impl_tens), ("unicode/utf8.first", laid_unicode_utf8_first)] }
def FnExactReadDecSaid : Prop := fnExactReadDecRow.holds Tryd.pinned (OpenSpec.ofChange fnExactReadDecSpec)

/-- ITS FALSE NEIGHBOUR: 'it returns false'. Refute it at one input. -/
def fnExactReadDecWrong : ChangeSpec := { name := "fnExactReadDec", vars := ["loop.example/g00025/impl.tens"], fn := fun _ => fun
  | [d, g1] => { results := [.lit (.bool false)], args := [d], vars := [g1] }
  | _ => none }
def FnExactReadDecWrongFalsely : Prop := fnExactReadDecRow.holds Tryd.pinned (OpenSpec.ofChange fnExactReadDecWrong)

/- THE SECOND FORM. 'bulk': how many values and letters a reading holds, each counted each time it is reached (what is shared counts as often as it is met; a slice's spare places count too). A statement '..UptoSaid' is the law's where the arguments, and the package variables that the reading takes, are together of bulk at most 1048576: NARROWER than '..Said'. Prove '..Said' where nothing that the law and all that it calls make is longer than what came in: it says more and counts as full. Else prove '..UptoSaid'. A law counts once. -/
mutual
def uptoBulk {H : Type} : DataW H → Nat
  | .lit (.string bytes) => bytes.length + 1
  | .lit _ => 1
  | .nil => 1
  | .ptr d => uptoBulk d + 1
  | .slice elems spare => uptoBulkAll elems + uptoBulkAll spare + 1
  | .agg parts => uptoBulkAll parts + 1
  | .iface _ d => uptoBulk d + 1
  | .map entries => uptoBulkEntries entries + 1
  | .held _ => 1
def uptoBulkAll {H : Type} : List (DataW H) → Nat
  | [] => 0
  | d :: r => uptoBulk d + uptoBulkAll r
def uptoBulkEntries {H : Type} : List (Lit × DataW H) → Nat
  | [] => 0
  | x :: r => uptoBulkEntry x + uptoBulkEntries r
def uptoBulkEntry {H : Type} : Lit × DataW H → Nat
  | (.string bytes, d) => bytes.length + uptoBulk d + 1
  | (_, d) => uptoBulk d + 1
 end
def uptoSmall : (H : Type) → List (DataW H) → Bool := fun _ ds => decide (uptoBulkAll ds ≤ 1048576)
def OpenSpec.upto (s : _root_.Go.ChangeSpec) : _root_.Go.OpenSpec := { _root_.Go.OpenSpec.ofChange s with cond := some uptoSmall }

/-- 'laws.FnExactGoodDec', WHERE WHAT IT READS IS OF BULK AT MOST 1048576: true; the input reads as it did. -/
def fnExactGoodDecUptoRow : OpenClaim := { program := "ytpoihneecafijaadoor", sum := "bfe7480ec9e6e64994808cff0026ccf81752fa983a77d857a6574372f3712cd9", func := "loop.example/g00025/laws.FnExactGoodDec", spec := "fnExactGoodDec", named := ["loop.example/g00025/impl.tens"], apart := false, laid := [("loop.example/g00025/impl.tens", laid_loop_example_g00025_impl_tens)], narrowed := true }
def FnExactGoodDecUptoSaid : Prop := fnExactGoodDecUptoRow.holds Tryd.pinned (OpenSpec.upto fnExactGoodDecSpec)

/-- 'laws.FnExactDecOf', WHERE WHAT IT READS IS OF BULK AT MOST 1048576: true; the input reads as it did. -/
def fnExactDecOfUptoRow : OpenClaim := { program := "ytpoihneecafijaadoor", sum := "bfe7480ec9e6e64994808cff0026ccf81752fa983a77d857a6574372f3712cd9", func := "loop.example/g00025/laws.FnExactDecOf", spec := "fnExactDecOf", inPlace := ["math/bits.Add64"], unfollowed := true, recurses := true, named := ["loop.example/g00025/impl.tens", "math/bits.divideError", "math/bits.overflowError"], apart := false, laid := [("loop.example/g00025/impl.tens", laid_loop_example_g00025_impl_tens)], narrowed := true }
def FnExactDecOfUptoSaid : Prop := fnExactDecOfUptoRow.holds Tryd.pinned (OpenSpec.upto fnExactDecOfSpec)

/-- 'laws.FnExactDecAdd', WHERE WHAT IT READS IS OF BULK AT MOST 1048576: true; the input reads as it did. -/
def fnExactDecAddUptoRow : OpenClaim := { program := "ytpoihneecafijaadoor", sum := "bfe7480ec9e6e64994808cff0026ccf81752fa983a77d857a6574372f3712cd9", func := "loop.example/g00025/laws.FnExactDecAdd", spec := "fnExactDecAdd", inPlace := ["math/bits.Add64", "math/bits.Sub64"], unfollowed := true, recurses := true, named := ["loop.example/g00025/impl.tens", "math/bits.divideError", "math/bits.overflowError"], apart := false, laid := [("loop.example/g00025/impl.tens", laid_loop_example_g00025_impl_tens)], narrowed := true }
def FnExactDecAddUptoSaid : Prop := fnExactDecAddUptoRow.holds Tryd.pinned (OpenSpec.upto fnExactDecAddSpec)

/-- 'laws.FnExactDecSub', WHERE WHAT IT READS IS OF BULK AT MOST 1048576: true; the input reads as it did. -/
def fnExactDecSubUptoRow : OpenClaim := { program := "ytpoihneecafijaadoor", sum := "bfe7480ec9e6e64994808cff0026ccf81752fa983a77d857a6574372f3712cd9", func := "loop.example/g00025/laws.FnExactDecSub", spec := "fnExactDecSub", inPlace := ["math/bits.Add64", "math/bits.Sub64"], unfollowed := true, recurses := true, named := ["loop.example/g00025/impl.tens", "math/bits.divideError", "math/bits.overflowError"], apart := false, laid := [("loop.example/g00025/impl.tens", laid_loop_example_g00025_impl_tens)], narrowed := true }
def FnExactDecSubUptoSaid : Prop := fnExactDecSubUptoRow.holds Tryd.pinned (OpenSpec.upto fnExactDecSubSpec)

/-- 'laws.FnExactDecMul', WHERE WHAT IT READS IS OF BULK AT MOST 1048576: true; the input reads as it did. -/
def fnExactDecMulUptoRow : OpenClaim := { program := "ytpoihneecafijaadoor", sum := "bfe7480ec9e6e64994808cff0026ccf81752fa983a77d857a6574372f3712cd9", func := "loop.example/g00025/laws.FnExactDecMul", spec := "fnExactDecMul", inPlace := ["math/bits.Add64"], unfollowed := true, recurses := true, named := ["loop.example/g00025/impl.tens", "math/bits.divideError", "math/bits.overflowError"], apart := false, laid := [("loop.example/g00025/impl.tens", laid_loop_example_g00025_impl_tens)], narrowed := true }
def FnExactDecMulUptoSaid : Prop := fnExactDecMulUptoRow.holds Tryd.pinned (OpenSpec.upto fnExactDecMulSpec)

/-- 'laws.FnExactDecDiv', WHERE WHAT IT READS IS OF BULK AT MOST 1048576: true; the input reads as it did. -/
def fnExactDecDivUptoRow : OpenClaim := { program := "ytpoihneecafijaadoor", sum := "bfe7480ec9e6e64994808cff0026ccf81752fa983a77d857a6574372f3712cd9", func := "loop.example/g00025/laws.FnExactDecDiv", spec := "fnExactDecDiv", inPlace := ["math/bits.Add64"], unfollowed := true, recurses := true, named := ["loop.example/g00025/impl.tens", "math/bits.divideError", "math/bits.overflowError"], apart := false, laid := [("loop.example/g00025/impl.tens", laid_loop_example_g00025_impl_tens)], narrowed := true }
def FnExactDecDivUptoSaid : Prop := fnExactDecDivUptoRow.holds Tryd.pinned (OpenSpec.upto fnExactDecDivSpec)

/-- 'laws.FnExactDecCmp', WHERE WHAT IT READS IS OF BULK AT MOST 1048576: true; the input reads as it did. -/
def fnExactDecCmpUptoRow : OpenClaim := { program := "ytpoihneecafijaadoor", sum := "bfe7480ec9e6e64994808cff0026ccf81752fa983a77d857a6574372f3712cd9", func := "loop.example/g00025/laws.FnExactDecCmp", spec := "fnExactDecCmp", named := ["loop.example/g00025/impl.tens"], apart := false, laid := [("loop.example/g00025/impl.tens", laid_loop_example_g00025_impl_tens)], narrowed := true }
def FnExactDecCmpUptoSaid : Prop := fnExactDecCmpUptoRow.holds Tryd.pinned (OpenSpec.upto fnExactDecCmpSpec)

/-- 'laws.FnExactDecPow', WHERE WHAT IT READS IS OF BULK AT MOST 1048576: true; the input reads as it did. -/
def fnExactDecPowUptoRow : OpenClaim := { program := "ytpoihneecafijaadoor", sum := "bfe7480ec9e6e64994808cff0026ccf81752fa983a77d857a6574372f3712cd9", func := "loop.example/g00025/laws.FnExactDecPow", spec := "fnExactDecPow", inPlace := ["math/bits.Add64"], unfollowed := true, recurses := true, named := ["loop.example/g00025/impl.tens", "math/bits.divideError", "math/bits.overflowError"], apart := false, laid := [("loop.example/g00025/impl.tens", laid_loop_example_g00025_impl_tens)], narrowed := true }
def FnExactDecPowUptoSaid : Prop := fnExactDecPowUptoRow.holds Tryd.pinned (OpenSpec.upto fnExactDecPowSpec)

/-- 'laws.FnExactDecSqrt', WHERE WHAT IT READS IS OF BULK AT MOST 1048576: true; the input reads as it did. -/
def fnExactDecSqrtUptoRow : OpenClaim := { program := "ytpoihneecafijaadoor", sum := "bfe7480ec9e6e64994808cff0026ccf81752fa983a77d857a6574372f3712cd9", func := "loop.example/g00025/laws.FnExactDecSqrt", spec := "fnExactDecSqrt", inPlace := ["math/bits.Add64"], unfollowed := true, recurses := true, named := ["loop.example/g00025/impl.tens", "math/bits.divideError", "math/bits.overflowError"], apart := false, laid := [("loop.example/g00025/impl.tens", laid_loop_example_g00025_impl_tens)], narrowed := true }
def FnExactDecSqrtUptoSaid : Prop := fnExactDecSqrtUptoRow.holds Tryd.pinned (OpenSpec.upto fnExactDecSqrtSpec)

/-- 'laws.FnExactDecRound', WHERE WHAT IT READS IS OF BULK AT MOST 1048576: true; the input reads as it did. -/
def fnExactDecRoundUptoRow : OpenClaim := { program := "ytpoihneecafijaadoor", sum := "bfe7480ec9e6e64994808cff0026ccf81752fa983a77d857a6574372f3712cd9", func := "loop.example/g00025/laws.FnExactDecRound", spec := "fnExactDecRound", inPlace := ["math/bits.Add64"], unfollowed := true, recurses := true, named := ["loop.example/g00025/impl.tens", "math/bits.divideError", "math/bits.overflowError"], apart := false, laid := [("loop.example/g00025/impl.tens", laid_loop_example_g00025_impl_tens)], narrowed := true }
def FnExactDecRoundUptoSaid : Prop := fnExactDecRoundUptoRow.holds Tryd.pinned (OpenSpec.upto fnExactDecRoundSpec)

/-- 'laws.FnExactDecInt', WHERE WHAT IT READS IS OF BULK AT MOST 1048576: true; the input reads as it did. -/
def fnExactDecIntUptoRow : OpenClaim := { program := "ytpoihneecafijaadoor", sum := "bfe7480ec9e6e64994808cff0026ccf81752fa983a77d857a6574372f3712cd9", func := "loop.example/g00025/laws.FnExactDecInt", spec := "fnExactDecInt", named := ["loop.example/g00025/impl.tens"], apart := false, laid := [("loop.example/g00025/impl.tens", laid_loop_example_g00025_impl_tens)], narrowed := true }
def FnExactDecIntUptoSaid : Prop := fnExactDecIntUptoRow.holds Tryd.pinned (OpenSpec.upto fnExactDecIntSpec)

/-- 'laws.FnExactDecText', WHERE WHAT IT READS IS OF BULK AT MOST 1048576: true; the input reads as it did. -/
def fnExactDecTextUptoRow : OpenClaim := { program := "ytpoihneecafijaadoor", sum := "bfe7480ec9e6e64994808cff0026ccf81752fa983a77d857a6574372f3712cd9", func := "loop.example/g00025/laws.FnExactDecText", spec := "fnExactDecText", inPlace := ["internal/abi.NoEscape", "internal/bytealg.MakeNoZero"], named := ["loop.example/g00025/impl.tens", "internal/strconv.uint64pow10", "math/bits.deBruijn32tab", "math/bits.deBruijn64tab"], apart := false, laid := [("math/bits.deBruijn32tab", laid_math_bits_deBruijn32tab), ("math/bits.deBruijn64tab", laid_math_bits_deBruijn64tab), ("internal/strconv.uint64pow10", laid_internal_strconv_uint64pow10), ("loop.example/g00025/impl.tens", laid_loop_example_g00025_impl_tens)], narrowed := true }
def FnExactDecTextUptoSaid : Prop := fnExactDecTextUptoRow.holds Tryd.pinned (OpenSpec.upto fnExactDecTextSpec)

/-- 'laws.FnExactReadDec', WHERE WHAT IT READS IS OF BULK AT MOST 1048576: true; the input reads as it did. -/
def fnExactReadDecUptoRow : OpenClaim := { program := "ytpoihneecafijaadoor", sum := "bfe7480ec9e6e64994808cff0026ccf81752fa983a77d857a6574372f3712cd9", func := "loop.example/g00025/laws.FnExactReadDec", spec := "fnExactReadDec", inPlace := ["internal/bytealg.IndexByteString", "internal/bytealg.IndexString", "math/bits.Add64"], unfollowed := true, recurses := true, named := ["unicode/utf8.first", "unicode/utf8.acceptRanges", "loop.example/g00025/impl.tens", "math/bits.divideError", "math/bits.overflowError", "internal/bytealg.MaxLen"], apart := false, laid := [("unicode/utf8.acceptRanges", laid_unicode_utf8_acceptRanges), ("loop.example/g00025/impl.tens", laid_loop_example_g00025_impl_tens), ("unicode/utf8.first", laid_unicode_utf8_first)], narrowed := true }
def FnExactReadDecUptoSaid : Prop := fnExactReadDecUptoRow.holds Tryd.pinned (OpenSpec.upto fnExactReadDecSpec)

end Rows
end Go.Proofs.YtpoihneecafijaaDoor
