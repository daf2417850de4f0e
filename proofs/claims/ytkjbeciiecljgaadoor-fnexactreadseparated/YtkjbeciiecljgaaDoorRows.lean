/-
  NARROWER THAN 'FOR EVERY INPUT', by the rows' own cells (each row's printed sentence says how): FnExactReadSeparated: ifaces, laid.
  DERIVED. THE GIVEN ROWS OF THIS SEAT. 1 by the template 'for every input the law returns true; each argument reads behind the call as it read before'; 0 by the template 'total and deterministic' (their statements: YtkjbeciiecljgaaDoorTotals.lean).
  GIVEN WITH THE SEED: the statements are not yours to turn. If you find one false, say at which input.
  Laid BY PROGRAM, IN A SANDBOX (cutbox-rows.mjs): the forced cells as the released guide's own fill.sh prints them over the translation bd13a3b9cd921461… (all of the seat's roots in one cut). By AI agents, Wed Nov 11 2026. No macro, syntax, notation, axiom, sorry.
-/
import Derived.Test.YtkjbeciiecljgaaDoorChecked
import GoSem.Claim
import GoSem.ClaimJoined
import GoSem.ClaimMapViews
import Derived.JoinedTies
import Derived.KernelRfl
namespace Go.Proofs.YtkjbeciiecljgaaDoor
/- THE CELL 'sum', in the pinned program and in every row, IS THE sha256 OF THE DUMP (.gsa) THAT YtkjbeciiecljgaaDoorProg.lean LOADS. Nothing in Lean hashes anything: it is a label: what it is worth is what the hold of that sum in a sandbox is worth. -/
noncomputable def Tryd.pinned : Pinned := { name := "ytkjbeciiecljgaadoor", sum := "bd13a3b9cd921461f8c3abe5d87d3b0c092d4c44d7fd902a6059e7c423c7424d", checked := Tryd.checked }
namespace Rows
def none {H : Type} : Left H := { results := [], args := [] }

/- WHAT THE LISTED PACKAGE-LEVEL VARIABLES READ AS WHEN THE CALL BEGINS. Each datum BY PROGRAM (the guide's laid-datum.mjs) off the statement by which the dump's own 'gosem.cut.vars' lays the variable. In a bare row this is a premise. The card (YtkjbeciiecljgaaDoorCards.lean) ties it to the program's text. -/
def laid_errors_errorType {H : Type} : DataW H := .iface "internal/reflectlite.rtype" (.agg [.ptr (.lit (.string [101, 114, 114, 111, 114]))])
def laid_loop_example_g00025_impl_errFileShort {H : Type} : DataW H := .iface "*errors.errorString" (.ptr (.agg [.lit (.string [116, 104, 101, 32, 102, 105, 108, 101, 32, 101, 110, 100, 115, 32, 101, 97, 114, 108, 121])]))
def laid_loop_example_g00025_impl_errFileCode {H : Type} : DataW H := .iface "*errors.errorString" (.ptr (.agg [.lit (.string [97, 32, 98, 121, 116, 101, 32, 109, 97, 121, 32, 110, 111, 116, 32, 99, 111, 109, 101, 32, 116, 104, 101, 114, 101])]))
def laid_loop_example_g00025_impl_errFileRange {H : Type} : DataW H := .iface "*errors.errorString" (.ptr (.agg [.lit (.string [115, 111, 109, 101, 116, 104, 105, 110, 103, 32, 105, 115, 32, 98, 101, 121, 111, 110, 100, 32, 105, 116, 115, 32, 98, 111, 117, 110, 100, 115])]))
def laid_loop_example_g00025_impl_errFileOrder {H : Type} : DataW H := .iface "*errors.errorString" (.ptr (.agg [.lit (.string [115, 111, 109, 101, 116, 104, 105, 110, 103, 32, 105, 115, 32, 111, 117, 116, 32, 111, 102, 32, 111, 114, 100, 101, 114])]))
def laid_loop_example_g00025_impl_errFileSum {H : Type} : DataW H := .iface "*errors.errorString" (.ptr (.agg [.lit (.string [116, 104, 101, 32, 99, 104, 101, 99, 107, 115, 117, 109, 32, 105, 115, 32, 97, 110, 111, 116, 104, 101, 114])]))
def laid_loop_example_g00025_impl_errFileMore {H : Type} : DataW H := .iface "*errors.errorString" (.ptr (.agg [.lit (.string [98, 121, 116, 101, 115, 32, 102, 111, 108, 108, 111, 119, 32, 98, 101, 104, 105, 110, 100, 32, 116, 104, 101, 32, 101, 110, 100])]))

/-- 'laws.FnExactReadSeparated': WHATEVER THE INPUT: true; the input reads as it did. -/
def fnExactReadSeparatedSpec : ChangeSpec := { name := "fnExactReadSeparated", vars := ["loop.example/g00025/impl.errFileRange", "loop.example/g00025/impl.errFileShort", "loop.example/g00025/impl.errFileCode", "loop.example/g00025/impl.errFileOrder", "loop.example/g00025/impl.errFileSum", "loop.example/g00025/impl.errFileMore"], fn := fun _ => fun
  | [d1, d2, g1, g2, g3, g4, g5, g6] => { results := [.lit (.bool true)], args := [d1, d2], vars := [g1, g2, g3, g4, g5, g6] }
  | _ => none }
def fnExactReadSeparatedRow : OpenClaim := { program := "ytkjbeciiecljgaadoor", sum := "bd13a3b9cd921461f8c3abe5d87d3b0c092d4c44d7fd902a6059e7c423c7424d", func := "loop.example/g00025/laws.FnExactReadSeparated", spec := "fnExactReadSeparated", inPlace := ["internal/bytealg.IndexByteString", "internal/reflectlite.TypeOf", "internal/reflectlite.ValueOf", "(internal/reflectlite.Value).Type", "(internal/reflectlite.Value).IsNil", "(internal/reflectlite.Value).Elem", "(internal/reflectlite.Value).Set"], unfollowed := true, recurses := true, named := ["loop.example/g00025/impl.errFileRange", "loop.example/g00025/impl.errFileShort", "loop.example/g00025/impl.errFileCode", "loop.example/g00025/impl.errFileOrder", "loop.example/g00025/impl.errFileSum", "loop.example/g00025/impl.errFileMore", "errors.errorType"], ifaces := true, apart := false, laid := [("errors.errorType", laid_errors_errorType), ("loop.example/g00025/impl.errFileShort", laid_loop_example_g00025_impl_errFileShort), ("loop.example/g00025/impl.errFileCode", laid_loop_example_g00025_impl_errFileCode), ("loop.example/g00025/impl.errFileRange", laid_loop_example_g00025_impl_errFileRange), ("loop.example/g00025/impl.errFileOrder", laid_loop_example_g00025_impl_errFileOrder), ("loop.example/g00025/impl.errFileSum", laid_loop_example_g00025_impl_errFileSum), ("loop.example/g00025/impl.errFileMore", laid_loop_example_g00025_impl_errFileMore)] }
def FnExactReadSeparatedSaid : Prop := fnExactReadSeparatedRow.holds Tryd.pinned (OpenSpec.ofChange fnExactReadSeparatedSpec)

/-- ITS FALSE NEIGHBOUR: 'it returns false'. Refute it at one input. -/
def fnExactReadSeparatedWrong : ChangeSpec := { name := "fnExactReadSeparated", vars := ["loop.example/g00025/impl.errFileRange", "loop.example/g00025/impl.errFileShort", "loop.example/g00025/impl.errFileCode", "loop.example/g00025/impl.errFileOrder", "loop.example/g00025/impl.errFileSum", "loop.example/g00025/impl.errFileMore"], fn := fun _ => fun
  | [d1, d2, g1, g2, g3, g4, g5, g6] => { results := [.lit (.bool false)], args := [d1, d2], vars := [g1, g2, g3, g4, g5, g6] }
  | _ => none }
def FnExactReadSeparatedWrongFalsely : Prop := fnExactReadSeparatedRow.holds Tryd.pinned (OpenSpec.ofChange fnExactReadSeparatedWrong)

/- THE SECOND FORM. 'bulk': how many values and letters a reading holds, each counted each time it is reached (what is shared counts as often as it is met; a slice's spare places count too). A statement '..UptoSaid' is the law's where the arguments, and the package variables that the reading takes, are together of bulk at most 1048576: NARROWER than '..Said'. Prove '..Said' where nothing that the law and all that it calls make is longer than what came in: it says more and counts as full. Else prove '..UptoSaid'. A law counts once. -/
mutual
def uptoBulk {H : Type} : DataW H → Nat
  | .lit (.string bytes) => bytes.length + 1
  | .lit _ => 1
  | .nil => 1
  | .ptr d => uptoBulk d + 1
  | .slice elems spare => uptoBulkAll elems + uptoBulkAll spare + 1
  | .agg parts => uptoBulkAll parts + 1
  | .iface _ d => uptoBulk d + 1
  | .map entries => uptoBulkEntries entries + 1
  | .held _ => 1
def uptoBulkAll {H : Type} : List (DataW H) → Nat
  | [] => 0
  | d :: r => uptoBulk d + uptoBulkAll r
def uptoBulkEntries {H : Type} : List (Lit × DataW H) → Nat
  | [] => 0
  | x :: r => uptoBulkEntry x + uptoBulkEntries r
def uptoBulkEntry {H : Type} : Lit × DataW H → Nat
  | (.string bytes, d) => bytes.length + uptoBulk d + 1
  | (_, d) => uptoBulk d + 1
 end
def uptoSmall : (H : Type) → List (DataW H) → Bool := fun _ ds => decide (uptoBulkAll ds ≤ 1048576)
def OpenSpec.upto (s : _root_.Go.ChangeSpec) : _root_.Go.OpenSpec := { _root_.Go.OpenSpec.ofChange s with cond := some uptoSmall }

/-- 'laws.FnExactReadSeparated', WHERE WHAT IT READS IS OF BULK AT MOST 1048576: true; the input reads as it did. -/
def fnExactReadSeparatedUptoRow : OpenClaim := { program := "ytkjbeciiecljgaadoor", sum := "bd13a3b9cd921461f8c3abe5d87d3b0c092d4c44d7fd902a6059e7c423c7424d", func := "loop.example/g00025/laws.FnExactReadSeparated", spec := "fnExactReadSeparated", inPlace := ["internal/bytealg.IndexByteString", "internal/reflectlite.TypeOf", "internal/reflectlite.ValueOf", "(internal/reflectlite.Value).Type", "(internal/reflectlite.Value).IsNil", "(internal/reflectlite.Value).Elem", "(internal/reflectlite.Value).Set"], unfollowed := true, recurses := true, named := ["loop.example/g00025/impl.errFileRange", "loop.example/g00025/impl.errFileShort", "loop.example/g00025/impl.errFileCode", "loop.example/g00025/impl.errFileOrder", "loop.example/g00025/impl.errFileSum", "loop.example/g00025/impl.errFileMore", "errors.errorType"], ifaces := true, apart := false, laid := [("errors.errorType", laid_errors_errorType), ("loop.example/g00025/impl.errFileShort", laid_loop_example_g00025_impl_errFileShort), ("loop.example/g00025/impl.errFileCode", laid_loop_example_g00025_impl_errFileCode), ("loop.example/g00025/impl.errFileRange", laid_loop_example_g00025_impl_errFileRange), ("loop.example/g00025/impl.errFileOrder", laid_loop_example_g00025_impl_errFileOrder), ("loop.example/g00025/impl.errFileSum", laid_loop_example_g00025_impl_errFileSum), ("loop.example/g00025/impl.errFileMore", laid_loop_example_g00025_impl_errFileMore)], narrowed := true }
def FnExactReadSeparatedUptoSaid : Prop := fnExactReadSeparatedUptoRow.holds Tryd.pinned (OpenSpec.upto fnExactReadSeparatedSpec)

end Rows
end Go.Proofs.YtkjbeciiecljgaaDoor
