/-
  NARROWER THAN 'FOR EVERY INPUT', by the rows' own cells (each row's printed sentence says how): FnAreas: laid · FnExactWithout: laid.
  DERIVED. THE GIVEN ROWS OF THIS SEAT. 2 by the template 'for every input the law returns true; each argument reads behind the call as it read before'; 0 by the template 'total and deterministic' (their statements: YthdjlhhedkfibaaDoorTotals.lean).
  GIVEN WITH THE SEED: the statements are not yours to turn. If you find one false, say at which input.
  Laid BY PROGRAM, IN A SANDBOX (cutbox-rows.mjs): the forced cells as the released guide's own fill.sh prints them over the translation c4bf1e530376d7da… (all of the seat's roots in one cut). By AI agents, Wed Nov 11 2026. No macro, syntax, notation, axiom, sorry.
-/
import Derived.Test.YthdjlhhedkfibaaDoorChecked
import GoSem.Claim
import GoSem.ClaimJoined
import GoSem.ClaimMapViews
import Derived.JoinedTies
import Derived.KernelRfl
namespace Go.Proofs.YthdjlhhedkfibaaDoor
/- THE CELL 'sum', in the pinned program and in every row, IS THE sha256 OF THE DUMP (.gsa) THAT YthdjlhhedkfibaaDoorProg.lean LOADS. Nothing in Lean hashes anything: it is a label: what it is worth is what the hold of that sum in a sandbox is worth. -/
noncomputable def Tryd.pinned : Pinned := { name := "ythdjlhhedkfibaadoor", sum := "c4bf1e530376d7da0cd5577603eaa15393710a745c0c5b6b72cf1ffaa6cecfbf", checked := Tryd.checked }
namespace Rows
def none {H : Type} : Left H := { results := [], args := [] }

/- WHAT THE LISTED PACKAGE-LEVEL VARIABLES READ AS WHEN THE CALL BEGINS. Each datum BY PROGRAM (the guide's laid-datum.mjs) off the statement by which the dump's own 'gosem.cut.vars' lays the variable. In a bare row this is a premise. The card (YthdjlhhedkfibaaDoorCards.lean) ties it to the program's text. -/
def laid_loop_example_g00025_impl_sides {H : Type} : DataW H := .agg [.agg [.lit (.int .i64 (-1)), .lit (.int .i64 0)], .agg [.lit (.int .i64 1), .lit (.int .i64 0)], .agg [.lit (.int .i64 0), .lit (.int .i64 (-1))], .agg [.lit (.int .i64 0), .lit (.int .i64 1)]]

/-- 'laws.FnAreas': WHATEVER THE INPUT: true; the input reads as it did. -/
def fnAreasSpec : ChangeSpec := { name := "fnAreas", vars := ["loop.example/g00025/impl.sides"], fn := fun _ => fun
  | [d, g1] => { results := [.lit (.bool true)], args := [d], vars := [g1] }
  | _ => none }
def fnAreasRow : OpenClaim := { program := "ythdjlhhedkfibaadoor", sum := "c4bf1e530376d7da0cd5577603eaa15393710a745c0c5b6b72cf1ffaa6cecfbf", func := "loop.example/g00025/laws.FnAreas", spec := "fnAreas", named := ["loop.example/g00025/impl.sides"], plainKeys := false, apart := false, laid := [("loop.example/g00025/impl.sides", laid_loop_example_g00025_impl_sides)] }
def FnAreasSaid : Prop := fnAreasRow.holds Tryd.pinned (OpenSpec.ofChange fnAreasSpec)

/-- ITS FALSE NEIGHBOUR: 'it returns false'. Refute it at one input. -/
def fnAreasWrong : ChangeSpec := { name := "fnAreas", vars := ["loop.example/g00025/impl.sides"], fn := fun _ => fun
  | [d, g1] => { results := [.lit (.bool false)], args := [d], vars := [g1] }
  | _ => none }
def FnAreasWrongFalsely : Prop := fnAreasRow.holds Tryd.pinned (OpenSpec.ofChange fnAreasWrong)

/-- 'laws.FnExactWithout': WHATEVER THE INPUT: true; the input reads as it did. -/
def fnExactWithoutSpec : ChangeSpec := { name := "fnExactWithout", vars := ["loop.example/g00025/impl.sides"], fn := fun _ => fun
  | [d1, d2, g1] => { results := [.lit (.bool true)], args := [d1, d2], vars := [g1] }
  | _ => none }
def fnExactWithoutRow : OpenClaim := { program := "ythdjlhhedkfibaadoor", sum := "c4bf1e530376d7da0cd5577603eaa15393710a745c0c5b6b72cf1ffaa6cecfbf", func := "loop.example/g00025/laws.FnExactWithout", spec := "fnExactWithout", named := ["loop.example/g00025/impl.sides"], plainKeys := false, apart := false, laid := [("loop.example/g00025/impl.sides", laid_loop_example_g00025_impl_sides)] }
def FnExactWithoutSaid : Prop := fnExactWithoutRow.holds Tryd.pinned (OpenSpec.ofChange fnExactWithoutSpec)

/-- ITS FALSE NEIGHBOUR: 'it returns false'. Refute it at one input. -/
def fnExactWithoutWrong : ChangeSpec := { name := "fnExactWithout", vars := ["loop.example/g00025/impl.sides"], fn := fun _ => fun
  | [d1, d2, g1] => { results := [.lit (.bool false)], args := [d1, d2], vars := [g1] }
  | _ => none }
def FnExactWithoutWrongFalsely : Prop := fnExactWithoutRow.holds Tryd.pinned (OpenSpec.ofChange fnExactWithoutWrong)

/- THE SECOND FORM. 'bulk': how many values and letters a reading holds, each counted each time it is reached (what is shared counts as often as it is met; a slice's spare places count too). A statement '..UptoSaid' is the law's where the arguments, and the package variables that the reading takes, are together of bulk at most 1048576: NARROWER than '..Said'. Prove '..Said' where nothing that the law and all that it calls make is longer than what came in: it says more and counts as full. Else prove '..UptoSaid'. A law counts once. -/
mutual
def uptoBulk {H : Type} : DataW H → Nat
  | .lit (.string bytes) => bytes.length + 1
  | .lit _ => 1
  | .nil => 1
  | .ptr d => uptoBulk d + 1
  | .slice elems spare => uptoBulkAll elems + uptoBulkAll spare + 1
  | .agg parts => uptoBulkAll parts + 1
  | .iface _ d => uptoBulk d + 1
  | .map entries => uptoBulkEntries entries + 1
  | .held _ => 1
def uptoBulkAll {H : Type} : List (DataW H) → Nat
  | [] => 0
  | d :: r => uptoBulk d + uptoBulkAll r
def uptoBulkEntries {H : Type} : List (Lit × DataW H) → Nat
  | [] => 0
  | x :: r => uptoBulkEntry x + uptoBulkEntries r
def uptoBulkEntry {H : Type} : Lit × DataW H → Nat
  | (.string bytes, d) => bytes.length + uptoBulk d + 1
  | (_, d) => uptoBulk d + 1
 end
def uptoSmall : (H : Type) → List (DataW H) → Bool := fun _ ds => decide (uptoBulkAll ds ≤ 1048576)
def OpenSpec.upto (s : _root_.Go.ChangeSpec) : _root_.Go.OpenSpec := { _root_.Go.OpenSpec.ofChange s with cond := some uptoSmall }

/-- 'laws.FnAreas', WHERE WHAT IT READS IS OF BULK AT MOST 1048576: true; the input reads as it did. -/
def fnAreasUptoRow : OpenClaim := { program := "ythdjlhhedkfibaadoor", sum := "c4bf1e530376d7da0cd5577603eaa15393710a745c0c5b6b72cf1ffaa6cecfbf", func := "loop.example/g00025/laws.FnAreas", spec := "fnAreas", named := ["loop.example/g00025/impl.sides"], plainKeys := false, apart := false, laid := [("loop.example/g00025/impl.sides", laid_loop_example_g00025_impl_sides)], narrowed := true }
def FnAreasUptoSaid : Prop := fnAreasUptoRow.holds Tryd.pinned (OpenSpec.upto fnAreasSpec)

/-- 'laws.FnExactWithout', WHERE WHAT IT READS IS OF BULK AT MOST 1048576: true; the input reads as it did. -/
def fnExactWithoutUptoRow : OpenClaim := { program := "ythdjlhhedkfibaadoor", sum := "c4bf1e530376d7da0cd5577603eaa15393710a745c0c5b6b72cf1ffaa6cecfbf", func := "loop.example/g00025/laws.FnExactWithout", spec := "fnExactWithout", named := ["loop.example/g00025/impl.sides"], plainKeys := false, apart := false, laid := [("loop.example/g00025/impl.sides", laid_loop_example_g00025_impl_sides)], narrowed := true }
def FnExactWithoutUptoSaid : Prop := fnExactWithoutUptoRow.holds Tryd.pinned (OpenSpec.upto fnExactWithoutSpec)

end Rows
end Go.Proofs.YthdjlhhedkfibaaDoor
