/-
  No cell of these rows narrows 'for every input' (looked for: loops, veiled, ifaces, maps, wideKeys, modest, calm, conditions, laid).
  DERIVED. THE GIVEN ROWS OF THIS SEAT. 7 by the template 'for every input the law returns true; each argument reads behind the call as it read before'; 0 by the template 'total and deterministic' (their statements: YtifangkifpnnpaaTotals.lean).
  GIVEN WITH THE SEED: the statements are not yours to turn. If you find one false, say at which input.
  Laid BY PROGRAM, IN A SANDBOX (cutbox-rows.mjs): the forced cells as the released guide's own fill.sh prints them over the translation a7a29aa2f6758875… (all of the seat's roots in one cut). By AI agents, Wed Nov 11 2026. No macro, syntax, notation, axiom, sorry.
-/
import Derived.Test.YtifangkifpnnpaaChecked
import GoSem.Claim
import GoSem.ClaimJoined
import GoSem.ClaimMapViews
import Derived.JoinedTies
import Derived.KernelRfl
namespace Go.Proofs.Ytifangkifpnnpaa
/- THE CELL 'sum', in the pinned program and in every row, IS THE sha256 OF THE DUMP (.gsa) THAT YtifangkifpnnpaaProg.lean LOADS. Nothing in Lean hashes anything: it is a label: what it is worth is what the hold of that sum in a sandbox is worth. -/
noncomputable def Try.pinned : Pinned := { name := "ytifangkifpnnpaa", sum := "a7a29aa2f6758875e2f6ec836fa1b49a361ec490f7c4bb7c4252761be44be638", checked := Try.checked }
namespace Rows
def none {H : Type} : Left H := { results := [], args := [] }

/-- 'laws.FnExactColName': WHATEVER THE INPUT: true; the input reads as it did. -/
def fnExactColNameSpec : ChangeSpec := { name := "fnExactColName", fn := fun _ => fun
  | [d] => { results := [.lit (.bool true)], args := [d] }
  | _ => none }
def fnExactColNameRow : OpenClaim := { program := "ytifangkifpnnpaa", sum := "a7a29aa2f6758875e2f6ec836fa1b49a361ec490f7c4bb7c4252761be44be638", func := "loop.example/g00025/laws.FnExactColName", spec := "fnExactColName", apart := false }
def FnExactColNameSaid : Prop := fnExactColNameRow.holds Try.pinned (OpenSpec.ofChange fnExactColNameSpec)

/-- ITS FALSE NEIGHBOUR: 'it returns false'. Refute it at one input. -/
def fnExactColNameWrong : ChangeSpec := { name := "fnExactColName", fn := fun _ => fun
  | [d] => { results := [.lit (.bool false)], args := [d] }
  | _ => none }
def FnExactColNameWrongFalsely : Prop := fnExactColNameRow.holds Try.pinned (OpenSpec.ofChange fnExactColNameWrong)

/-- 'laws.FnExactColNumber': WHATEVER THE INPUT: true; the input reads as it did. -/
def fnExactColNumberSpec : ChangeSpec := { name := "fnExactColNumber", fn := fun _ => fun
  | [d] => { results := [.lit (.bool true)], args := [d] }
  | _ => none }
def fnExactColNumberRow : OpenClaim := { program := "ytifangkifpnnpaa", sum := "a7a29aa2f6758875e2f6ec836fa1b49a361ec490f7c4bb7c4252761be44be638", func := "loop.example/g00025/laws.FnExactColNumber", spec := "fnExactColNumber", inPlace := ["internal/bytealg.IndexByteString"], apart := false }
def FnExactColNumberSaid : Prop := fnExactColNumberRow.holds Try.pinned (OpenSpec.ofChange fnExactColNumberSpec)

/-- ITS FALSE NEIGHBOUR: 'it returns false'. Refute it at one input. -/
def fnExactColNumberWrong : ChangeSpec := { name := "fnExactColNumber", fn := fun _ => fun
  | [d] => { results := [.lit (.bool false)], args := [d] }
  | _ => none }
def FnExactColNumberWrongFalsely : Prop := fnExactColNumberRow.holds Try.pinned (OpenSpec.ofChange fnExactColNumberWrong)

/-- 'laws.FnExactGoodRef': WHATEVER THE INPUT: true; the input reads as it did. -/
def fnExactGoodRefSpec : ChangeSpec := { name := "fnExactGoodRef", fn := fun _ => fun
  | [d] => { results := [.lit (.bool true)], args := [d] }
  | _ => none }
def fnExactGoodRefRow : OpenClaim := { program := "ytifangkifpnnpaa", sum := "a7a29aa2f6758875e2f6ec836fa1b49a361ec490f7c4bb7c4252761be44be638", func := "loop.example/g00025/laws.FnExactGoodRef", spec := "fnExactGoodRef", apart := false }
def FnExactGoodRefSaid : Prop := fnExactGoodRefRow.holds Try.pinned (OpenSpec.ofChange fnExactGoodRefSpec)

/-- ITS FALSE NEIGHBOUR: 'it returns false'. Refute it at one input. -/
def fnExactGoodRefWrong : ChangeSpec := { name := "fnExactGoodRef", fn := fun _ => fun
  | [d] => { results := [.lit (.bool false)], args := [d] }
  | _ => none }
def FnExactGoodRefWrongFalsely : Prop := fnExactGoodRefRow.holds Try.pinned (OpenSpec.ofChange fnExactGoodRefWrong)

/-- 'laws.FnExactGoodArea': WHATEVER THE INPUT: true; the input reads as it did. -/
def fnExactGoodAreaSpec : ChangeSpec := { name := "fnExactGoodArea", fn := fun _ => fun
  | [d] => { results := [.lit (.bool true)], args := [d] }
  | _ => none }
def fnExactGoodAreaRow : OpenClaim := { program := "ytifangkifpnnpaa", sum := "a7a29aa2f6758875e2f6ec836fa1b49a361ec490f7c4bb7c4252761be44be638", func := "loop.example/g00025/laws.FnExactGoodArea", spec := "fnExactGoodArea", apart := false }
def FnExactGoodAreaSaid : Prop := fnExactGoodAreaRow.holds Try.pinned (OpenSpec.ofChange fnExactGoodAreaSpec)

/-- ITS FALSE NEIGHBOUR: 'it returns false'. Refute it at one input. -/
def fnExactGoodAreaWrong : ChangeSpec := { name := "fnExactGoodArea", fn := fun _ => fun
  | [d] => { results := [.lit (.bool false)], args := [d] }
  | _ => none }
def FnExactGoodAreaWrongFalsely : Prop := fnExactGoodAreaRow.holds Try.pinned (OpenSpec.ofChange fnExactGoodAreaWrong)

/-- 'laws.FnExactNormal': WHATEVER THE INPUT: true; the input reads as it did. -/
def fnExactNormalSpec : ChangeSpec := { name := "fnExactNormal", fn := fun _ => fun
  | [d] => { results := [.lit (.bool true)], args := [d] }
  | _ => none }
def fnExactNormalRow : OpenClaim := { program := "ytifangkifpnnpaa", sum := "a7a29aa2f6758875e2f6ec836fa1b49a361ec490f7c4bb7c4252761be44be638", func := "loop.example/g00025/laws.FnExactNormal", spec := "fnExactNormal", apart := false }
def FnExactNormalSaid : Prop := fnExactNormalRow.holds Try.pinned (OpenSpec.ofChange fnExactNormalSpec)

/-- ITS FALSE NEIGHBOUR: 'it returns false'. Refute it at one input. -/
def fnExactNormalWrong : ChangeSpec := { name := "fnExactNormal", fn := fun _ => fun
  | [d] => { results := [.lit (.bool false)], args := [d] }
  | _ => none }
def FnExactNormalWrongFalsely : Prop := fnExactNormalRow.holds Try.pinned (OpenSpec.ofChange fnExactNormalWrong)

/-- 'laws.FnExactMeet': WHATEVER THE INPUT: true; the input reads as it did. -/
def fnExactMeetSpec : ChangeSpec := { name := "fnExactMeet", fn := fun _ => fun
  | [d1, d2] => { results := [.lit (.bool true)], args := [d1, d2] }
  | _ => none }
def fnExactMeetRow : OpenClaim := { program := "ytifangkifpnnpaa", sum := "a7a29aa2f6758875e2f6ec836fa1b49a361ec490f7c4bb7c4252761be44be638", func := "loop.example/g00025/laws.FnExactMeet", spec := "fnExactMeet", apart := false }
def FnExactMeetSaid : Prop := fnExactMeetRow.holds Try.pinned (OpenSpec.ofChange fnExactMeetSpec)

/-- ITS FALSE NEIGHBOUR: 'it returns false'. Refute it at one input. -/
def fnExactMeetWrong : ChangeSpec := { name := "fnExactMeet", fn := fun _ => fun
  | [d1, d2] => { results := [.lit (.bool false)], args := [d1, d2] }
  | _ => none }
def FnExactMeetWrongFalsely : Prop := fnExactMeetRow.holds Try.pinned (OpenSpec.ofChange fnExactMeetWrong)

/-- 'laws.FnExactHull': WHATEVER THE INPUT: true; the input reads as it did. -/
def fnExactHullSpec : ChangeSpec := { name := "fnExactHull", fn := fun _ => fun
  | [d1, d2] => { results := [.lit (.bool true)], args := [d1, d2] }
  | _ => none }
def fnExactHullRow : OpenClaim := { program := "ytifangkifpnnpaa", sum := "a7a29aa2f6758875e2f6ec836fa1b49a361ec490f7c4bb7c4252761be44be638", func := "loop.example/g00025/laws.FnExactHull", spec := "fnExactHull", apart := false }
def FnExactHullSaid : Prop := fnExactHullRow.holds Try.pinned (OpenSpec.ofChange fnExactHullSpec)

/-- ITS FALSE NEIGHBOUR: 'it returns false'. Refute it at one input. -/
def fnExactHullWrong : ChangeSpec := { name := "fnExactHull", fn := fun _ => fun
  | [d1, d2] => { results := [.lit (.bool false)], args := [d1, d2] }
  | _ => none }
def FnExactHullWrongFalsely : Prop := fnExactHullRow.holds Try.pinned (OpenSpec.ofChange fnExactHullWrong)

/- THE SECOND FORM. 'bulk': how many values and letters a reading holds, each counted each time it is reached (what is shared counts as often as it is met; a slice's spare places count too). A statement '..UptoSaid' is the law's where the arguments, and the package variables that the reading takes, are together of bulk at most 1048576: NARROWER than '..Said'. Prove '..Said' where nothing that the law and all that it calls make is longer than what came in: it says more and counts as full. Else prove '..UptoSaid'. A law counts once. -/
mutual
def uptoBulk {H : Type} : DataW H → Nat
  | .lit (.string bytes) => bytes.length + 1
  | .lit _ => 1
  | .nil => 1
  | .ptr d => uptoBulk d + 1
  | .slice elems spare => uptoBulkAll elems + uptoBulkAll spare + 1
  | .agg parts => uptoBulkAll parts + 1
  | .iface _ d => uptoBulk d + 1
  | .map entries => uptoBulkEntries entries + 1
  | .held _ => 1
def uptoBulkAll {H : Type} : List (DataW H) → Nat
  | [] => 0
  | d :: r => uptoBulk d + uptoBulkAll r
def uptoBulkEntries {H : Type} : List (Lit × DataW H) → Nat
  | [] => 0
  | x :: r => uptoBulkEntry x + uptoBulkEntries r
def uptoBulkEntry {H : Type} : Lit × DataW H → Nat
  | (.string bytes, d) => bytes.length + uptoBulk d + 1
  | (_, d) => uptoBulk d + 1
 end
def uptoSmall : (H : Type) → List (DataW H) → Bool := fun _ ds => decide (uptoBulkAll ds ≤ 1048576)
def OpenSpec.upto (s : _root_.Go.ChangeSpec) : _root_.Go.OpenSpec := { _root_.Go.OpenSpec.ofChange s with cond := some uptoSmall }

/-- 'laws.FnExactColName', WHERE WHAT IT READS IS OF BULK AT MOST 1048576: true; the input reads as it did. -/
def fnExactColNameUptoRow : OpenClaim := { program := "ytifangkifpnnpaa", sum := "a7a29aa2f6758875e2f6ec836fa1b49a361ec490f7c4bb7c4252761be44be638", func := "loop.example/g00025/laws.FnExactColName", spec := "fnExactColName", apart := false, narrowed := true }
def FnExactColNameUptoSaid : Prop := fnExactColNameUptoRow.holds Try.pinned (OpenSpec.upto fnExactColNameSpec)

/-- 'laws.FnExactColNumber', WHERE WHAT IT READS IS OF BULK AT MOST 1048576: true; the input reads as it did. -/
def fnExactColNumberUptoRow : OpenClaim := { program := "ytifangkifpnnpaa", sum := "a7a29aa2f6758875e2f6ec836fa1b49a361ec490f7c4bb7c4252761be44be638", func := "loop.example/g00025/laws.FnExactColNumber", spec := "fnExactColNumber", inPlace := ["internal/bytealg.IndexByteString"], apart := false, narrowed := true }
def FnExactColNumberUptoSaid : Prop := fnExactColNumberUptoRow.holds Try.pinned (OpenSpec.upto fnExactColNumberSpec)

/-- 'laws.FnExactGoodRef', WHERE WHAT IT READS IS OF BULK AT MOST 1048576: true; the input reads as it did. -/
def fnExactGoodRefUptoRow : OpenClaim := { program := "ytifangkifpnnpaa", sum := "a7a29aa2f6758875e2f6ec836fa1b49a361ec490f7c4bb7c4252761be44be638", func := "loop.example/g00025/laws.FnExactGoodRef", spec := "fnExactGoodRef", apart := false, narrowed := true }
def FnExactGoodRefUptoSaid : Prop := fnExactGoodRefUptoRow.holds Try.pinned (OpenSpec.upto fnExactGoodRefSpec)

/-- 'laws.FnExactGoodArea', WHERE WHAT IT READS IS OF BULK AT MOST 1048576: true; the input reads as it did. -/
def fnExactGoodAreaUptoRow : OpenClaim := { program := "ytifangkifpnnpaa", sum := "a7a29aa2f6758875e2f6ec836fa1b49a361ec490f7c4bb7c4252761be44be638", func := "loop.example/g00025/laws.FnExactGoodArea", spec := "fnExactGoodArea", apart := false, narrowed := true }
def FnExactGoodAreaUptoSaid : Prop := fnExactGoodAreaUptoRow.holds Try.pinned (OpenSpec.upto fnExactGoodAreaSpec)

/-- 'laws.FnExactNormal', WHERE WHAT IT READS IS OF BULK AT MOST 1048576: true; the input reads as it did. -/
def fnExactNormalUptoRow : OpenClaim := { program := "ytifangkifpnnpaa", sum := "a7a29aa2f6758875e2f6ec836fa1b49a361ec490f7c4bb7c4252761be44be638", func := "loop.example/g00025/laws.FnExactNormal", spec := "fnExactNormal", apart := false, narrowed := true }
def FnExactNormalUptoSaid : Prop := fnExactNormalUptoRow.holds Try.pinned (OpenSpec.upto fnExactNormalSpec)

/-- 'laws.FnExactMeet', WHERE WHAT IT READS IS OF BULK AT MOST 1048576: true; the input reads as it did. -/
def fnExactMeetUptoRow : OpenClaim := { program := "ytifangkifpnnpaa", sum := "a7a29aa2f6758875e2f6ec836fa1b49a361ec490f7c4bb7c4252761be44be638", func := "loop.example/g00025/laws.FnExactMeet", spec := "fnExactMeet", apart := false, narrowed := true }
def FnExactMeetUptoSaid : Prop := fnExactMeetUptoRow.holds Try.pinned (OpenSpec.upto fnExactMeetSpec)

/-- 'laws.FnExactHull', WHERE WHAT IT READS IS OF BULK AT MOST 1048576: true; the input reads as it did. -/
def fnExactHullUptoRow : OpenClaim := { program := "ytifangkifpnnpaa", sum := "a7a29aa2f6758875e2f6ec836fa1b49a361ec490f7c4bb7c4252761be44be638", func := "loop.example/g00025/laws.FnExactHull", spec := "fnExactHull", apart := false, narrowed := true }
def FnExactHullUptoSaid : Prop := fnExactHullUptoRow.holds Try.pinned (OpenSpec.upto fnExactHullSpec)

end Rows
end Go.Proofs.Ytifangkifpnnpaa
