/-
  No cell of these rows narrows 'for every input' (looked for: loops, veiled, ifaces, maps, wideKeys, modest, calm, conditions, laid).
  DERIVED. THE GIVEN ROWS OF THIS SEAT. 5 by the template 'for every input the law returns true; each argument reads behind the call as it read before'; 0 by the template 'total and deterministic' (their statements: YtjoalcnedehfgaaTotals.lean).
  GIVEN WITH THE SEED: the statements are not yours to turn. If you find one false, say at which input.
  Laid BY PROGRAM, IN A SANDBOX (cutbox-rows.mjs): the forced cells as the released guide's own fill.sh prints them over the translation d6d71d7d49a79146… (all of the seat's roots in one cut). By AI agents, Wed Nov 11 2026. No macro, syntax, notation, axiom, sorry.
-/
import Derived.Test.YtjoalcnedehfgaaChecked
import GoSem.Claim
import GoSem.ClaimJoined
import GoSem.ClaimMapViews
import Derived.JoinedTies
import Derived.KernelRfl
namespace Go.Proofs.Ytjoalcnedehfgaa
/- THE CELL 'sum', in the pinned program and in every row, IS THE sha256 OF THE DUMP (.gsa) THAT YtjoalcnedehfgaaProg.lean LOADS. Nothing in Lean hashes anything: it is a label: what it is worth is what the hold of that sum in a sandbox is worth. -/
noncomputable def Try.pinned : Pinned := { name := "ytjoalcnedehfgaa", sum := "d6d71d7d49a79146acd25f93c97003fe8d20f78c6b403f8c56d4174902f3e821", checked := Try.checked }
namespace Rows
def none {H : Type} : Left H := { results := [], args := [] }

/-- 'laws.FnExactGoodTurn': WHATEVER THE INPUT: true; the input reads as it did. -/
def fnExactGoodTurnSpec : ChangeSpec := { name := "fnExactGoodTurn", fn := fun _ => fun
  | [d] => { results := [.lit (.bool true)], args := [d] }
  | _ => none }
def fnExactGoodTurnRow : OpenClaim := { program := "ytjoalcnedehfgaa", sum := "d6d71d7d49a79146acd25f93c97003fe8d20f78c6b403f8c56d4174902f3e821", func := "loop.example/g00025/laws.FnExactGoodTurn", spec := "fnExactGoodTurn", apart := false }
def FnExactGoodTurnSaid : Prop := fnExactGoodTurnRow.holds Try.pinned (OpenSpec.ofChange fnExactGoodTurnSpec)

/-- ITS FALSE NEIGHBOUR: 'it returns false'. Refute it at one input. -/
def fnExactGoodTurnWrong : ChangeSpec := { name := "fnExactGoodTurn", fn := fun _ => fun
  | [d] => { results := [.lit (.bool false)], args := [d] }
  | _ => none }
def FnExactGoodTurnWrongFalsely : Prop := fnExactGoodTurnRow.holds Try.pinned (OpenSpec.ofChange fnExactGoodTurnWrong)

/-- 'laws.FnExactTurnRef': WHATEVER THE INPUT: true; the input reads as it did. -/
def fnExactTurnRefSpec : ChangeSpec := { name := "fnExactTurnRef", fn := fun _ => fun
  | [d1, d2] => { results := [.lit (.bool true)], args := [d1, d2] }
  | _ => none }
def fnExactTurnRefRow : OpenClaim := { program := "ytjoalcnedehfgaa", sum := "d6d71d7d49a79146acd25f93c97003fe8d20f78c6b403f8c56d4174902f3e821", func := "loop.example/g00025/laws.FnExactTurnRef", spec := "fnExactTurnRef", apart := false }
def FnExactTurnRefSaid : Prop := fnExactTurnRefRow.holds Try.pinned (OpenSpec.ofChange fnExactTurnRefSpec)

/-- ITS FALSE NEIGHBOUR: 'it returns false'. Refute it at one input. -/
def fnExactTurnRefWrong : ChangeSpec := { name := "fnExactTurnRef", fn := fun _ => fun
  | [d1, d2] => { results := [.lit (.bool false)], args := [d1, d2] }
  | _ => none }
def FnExactTurnRefWrongFalsely : Prop := fnExactTurnRefRow.holds Try.pinned (OpenSpec.ofChange fnExactTurnRefWrong)

/-- 'laws.FnExactTurnArea': WHATEVER THE INPUT: true; the input reads as it did. -/
def fnExactTurnAreaSpec : ChangeSpec := { name := "fnExactTurnArea", fn := fun _ => fun
  | [d1, d2] => { results := [.lit (.bool true)], args := [d1, d2] }
  | _ => none }
def fnExactTurnAreaRow : OpenClaim := { program := "ytjoalcnedehfgaa", sum := "d6d71d7d49a79146acd25f93c97003fe8d20f78c6b403f8c56d4174902f3e821", func := "loop.example/g00025/laws.FnExactTurnArea", spec := "fnExactTurnArea", apart := false }
def FnExactTurnAreaSaid : Prop := fnExactTurnAreaRow.holds Try.pinned (OpenSpec.ofChange fnExactTurnAreaSpec)

/-- ITS FALSE NEIGHBOUR: 'it returns false'. Refute it at one input. -/
def fnExactTurnAreaWrong : ChangeSpec := { name := "fnExactTurnArea", fn := fun _ => fun
  | [d1, d2] => { results := [.lit (.bool false)], args := [d1, d2] }
  | _ => none }
def FnExactTurnAreaWrongFalsely : Prop := fnExactTurnAreaRow.holds Try.pinned (OpenSpec.ofChange fnExactTurnAreaWrong)

/-- 'laws.FnExactMoveRef': WHATEVER THE INPUT: true; the input reads as it did. -/
def fnExactMoveRefSpec : ChangeSpec := { name := "fnExactMoveRef", fn := fun _ => fun
  | [d1, d2] => { results := [.lit (.bool true)], args := [d1, d2] }
  | _ => none }
def fnExactMoveRefRow : OpenClaim := { program := "ytjoalcnedehfgaa", sum := "d6d71d7d49a79146acd25f93c97003fe8d20f78c6b403f8c56d4174902f3e821", func := "loop.example/g00025/laws.FnExactMoveRef", spec := "fnExactMoveRef", unfollowed := true, recurses := true, apart := false }
def FnExactMoveRefSaid : Prop := fnExactMoveRefRow.holds Try.pinned (OpenSpec.ofChange fnExactMoveRefSpec)

/-- ITS FALSE NEIGHBOUR: 'it returns false'. Refute it at one input. -/
def fnExactMoveRefWrong : ChangeSpec := { name := "fnExactMoveRef", fn := fun _ => fun
  | [d1, d2] => { results := [.lit (.bool false)], args := [d1, d2] }
  | _ => none }
def FnExactMoveRefWrongFalsely : Prop := fnExactMoveRefRow.holds Try.pinned (OpenSpec.ofChange fnExactMoveRefWrong)

/-- 'laws.FnExactBackTurn': WHATEVER THE INPUT: true; the input reads as it did. -/
def fnExactBackTurnSpec : ChangeSpec := { name := "fnExactBackTurn", fn := fun _ => fun
  | [d] => { results := [.lit (.bool true)], args := [d] }
  | _ => none }
def fnExactBackTurnRow : OpenClaim := { program := "ytjoalcnedehfgaa", sum := "d6d71d7d49a79146acd25f93c97003fe8d20f78c6b403f8c56d4174902f3e821", func := "loop.example/g00025/laws.FnExactBackTurn", spec := "fnExactBackTurn", apart := false }
def FnExactBackTurnSaid : Prop := fnExactBackTurnRow.holds Try.pinned (OpenSpec.ofChange fnExactBackTurnSpec)

/-- ITS FALSE NEIGHBOUR: 'it returns false'. Refute it at one input. -/
def fnExactBackTurnWrong : ChangeSpec := { name := "fnExactBackTurn", fn := fun _ => fun
  | [d] => { results := [.lit (.bool false)], args := [d] }
  | _ => none }
def FnExactBackTurnWrongFalsely : Prop := fnExactBackTurnRow.holds Try.pinned (OpenSpec.ofChange fnExactBackTurnWrong)

/- THE SECOND FORM. 'bulk': how many values and letters a reading holds, each counted each time it is reached (what is shared counts as often as it is met; a slice's spare places count too). A statement '..UptoSaid' is the law's where the arguments, and the package variables that the reading takes, are together of bulk at most 1048576: NARROWER than '..Said'. Prove '..Said' where nothing that the law and all that it calls make is longer than what came in: it says more and counts as full. Else prove '..UptoSaid'. A law counts once. -/
mutual
def uptoBulk {H : Type} : DataW H → Nat
  | .lit (.string bytes) => bytes.length + 1
  | .lit _ => 1
  | .nil => 1
  | .ptr d => uptoBulk d + 1
  | .slice elems spare => uptoBulkAll elems + uptoBulkAll spare + 1
  | .agg parts => uptoBulkAll parts + 1
  | .iface _ d => uptoBulk d + 1
  | .map entries => uptoBulkEntries entries + 1
  | .held _ => 1
def uptoBulkAll {H : Type} : List (DataW H) → Nat
  | [] => 0
  | d :: r => uptoBulk d + uptoBulkAll r
def uptoBulkEntries {H : Type} : List (Lit × DataW H) → Nat
  | [] => 0
  | x :: r => uptoBulkEntry x + uptoBulkEntries r
def uptoBulkEntry {H : Type} : Lit × DataW H → Nat
  | (.string bytes, d) => bytes.length + uptoBulk d + 1
  | (_, d) => uptoBulk d + 1
 end
def uptoSmall : (H : Type) → List (DataW H) → Bool := fun _ ds => decide (uptoBulkAll ds ≤ 1048576)
def OpenSpec.upto (s : _root_.Go.ChangeSpec) : _root_.Go.OpenSpec := { _root_.Go.OpenSpec.ofChange s with cond := some uptoSmall }

/-- 'laws.FnExactGoodTurn', WHERE WHAT IT READS IS OF BULK AT MOST 1048576: true; the input reads as it did. -/
def fnExactGoodTurnUptoRow : OpenClaim := { program := "ytjoalcnedehfgaa", sum := "d6d71d7d49a79146acd25f93c97003fe8d20f78c6b403f8c56d4174902f3e821", func := "loop.example/g00025/laws.FnExactGoodTurn", spec := "fnExactGoodTurn", apart := false, narrowed := true }
def FnExactGoodTurnUptoSaid : Prop := fnExactGoodTurnUptoRow.holds Try.pinned (OpenSpec.upto fnExactGoodTurnSpec)

/-- 'laws.FnExactTurnRef', WHERE WHAT IT READS IS OF BULK AT MOST 1048576: true; the input reads as it did. -/
def fnExactTurnRefUptoRow : OpenClaim := { program := "ytjoalcnedehfgaa", sum := "d6d71d7d49a79146acd25f93c97003fe8d20f78c6b403f8c56d4174902f3e821", func := "loop.example/g00025/laws.FnExactTurnRef", spec := "fnExactTurnRef", apart := false, narrowed := true }
def FnExactTurnRefUptoSaid : Prop := fnExactTurnRefUptoRow.holds Try.pinned (OpenSpec.upto fnExactTurnRefSpec)

/-- 'laws.FnExactTurnArea', WHERE WHAT IT READS IS OF BULK AT MOST 1048576: true; the input reads as it did. -/
def fnExactTurnAreaUptoRow : OpenClaim := { program := "ytjoalcnedehfgaa", sum := "d6d71d7d49a79146acd25f93c97003fe8d20f78c6b403f8c56d4174902f3e821", func := "loop.example/g00025/laws.FnExactTurnArea", spec := "fnExactTurnArea", apart := false, narrowed := true }
def FnExactTurnAreaUptoSaid : Prop := fnExactTurnAreaUptoRow.holds Try.pinned (OpenSpec.upto fnExactTurnAreaSpec)

/-- 'laws.FnExactMoveRef', WHERE WHAT IT READS IS OF BULK AT MOST 1048576: true; the input reads as it did. -/
def fnExactMoveRefUptoRow : OpenClaim := { program := "ytjoalcnedehfgaa", sum := "d6d71d7d49a79146acd25f93c97003fe8d20f78c6b403f8c56d4174902f3e821", func := "loop.example/g00025/laws.FnExactMoveRef", spec := "fnExactMoveRef", unfollowed := true, recurses := true, apart := false, narrowed := true }
def FnExactMoveRefUptoSaid : Prop := fnExactMoveRefUptoRow.holds Try.pinned (OpenSpec.upto fnExactMoveRefSpec)

/-- 'laws.FnExactBackTurn', WHERE WHAT IT READS IS OF BULK AT MOST 1048576: true; the input reads as it did. -/
def fnExactBackTurnUptoRow : OpenClaim := { program := "ytjoalcnedehfgaa", sum := "d6d71d7d49a79146acd25f93c97003fe8d20f78c6b403f8c56d4174902f3e821", func := "loop.example/g00025/laws.FnExactBackTurn", spec := "fnExactBackTurn", apart := false, narrowed := true }
def FnExactBackTurnUptoSaid : Prop := fnExactBackTurnUptoRow.holds Try.pinned (OpenSpec.upto fnExactBackTurnSpec)

end Rows
end Go.Proofs.Ytjoalcnedehfgaa
