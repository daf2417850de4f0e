/-
  Chapter 11: the rows that a function takes; Runs, of the program.
-/
import Derived.Test.YtlofnhhoopefcaaGreatDoorQe
namespace Go.Proofs.YtlofnhhoopefcaaGreatDoor
open Go.RowKit

/-- An answer of numbers in memory of its own. -/
def AnsI (w w' : World) (v : Value) (l : List Nat) : Prop := NumsAt w' v l ∧ (0 < l.length → ∀ g, v.ownBlock = some g → w.heap.size ≤ g) ∧ Ext w w'
end Go.Proofs.YtlofnhhoopefcaaGreatDoor

