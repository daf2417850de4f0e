/-
  Chapter 6: BoolOf of the specification; the law.
-/
import Derived.Test.YtbebmjiopijheaaDoorV9e
import Derived.Test.YtbebmjiopijheaaDoorV6e
namespace Go.Proofs.YtbebmjiopijheaaDoor
open Go.RowKit

theorem boolOf_val (k : Int) (n : Bool) (d x : Int) (t : List UInt8) : ∃ k2 n2 d2 x2 t2, boolOf k n d x t = valV k2 n2 d2 x2 t2 := by
  unfold boolOf
  split
  · exact ⟨_, _, _, _, _, rfl⟩
  · split
    · exact ⟨_, _, _, _, _, rfl⟩
    · split
      · split
        · exact ⟨_, _, _, _, _, rfl⟩
        · exact ⟨_, _, _, _, _, rfl⟩
      · exact ⟨_, _, _, _, _, rfl⟩

end Go.Proofs.YtbebmjiopijheaaDoor

