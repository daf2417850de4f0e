/-
  Chapter 11: the law of Runs.
-/
import Derived.Test.YtlofnhhoopefcaaGreatDoorQi
import Derived.Test.YtlofnhhoopefcaaGreatDoorW9h
namespace Go.Proofs.YtlofnhhoopefcaaGreatDoor
open Go.RowKit

theorem ownV_rowAt {w : World} {g : Nat} {l : List VT} {n : Nat} (h : OwnV w g l) (hn : l.length = n) : RowAt w (.slice (some ⟨g, 0, none⟩) n n) n (flatV l) := RowAt.of_own h hn
end Go.Proofs.YtlofnhhoopefcaaGreatDoor

