/-
  The layings of functions of Go's library at this seat's dump, in plain words.
-/
import Derived.Shelf.Small.Strs
import Derived.Test.YtbomplppgobkdaaGreatDoorProg
namespace Go.Proofs.YtbomplppgobkdaaGreatDoor
open Go.Shelf
def layCompare_ren : Go.Shelf.Ren := ⟨fun | 106 => 78 | 213 => 117 | 265 => 149 | n => n, fun | 9 => 9 | 3 => 3 | n => n, fun | n => n⟩
theorem layCompare : Go.Proofs.Lays.n106 Tryz.prog layCompare_ren := {
  mixed := by kernel_rfl
  f106 := Tryz.func78.trans (congrArg some (by kernel_rfl))
  f213 := Tryz.func117.trans (congrArg some (by kernel_rfl))
  f265 := Tryz.func149.trans (congrArg some (by kernel_rfl))
  t3 := Tryz.underlying3
  a3 := Tryz.isAgg3
  z3 := Tryz.sizeOf3
  v3 := Tryz.zeroValue3
  t9 := Tryz.underlying9
  a9 := Tryz.isAgg9
  z9 := Tryz.sizeOf9
  v9 := Tryz.zeroValue9 }
end Go.Proofs.YtbomplppgobkdaaGreatDoor

