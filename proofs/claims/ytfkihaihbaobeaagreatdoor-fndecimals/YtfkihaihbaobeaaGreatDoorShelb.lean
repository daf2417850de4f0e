/-
  The layings of functions of Go's library at this seat's dump, in plain words.
-/
import Derived.Shelf.Small.Bits
import Derived.Test.YtfkihaihbaobeaaGreatDoorProg
namespace Go.Proofs.YtfkihaihbaobeaaGreatDoor
open Go.Shelf
def layLz64_ren : Go.Shelf.Ren := ⟨fun | 134 => 118 | 129 => 122 | n => n, fun | 53 => 38 | 3 => 3 | 4 => 4 | 46 => 97 | 5 => 5 | 9 => 9 | n => n, fun | n => n⟩
theorem layLz64 : Go.Proofs.Lays.n134 Tryz.prog layLz64_ren := {
  mixed := by kernel_rfl
  f129 := Tryz.func122.trans (congrArg some (by kernel_rfl))
  f134 := Tryz.func118.trans (congrArg some (by kernel_rfl))
  t3 := Tryz.underlying3
  a3 := Tryz.isAgg3
  z3 := Tryz.sizeOf3
  v3 := Tryz.zeroValue3
  t4 := Tryz.underlying4
  a4 := Tryz.isAgg4
  z4 := Tryz.sizeOf4
  v4 := Tryz.zeroValue4
  t5 := Tryz.underlying5
  a5 := Tryz.isAgg5
  z5 := Tryz.sizeOf5
  v5 := Tryz.zeroValue5
  t9 := Tryz.underlying9
  a9 := Tryz.isAgg9
  z9 := Tryz.sizeOf9
  v9 := Tryz.zeroValue9
  t46 := Tryz.underlying97
  a46 := Tryz.isAgg97
  z46 := Tryz.sizeOf97
  v46 := Tryz.zeroValue97
  t53 := Tryz.underlying38
  a53 := Tryz.isAgg38
  z53 := Tryz.sizeOf38
  v53 := Tryz.zeroValue38 }
end Go.Proofs.YtfkihaihbaobeaaGreatDoor

