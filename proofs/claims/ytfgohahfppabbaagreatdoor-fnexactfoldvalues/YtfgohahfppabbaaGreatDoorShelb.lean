/-
  The layings of functions of Go's library at this seat's dump, in plain words.
-/
import Derived.Shelf.Small.Bits
import Derived.Test.YtfgohahfppabbaaGreatDoorProg
namespace Go.Proofs.YtfgohahfppabbaaGreatDoor
open Go.Shelf
def layLz64_ren : Go.Shelf.Ren := ⟨fun | 134 => 153 | 129 => 170 | n => n, fun | 53 => 79 | 3 => 3 | 4 => 4 | 46 => 139 | 5 => 5 | 9 => 9 | n => n, fun | n => n⟩
theorem layLz64 : Go.Proofs.Lays.n134 Tryz.prog layLz64_ren := {
  mixed := by kernel_rfl
  f129 := Tryz.func170.trans (congrArg some (by kernel_rfl))
  f134 := Tryz.func153.trans (congrArg some (by kernel_rfl))
  t3 := Tryz.underlying3
  a3 := Tryz.isAgg3
  z3 := Tryz.sizeOf3
  v3 := Tryz.zeroValue3
  t4 := Tryz.underlying4
  a4 := Tryz.isAgg4
  z4 := Tryz.sizeOf4
  v4 := Tryz.zeroValue4
  t5 := Tryz.underlying5
  a5 := Tryz.isAgg5
  z5 := Tryz.sizeOf5
  v5 := Tryz.zeroValue5
  t9 := Tryz.underlying9
  a9 := Tryz.isAgg9
  z9 := Tryz.sizeOf9
  v9 := Tryz.zeroValue9
  t46 := Tryz.underlying139
  a46 := Tryz.isAgg139
  z46 := Tryz.sizeOf139
  v46 := Tryz.zeroValue139
  t53 := Tryz.underlying79
  a53 := Tryz.isAgg79
  z53 := Tryz.sizeOf79
  v53 := Tryz.zeroValue79 }
end Go.Proofs.YtfgohahfppabbaaGreatDoor

