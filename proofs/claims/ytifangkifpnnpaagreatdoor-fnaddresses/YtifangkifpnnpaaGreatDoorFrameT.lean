/-
  The table of the library out of what a row lists.
-/
import Derived.Test.YtifangkifpnnpaaGreatDoorFrameR
import Derived.Test.YtifangkifpnnpaaGreatDoorLibR
import Derived.Stop.LaidErr
namespace Go.Proofs.YtifangkifpnnpaaGreatDoor
open Go.ChangeShapes Go.WideShapes Go.ChangeAt Go.RowKit

theorem gPow10Type : (Tryz.prog.globals[1]?).map (·.type) = some 112 := by kernel_rfl
theorem pow10_of {rest : List (String × DataW Unit)} {W : World} (h : laidMet Tryz.prog (("internal/strconv.uint64pow10", Rows.laid_internal_strconv_uint64pow10) :: rest) W) : Lib.TabIs Tryz.prog W "internal/strconv.uint64pow10" .u64 Lib.pow10Tab :=
  Lib.tabIs_of_head (rest := rest) gPow10 gPow10Type Tryz.underlying112 Tryz.underlying37 (by kernel_rfl) (by kernel_rfl) h

end Go.Proofs.YtifangkifpnnpaaGreatDoor
