/-
  The table of the library out of what a row lists.
-/
import Derived.Test.YtifangkifpnnpaaDoorFrameR
import Derived.Test.YtifangkifpnnpaaDoorLibR
import Derived.Stop.LaidErr
namespace Go.Proofs.YtifangkifpnnpaaDoor
open Go.ChangeShapes Go.WideShapes Go.ChangeAt Go.RowKit

theorem gPow10Type : (Tryd.prog.globals[2]?).map (·.type) = some 150 := by kernel_rfl
theorem pow10_of {rest : List (String × DataW Unit)} {W : World} (h : laidMet Tryd.prog (("internal/strconv.uint64pow10", Rows.laid_internal_strconv_uint64pow10) :: rest) W) : Lib.TabIs Tryd.prog W "internal/strconv.uint64pow10" .u64 Lib.pow10Tab :=
  Lib.tabIs_of_head (rest := rest) gPow10 gPow10Type Tryd.underlying150 Tryd.underlying92 (by kernel_rfl) (by kernel_rfl) h

end Go.Proofs.YtifangkifpnnpaaDoor
