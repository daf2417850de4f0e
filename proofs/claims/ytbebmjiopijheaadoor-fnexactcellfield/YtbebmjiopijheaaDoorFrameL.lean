/-
  The table of the library out of what a row lists.
-/
import Derived.Test.YtbebmjiopijheaaDoorFrameB
import Derived.Test.YtbebmjiopijheaaDoorLibC
import Derived.Stop.LaidErr
namespace Go.Proofs.YtbebmjiopijheaaDoor
open Go.ChangeShapes Go.WideShapes Go.ChangeAt Go.RowKit

theorem gPow10Type : (Tryd.prog.globals[3]?).map (·.type) = some 63 := by kernel_rfl
theorem pow10_of {rest : List (String × DataW Unit)} {W : World} (h : laidMet Tryd.prog (("internal/strconv.uint64pow10", Rows.laid_internal_strconv_uint64pow10) :: rest) W) : Lib.TabIs Tryd.prog W "internal/strconv.uint64pow10" .u64 Lib.pow10Tab :=
  Lib.tabIs_of_head (rest := rest) gPow10 gPow10Type Tryd.underlying63 Tryd.underlying62 (by kernel_rfl) (by kernel_rfl) h

end Go.Proofs.YtbebmjiopijheaaDoor

