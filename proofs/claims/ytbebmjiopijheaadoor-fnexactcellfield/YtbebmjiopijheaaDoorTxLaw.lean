/-
  FnExactDecText, walked.
-/
import Derived.Test.YtbebmjiopijheaaDoorTxJ
import Derived.Test.YtbebmjiopijheaaDoorLibC
namespace Go.Proofs.YtbebmjiopijheaaDoor
open Go.RowKit

theorem ItoaC.later {w0 w : World} (h : ItoaC w0) (x : Ext w0 w) : ItoaC w := fun n w1 a b c => h n w1 a b (xt x c)
theorem string_ext {s t : ByteArray} (h : s.data.toList = t.data.toList) : s = t := by
  cases s
  cases t
  simp only [ByteArray.mk.injEq]
  exact Array.toList_inj.1 h


end Go.Proofs.YtbebmjiopijheaaDoor

