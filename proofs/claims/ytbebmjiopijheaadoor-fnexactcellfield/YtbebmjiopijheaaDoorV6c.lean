/-
  Chapter 6: values compared; the law of GoodValue.
-/
import Derived.Test.YtbebmjiopijheaaDoorV6b
namespace Go.Proofs.YtbebmjiopijheaaDoor
open Go.RowKit



end Go.Proofs.YtbebmjiopijheaaDoor

