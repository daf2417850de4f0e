/-
  Capitals, on both sides.
-/
import Derived.Test.YtbebmjiopijheaaDoorFa
namespace Go.Proofs.YtbebmjiopijheaaDoor
open Go.RowKit



end Go.Proofs.YtbebmjiopijheaaDoor

