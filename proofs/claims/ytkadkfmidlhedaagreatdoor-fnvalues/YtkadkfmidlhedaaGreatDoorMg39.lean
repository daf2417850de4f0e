/-
  Several texts in one: V6e, V6f.
-/
import Derived.Test.YtkadkfmidlhedaaGreatDoorMg22
import Derived.Test.YtkadkfmidlhedaaGreatDoorMg3
import Derived.Test.YtkadkfmidlhedaaGreatDoorMg32
set_option maxRecDepth 8000
namespace Go.Proofs.YtkadkfmidlhedaaGreatDoor
open Go.RowKit
end Go.Proofs.YtkadkfmidlhedaaGreatDoor

