/-
  Several texts in one: V6e, V6f.
-/
import Derived.Test.YtkadkfmidlhedaaGreatDoorMg4
import Derived.Test.YtkadkfmidlhedaaGreatDoorMg26
namespace Go.Proofs.YtkadkfmidlhedaaGreatDoor
open Go.RowKit

end Go.Proofs.YtkadkfmidlhedaaGreatDoor

