/-
  Several texts in one: V6e, V6f.
-/
import Derived.Test.YtkadkfmidlhedaaGreatDoorMg4
namespace Go.Proofs.YtkadkfmidlhedaaGreatDoor
open Go.RowKit
end Go.Proofs.YtkadkfmidlhedaaGreatDoor

