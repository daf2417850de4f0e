/-
  Several texts in one: ImC, ImD.
-/
import Derived.Test.YtbomplppgobkdaaGreatDoorMg17
import Derived.Test.YtbomplppgobkdaaGreatDoorImB
import Derived.Test.YtbomplppgobkdaaGreatDoorWideC
import Derived.Test.YtbomplppgobkdaaGreatDoorMg5
import Derived.Deep.RegionHeld3
import Derived.Deep.DeepCutAuto
import Derived.Deep.CutBlock
namespace Go.Proofs.YtbomplppgobkdaaGreatDoor
open Go.RowKit

end Go.Proofs.YtbomplppgobkdaaGreatDoor

