/-
  math/bits.Div64.
-/
import Derived.Test.YtbomplppgobkdaaGreatDoorMg0
import Derived.Test.YtbomplppgobkdaaGreatDoorMg17
import Derived.Test.YtbomplppgobkdaaGreatDoorShelb
import Derived.Shelf.Small.Bits
import Derived.Deep.DeepCutAuto
import Derived.Deep.CutBlock
namespace Go.Proofs.YtbomplppgobkdaaGreatDoor
open Go.RowKit

end Go.Proofs.YtbomplppgobkdaaGreatDoor

