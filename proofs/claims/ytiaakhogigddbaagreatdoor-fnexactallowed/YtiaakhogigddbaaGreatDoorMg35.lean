/-
  Several texts in one: V6e, V6f.
-/
import Derived.Test.YtiaakhogigddbaaGreatDoorMg4
namespace Go.Proofs.YtiaakhogigddbaaGreatDoor
open Go.RowKit
end Go.Proofs.YtiaakhogigddbaaGreatDoor

