/-
  Chapter 4: GoodFormula: the law.
-/
import Derived.Test.YtnbagcclckekkaaGreatDoorGs8
import Derived.Test.YtnbagcclckekkaaGreatDoorMg39
import Derived.Test.YtnbagcclckekkaaGreatDoorN7d
namespace Go.Proofs.YtnbagcclckekkaaGreatDoor
open Go.RowKit
end Go.Proofs.YtnbagcclckekkaaGreatDoor

