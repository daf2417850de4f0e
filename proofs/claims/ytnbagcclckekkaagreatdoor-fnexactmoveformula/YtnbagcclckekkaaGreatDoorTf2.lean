/-
  Chapter 5: TurnFormula of the specification.
-/
import Derived.Test.YtnbagcclckekkaaGreatDoorMg45
import Derived.Test.YtnbagcclckekkaaGreatDoorMg46
import Derived.Test.YtnbagcclckekkaaGreatDoorGs8
namespace Go.Proofs.YtnbagcclckekkaaGreatDoor
open Go.RowKit
theorem take_map_succ {T:AT→Option AT} {f:List NT} {k:Nat} {x:NT} (h:f[k]?=some x):(f.take (k+1)).map (rwN T)=(f.take k).map (rwN T)++[rwN T x]:=by
 rw [List.take_add_one,h,List.map_append];rfl
end Go.Proofs.YtnbagcclckekkaaGreatDoor

