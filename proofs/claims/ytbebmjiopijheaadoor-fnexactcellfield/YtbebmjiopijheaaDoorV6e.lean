/-
  Chapter 6: BoolOf, on both sides.
-/
import Derived.Test.YtbebmjiopijheaaDoorV9e
import Derived.Test.YtbebmjiopijheaaDoorV6d
import Derived.Test.YtbebmjiopijheaaDoorFb
namespace Go.Proofs.YtbebmjiopijheaaDoor
open Go.RowKit

/-- The bool that a value is. -/
def boolOf (k : Int) (n : Bool) (d x : Int) (t : List UInt8) : Value :=
  if k = 0 then boolW false else if k = 1 then boolW (!(zeroD n d x)) else
  if k = 2 then (if boolB (t.map upC) then boolW (t.map upC == trueT) else errW) else valV k n d x t
def boolOfV (k : Int) (n : Bool) (d x : Int) (t : List UInt8) : Value := if goodV k n d x t then boolOf k n d x t else errW


end Go.Proofs.YtbebmjiopijheaaDoor

