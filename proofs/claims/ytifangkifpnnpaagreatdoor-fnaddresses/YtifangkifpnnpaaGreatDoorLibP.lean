/-
  What strconv.Itoa gives, as the walks take it.
-/
import Derived.Test.YtifangkifpnnpaaGreatDoorBase
import Derived.Lib.ItoaNum
namespace Go.Proofs.YtifangkifpnnpaaGreatDoor
open Go.RowKit

def ItoaC (w0 : World) : Prop := ∀ (n : Int) (w : World), -1000000000000000 < n → n < 1000000000000000 → Ext w0 w → Calls Tryz.prog 19 #[.int .i64 n] w fun e w' => ∃ s, e = .returned (.string s) ∧ s.data.toList = Lib.itoa n ∧ Ext w w'

end Go.Proofs.YtifangkifpnnpaaGreatDoor
