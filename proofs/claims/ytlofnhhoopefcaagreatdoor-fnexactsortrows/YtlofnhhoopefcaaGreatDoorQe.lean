/-
  Chapter 11: two cells the same; the rows that a function takes, of the program.
-/
import Derived.Test.YtlofnhhoopefcaaGreatDoorMg12
import Derived.Test.YtlofnhhoopefcaaGreatDoorV6u
namespace Go.Proofs.YtlofnhhoopefcaaGreatDoor
open Go.RowKit

def cmpQ (a b : VT) : Int := compareV a.k a.n a.d a.x a.t b.k b.n b.d b.x b.t
/-- What is asked of a value's room. -/
def VT.room (e : VT) : Prop := e.t.length ≤ 2000000 ∧ -9223372036854775808 ≤ e.d ∧ e.d ≤ 9223372036854775807
end Go.Proofs.YtlofnhhoopefcaaGreatDoor

