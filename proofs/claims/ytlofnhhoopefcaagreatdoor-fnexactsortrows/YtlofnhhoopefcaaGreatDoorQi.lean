/-
  Chapter 11: Runs, of the specification.
-/
import Derived.Test.YtlofnhhoopefcaaGreatDoorQh
namespace Go.Proofs.YtlofnhhoopefcaaGreatDoor
open Go.RowKit

end Go.Proofs.YtlofnhhoopefcaaGreatDoor

