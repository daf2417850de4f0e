/-
  The program's numbers of two words, the calls on them: times a power of ten.
-/
import Derived.Test.YtnphbpmdohidcaaDoorMg0
import Derived.Deep.RegionHeld3
namespace Go.Proofs.YtnphbpmdohidcaaDoor
open Go.RowKit
end Go.Proofs.YtnphbpmdohidcaaDoor

