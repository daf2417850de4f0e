/-
  Chapter 6: values compared; the law of GoodValue.
-/
import Derived.Test.YtchpieciifhplaaGreatDoorV6b
namespace Go.Proofs.YtchpieciifhplaaGreatDoor
open Go.RowKit



end Go.Proofs.YtchpieciifhplaaGreatDoor

