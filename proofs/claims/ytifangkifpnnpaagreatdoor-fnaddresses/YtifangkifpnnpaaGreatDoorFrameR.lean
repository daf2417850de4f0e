/-
  Refs and areas that came in, opened.
-/
import Derived.Test.YtifangkifpnnpaaGreatDoorFrameB
import Derived.Test.YtifangkifpnnpaaGreatDoorRef
namespace Go.Proofs.YtifangkifpnnpaaGreatDoor
open Go.ChangeShapes Go.WideShapes Go.ChangeAt Go.RowKit

abbrev areaV (r c : Int) (rf cf : Bool) (r' c' : Int) (rf' cf' : Bool) : Value := .agg #[.int .i64 r, .int .i64 c, .bool rf, .bool cf, .int .i64 r', .int .i64 c', .bool rf', .bool cf']


end Go.Proofs.YtifangkifpnnpaaGreatDoor
