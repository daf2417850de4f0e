/-
  Its layings stand in the first shelf.
-/
import Derived.Test.YtjlojlgdkfpcdaaGreatDoorShelf


