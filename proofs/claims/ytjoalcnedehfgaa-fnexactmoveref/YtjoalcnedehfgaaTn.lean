/-
  Turns: GoodTurn on both sides (Tg), beside the areas' texts.
-/
import Derived.Test.YtjoalcnedehfgaaHulS
import Derived.Test.YtjoalcnedehfgaaTg
