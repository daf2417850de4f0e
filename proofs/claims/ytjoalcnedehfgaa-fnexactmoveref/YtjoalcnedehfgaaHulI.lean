/-
  Hull on both sides.
-/
import Derived.Test.YtjoalcnedehfgaaHul
import Derived.Deep.DeepCutAuto
namespace Go.Proofs.Ytjoalcnedehfgaa
open Go.RowKit

/-- What Hull answers. -/
def hullB (r c r' c' s d s' d' : Int) : Value :=
  if goodAB r c r' c' = true ∧ goodAB s d s' d' = true then arV (lo (lo r r') (lo s s')) (lo (lo c c') (lo d d')) false false (hi (hi r r') (hi s s')) (hi (hi c c') (hi d d')) false false else arV 0 0 false false 0 0 false false
end Go.Proofs.Ytjoalcnedehfgaa
