/-
  l1Mul, for all numbers; l1Power and l1Ten.
-/
import Derived.Test.YtbebmjiopijheaaDoorMulA
import Derived.Test.YtbebmjiopijheaaDoorMulB
import Derived.Test.YtbebmjiopijheaaDoorMulC
namespace Go.Proofs.YtbebmjiopijheaaDoor
open Go.RowKit

theorem mul_any {va vb : Value} {a b : Int} (w : World) (ha : ZV w va a) (hb : ZV w vb b) (k : Nat) (hk : k ≤ 1000000000) (ka : (a.natAbs : Int) < 1000000000 ^ k) (kb : (b.natAbs : Int) < 1000000000 ^ k) :
    Calls Tryd.prog 58 #[va, vb] w fun e w' => ∃ v', e = .returned v' ∧ ZV w' v' (a * b) ∧ Ext w w' := by
  cases sa : smallB a
  · exact mul_bigA w ha hb sa k hk ka kb
  · cases sb : smallB b
    · exact mul_bigB w ha hb sa sb k hk ka kb
    · by_cases hp : (a.natAbs : Int) = 0 ∨ (b.natAbs : Int) ≤ 999999999999999999 / (a.natAbs : Int)
      · exact mul_fast w ha hb sa sb hp
      · have h1 : ¬ (a.natAbs : Int) = 0 := fun h => hp (.inl h)
        have h2 : ¬ (b.natAbs : Int) ≤ 999999999999999999 / (a.natAbs : Int) := fun h => hp (.inr h)
        exact mul_bigAB w ha hb sa sb (by rw [beq_eq_false_iff_ne]; exact h1) (by omega) k hk ka kb

end Go.Proofs.YtbebmjiopijheaaDoor

