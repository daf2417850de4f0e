/-
  The program's DecMul, DecOf.
-/
import Derived.Test.YthkamjoogfeilaaGreatDoorImE
import Derived.Test.YthkamjoogfeilaaGreatDoorSized
namespace Go.Proofs.YthkamjoogfeilaaGreatDoor
open Go.RowKit

def badR : DR := ⟨false, false, 0, 0⟩
/-- What DecMul answers. -/
def mulR (na : Bool) (da ea : Int) (nb : Bool) (db eb : Int) : DR := if (goodB na da ea && goodB nb db eb) = true then putR (na != nb) (da.toNat * db.toNat) (ea + eb) false else badR
/-- What DecOf answers. -/
def ofR (d e : Int) : DR := if -1000 ≤ e ∧ e ≤ 1000 then putR (decide (d < 0)) d.natAbs e false else badR


set_option maxRecDepth 4000 in
set_option maxHeartbeats 1000000 in
theorem within_any (n m : Int) (c : Bool) (w : World) (hc : decide (-m ≤ n ∧ n ≤ m) = c) (m0 : 0 ≤ m) (m1 : m ≤ 100000) :
    Calls Tryz.prog 52 #[.int .i64 n, .int .i64 m] w fun r w' => r = .returned (.bool c) ∧ w' = w := by
  have H : Hid (∀ b : Bool, (b = true ↔ -m ≤ n ∧ n ≤ m) → b = c) := fun b hb => by
    rw [← hc, Bool.eq_iff_iff, decide_eq_true_eq]; exact hb
  clear hc
  by_cases h1 : -m ≤ n
  · go_enter Tryz.func52, Tryz.ntmps52
    go_wp2
    all_goals go_ret
    all_goals exact ⟨ret_bool (H.out _ (by simp [h1])), rfl⟩
  · have h1' : n < -m := by omega
    go_enter Tryz.func52, Tryz.ntmps52
    go_wp2
    all_goals go_ret
    all_goals exact ⟨ret_bool (H.out _ (by simp; omega)), rfl⟩


end Go.Proofs.YthkamjoogfeilaaGreatDoor

