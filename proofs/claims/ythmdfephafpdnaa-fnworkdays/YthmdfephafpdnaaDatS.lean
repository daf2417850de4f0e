/-
  The specification's small functions of dates that read no table.
-/
import Derived.Test.YthmdfephafpdnaaDatP
namespace Go.Proofs.Ythmdfephafpdnaa
open Go.RowKit

set_option maxHeartbeats 400000 in
theorem fdivS (a b : Int) (w : World) (hb : 0 < b) (a1 : -9223372036854775808 ≤ a) (a2 : a ≤ 9223372036854775807) :
    Calls Try.prog 26 #[.int .i64 a, .int .i64 b] w fun e w' => e = .returned (.int .i64 (a / b)) ∧ w' = w := by
  have fl := floor_of a b hb
  have hf := ediv_fits hb a1 a2
  obtain ⟨Q, hQ⟩ : ∃ Q, a / b = Q := ⟨_, rfl⟩
  rw [hQ] at fl hf ⊢
  clear hQ
  go_enter Try.func26, Try.ntmps26
  go_wp2
  all_goals go_ret
  all_goals refine ⟨ret_int ?_, rfl⟩
  all_goals simp_all [wrap64]
  all_goals omega

set_option maxHeartbeats 400000 in
theorem fmodS (a b : Int) (w : World) (hb : 0 < b) (hb2 : b ≤ 9223372036854775807) (a1 : -9223372036854775808 ≤ a) (a2 : a ≤ 9223372036854775807) :
    Calls Try.prog 17 #[.int .i64 a, .int .i64 b] w fun e w' => e = .returned (.int .i64 (a % b)) ∧ w' = w := by
  have e := Int.mul_ediv_add_emod a b
  have m1 := Int.emod_nonneg a (show b ≠ 0 by omega)
  have m2 := Int.emod_lt_of_pos a hb
  have C := fdivS a b w hb a1 a2
  obtain ⟨Q, hQ⟩ : ∃ Q, a / b = Q := ⟨_, rfl⟩
  obtain ⟨R, hR⟩ : ∃ R, a % b = R := ⟨_, rfl⟩
  rw [hQ] at e C
  rw [hR] at e m1 m2 ⊢
  clear hQ hR
  go_enter Try.func17, Try.ntmps17
  go_wp2_with (go_at_call 26; refine C.mono ?_; rintro e w' ⟨rfl, rfl⟩)
  all_goals go_ret
  all_goals refine ⟨ret_int ?_, rfl⟩
  all_goals simp only [wrap64]
  all_goals omega

set_option maxHeartbeats 400000 in
theorem dayS (n : Int) (w : World) :
    Calls Try.prog 16 #[.int .i64 n] w fun e w' => e = .returned (.bool (decide (-1000000 ≤ n ∧ n ≤ 1000000))) ∧ w' = w := by
  go_enter Try.func16, Try.ntmps16
  go_wp2
  all_goals go_ret
  all_goals refine ⟨ret_bool ?_, rfl⟩
  all_goals simp_all
  all_goals (intros; omega)
end Go.Proofs.Ythmdfephafpdnaa
