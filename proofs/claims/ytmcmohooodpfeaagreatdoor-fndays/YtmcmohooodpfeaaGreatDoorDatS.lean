/-
  The specification's small functions of dates that read no table.
-/
import Derived.Test.YtmcmohooodpfeaaGreatDoorDatP
namespace Go.Proofs.YtmcmohooodpfeaaGreatDoor
open Go.RowKit

set_option maxHeartbeats 400000 in
theorem fdivS (a b : Int) (w : World) (hb : 0 < b) (a1 : -9223372036854775808 ≤ a) (a2 : a ≤ 9223372036854775807) :
    Calls Tryz.prog 44 #[.int .i64 a, .int .i64 b] w fun e w' => e = .returned (.int .i64 (a / b)) ∧ w' = w := by
  have fl := floor_of a b hb
  have hf := ediv_fits hb a1 a2
  obtain ⟨Q, hQ⟩ : ∃ Q, a / b = Q := ⟨_, rfl⟩
  rw [hQ] at fl hf ⊢
  clear hQ
  go_enter Tryz.func44, Tryz.ntmps44
  go_wp2
  all_goals go_ret
  all_goals refine ⟨ret_int ?_, rfl⟩
  all_goals simp_all [wrap64]
  all_goals omega

set_option maxHeartbeats 400000 in
theorem fmodS (a b : Int) (w : World) (hb : 0 < b) (hb2 : b ≤ 9223372036854775807) (a1 : -9223372036854775808 ≤ a) (a2 : a ≤ 9223372036854775807) :
    Calls Tryz.prog 29 #[.int .i64 a, .int .i64 b] w fun e w' => e = .returned (.int .i64 (a % b)) ∧ w' = w := by
  have e := Int.mul_ediv_add_emod a b
  have m1 := Int.emod_nonneg a (show b ≠ 0 by omega)
  have m2 := Int.emod_lt_of_pos a hb
  have C := fdivS a b w hb a1 a2
  obtain ⟨Q, hQ⟩ : ∃ Q, a / b = Q := ⟨_, rfl⟩
  obtain ⟨R, hR⟩ : ∃ R, a % b = R := ⟨_, rfl⟩
  rw [hQ] at e C
  rw [hR] at e m1 m2 ⊢
  clear hQ hR
  go_enter Tryz.func29, Tryz.ntmps29
  go_wp2_with (go_at_call 44; refine C.mono ?_; rintro e w' ⟨rfl, rfl⟩)
  all_goals go_ret
  all_goals refine ⟨ret_int ?_, rfl⟩
  all_goals simp only [wrap64]
  all_goals omega

set_option maxHeartbeats 400000 in
theorem calS (cal : Int) (w : World) :
    Calls Tryz.prog 25 #[.int .i64 cal] w fun e w' => e = .returned (.bool (decide (cal = 1 ∨ cal = 2))) ∧ w' = w := by
  go_enter Tryz.func25, Tryz.ntmps25
  go_wp2
  all_goals go_ret
  all_goals refine ⟨ret_bool ?_, rfl⟩
  all_goals by_cases h1 : cal = 1 <;> by_cases h2 : cal = 2 <;> simp_all
set_option maxHeartbeats 400000 in
theorem yearS (n : Int) (w : World) :
    Calls Tryz.prog 45 #[.int .i64 n] w fun e w' => e = .returned (.bool (decide (-5000 ≤ n ∧ n ≤ 9999))) ∧ w' = w := by
  go_enter Tryz.func45, Tryz.ntmps45
  go_wp2
  all_goals go_ret
  all_goals refine ⟨ret_bool ?_, rfl⟩
  all_goals simp_all
  all_goals (intros; omega)
set_option maxHeartbeats 400000 in
theorem dayS (n : Int) (w : World) :
    Calls Tryz.prog 26 #[.int .i64 n] w fun e w' => e = .returned (.bool (decide (-1000000 ≤ n ∧ n ≤ 1000000))) ∧ w' = w := by
  go_enter Tryz.func26, Tryz.ntmps26
  go_wp2
  all_goals go_ret
  all_goals refine ⟨ret_bool ?_, rfl⟩
  all_goals simp_all
  all_goals (intros; omega)
set_option maxHeartbeats 400000 in
theorem leapS (cal y : Int) (w : World) (hc : cal = 1 ∨ cal = 2) (a1 : -9223372036854775808 ≤ y) (a2 : y ≤ 9223372036854775807) :
    Calls Tryz.prog 62 #[.int .i64 cal, .int .i64 y] w fun e w' => e = .returned (.bool (leapY cal y)) ∧ w' = w := by
  rcases hc with rfl | rfl
  · go_enter Tryz.func62, Tryz.ntmps62
    go_wp2_with (go_at_call 29; refine (fmodS _ _ _ (by omega) (by omega) (by omega) (by omega)).mono ?_; rintro e w' ⟨rfl, rfl⟩)
    all_goals go_ret
    all_goals refine ⟨ret_bool ?_, rfl⟩
    all_goals simp_all [leapY]
    all_goals by_cases k4 : y % 4 = 0 <;> by_cases k1 : y % 100 = 0 <;> by_cases k2 : y % 400 = 0 <;> simp_all
  · go_enter Tryz.func62, Tryz.ntmps62
    go_wp2_with (go_at_call 29; refine (fmodS _ _ _ (by omega) (by omega) (by omega) (by omega)).mono ?_; rintro e w' ⟨rfl, rfl⟩)
    all_goals go_ret
    all_goals refine ⟨ret_bool ?_, rfl⟩
    all_goals by_cases k4 : y % 4 = 0 <;> simp_all [leapY]

end Go.Proofs.YtmcmohooodpfeaaGreatDoor
