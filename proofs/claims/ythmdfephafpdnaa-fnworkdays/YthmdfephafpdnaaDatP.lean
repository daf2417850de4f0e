/-
  Floor division; the program's and the specification's small functions of dates that read no table.
-/
import Derived.Test.YthmdfephafpdnaaBase
import Derived.Test.YthmdfephafpdnaaDatN
namespace Go.Proofs.Ythmdfephafpdnaa
open Go.RowKit

theorem xdN' {a b : World} (h : Ext a b) (n : Nat) : Ext a (b.drewN n) := ⟨h.os, h.tape, h.output, h.size, h.block⟩
theorem fit64 {a : Int} (h1 : -9223372036854775808 ≤ a) (h2 : a ≤ 9223372036854775807) : IntKind.i64.wrap a = a := by rw [IntKind.wrap_i64]; omega

/-- Go's quotient, put right, is the floor's. -/
theorem floor_of (a b : Int) (hb : 0 < b) : (if a.tmod b ≠ 0 ∧ a < 0 then a.tdiv b - 1 else a.tdiv b) = a / b := by
  rw [tdiv_cases, tmod_cases]
  have e := Int.mul_ediv_add_emod a b
  have e' := Int.mul_ediv_add_emod (-a) b
  have m1 := Int.emod_nonneg a (show b ≠ 0 by omega)
  have m2 := Int.emod_lt_of_pos a hb
  have n1 := Int.emod_nonneg (-a) (show b ≠ 0 by omega)
  have n2 := Int.emod_lt_of_pos (-a) hb
  by_cases h : 0 ≤ a
  · simp only [h, if_true]
    rw [if_neg (by omega)]
  · simp only [h, if_false]
    by_cases k : (-a) % b = 0
    · rw [if_neg (by omega)]
      have : b * (a / b) + a % b = - (b * ((-a) / b)) := by omega
      have hd : b ∣ a := by
        have : b ∣ -a := Int.dvd_of_emod_eq_zero k
        exact (Int.dvd_neg).1 this
      have : -((-a) / b) = a / b := by rw [Int.neg_ediv_of_dvd hd]; omega
      exact this
    · rw [if_pos (by omega)]
      have h1 : b * (-((-a) / b) - 1) ≤ a := by
        have : b * (-((-a) / b) - 1) = -(b * ((-a) / b)) - b := by rw [Int.mul_sub, Int.mul_neg, Int.mul_one]
        omega
      have h2 : a < b * (-((-a) / b) - 1 + 1) := by
        have : b * (-((-a) / b) - 1 + 1) = -(b * ((-a) / b)) := by rw [show -((-a) / b) - 1 + 1 = -((-a) / b) by omega, Int.mul_neg]
        omega
      symm
      exact Int.le_antisymm (Int.lt_add_one_iff.1 (Int.ediv_lt_of_lt_mul hb (by rw [Int.mul_comm]; exact h2))) ((Int.le_ediv_iff_mul_le hb).2 (by rw [Int.mul_comm]; exact h1))

theorem ediv_fits {a b : Int} (hb : 0 < b) (a1 : -9223372036854775808 ≤ a) (a2 : a ≤ 9223372036854775807) : -9223372036854775808 ≤ a / b ∧ a / b ≤ 9223372036854775807 := by
  refine ⟨(Int.le_ediv_iff_mul_le hb).2 ?_, ?_⟩
  · have : (-9223372036854775808 : Int) * b ≤ -9223372036854775808 * 1 := Int.mul_le_mul_of_nonpos_left (by omega) (by omega)
    omega
  · by_cases h : 0 ≤ a
    · exact Int.le_trans (Int.ediv_le_self _ h) a2
    · have := Int.ediv_neg_of_neg_of_pos (show a < 0 by omega) hb
      omega

set_option maxHeartbeats 400000 in
theorem fdivI (a b : Int) (w : World) (hb : 0 < b) (a1 : -9223372036854775808 ≤ a) (a2 : a ≤ 9223372036854775807) :
    Calls Try.prog 27 #[.int .i64 a, .int .i64 b] w fun e w' => e = .returned (.int .i64 (a / b)) ∧ w' = w := by
  have fl := floor_of a b hb
  have hf := ediv_fits hb a1 a2
  obtain ⟨Q, hQ⟩ : ∃ Q, a / b = Q := ⟨_, rfl⟩
  rw [hQ] at fl hf ⊢
  clear hQ
  go_enter Try.func27, Try.ntmps27
  go_wp2
  all_goals go_ret
  all_goals refine ⟨ret_int ?_, rfl⟩
  all_goals simp_all [wrap64]
  all_goals omega

set_option maxHeartbeats 400000 in
theorem fmodI (a b : Int) (w : World) (hb : 0 < b) (hb2 : b ≤ 9223372036854775807) (a1 : -9223372036854775808 ≤ a) (a2 : a ≤ 9223372036854775807) :
    Calls Try.prog 18 #[.int .i64 a, .int .i64 b] w fun e w' => e = .returned (.int .i64 (a % b)) ∧ w' = w := by
  have e := Int.mul_ediv_add_emod a b
  rw [Int.mul_comm] at e
  have m1 := Int.emod_nonneg a (show b ≠ 0 by omega)
  have m2 := Int.emod_lt_of_pos a hb
  have C := fdivI a b w hb a1 a2
  obtain ⟨Q, hQ⟩ : ∃ Q, a / b = Q := ⟨_, rfl⟩
  obtain ⟨R, hR⟩ : ∃ R, a % b = R := ⟨_, rfl⟩
  rw [hQ] at e C
  rw [hR] at e m1 m2 ⊢
  clear hQ hR
  go_enter Try.func18, Try.ntmps18
  go_wp2_with (go_at_call 27; refine C.mono ?_; rintro e w' ⟨rfl, rfl⟩)
  all_goals go_ret
  all_goals refine ⟨ret_int ?_, rfl⟩
  all_goals simp only [wrap64]
  all_goals omega

theorem tmod_zero (a b : Int) : (a.tmod b == 0) = decide (a % b = 0) := by
  have h : a.tmod b = 0 ↔ a % b = 0 := by rw [← Int.dvd_iff_tmod_eq_zero, ← Int.dvd_iff_emod_eq_zero]
  by_cases k : a % b = 0
  · rw [h.2 k]; simp [k]
  · have : ¬ a.tmod b = 0 := fun e => k (h.1 e)
    simp [k, this]

set_option maxHeartbeats 400000 in
theorem dayI (n : Int) (w : World) :
    Calls Try.prog 14 #[.int .i64 n] w fun e w' => e = .returned (.bool (decide (-1000000 ≤ n ∧ n ≤ 1000000))) ∧ w' = w := by
  go_enter Try.func14, Try.ntmps14
  go_wp2
  all_goals go_ret
  all_goals refine ⟨ret_bool ?_, rfl⟩
  all_goals simp_all
  all_goals (intros; omega)
end Go.Proofs.Ythmdfephafpdnaa
