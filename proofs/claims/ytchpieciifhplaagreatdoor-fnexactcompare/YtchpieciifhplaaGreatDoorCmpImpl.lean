/-
  The program's compareSizes.
-/
import Derived.Test.YtchpieciifhplaaGreatDoorWideC
import Derived.Test.YtchpieciifhplaaGreatDoorWideE
import Derived.Test.YtchpieciifhplaaGreatDoorMg0
namespace Go.Proofs.YtchpieciifhplaaGreatDoor
open Go.RowKit

set_option maxHeartbeats 1000000 in
theorem compare_int (x y : Int) (w : World) :
    Calls Tryz.prog 15 #[.int .i64 x, .int .i64 y] w fun e w' => e = .returned (.int .i64 (cmpI x y)) ∧ w' = w := by
  have H : Hid (cmpI x y = if x < y then -1 else if y < x then 1 else 0) := rfl
  go_enter Tryz.func15, Tryz.ntmps15
  go_wp2
  all_goals go_ret
  all_goals refine ⟨ret_int ?_, rfl⟩
  all_goals (rw [H.out]; split <;> (try split) <;> omega)

set_option maxHeartbeats 1000000 in
theorem compare_u64 (x y : Int) (w : World) :
    Calls Tryz.prog 53 #[.int .u64 x, .int .u64 y] w fun e w' => e = .returned (.int .i64 (cmpI x y)) ∧ w' = w := by
  have H : Hid (cmpI x y = if x < y then -1 else if y < x then 1 else 0) := rfl
  go_enter Tryz.func53, Tryz.ntmps53
  go_wp2
  all_goals go_ret
  all_goals refine ⟨ret_int ?_, rfl⟩
  all_goals (rw [H.out]; split <;> (try split) <;> omega)

/-- The sizes' order. -/
def cmpSize (da ea db eb : Int) : Int := cmpI (da * 10 ^ (ea - min ea eb).toNat) (db * 10 ^ (eb - min ea eb).toNat)

theorem ten_pos (n : Nat) : (0 : Int) < 10 ^ n := Int.pow_pos (by decide)
theorem cast_ten (a p : Nat) : ((a * 10 ^ p : Nat) : Int) = (a : Int) * 10 ^ p := by rw [Int.natCast_mul, Int.natCast_pow]; rfl
theorem cmpI_mul {x y c : Int} (hc : 0 < c) : cmpI (x * c) (y * c) = cmpI x y := by
  have e : x * c < y * c ↔ x < y := Int.mul_lt_mul_right hc
  have e' : y * c < x * c ↔ y < x := Int.mul_lt_mul_right hc
  unfold cmpI
  simp only [e, e']
theorem cmpI_flip (x y : Int) : cmpI x y = -cmpI y x := by unfold cmpI; split <;> (try split) <;> (try split) <;> (try split) <;> omega

theorem Dig.low {a k : Nat} (h : Dig a k) (h0 : 0 < a) : 0 < k ∧ 10 ^ (k - 1) ≤ a := by
  obtain ⟨h1, h2⟩ := h
  rcases h2 with rfl | h2
  · simp at h1; omega
  · refine ⟨?_, h2⟩
    by_cases hk : k = 0
    · subst hk; simp at h1; omega
    · omega

theorem nat_lt {da db ka kb p q : Nat} (ha : da < 10 ^ ka) (hb : 10 ^ (kb - 1) ≤ db) (hk : 0 < kb) (h : ka + p + 1 ≤ kb + q) : da * 10 ^ p < db * 10 ^ q := by
  have h1 : da * 10 ^ p < 10 ^ ka * 10 ^ p := Nat.mul_lt_mul_of_pos_right ha (Nat.pow_pos (by decide))
  have h2 : 10 ^ (kb - 1) * 10 ^ q ≤ db * 10 ^ q := Nat.mul_le_mul_right _ hb
  have h3 : 10 ^ ka * 10 ^ p ≤ 10 ^ (kb - 1) * 10 ^ q := by
    rw [← Nat.pow_add, ← Nat.pow_add]
    exact Nat.pow_le_pow_right (by decide) (by omega)
  omega

/-- Of two numbers the one whose first digit stands higher is the greater. -/
theorem size_lt {da db : Nat} {ea eb : Int} {ka kb : Nat} (ha : Dig da ka) (hb : Dig db kb) (hb0 : 0 < db) (h : ea + ka < eb + kb) : (da : Int) * 10 ^ (ea - min ea eb).toNat < (db : Int) * 10 ^ (eb - min ea eb).toNat := by
  obtain ⟨b1, b2⟩ := hb.low hb0
  have := nat_lt (p := (ea - min ea eb).toNat) (q := (eb - min ea eb).toNat) ha.1 b2 b1 (by omega)
  rw [← cast_ten, ← cast_ten]
  omega
theorem size_gt {da db : Nat} {ea eb : Int} {ka kb : Nat} (ha : Dig da ka) (hb : Dig db kb) (ha0 : 0 < da) (h : eb + kb < ea + ka) : (db : Int) * 10 ^ (eb - min ea eb).toNat < (da : Int) * 10 ^ (ea - min ea eb).toNat := by
  obtain ⟨b1, b2⟩ := ha.low ha0
  have := nat_lt (p := (eb - min ea eb).toNat) (q := (ea - min ea eb).toNat) hb.1 b2 b1 (by omega)
  rw [← cast_ten, ← cast_ten]
  omega
theorem size_first {da db : Nat} {ea eb : Int} {ka kb : Nat} (ha : Dig da ka) (hb : Dig db kb) (ha0 : 0 < da) (hb0 : 0 < db) (h : ea + ka ≠ eb + kb) : cmpI (ea + ka) (eb + kb) = cmpSize da ea db eb := by
  unfold cmpSize
  by_cases hl : ea + ka < eb + kb
  · rw [cmpI_lt hl, cmpI_lt (size_lt ha hb hb0 hl)]
  · rw [cmpI_gt (by omega), cmpI_gt (size_gt ha hb ha0 (by omega))]
theorem size_same {da db : Nat} {ea eb : Int} {ka kb : Nat} (ka15 : ka ≤ 15) (kb15 : kb ≤ 15) (h : ea + ka = eb + kb) : cmpI ((da * 10 ^ (15 - ka) : Nat) : Int) ((db * 10 ^ (15 - kb) : Nat) : Int) = cmpSize da ea db eb := by
  obtain ⟨p, hp⟩ : ∃ p, (ea - min ea eb).toNat = p := ⟨_, rfl⟩
  obtain ⟨q, hq⟩ : ∃ q, (eb - min ea eb).toNat = q := ⟨_, rfl⟩
  obtain ⟨c, hc⟩ : ∃ c, 15 - ka = p + c := ⟨15 - ka - p, by omega⟩
  have hc' : 15 - kb = q + c := by omega
  unfold cmpSize
  rw [hp, hq, hc, hc', cast_ten, cast_ten, Int.pow_add, Int.pow_add, ← Int.mul_assoc, ← Int.mul_assoc]
  exact cmpI_mul (ten_pos c)
theorem size_zero {da db : Nat} {ea eb : Int} (h : da = 0 ∨ db = 0) : cmpI (da : Int) (db : Int) = cmpSize da ea db eb := by
  unfold cmpSize
  rcases h with rfl | rfl
  · by_cases hd : db = 0
    · subst hd; simp
    · rw [cmpI_lt (by omega), cmpI_lt]
      have := Int.mul_pos (show (0 : Int) < (db : Int) by omega) (ten_pos (eb - min ea eb).toNat)
      simpa using this
  · by_cases hd : da = 0
    · subst hd; simp
    · rw [cmpI_gt (by omega), cmpI_gt]
      have := Int.mul_pos (show (0 : Int) < (da : Int) by omega) (ten_pos (ea - min ea eb).toNat)
      simpa using this
theorem Dig.le15 {a k : Nat} (h : Dig a k) (ha : a < 1000000000000000) : k ≤ 15 := by
  by_cases hk : k ≤ 15
  · exact hk
  · obtain ⟨_, h2⟩ := h
    rcases h2 with rfl | h2
    · omega
    · have : 10 ^ 15 ≤ 10 ^ (k - 1) := Nat.pow_le_pow_right (by decide) (by omega)
      have e : (10 : Nat) ^ 15 = 1000000000000000 := by decide
      omega
theorem fit128 {a k : Nat} (h : Dig a k) (hk : k ≤ 15) : a * 10 ^ (15 - k) < 1000000000000000 := by
  have h1 : a * 10 ^ (15 - k) < 10 ^ k * 10 ^ (15 - k) := Nat.mul_lt_mul_of_pos_right h.1 (Nat.pow_pos (by decide))
  rw [← Nat.pow_add, show k + (15 - k) = 15 by omega] at h1
  have e : (10 : Nat) ^ 15 = 1000000000000000 := by decide
  omega

end Go.Proofs.YtchpieciifhplaaGreatDoor

