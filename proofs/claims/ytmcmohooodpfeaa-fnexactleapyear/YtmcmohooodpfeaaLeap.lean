/-
  LeapYear on both sides.
-/
import Derived.Test.YtmcmohooodpfeaaDatS
namespace Go.Proofs.Ytmcmohooodpfeaa
open Go.RowKit

def leapB (cal y : Int) : Bool := decide (cal = 1 ∨ cal = 2) && decide (-5000 ≤ y ∧ y ≤ 9999) && leapY cal y
set_option maxHeartbeats 400000 in
theorem leapYearI (cal y : Int) (w : World) :
    Calls Try.prog 12 #[.int .i64 cal, .int .i64 y] w fun e w' => e = .returned (.bool (leapB cal y)) ∧ w' = w := by
  have C1 := fun w => calI cal w
  have C2 := fun w => yearI y w
  have C3 := fun w => leapI cal y w
  unfold leapB
  obtain ⟨c1, h1⟩ : ∃ c, decide (cal = 1 ∨ cal = 2) = c := ⟨_, rfl⟩
  obtain ⟨c2, h2⟩ : ∃ c, decide (-5000 ≤ y ∧ y ≤ 9999) = c := ⟨_, rfl⟩
  obtain ⟨c3, h3⟩ : ∃ c, leapY cal y = c := ⟨_, rfl⟩
  rw [h1] at C1 ⊢
  rw [h2] at C2 ⊢
  rw [h3] at C3 ⊢
  clear h1 h2 h3
  go_enter Try.func12, Try.ntmps12
  cases c1 <;> cases c2
  all_goals go_wp2_with (first | (go_at_call 27; refine (C1 _).mono ?_; rintro e w' ⟨rfl, rfl⟩) | (go_at_call 28; refine (C2 _).mono ?_; rintro e w' ⟨rfl, rfl⟩) | (go_at_call 29; refine (C3 _).mono ?_; rintro e w' ⟨rfl, rfl⟩))
  all_goals go_ret
  all_goals exact ⟨rfl, rfl⟩
set_option maxHeartbeats 400000 in
theorem leapYearS (cal y : Int) (w : World) (a1 : -9223372036854775808 ≤ y) (a2 : y ≤ 9223372036854775807) :
    Calls Try.prog 11 #[.int .i64 cal, .int .i64 y] w fun e w' => e = .returned (.bool (leapB cal y)) ∧ w' = w := by
  have C1 := fun w => calS cal w
  have C2 := fun w => yearS y w
  unfold leapB
  by_cases hc : cal = 1 ∨ cal = 2
  · have C3 := fun w => leapS cal y w hc a1 a2
    simp only [hc, decide_true, Bool.true_and] at C1 ⊢
    obtain ⟨c2, h2⟩ : ∃ c, decide (-5000 ≤ y ∧ y ≤ 9999) = c := ⟨_, rfl⟩
    obtain ⟨c3, h3⟩ : ∃ c, leapY cal y = c := ⟨_, rfl⟩
    rw [h2] at C2 ⊢
    rw [h3] at C3 ⊢
    clear h2 h3 hc
    go_enter Try.func11, Try.ntmps11
    cases c2
    all_goals go_wp2_with (first | (go_at_call 24; refine (C1 _).mono ?_; rintro e w' ⟨rfl, rfl⟩) | (go_at_call 25; refine (C2 _).mono ?_; rintro e w' ⟨rfl, rfl⟩) | (go_at_call 26; refine (C3 _).mono ?_; rintro e w' ⟨rfl, rfl⟩))
    all_goals go_ret
    all_goals exact ⟨rfl, rfl⟩
  · simp only [hc, decide_false, Bool.false_and] at C1 ⊢
    clear hc
    go_enter Try.func11, Try.ntmps11
    go_wp2_with (first | (go_at_call 24; refine (C1 _).mono ?_; rintro e w' ⟨rfl, rfl⟩))
    all_goals go_ret
    all_goals exact ⟨rfl, rfl⟩

end Go.Proofs.Ytmcmohooodpfeaa
