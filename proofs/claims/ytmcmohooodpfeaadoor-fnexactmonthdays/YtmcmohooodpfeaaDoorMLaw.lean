/-
  MonthDays of the specification, and the law: the walks.
-/
import Derived.Test.YtmcmohooodpfeaaDoorDatA
import Derived.Test.YtmcmohooodpfeaaDoorDatT
namespace Go.Proofs.YtmcmohooodpfeaaDoor
open Go.RowKit

set_option maxHeartbeats 1000000 in
theorem monthDaysS (cal y m : Int) (w : World) :
    Calls Tryd.prog 9 #[.int .i64 cal, .int .i64 y, .int .i64 m] w fun e w' => e = .returned (.int .i64 (if (cal = 1 ∨ cal = 2) ∧ (-5000 ≤ y ∧ y ≤ 9999) ∧ 1 ≤ m ∧ m ≤ 12 then mlen cal y m else 0)) ∧ Ext w w' := by
  have C1 := fun w => calS cal w
  have C2 := fun w => yearS y w
  by_cases hall : (cal = 1 ∨ cal = 2) ∧ (-5000 ≤ y ∧ y ≤ 9999) ∧ 1 ≤ m ∧ m ≤ 12
  · rw [if_pos hall]
    obtain ⟨hc, hy, hm⟩ := hall
    have C4 := fun w => mlenS cal y m w hc (by omega) (by omega) hm.1 hm.2
    simp only [hc, hy, and_self, decide_true] at C1 C2
    have f1 : decide (m < 1) = false := by simp; omega
    have f2 : decide (m > 12) = false := by simp; omega
    clear hc hy hm
    go_enter Tryd.func9, Tryd.ntmps9
    go_wp2_with (first | (go_at_call 23; refine (C1 _).mono ?_; rintro e w' ⟨rfl, rfl⟩) | (go_at_call 24; refine (C2 _).mono ?_; rintro e w' ⟨rfl, rfl⟩) | (go_at_call 25; refine (C4 _).mono ?_; rintro e w1 ⟨rfl, e1⟩))
    go_ret
    exact ⟨rfl, e1⟩
  · rw [if_neg hall]
    by_cases hc : cal = 1 ∨ cal = 2
    · by_cases hy : -5000 ≤ y ∧ y ≤ 9999
      · simp only [hc, hy, and_self, decide_true] at C1 C2
        by_cases m1 : m < 1
        · have f1 : decide (m < 1) = true := by simp; omega
          clear hc hy hall m1
          go_enter Tryd.func9, Tryd.ntmps9
          go_wp2_with (first | (go_at_call 23; refine (C1 _).mono ?_; rintro e w' ⟨rfl, rfl⟩) | (go_at_call 24; refine (C2 _).mono ?_; rintro e w' ⟨rfl, rfl⟩))
          go_ret
          exact ⟨rfl, xr _⟩
        · have f1 : decide (m < 1) = false := by simp; omega
          have f2 : decide (m > 12) = true := by simp; omega
          clear hc hy hall m1
          go_enter Tryd.func9, Tryd.ntmps9
          go_wp2_with (first | (go_at_call 23; refine (C1 _).mono ?_; rintro e w' ⟨rfl, rfl⟩) | (go_at_call 24; refine (C2 _).mono ?_; rintro e w' ⟨rfl, rfl⟩))
          go_ret
          exact ⟨rfl, xr _⟩
      · simp only [hc, hy, decide_true, decide_false] at C1 C2
        clear hc hy hall
        go_enter Tryd.func9, Tryd.ntmps9
        go_wp2_with (first | (go_at_call 23; refine (C1 _).mono ?_; rintro e w' ⟨rfl, rfl⟩) | (go_at_call 24; refine (C2 _).mono ?_; rintro e w' ⟨rfl, rfl⟩))
        go_ret
        exact ⟨rfl, xr _⟩
    · simp only [hc, decide_false] at C1
      clear hc hall
      go_enter Tryd.func9, Tryd.ntmps9
      go_wp2_with (first | (go_at_call 23; refine (C1 _).mono ?_; rintro e w' ⟨rfl, rfl⟩))
      go_ret
      exact ⟨rfl, xr _⟩

set_option maxHeartbeats 400000 in
theorem lawMonth (cal y m : Int) (w : World) (hM : Months w) :
    Calls Tryd.prog 3 #[.int .i64 cal, .int .i64 y, .int .i64 m] w fun e w' => e = .returned (.bool true) ∧ Ext w w' := by
  have CS := monthDaysS cal y m w
  have CI := fun w => monthDaysI cal y m w
  obtain ⟨D, hD⟩ : ∃ D, (if (cal = 1 ∨ cal = 2) ∧ (-5000 ≤ y ∧ y ≤ 9999) ∧ 1 ≤ m ∧ m ≤ 12 then mlen cal y m else 0) = D := ⟨_, rfl⟩
  rw [hD] at CS
  simp only [hD] at CI
  clear hD
  go_enter Tryd.func3, Tryd.ntmps3
  go_wp2_with fail
  refine CS.mono ?_
  rintro e w1 ⟨rfl, e1⟩
  go_wp2_with fail
  refine (CI _ (hM.later e1)).mono ?_
  rintro e w2 ⟨rfl, rfl⟩
  go_wp2_with fail
  go_ret
  exact ⟨rfl, e1⟩

end Go.Proofs.YtmcmohooodpfeaaDoor
