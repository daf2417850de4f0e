/-
  The program's Weekday.
-/
import Derived.Test.YthmdfephafpdnaaDatS
namespace Go.Proofs.Ythmdfephafpdnaa
open Go.RowKit

set_option maxHeartbeats 400000 in
theorem weekdayI (n : Int) (w : World) :
    Calls Try.prog 8 #[.int .i64 n] w fun e w' => e = .returned (.int .i64 (if -1000000 ≤ n ∧ n ≤ 1000000 then (n + 5) % 7 else -1)) ∧ w' = w := by
  have C1 := dayI n w
  by_cases h : -1000000 ≤ n ∧ n ≤ 1000000
  · rw [if_pos h]
    simp only [h, and_self, decide_true] at C1
    have ew : wrap64 (n + 5) = n + 5 := by unfold wrap64; omega
    have C2 := fmodI (n + 5) 7 w (by omega) (by omega) (by omega) (by omega)
    go_enter Try.func8, Try.ntmps8
    go_wp2_with (first | (go_at_call 14; refine C1.mono ?_; rintro e w' ⟨rfl, rfl⟩) | (go_at_call 18; refine C2.mono ?_; rintro e w' ⟨rfl, rfl⟩))
    go_ret
    exact ⟨rfl, rfl⟩
  · rw [if_neg h]
    simp only [h, decide_false] at C1
    go_enter Try.func8, Try.ntmps8
    go_wp2_with (first | (go_at_call 14; refine C1.mono ?_; rintro e w' ⟨rfl, rfl⟩))
    go_ret
    exact ⟨rfl, rfl⟩

end Go.Proofs.Ythmdfephafpdnaa
