/-
  Workdays, the program's: what is ahead of a day.
-/
import Derived.Test.YthmdfephafpdnaaWn
import Derived.Test.YthmdfephafpdnaaWeekI
namespace Go.Proofs.Ythmdfephafpdnaa
open Go.RowKit

set_option maxRecDepth 8000 in
set_option maxHeartbeats 1000000 in
theorem aheadI (d : Int) (w : World) (d0 : -2000000 ≤ d) (d1 : d ≤ 2000000) :
    Calls Try.prog 22 #[.int .i64 d] w fun e w' => e = .returned (.int .i64 (aheadW d)) ∧ w' = w := by
  obtain ⟨q, hq⟩ : ∃ q, (d + 5) / 7 = q := ⟨_, rfl⟩
  obtain ⟨m, hm⟩ : ∃ m, (d + 5) % 7 = m := ⟨_, rfl⟩
  have FD := fdivI (d + 5) 7 w (by omega) (by omega) (by omega)
  have FM := fmodI (d + 5) 7 w (by omega) (by omega) (by omega) (by omega)
  rw [hq] at FD
  rw [hm] at FM
  have q0 : -300000 ≤ q ∧ q ≤ 300000 := by omega
  have m0 : 0 ≤ m ∧ m < 7 := by omega
  have HA : Hid (aheadW d = q * 5 + (if m < 5 then m else 5)) := by unfold Hid aheadW; rw [hq, hm]
  clear hq hm
  go_enter Try.func22, Try.ntmps22
  go_wp2_with fail
  refine FD.mono ?_
  rintro e w2 ⟨rfl, rfl⟩
  go_wp2_with fail
  refine FM.mono ?_
  rintro e w3 ⟨rfl, rfl⟩
  go_wp2_with fail
  all_goals go_ret
  all_goals exact ⟨ret_int (by rw [HA.out]; split <;> omega), rfl⟩

end Go.Proofs.Ythmdfephafpdnaa
