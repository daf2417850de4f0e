/-
  The program's days of dates.
-/
import Derived.Test.YtmcmohooodpfeaaGreatDoorDatA
import Derived.Deep.QuietTactic
import Derived.BigQuiet
import Derived.Deep.RegionWith
namespace Go.Proofs.YtmcmohooodpfeaaGreatDoor
open Go.RowKit



set_option maxHeartbeats 1000000 in
theorem countedI (cal y d : Int) (n : Nat) (w : World) (hM : Months w) (hn : n + 1 ≤ 12) (y0 : -1000000 ≤ y) (y1 : y ≤ 1000000) (d0 : -100000 ≤ d) (d1 : d ≤ 100000) :
    Calls Tryz.prog 51 #[.int .i64 cal, dateV y ((n : Int) + 1) d] w fun e w' => e = .returned (.int .i64 (ahead cal y + (d - 1) + cum cal y n)) ∧ Ext w w' := by
  have CA : Hid (∀ w : World, Calls Tryz.prog 53 #[.int .i64 cal, .int .i64 y] w fun e w' => e = .returned (.int .i64 (ahead cal y)) ∧ w' = w) := fun w => aheadI cal y w y0 y1
  have b1 := ahead_fits (cal := cal) y0 y1
  obtain ⟨A, hA⟩ : ∃ A, ahead cal y = A := ⟨_, rfl⟩
  rw [hA] at CA b1 ⊢
  clear hA
  have M1 := hM.later (x1 w (.cells #[.int .i64 y, .int .i64 ((n : Int) + 1), .int .i64 d] 26))
  clear hM
  go_enter Tryz.func51, Tryz.ntmps51
  go_wp2_with fail
  go_quiet (first | (go_at_call 53; exact Calls.quiet_of_same (CA.out _)))
  go_wp2_with fail
  clear CA
  go_loop [5, 6] (fun a i => ∃ k : Nat, k ≤ n ∧ i = .int .i64 ((k : Int) + 1) ∧ a = .int .i64 (A + (d - 1) + cum cal y k)) (fun _ i => n + 1 - (intOf i).toNat)
  case atStart => exact ⟨0, by omega, rfl, by simp [cum]; omega⟩
  case round =>
    obtain ⟨k, hk, rfl, rfl⟩ := hrel
    have c0 := cum_nonneg cal y k
    have c1 := cum_le cal y (show k ≤ 12 by omega)
    by_cases hkn : k < n
    · have hkn' : (k : Int) < (n : Int) := by omega
      have cs : Hid (cum cal y (k + 1) = cum cal y k + mlen cal y ((k : Int) + 1)) := rfl
      have m1 := mlen_pos cal y ((k : Int) + 1)
      have ML : Hid (∀ nq, Calls Tryz.prog 34 #[.int .i64 cal, .int .i64 y, .int .i64 ((k : Int) + 1)] ((w.alloc (.cells #[.int .i64 y, .int .i64 ((n : Int) + 1), .int .i64 d] 26)).drewN nq) fun e w' => e = .returned (.int .i64 (mlen cal y ((k : Int) + 1))) ∧ w' = ((w.alloc (.cells #[.int .i64 y, .int .i64 ((n : Int) + 1), .int .i64 d] 26)).drewN nq)) := fun nq => mlenI cal y ((k : Int) + 1) _ (by omega) (by omega) (M1.later (xdN' (xr _) _))
      obtain ⟨C, hC⟩ : ∃ C, cum cal y k = C := ⟨_, rfl⟩
      obtain ⟨D, hD⟩ : ∃ D, mlen cal y ((k : Int) + 1) = D := ⟨_, rfl⟩
      rw [hC] at c0 c1 cs ⊢
      rw [hD] at ML m1 cs
      clear hC hD M1
      go_wp2_with (go_at_call 34; refine (ML.out _).mono ?_; rintro e w' ⟨rfl, rfl⟩)
      go_round
      case rel => exact ⟨k + 1, by omega, by go_num, by rw [cs.out]; go_num⟩
      case measure => simp [intOf]; omega
    · obtain rfl : k = n := by omega
      go_wp2_with fail
      go_ret
      exact ⟨rfl, xdN' (x1 _ _) _⟩

end Go.Proofs.YtmcmohooodpfeaaGreatDoor
