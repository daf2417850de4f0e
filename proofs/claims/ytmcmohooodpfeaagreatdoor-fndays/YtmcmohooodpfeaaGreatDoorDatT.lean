/-
  The specification's days of dates.
-/
import Derived.Test.YtmcmohooodpfeaaGreatDoorDatS
import Derived.Deep.QuietTactic
import Derived.BigQuiet
import Derived.Deep.RegionWith
namespace Go.Proofs.YtmcmohooodpfeaaGreatDoor
open Go.RowKit

set_option maxHeartbeats 2000000 in
theorem mlenS (cal y m : Int) (w : World) (hc : cal = 1 ∨ cal = 2) (a1 : -9223372036854775808 ≤ y) (a2 : y ≤ 9223372036854775807) (h1 : 1 ≤ m) (h2 : m ≤ 12) :
    Calls Tryz.prog 46 #[.int .i64 cal, .int .i64 y, .int .i64 m] w fun e w' => e = .returned (.int .i64 (mlen cal y m)) ∧ Ext w w' := by
  have L := fun w => leapS cal y w hc a1 a2
  obtain ⟨b, hb⟩ : ∃ b, leapY cal y = b := ⟨_, rfl⟩
  rw [hb] at L
  have hm : Hid (mlen cal y m = mtab m + if m = 2 ∧ b = true then 1 else 0) := by unfold mlen; rw [hb]; exact rfl
  clear hb
  have h : m = 1 ∨ m = 2 ∨ m = 3 ∨ m = 4 ∨ m = 5 ∨ m = 6 ∨ m = 7 ∨ m = 8 ∨ m = 9 ∨ m = 10 ∨ m = 11 ∨ m = 12 := by omega
  clear hc a1 a2 h1 h2
  rcases h with rfl | rfl | rfl | rfl | rfl | rfl | rfl | rfl | rfl | rfl | rfl | rfl
  all_goals
    go_enter Tryz.func46, Tryz.ntmps46
    go_wp2_with (go_at_call 62; refine (L _).mono ?_; rintro e w' ⟨rfl, rfl⟩)
  all_goals go_ret
  all_goals exact ⟨ret_int (by rw [hm.out]; simp_all [mtab]), x1 _ _⟩

set_option maxHeartbeats 400000 in
theorem daysS (cal y : Int) (w : World) (y0 : -1000000 ≤ y) (y1 : y ≤ 1000000) :
    Calls Tryz.prog 55 #[.int .i64 cal, .int .i64 y] w fun e w' => e = .returned (.int .i64 (ahead cal y - if cal = 1 then 730485 else 730500)) ∧ w' = w := by
  have ew : wrap64 (y - 1) = y - 1 := by unfold wrap64; omega
  by_cases h : cal = 1
  · subst h
    have e : ahead 1 y - (if (1 : Int) = 1 then 730485 else 730500) = y * 365 + (y - 1) / 4 + 1 + ((y - 1) / 400 - (y - 1) / 100) - 730485 := by simp [ahead]
    rw [e]
    clear e
    go_enter Tryz.func55, Tryz.ntmps55
    go_wp2_with (go_at_call 44; refine (fdivS _ _ _ (by omega) (by omega) (by omega)).mono ?_; rintro e w' ⟨rfl, rfl⟩)
    all_goals go_ret
    all_goals refine ⟨ret_int ?_, rfl⟩
    all_goals first | omega | (simp only [wrap64]; omega)
  · have e : ahead cal y - (if cal = 1 then 730485 else 730500) = y * 365 + (y - 1) / 4 + 1 - 730500 := by simp [ahead, h]
    rw [e]
    clear e
    go_enter Tryz.func55, Tryz.ntmps55
    go_wp2_with (go_at_call 44; refine (fdivS _ _ _ (by omega) (by omega) (by omega)).mono ?_; rintro e w' ⟨rfl, rfl⟩)
    all_goals go_ret
    all_goals refine ⟨ret_int ?_, rfl⟩
    all_goals first | omega | (simp only [wrap64]; omega)

theorem ahead_fitsS {cal y : Int} (y0 : -1000000 ≤ y) (y1 : y ≤ 1000000) : -400000000 ≤ ahead cal y ∧ ahead cal y ≤ 400000000 := by
  unfold ahead
  split <;> omega

set_option maxHeartbeats 400000 in
theorem firstS (cal y : Int) (w : World) (hc : cal = 1 ∨ cal = 2) (y0 : -1000000 ≤ y) (y1 : y ≤ 1000000) :
    Calls Tryz.prog 35 #[.int .i64 cal, .int .i64 y] w fun e w' => e = .returned (.tuple #[.int .i64 (ahead cal y - off cal), .bool true]) ∧ w' = w := by
  have C := daysS cal y w y0 y1
  have b1 := ahead_fitsS (cal := cal) y0 y1
  obtain ⟨A, hA⟩ : ∃ A, ahead cal y = A := ⟨_, rfl⟩
  rw [hA] at C b1 ⊢
  clear hA
  rcases hc with rfl | rfl
  all_goals
    simp [off] at C ⊢
    go_enter Tryz.func35, Tryz.ntmps35
    go_wp2_with (go_at_call 55; refine C.mono ?_; rintro e w' ⟨rfl, rfl⟩)
  · exact bodyPost_ret (v := .tuple #[.int .i64 (A - 730485), .bool true]) (by simp [results, Tryz.results35, go_sem]) rfl ⟨rfl, rfl⟩
  · exact bodyPost_ret (v := .tuple #[.int .i64 (A - 730487), .bool true]) (by simp [results, Tryz.results35, go_sem]; go_num) rfl ⟨rfl, rfl⟩

end Go.Proofs.YtmcmohooodpfeaaGreatDoor
