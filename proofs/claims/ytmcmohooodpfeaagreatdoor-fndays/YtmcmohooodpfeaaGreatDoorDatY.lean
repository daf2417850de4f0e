/-
  The program's year that holds a day.
-/
import Derived.Test.YtmcmohooodpfeaaGreatDoorDatX
namespace Go.Proofs.YtmcmohooodpfeaaGreatDoor
open Go.RowKit

theorem ahead_lt {cal a b : Int} (h : ahead cal a < ahead cal b) : a < b := by
  rcases Int.lt_or_le a b with k | k
  · exact k
  · have := ahead_mono cal k
    omega

set_option maxHeartbeats 2000000 in
theorem yearI_any (cal n : Int) (w : World) (hC : Cals w) (hc : cal = 1 ∨ cal = 2) (n0 : -2000000 ≤ n) (n1 : n ≤ 3000000) :
    Calls Tryz.prog 52 #[.int .i64 cal, .int .i64 n] w fun e w' => ∃ y, e = .returned (.int .i64 y) ∧ (Holds cal y n ∧ -20000 ≤ y ∧ y ≤ 20000) ∧ Ext w w' := by
  have lo : Hid (ahead cal (-20000) < n) := by rcases hc with rfl | rfl <;> exact Int.lt_of_lt_of_le (by decide) n0
  have hi : Hid (n < ahead cal 20000) := by rcases hc with rfl | rfl <;> exact Int.lt_of_le_of_lt n1 (by decide)
  have AH : Hid (∀ (y : Int) (w : World), -20000 ≤ y → y ≤ 20001 → Calls Tryz.prog 53 #[.int .i64 cal, .int .i64 y] w fun e w' => e = .returned (.int .i64 (ahead cal y)) ∧ w' = w) := fun y w h1 h2 => aheadI cal y w (by omega) (by omega)
  obtain ⟨⟨a0, a1, _, _, _⟩, b0, b1, _⟩ := hC
  rcases hc with rfl | rfl
  · have C : Hid (∀ w : World, Calls Tryz.prog 42 #[.int .i64 (n * 400), .int .i64 146097] w fun e w' => e = .returned (.int .i64 (n * 400 / 146097)) ∧ w' = w) := fun w => fdivI (n * 400) 146097 w (by omega) (by omega) (by omega)
    have hw : wrap64 (n * 400) = n * 400 := by unfold wrap64; omega
    have hy : -20000 ≤ n * 400 / 146097 ∧ n * 400 / 146097 ≤ 20000 := by omega
    obtain ⟨Y, hY⟩ : ∃ Y, n * 400 / 146097 = Y := ⟨_, rfl⟩
    rw [hY] at C hy
    clear hY
    go_enter Tryz.func52, Tryz.ntmps52
    go_wp2_with fail
    go_quiet (first | (go_at_call 42; exact Calls.quiet_of_same (C.out _)))
    go_wp2_with fail
    clear C hw a0 a1 b0 b1
    go_loop [5] (fun a => ∃ y : Int, a = .int .i64 y ∧ -20000 ≤ y ∧ y ≤ 20000) (fun a => (intOf a + 20000).toNat)
    case atStart => exact ⟨Y, rfl, hy⟩
    case round =>
      obtain ⟨y, rfl, y0, y1⟩ := hrel
      have A1 : Hid (∀ w : World, Calls Tryz.prog 53 #[.int .i64 1, .int .i64 y] w fun e w' => e = .returned (.int .i64 (ahead 1 y)) ∧ w' = w) := fun w => AH.out y w y0 (by omega)
      obtain ⟨a, ha⟩ : ∃ a, ahead 1 y = a := ⟨_, rfl⟩
      have HA : Hid (ahead 1 y = a) := ha
      rw [ha] at A1
      clear ha hy
      by_cases hgt : n < a
      · have y2 : -20000 < y := by have h1 := lo.out; have h2 := HA.out; exact ahead_lt (cal := 1) (by omega)
        go_wp2_with (go_at_call 53; refine (A1.out _).mono ?_; rintro e w' ⟨rfl, rfl⟩)
        go_round
        case rel => exact ⟨y - 1, by go_num, by omega, by omega⟩
        case measure => simp [intOf]; omega
      · go_wp2_with (go_at_call 53; refine (A1.out _).mono ?_; rintro e w' ⟨rfl, rfl⟩)
        have HY : Hid (ahead 1 y ≤ n) := by have h2 := HA.out; show ahead 1 y ≤ n; omega
        clear A1 HA hgt
        go_loop [5] (fun a => ∃ y : Int, a = .int .i64 y ∧ -20000 ≤ y ∧ y < 20000 ∧ Hid (ahead 1 y ≤ n)) (fun a => (20000 - intOf a).toNat)
        case atStart => exact ⟨y, rfl, y0, ahead_lt (cal := 1) (Int.lt_of_le_of_lt HY.out hi.out), HY⟩
        case round =>
          obtain ⟨z, rfl, z0, z1, HZ⟩ := hrel
          have A1 : Hid (∀ w : World, Calls Tryz.prog 53 #[.int .i64 1, .int .i64 (z + 1)] w fun e w' => e = .returned (.int .i64 (ahead 1 (z + 1))) ∧ w' = w) := fun w => AH.out (z + 1) w (by omega) (by omega)
          obtain ⟨a', ha⟩ : ∃ a', ahead 1 (z + 1) = a' := ⟨_, rfl⟩
          have HA : Hid (ahead 1 (z + 1) = a') := ha
          have hz : wrap64 (z + 1) = z + 1 := by unfold wrap64; omega
          rw [ha] at A1
          clear ha
          by_cases hle : a' ≤ n
          · have z2 : z + 1 < 20000 := by have h1 := hi.out; have h2 := HA.out; exact ahead_lt (cal := 1) (by omega)
            have HN : Hid (ahead 1 (z + 1) ≤ n) := by have h2 := HA.out; show ahead 1 (z + 1) ≤ n; omega
            go_wp2_with (go_at_call 53; refine (A1.out _).mono ?_; rintro e w' ⟨rfl, rfl⟩)
            go_round
            case rel => exact ⟨z + 1, by go_num, by omega, by omega, HN⟩
            case measure => simp [intOf]; omega
          · have HN : Hid (n < ahead 1 (z + 1)) := by have h2 := HA.out; show n < ahead 1 (z + 1); omega
            go_wp2_with (go_at_call 53; refine (A1.out _).mono ?_; rintro e w' ⟨rfl, rfl⟩)
            go_ret
            exact ⟨z, rfl, ⟨⟨HZ.out, HN.out⟩, z0, by omega⟩, xdN' (xr _) _⟩
  · have C : Hid (∀ w : World, Calls Tryz.prog 42 #[.int .i64 (n * 4), .int .i64 1461] w fun e w' => e = .returned (.int .i64 (n * 4 / 1461)) ∧ w' = w) := fun w => fdivI (n * 4) 1461 w (by omega) (by omega) (by omega)
    have hw : wrap64 (n * 4) = n * 4 := by unfold wrap64; omega
    have hy : -20000 ≤ n * 4 / 1461 ∧ n * 4 / 1461 ≤ 20000 := by omega
    obtain ⟨Y, hY⟩ : ∃ Y, n * 4 / 1461 = Y := ⟨_, rfl⟩
    rw [hY] at C hy
    clear hY
    go_enter Tryz.func52, Tryz.ntmps52
    go_wp2_with fail
    go_quiet (first | (go_at_call 42; exact Calls.quiet_of_same (C.out _)))
    go_wp2_with fail
    clear C hw a0 a1 b0 b1
    go_loop [5] (fun a => ∃ y : Int, a = .int .i64 y ∧ -20000 ≤ y ∧ y ≤ 20000) (fun a => (intOf a + 20000).toNat)
    case atStart => exact ⟨Y, rfl, hy⟩
    case round =>
      obtain ⟨y, rfl, y0, y1⟩ := hrel
      have A1 : Hid (∀ w : World, Calls Tryz.prog 53 #[.int .i64 2, .int .i64 y] w fun e w' => e = .returned (.int .i64 (ahead 2 y)) ∧ w' = w) := fun w => AH.out y w y0 (by omega)
      obtain ⟨a, ha⟩ : ∃ a, ahead 2 y = a := ⟨_, rfl⟩
      have HA : Hid (ahead 2 y = a) := ha
      rw [ha] at A1
      clear ha hy
      by_cases hgt : n < a
      · have y2 : -20000 < y := by have h1 := lo.out; have h2 := HA.out; exact ahead_lt (cal := 2) (by omega)
        go_wp2_with (go_at_call 53; refine (A1.out _).mono ?_; rintro e w' ⟨rfl, rfl⟩)
        go_round
        case rel => exact ⟨y - 1, by go_num, by omega, by omega⟩
        case measure => simp [intOf]; omega
      · go_wp2_with (go_at_call 53; refine (A1.out _).mono ?_; rintro e w' ⟨rfl, rfl⟩)
        have HY : Hid (ahead 2 y ≤ n) := by have h2 := HA.out; show ahead 2 y ≤ n; omega
        clear A1 HA hgt
        go_loop [5] (fun a => ∃ y : Int, a = .int .i64 y ∧ -20000 ≤ y ∧ y < 20000 ∧ Hid (ahead 2 y ≤ n)) (fun a => (20000 - intOf a).toNat)
        case atStart => exact ⟨y, rfl, y0, ahead_lt (cal := 2) (Int.lt_of_le_of_lt HY.out hi.out), HY⟩
        case round =>
          obtain ⟨z, rfl, z0, z1, HZ⟩ := hrel
          have A1 : Hid (∀ w : World, Calls Tryz.prog 53 #[.int .i64 2, .int .i64 (z + 1)] w fun e w' => e = .returned (.int .i64 (ahead 2 (z + 1))) ∧ w' = w) := fun w => AH.out (z + 1) w (by omega) (by omega)
          obtain ⟨a', ha⟩ : ∃ a', ahead 2 (z + 1) = a' := ⟨_, rfl⟩
          have HA : Hid (ahead 2 (z + 1) = a') := ha
          have hz : wrap64 (z + 1) = z + 1 := by unfold wrap64; omega
          rw [ha] at A1
          clear ha
          by_cases hle : a' ≤ n
          · have z2 : z + 1 < 20000 := by have h1 := hi.out; have h2 := HA.out; exact ahead_lt (cal := 2) (by omega)
            have HN : Hid (ahead 2 (z + 1) ≤ n) := by have h2 := HA.out; show ahead 2 (z + 1) ≤ n; omega
            go_wp2_with (go_at_call 53; refine (A1.out _).mono ?_; rintro e w' ⟨rfl, rfl⟩)
            go_round
            case rel => exact ⟨z + 1, by go_num, by omega, by omega, HN⟩
            case measure => simp [intOf]; omega
          · have HN : Hid (n < ahead 2 (z + 1)) := by have h2 := HA.out; show n < ahead 2 (z + 1); omega
            go_wp2_with (go_at_call 53; refine (A1.out _).mono ?_; rintro e w' ⟨rfl, rfl⟩)
            go_ret
            exact ⟨z, rfl, ⟨⟨HZ.out, HN.out⟩, z0, by omega⟩, xdN' (xr _) _⟩

end Go.Proofs.YtmcmohooodpfeaaGreatDoor
