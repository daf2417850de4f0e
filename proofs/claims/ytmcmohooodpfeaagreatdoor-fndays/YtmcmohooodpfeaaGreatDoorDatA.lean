/-
  The two tables; the program's small functions of dates that read them.
-/
import Derived.Test.YtmcmohooodpfeaaGreatDoorDatP
namespace Go.Proofs.YtmcmohooodpfeaaGreatDoor
open Go.RowKit

/-- The two tables lie as their initialisers lay them. -/
def Months (w : World) : Prop := ∀ i : Nat, 1 ≤ i → i ≤ 12 → w.cell? ⟨1, i, none⟩ = some (.int .i64 (mtab i))
def Cals (w : World) : Prop := (w.cell? ⟨0, 5, none⟩ = some (.int .i64 400) ∧ w.cell? ⟨0, 6, none⟩ = some (.int .i64 146097) ∧ w.cell? ⟨0, 7, none⟩ = some (.int .i64 2000) ∧ w.cell? ⟨0, 8, none⟩ = some (.int .i64 1) ∧ w.cell? ⟨0, 9, none⟩ = some (.int .i64 1)) ∧
  w.cell? ⟨0, 10, none⟩ = some (.int .i64 4) ∧ w.cell? ⟨0, 11, none⟩ = some (.int .i64 1461) ∧ w.cell? ⟨0, 12, none⟩ = some (.int .i64 1999) ∧ w.cell? ⟨0, 13, none⟩ = some (.int .i64 12) ∧ w.cell? ⟨0, 14, none⟩ = some (.int .i64 19)
theorem Months.later {w w1 : World} (h : Months w) (hb : Ext w w1) : Months w1 := fun i h0 hi => cell_later hb (h i h0 hi)
theorem Cals.later {w w1 : World} (h : Cals w) (hb : Ext w w1) : Cals w1 := by
  obtain ⟨⟨a, b, c, d, e⟩, f, g, i, j, k⟩ := h
  exact ⟨⟨cell_later hb a, cell_later hb b, cell_later hb c, cell_later hb d, cell_later hb e⟩, cell_later hb f, cell_later hb g, cell_later hb i, cell_later hb j, cell_later hb k⟩
/-- A date as a value. -/
abbrev dateV (y m d : Int) : Value := .agg #[.int .i64 y, .int .i64 m, .int .i64 d]

set_option maxHeartbeats 400000 in
theorem mlenI (cal y m : Int) (w : World) (h1 : 1 ≤ m) (h2 : m ≤ 12) (hM : Months w) :
    Calls Tryz.prog 34 #[.int .i64 cal, .int .i64 y, .int .i64 m] w fun e w' => e = .returned (.int .i64 (mlen cal y m)) ∧ w' = w := by
  by_cases e2 : m = 2
  · subst e2
    have ct := hM 2 (by omega) (by omega)
    clear hM
    go_enter Tryz.func34, Tryz.ntmps34
    go_wp2_with (go_at_call 54; refine (leapI _ _ _).mono ?_; rintro e w' ⟨rfl, rfl⟩)
    all_goals go_ret
    all_goals refine ⟨ret_int ?_, rfl⟩
    all_goals simp_all [mlen, mtab, wrap64]
  · obtain ⟨k, rfl⟩ : ∃ k : Nat, m = k := ⟨m.toNat, by omega⟩
    have ct := hM k (by omega) (by omega)
    clear hM
    have h3 : (k : Int) < 13 := by omega
    go_enter Tryz.func34, Tryz.ntmps34
    go_wp2_with (go_at_call 54; refine (leapI _ _ _).mono ?_; rintro e w' ⟨rfl, rfl⟩)
    all_goals go_ret
    all_goals refine ⟨ret_int ?_, rfl⟩
    all_goals simp [mlen, e2]

theorem ahead_fits {cal y : Int} (y0 : -1000000 ≤ y) (y1 : y ≤ 1000000) : -400000000 ≤ ahead cal y ∧ ahead cal y ≤ 400000000 := by
  unfold ahead
  split <;> omega

set_option maxHeartbeats 400000 in
theorem aheadI (cal y : Int) (w : World) (y0 : -1000000 ≤ y) (y1 : y ≤ 1000000) :
    Calls Tryz.prog 53 #[.int .i64 cal, .int .i64 y] w fun e w' => e = .returned (.int .i64 (ahead cal y)) ∧ w' = w := by
  have ew : wrap64 (y - 1) = y - 1 := by unfold wrap64; omega
  by_cases h : cal = 1
  · subst h
    have e : ahead 1 y = y * 365 + (y - 1) / 4 + 1 + ((y - 1) / 400 - (y - 1) / 100) := by simp [ahead]
    rw [e]
    clear e
    go_enter Tryz.func53, Tryz.ntmps53
    go_wp2_with (go_at_call 42; refine (fdivI _ _ _ (by omega) (by omega) (by omega)).mono ?_; rintro e w' ⟨rfl, rfl⟩)
    all_goals go_ret
    all_goals refine ⟨ret_int ?_, rfl⟩
    all_goals first | omega | (simp only [wrap64]; omega)
  · have e : ahead cal y = y * 365 + (y - 1) / 4 + 1 := by simp [ahead, h]
    rw [e]
    clear e
    go_enter Tryz.func53, Tryz.ntmps53
    go_wp2_with (go_at_call 42; refine (fdivI _ _ _ (by omega) (by omega) (by omega)).mono ?_; rintro e w' ⟨rfl, rfl⟩)
    all_goals go_ret
    all_goals refine ⟨ret_int ?_, rfl⟩
    all_goals first | omega | (simp only [wrap64]; omega)

set_option maxHeartbeats 400000 in
theorem monthI (n : Int) (w : World) :
    Calls Tryz.prog 33 #[.int .i64 n] w fun e w' => e = .returned (.bool (decide (1 ≤ n ∧ n ≤ 12))) ∧ w' = w := by
  go_enter Tryz.func33, Tryz.ntmps33
  go_wp2
  all_goals go_ret
  all_goals refine ⟨ret_bool ?_, rfl⟩
  all_goals simp_all
  all_goals (intros; omega)
set_option maxHeartbeats 400000 in
theorem monthDaysI (cal y m : Int) (w : World) (hM : Months w) :
    Calls Tryz.prog 11 #[.int .i64 cal, .int .i64 y, .int .i64 m] w fun e w' => e = .returned (.int .i64 (if (cal = 1 ∨ cal = 2) ∧ (-5000 ≤ y ∧ y ≤ 9999) ∧ 1 ≤ m ∧ m ≤ 12 then mlen cal y m else 0)) ∧ w' = w := by
  have C1 := calI cal w
  have C2 := yearI y w
  have C3 := monthI m w
  by_cases hall : (cal = 1 ∨ cal = 2) ∧ (-5000 ≤ y ∧ y ≤ 9999) ∧ 1 ≤ m ∧ m ≤ 12
  · rw [if_pos hall]
    obtain ⟨hc, hy, hm⟩ := hall
    have C4 := mlenI cal y m w hm.1 hm.2 hM
    simp only [hc, hy, hm, and_self, decide_true] at C1 C2 C3
    clear hM
    go_enter Tryz.func11, Tryz.ntmps11
    go_wp2_with (first | (go_at_call 22; refine C1.mono ?_; rintro e w' ⟨rfl, rfl⟩) | (go_at_call 32; refine C2.mono ?_; rintro e w' ⟨rfl, rfl⟩) | (go_at_call 33; refine C3.mono ?_; rintro e w' ⟨rfl, rfl⟩) | (go_at_call 34; refine C4.mono ?_; rintro e w' ⟨rfl, rfl⟩))
    all_goals go_ret
    all_goals exact ⟨rfl, rfl⟩
  · rw [if_neg hall]
    clear hM
    have HN : Hid (¬ ((cal = 1 ∨ cal = 2) ∧ (-5000 ≤ y ∧ y ≤ 9999) ∧ 1 ≤ m ∧ m ≤ 12)) := hall
    clear hall
    go_enter Tryz.func11, Tryz.ntmps11
    go_wp2_with (first | (go_at_call 22; refine C1.mono ?_; rintro e w' ⟨rfl, rfl⟩) | (go_at_call 32; refine C2.mono ?_; rintro e w' ⟨rfl, rfl⟩) | (go_at_call 33; refine C3.mono ?_; rintro e w' ⟨rfl, rfl⟩))
    all_goals first | (go_ret; exact ⟨rfl, rfl⟩) | (exfalso; have := HN.out; simp_all; done) | (exfalso; have := HN.out; simp_all; omega)

end Go.Proofs.YtmcmohooodpfeaaGreatDoor
