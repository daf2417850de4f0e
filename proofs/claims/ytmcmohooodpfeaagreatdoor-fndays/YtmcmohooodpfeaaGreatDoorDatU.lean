/-
  The specification's DayOf.
-/
import Derived.Test.YtmcmohooodpfeaaGreatDoorDatT
import Derived.Deep.RegionHeld3
import Derived.Deep.DeepCutAuto
namespace Go.Proofs.YtmcmohooodpfeaaGreatDoor
open Go.RowKit

/-- What a date is. -/
def GoodDate (cal y m d : Int) : Prop := (cal = 1 ∨ cal = 2) ∧ (-5000 ≤ y ∧ y ≤ 9999) ∧ (1 ≤ m ∧ m ≤ 12) ∧ 1 ≤ d ∧ d ≤ mlen cal y m

set_option maxHeartbeats 400000 in
theorem dno1 (cal y m d : Int) (w : World) (hc : ¬ (cal = 1 ∨ cal = 2)) :
    Calls Tryz.prog 43 #[.int .i64 cal, .agg #[.int .i64 y, .int .i64 m, .int .i64 d]] w fun e w' => e = .returned (.tuple #[.int .i64 0, .bool false]) ∧ Ext w w' := by
  have C1 := fun w => calS cal w
  simp only [hc, decide_false] at C1
  clear hc
  go_enter Tryz.func43, Tryz.ntmps43
  go_wp2_with fail
  go_quiet (first | (go_at_call 25; exact Calls.quiet_of_same (C1 _)))
  go_wp2_with fail
  exact bodyPost_ret (v := .tuple #[.int .i64 0, .bool false]) (by simp [results, Tryz.results43, go_sem]) rfl ⟨rfl, xdN' (x1 _ _) _⟩

set_option maxHeartbeats 400000 in
theorem dno2 (cal y m d : Int) (w : World) (hc : cal = 1 ∨ cal = 2) (hy : ¬ (-5000 ≤ y ∧ y ≤ 9999)) :
    Calls Tryz.prog 43 #[.int .i64 cal, .agg #[.int .i64 y, .int .i64 m, .int .i64 d]] w fun e w' => e = .returned (.tuple #[.int .i64 0, .bool false]) ∧ Ext w w' := by
  have C1 := fun w => calS cal w
  have C2 := fun w => yearS y w
  simp only [hc, decide_true] at C1
  simp only [hy, decide_false] at C2
  clear hc hy
  go_enter Tryz.func43, Tryz.ntmps43
  go_wp2_with fail
  go_quiet (first | (go_at_call 25; exact Calls.quiet_of_same (C1 _)) | (go_at_call 45; exact Calls.quiet_of_same (C2 _)))
  go_wp2_with fail
  exact bodyPost_ret (v := .tuple #[.int .i64 0, .bool false]) (by simp [results, Tryz.results43, go_sem]) rfl ⟨rfl, xdN' (x1 _ _) _⟩

set_option maxHeartbeats 400000 in
theorem dno3 (cal y m d : Int) (w : World) (hc : cal = 1 ∨ cal = 2) (hy : -5000 ≤ y ∧ y ≤ 9999) (m1 : m < 1) :
    Calls Tryz.prog 43 #[.int .i64 cal, .agg #[.int .i64 y, .int .i64 m, .int .i64 d]] w fun e w' => e = .returned (.tuple #[.int .i64 0, .bool false]) ∧ Ext w w' := by
  have C1 := fun w => calS cal w
  have C2 := fun w => yearS y w
  simp only [hc, decide_true] at C1
  simp only [hy, and_self, decide_true] at C2
  clear hc hy
  go_enter Tryz.func43, Tryz.ntmps43
  go_wp2_with fail
  go_quiet (first | (go_at_call 25; exact Calls.quiet_of_same (C1 _)) | (go_at_call 45; exact Calls.quiet_of_same (C2 _)))
  go_wp2_with fail
  exact bodyPost_ret (v := .tuple #[.int .i64 0, .bool false]) (by simp [results, Tryz.results43, go_sem]) rfl ⟨rfl, xdN' (x1 _ _) _⟩

set_option maxHeartbeats 400000 in
theorem dno4 (cal y m d : Int) (w : World) (hc : cal = 1 ∨ cal = 2) (hy : -5000 ≤ y ∧ y ≤ 9999) (m1 : 12 < m) :
    Calls Tryz.prog 43 #[.int .i64 cal, .agg #[.int .i64 y, .int .i64 m, .int .i64 d]] w fun e w' => e = .returned (.tuple #[.int .i64 0, .bool false]) ∧ Ext w w' := by
  have C1 := fun w => calS cal w
  have C2 := fun w => yearS y w
  simp only [hc, decide_true] at C1
  simp only [hy, and_self, decide_true] at C2
  clear hc hy
  have f1 : decide (m < 1) = false := by simp; omega
  have f2 : decide (m > 12) = true := by simp; omega
  clear m1
  go_enter Tryz.func43, Tryz.ntmps43
  go_wp2_with fail
  go_quiet (first | (go_at_call 25; exact Calls.quiet_of_same (C1 _)) | (go_at_call 45; exact Calls.quiet_of_same (C2 _)))
  go_wp2_with fail
  exact bodyPost_ret (v := .tuple #[.int .i64 0, .bool false]) (by simp [results, Tryz.results43, go_sem]) rfl ⟨rfl, xdN' (x1 _ _) _⟩

set_option maxHeartbeats 400000 in
theorem dno5 (cal y m d : Int) (w : World) (hc : cal = 1 ∨ cal = 2) (hy : -5000 ≤ y ∧ y ≤ 9999) (hm : 1 ≤ m ∧ m ≤ 12) (hd : d < 1) :
    Calls Tryz.prog 43 #[.int .i64 cal, .agg #[.int .i64 y, .int .i64 m, .int .i64 d]] w fun e w' => e = .returned (.tuple #[.int .i64 0, .bool false]) ∧ Ext w w' := by
  have C1 := fun w => calS cal w
  have C2 := fun w => yearS y w
  simp only [hc, decide_true] at C1
  simp only [hy, and_self, decide_true] at C2
  clear hc hy
  have f1 : decide (m < 1) = false := by simp; omega
  have f2 : decide (m > 12) = false := by simp; omega
  have f3 : decide (d < 1) = true := by simp; omega
  clear hm hd
  go_enter Tryz.func43, Tryz.ntmps43
  go_wp2_with fail
  go_quiet (first | (go_at_call 25; exact Calls.quiet_of_same (C1 _)) | (go_at_call 45; exact Calls.quiet_of_same (C2 _)))
  go_wp2_with fail
  exact bodyPost_ret (v := .tuple #[.int .i64 0, .bool false]) (by simp [results, Tryz.results43, go_sem]) rfl ⟨rfl, xdN' (x1 _ _) _⟩

set_option maxHeartbeats 1000000 in
theorem dno6 (cal y m d : Int) (w : World) (hc : cal = 1 ∨ cal = 2) (hy : -5000 ≤ y ∧ y ≤ 9999) (hm : 1 ≤ m ∧ m ≤ 12) (hd : 1 ≤ d) (hd2 : mlen cal y m < d) :
    Calls Tryz.prog 43 #[.int .i64 cal, .agg #[.int .i64 y, .int .i64 m, .int .i64 d]] w fun e w' => e = .returned (.tuple #[.int .i64 0, .bool false]) ∧ Ext w w' := by
  have C1 := fun w => calS cal w
  have C2 := fun w => yearS y w
  have C3 := fun w => mlenS cal y m w hc (by omega) (by omega) hm.1 hm.2
  simp only [hc, decide_true] at C1
  simp only [hy, and_self, decide_true] at C2
  obtain ⟨D, hD⟩ : ∃ D, mlen cal y m = D := ⟨_, rfl⟩
  rw [hD] at C3 hd2
  have f1 : decide (m < 1) = false := by simp; omega
  have f2 : decide (m > 12) = false := by simp; omega
  have f3 : decide (d < 1) = false := by simp; omega
  have f4 : decide (d > D) = true := by simp; omega
  clear hc hy hm hd hd2 hD
  have B := Box3.made w (.int .i64 y) (.int .i64 m) (.int .i64 d) 26
  go_enter Tryz.func43, Tryz.ntmps43
  go_wp2_with fail
  go_region_held3 (fun w' => w'.cell? ⟨w.heap.size, 0, none⟩ = some (.int .i64 y) ∧ w'.cell? ⟨w.heap.size, 1, none⟩ = some (.int .i64 m) ∧ w'.cell? ⟨w.heap.size, 2, none⟩ = some (.int .i64 d)) (go_keep) (first
    | (go_at_call 25; refine (C1 _).mono ?_; rintro e w' ⟨rfl, rfl⟩)
    | (go_at_call 45; refine (C2 _).mono ?_; rintro e w' ⟨rfl, rfl⟩)
    | (go_at_call 46; refine (C3 _).mono ?_; rintro e w1 ⟨rfl, e1⟩; have X1 : Ext w w1 := xt (by first | exact xd (xa (xr _) _) | exact xa (xr _) _) e1; obtain ⟨⟨r0, r1, r2⟩, _⟩ := B.later (xt (by first | exact xd (xr _) | exact xr _) e1)))
  all_goals go_wp2_with fail
  all_goals exact bodyPost_ret (v := .tuple #[.int .i64 0, .bool false]) (by simp [results, Tryz.results43, go_sem]) rfl ⟨rfl, X1⟩

theorem dayOfS_no (cal y m d : Int) (w : World) (h : ¬ GoodDate cal y m d) :
    Calls Tryz.prog 43 #[.int .i64 cal, .agg #[.int .i64 y, .int .i64 m, .int .i64 d]] w fun e w' => e = .returned (.tuple #[.int .i64 0, .bool false]) ∧ Ext w w' := by
  by_cases hc : cal = 1 ∨ cal = 2
  · by_cases hy : -5000 ≤ y ∧ y ≤ 9999
    · by_cases m1 : m < 1
      · exact dno3 cal y m d w hc hy m1
      · by_cases m2 : 12 < m
        · exact dno4 cal y m d w hc hy m2
        · by_cases d1 : d < 1
          · exact dno5 cal y m d w hc hy ⟨by omega, by omega⟩ d1
          · exact dno6 cal y m d w hc hy ⟨by omega, by omega⟩ (by omega) (by unfold GoodDate at h; omega)
    · exact dno2 cal y m d w hc hy
  · exact dno1 cal y m d w hc

end Go.Proofs.YtmcmohooodpfeaaGreatDoor
