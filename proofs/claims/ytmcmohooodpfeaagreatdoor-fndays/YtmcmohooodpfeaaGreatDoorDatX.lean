/-
  The program's dayAt and DayOf.
-/
import Derived.Test.YtmcmohooodpfeaaGreatDoorDatW
namespace Go.Proofs.YtmcmohooodpfeaaGreatDoor
open Go.RowKit

/-- A date's day, from the year 0 on. -/
def cnt (cal y m d : Int) : Int := ahead cal y + (d - 1) + cum cal y (m - 1).toNat
theorem cnt_zero : cnt 1 2000 1 1 = 730485 ∧ cnt 2 1999 12 19 = 730487 := by
  constructor <;> decide
theorem cnt_fits {cal y m d : Int} (h : 1 ≤ m ∧ m ≤ 12 ∧ -1000000 ≤ y ∧ y ≤ 1000000 ∧ -100000 ≤ d ∧ d ≤ 100000) : -500000000 ≤ cnt cal y m d ∧ cnt cal y m d ≤ 500000000 := by
  have a := ahead_fits (cal := cal) h.2.2.1 h.2.2.2.1
  have b := cum_nonneg cal y (m - 1).toNat
  have c := cum_le cal y (show (m - 1).toNat ≤ 12 by omega)
  unfold cnt
  omega
theorem countedG (cal y m d : Int) (w : World) (hM : Months w) (h : 1 ≤ m ∧ m ≤ 12 ∧ -1000000 ≤ y ∧ y ≤ 1000000 ∧ -100000 ≤ d ∧ d ≤ 100000) :
    Calls Tryz.prog 51 #[.int .i64 cal, .agg #[.int .i64 y, .int .i64 m, .int .i64 d]] w fun e w' => e = .returned (.int .i64 (cnt cal y m d)) ∧ Ext w w' := by
  obtain ⟨n, rfl⟩ : ∃ n : Nat, m = (n : Int) + 1 := ⟨(m - 1).toNat, by omega⟩
  have e : ((n : Int) + 1 - 1).toNat = n := by omega
  unfold cnt
  rw [e]
  exact countedI cal y d n w hM (by omega) (by omega) (by omega) (by omega) (by omega)

set_option maxHeartbeats 1000000 in
theorem dayAtI (cal y m d : Int) (w : World) (hM : Months w) (hC : Cals w) (hc : cal = 1 ∨ cal = 2) (h : 1 ≤ m ∧ m ≤ 12 ∧ -1000000 ≤ y ∧ y ≤ 1000000 ∧ -100000 ≤ d ∧ d ≤ 100000) :
    Calls Tryz.prog 31 #[.int .i64 cal, .agg #[.int .i64 y, .int .i64 m, .int .i64 d]] w fun e w' => e = .returned (.int .i64 (cnt cal y m d - off cal)) ∧ Ext w w' := by
  have X0 := x1 w (.cells #[.int .i64 y, .int .i64 m, .int .i64 d] 26)
  have M1 := hM.later X0
  have K1 := hC.later X0
  have B := Box3.made w (.int .i64 y) (.int .i64 m) (.int .i64 d) 26
  have fz := cnt_fits (cal := cal) h
  have cz := cnt_zero
  rcases hc with rfl | rfl
  · have B' := B
    have K' := K1
    obtain ⟨⟨p0, p1, p2⟩, _⟩ := B'
    obtain ⟨⟨_, _, t0, t1, t2⟩, _⟩ := K'
    clear hM hC
    go_enter Tryz.func31, Tryz.ntmps31
    go_wp2_with fail
    go_region_held3 (fun w' => (w'.cell? ⟨w.heap.size, 0, none⟩ = some (.int .i64 y) ∧ w'.cell? ⟨w.heap.size, 1, none⟩ = some (.int .i64 m) ∧ w'.cell? ⟨w.heap.size, 2, none⟩ = some (.int .i64 d)) ∧ w'.cell? ⟨0, 7, none⟩ = some (.int .i64 2000) ∧ w'.cell? ⟨0, 8, none⟩ = some (.int .i64 1) ∧ w'.cell? ⟨0, 9, none⟩ = some (.int .i64 1)) (go_keep) (first
      | (go_at_call 51; refine (countedG _ _ _ _ _ (by first | exact M1.later (xd Y2) | exact M1.later Y2 | exact M1.later (xd (xr _)) | exact M1) (by omega)).mono ?_; rintro e w2 ⟨rfl, e2⟩; (first | (have Y3 : Ext (w.alloc (.cells #[.int .i64 y, .int .i64 m, .int .i64 d] 26)) w2 := (by first | exact xt Y2 e2 | exact xt (xd Y2) e2); obtain ⟨⟨k0, k1, k2⟩, _⟩ := B.later Y3; obtain ⟨⟨_, _, u0, u1, u2⟩, _⟩ := K1.later Y3) | (have Y2 : Ext (w.alloc (.cells #[.int .i64 y, .int .i64 m, .int .i64 d] 26)) w2 := (by first | exact xt (xd (xr _)) e2 | exact e2); obtain ⟨⟨k0, k1, k2⟩, _⟩ := B.later Y2; obtain ⟨⟨_, _, u0, u1, u2⟩, _⟩ := K1.later Y2))))
    all_goals go_wp2_with fail
    go_ret
    exact ⟨ret_int (by rw [IntKind.wrap_i64]; simp [off]; omega), xt X0 Y3⟩
  · have B' := B
    have K' := K1
    obtain ⟨⟨p0, p1, p2⟩, _⟩ := B'
    obtain ⟨_, _, _, t0, t1, t2⟩ := K'
    clear hM hC
    go_enter Tryz.func31, Tryz.ntmps31
    go_wp2_with fail
    go_region_held3 (fun w' => (w'.cell? ⟨w.heap.size, 0, none⟩ = some (.int .i64 y) ∧ w'.cell? ⟨w.heap.size, 1, none⟩ = some (.int .i64 m) ∧ w'.cell? ⟨w.heap.size, 2, none⟩ = some (.int .i64 d)) ∧ w'.cell? ⟨0, 12, none⟩ = some (.int .i64 1999) ∧ w'.cell? ⟨0, 13, none⟩ = some (.int .i64 12) ∧ w'.cell? ⟨0, 14, none⟩ = some (.int .i64 19)) (go_keep) (first
      | (go_at_call 51; refine (countedG _ _ _ _ _ (by first | exact M1.later (xd Y2) | exact M1.later Y2 | exact M1.later (xd (xr _)) | exact M1) (by omega)).mono ?_; rintro e w2 ⟨rfl, e2⟩; (first | (have Y3 : Ext (w.alloc (.cells #[.int .i64 y, .int .i64 m, .int .i64 d] 26)) w2 := (by first | exact xt Y2 e2 | exact xt (xd Y2) e2); obtain ⟨⟨k0, k1, k2⟩, _⟩ := B.later Y3; obtain ⟨_, _, _, u0, u1, u2⟩ := K1.later Y3) | (have Y2 : Ext (w.alloc (.cells #[.int .i64 y, .int .i64 m, .int .i64 d] 26)) w2 := (by first | exact xt (xd (xr _)) e2 | exact e2); obtain ⟨⟨k0, k1, k2⟩, _⟩ := B.later Y2; obtain ⟨_, _, _, u0, u1, u2⟩ := K1.later Y2))))
    all_goals go_wp2_with fail
    go_ret
    exact ⟨ret_int (by rw [IntKind.wrap_i64]; simp [off]; omega), xt X0 Y3⟩

set_option maxHeartbeats 1000000 in
theorem dayI_any (cal y m d : Int) (w : World) (hM : Months w) (hC : Cals w) :
    Calls Tryz.prog 10 #[.int .i64 cal, .agg #[.int .i64 y, .int .i64 m, .int .i64 d]] w fun e w' => e = .returned (optV (dayP cal y m d)) ∧ Ext w w' := by
  have X0 := x1 w (.cells #[.int .i64 y, .int .i64 m, .int .i64 d] 26)
  have M1 := hM.later X0
  have K1 := hC.later X0
  have B := Box3.made w (.int .i64 y) (.int .i64 m) (.int .i64 d) 26
  clear hM hC
  by_cases hg : GoodDate cal y m d
  · have CD := isDateI cal y m d _ M1 true (by simp [hg])
    have bd : 1 ≤ m ∧ m ≤ 12 ∧ -1000000 ≤ y ∧ y ≤ 1000000 ∧ -100000 ≤ d ∧ d ≤ 100000 := by have := mlen_pos cal y m; unfold GoodDate at hg; omega
    have CA : ∀ {w1 : World}, Ext (w.alloc (.cells #[.int .i64 y, .int .i64 m, .int .i64 d] 26)) w1 → Calls Tryz.prog 31 #[.int .i64 cal, .agg #[.int .i64 y, .int .i64 m, .int .i64 d]] w1 fun e w' => e = .returned (.int .i64 (cnt cal y m d - off cal)) ∧ Ext w1 w' := fun {w1} x => dayAtI cal y m d w1 (M1.later x) (K1.later x) hg.1 bd
    have HP : Hid (dayP cal y m d = if -1000000 ≤ cnt cal y m d - off cal ∧ cnt cal y m d - off cal ≤ 1000000 then some (cnt cal y m d - off cal) else none) := by
      show dayP _ _ _ _ = _
      unfold dayP
      simp only [hg, true_and]
      have e : ahead cal y + cum cal y (m - 1).toNat + (d - 1) - off cal = cnt cal y m d - off cal := by unfold cnt; omega
      rw [e]
    obtain ⟨Z, hZ⟩ : ∃ Z, cnt cal y m d - off cal = Z := ⟨_, rfl⟩
    rw [hZ] at HP
    have C2 := fun w => dayI Z w
    simp only [hZ] at CA
    clear hZ hg M1 K1 bd
    by_cases hz : -1000000 ≤ Z ∧ Z ≤ 1000000
    · rw [if_pos hz] at HP
      simp only [hz, and_self, decide_true] at C2
      go_enter Tryz.func10, Tryz.ntmps10
      go_wp2_with (first | (go_at_call 30; refine CD.mono ?_; rintro e w1 ⟨rfl, e1⟩; obtain ⟨⟨q0, q1, q2⟩, _⟩ := B.later e1) | (go_at_call 31; refine (CA e1).mono ?_; rintro e w2 ⟨rfl, e2⟩) | (go_at_call 23; refine (C2 _).mono ?_; rintro e w' ⟨rfl, rfl⟩))
      exact bodyPost_ret (v := .tuple #[.int .i64 Z, .bool true]) (by simp [results, Tryz.results10, go_sem]) rfl ⟨by rw [HP.out]; rfl, xt (xt X0 e1) e2⟩
    · rw [if_neg hz] at HP
      simp only [hz, decide_false] at C2
      go_enter Tryz.func10, Tryz.ntmps10
      go_wp2_with (first | (go_at_call 30; refine CD.mono ?_; rintro e w1 ⟨rfl, e1⟩; obtain ⟨⟨q0, q1, q2⟩, _⟩ := B.later e1) | (go_at_call 31; refine (CA e1).mono ?_; rintro e w2 ⟨rfl, e2⟩) | (go_at_call 23; refine (C2 _).mono ?_; rintro e w' ⟨rfl, rfl⟩))
      exact bodyPost_ret (v := .tuple #[.int .i64 0, .bool false]) (by simp [results, Tryz.results10, go_sem]) rfl ⟨by rw [HP.out]; rfl, xt (xt X0 e1) e2⟩
  · have CD := isDateI cal y m d _ M1 false (by simp [hg])
    have HP : Hid (dayP cal y m d = none) := by
      show dayP _ _ _ _ = _
      unfold dayP
      simp [hg]
    clear hg M1 K1
    go_enter Tryz.func10, Tryz.ntmps10
    go_wp2_with (first | (go_at_call 30; refine CD.mono ?_; rintro e w1 ⟨rfl, e1⟩))
    exact bodyPost_ret (v := .tuple #[.int .i64 0, .bool false]) (by simp [results, Tryz.results10, go_sem]) rfl ⟨by rw [HP.out]; rfl, xt X0 e1⟩

end Go.Proofs.YtmcmohooodpfeaaGreatDoor
