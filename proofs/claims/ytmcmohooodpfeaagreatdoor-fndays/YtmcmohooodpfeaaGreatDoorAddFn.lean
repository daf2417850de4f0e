/-
  AddMonths on both sides.
-/
import Derived.Test.YtmcmohooodpfeaaGreatDoorSpeD
namespace Go.Proofs.YtmcmohooodpfeaaGreatDoor
open Go.RowKit

open Classical in
/-- What AddMonths answers. -/
def AddRes (cal y m d n Y M D : Int) : Prop :=
  if (GoodDate cal y m d ∧ -100000 ≤ n ∧ n ≤ 100000) ∧ -5000 ≤ (y * 12 + m - 1 + n) / 12 ∧ (y * 12 + m - 1 + n) / 12 ≤ 9999
  then Y = (y * 12 + m - 1 + n) / 12 ∧ M = (y * 12 + m - 1 + n) % 12 + 1 ∧ D = (if mlen cal Y M < d then mlen cal Y M else d)
  else Y = 0 ∧ M = 0 ∧ D = 0
theorem AddRes.one {cal y m d n Y M D Y' M' D' : Int} (h : AddRes cal y m d n Y M D) (h' : AddRes cal y m d n Y' M' D') : Y = Y' ∧ M = M' ∧ D = D' := by
  unfold AddRes at h h'
  split at h
  · rw [if_pos ‹_›] at h'
    obtain ⟨rfl, rfl, rfl⟩ := h
    obtain ⟨rfl, rfl, rfl⟩ := h'
    exact ⟨rfl, rfl, rfl⟩
  · rw [if_neg ‹_›] at h'
    omega
theorem AddRes.none {cal y m d n : Int} (h : ¬ ((GoodDate cal y m d ∧ -100000 ≤ n ∧ n ≤ 100000) ∧ -5000 ≤ (y * 12 + m - 1 + n) / 12 ∧ (y * 12 + m - 1 + n) / 12 ≤ 9999)) : AddRes cal y m d n 0 0 0 := by
  unfold AddRes
  rw [if_neg h]
  exact ⟨rfl, rfl, rfl⟩
theorem AddRes.some {cal y m d n : Int} (h : (GoodDate cal y m d ∧ -100000 ≤ n ∧ n ≤ 100000) ∧ -5000 ≤ (y * 12 + m - 1 + n) / 12 ∧ (y * 12 + m - 1 + n) / 12 ≤ 9999) :
    AddRes cal y m d n ((y * 12 + m - 1 + n) / 12) ((y * 12 + m - 1 + n) % 12 + 1) (if mlen cal ((y * 12 + m - 1 + n) / 12) ((y * 12 + m - 1 + n) % 12 + 1) < d then mlen cal ((y * 12 + m - 1 + n) / 12) ((y * 12 + m - 1 + n) % 12 + 1) else d) := by
  unfold AddRes
  rw [if_pos h]
  exact ⟨rfl, rfl, rfl⟩

set_option maxHeartbeats 400000 in
theorem withinI (n : Int) (w : World) :
    Calls Tryz.prog 41 #[.int .i64 n, .int .i64 100000] w fun e w' => e = .returned (.bool (decide (-100000 ≤ n ∧ n ≤ 100000))) ∧ w' = w := by
  go_enter Tryz.func41, Tryz.ntmps41
  go_wp2
  all_goals go_ret
  all_goals refine ⟨ret_bool ?_, rfl⟩
  all_goals simp_all
  all_goals (intros; omega)

set_option maxHeartbeats 1000000 in
theorem AddI_no (cal y m d n : Int) (w : World) (hM : Months w) (h : ¬ (GoodDate cal y m d ∧ -100000 ≤ n ∧ n ≤ 100000)) :
    Calls Tryz.prog 17 #[.int .i64 cal, .agg #[.int .i64 y, .int .i64 m, .int .i64 d], .int .i64 n] w fun e w' => e = .returned (.agg #[.int .i64 0, .int .i64 0, .int .i64 0]) ∧ Ext w w' := by
  have X0 := xa (x1 w (.cells #[.int .i64 y, .int .i64 m, .int .i64 d] 26)) (.cells #[.int .i64 0, .int .i64 0, .int .i64 0] 26)
  have B := Box3.made (w.alloc (.cells #[.int .i64 y, .int .i64 m, .int .i64 d] 26)) (.int .i64 0) (.int .i64 0) (.int .i64 0) 26
  rw [World.size_alloc] at B
  have M1 := hM.later X0
  have C2 := fun w => withinI n w
  clear hM
  by_cases hg : GoodDate cal y m d
  · have CD := isDateI cal y m d _ M1 true (by simp [hg])
    have hn : ¬ (-100000 ≤ n ∧ n ≤ 100000) := fun k => h ⟨hg, k⟩
    simp only [hn, decide_false] at C2
    clear hg hn h M1
    go_enter Tryz.func17, Tryz.ntmps17
    go_wp2_with (first | (go_at_call 30; refine CD.mono ?_; rintro e w1 ⟨rfl, e1⟩; obtain ⟨⟨r0, r1, r2⟩, s0, s1, s2⟩ := B.later e1) | (go_at_call 41; refine (C2 _).mono ?_; rintro e w' ⟨rfl, rfl⟩))
    exact bodyPost_ret (v := .agg #[.int .i64 0, .int .i64 0, .int .i64 0]) (by simp [results, Tryz.results17, go_sem, r0, r1, r2]) rfl ⟨rfl, by first | exact xt X0 e1 | exact xset (xset (xset (xt X0 e1) (Nat.le_succ _) _) (Nat.le_succ _) _) (Nat.le_succ _) _⟩
  · have CD := isDateI cal y m d _ M1 false (by simp [hg])
    clear hg h M1
    go_enter Tryz.func17, Tryz.ntmps17
    go_wp2_with (first | (go_at_call 30; refine CD.mono ?_; rintro e w1 ⟨rfl, e1⟩; obtain ⟨⟨r0, r1, r2⟩, s0, s1, s2⟩ := B.later e1))
    exact bodyPost_ret (v := .agg #[.int .i64 0, .int .i64 0, .int .i64 0]) (by simp [results, Tryz.results17, go_sem, r0, r1, r2]) rfl ⟨rfl, by first | exact xt X0 e1 | exact xset (xset (xset (xt X0 e1) (Nat.le_succ _) _) (Nat.le_succ _) _) (Nat.le_succ _) _⟩

set_option maxRecDepth 8000 in
set_option maxHeartbeats 1000000 in
theorem AddI (cal y m d n : Int) (w : World) (hM : Months w) :
    Calls Tryz.prog 17 #[.int .i64 cal, .agg #[.int .i64 y, .int .i64 m, .int .i64 d], .int .i64 n] w fun e w' => ∃ Y M D, e = .returned (.agg #[.int .i64 Y, .int .i64 M, .int .i64 D]) ∧ AddRes cal y m d n Y M D ∧ Ext w w' := by
  by_cases h : GoodDate cal y m d ∧ -100000 ≤ n ∧ n ≤ 100000
  · have X0 := xa (x1 w (.cells #[.int .i64 y, .int .i64 m, .int .i64 d] 26)) (.cells #[.int .i64 0, .int .i64 0, .int .i64 0] 26)
    have B := Box3.made (w.alloc (.cells #[.int .i64 y, .int .i64 m, .int .i64 d] 26)) (.int .i64 0) (.int .i64 0) (.int .i64 0) 26
    rw [World.size_alloc] at B
    have Bd := (Box3.made w (.int .i64 y) (.int .i64 m) (.int .i64 d) 26).later (x1 _ (.cells #[.int .i64 0, .int .i64 0, .int .i64 0] 26))
    have M1 := hM.later X0
    have C2 := fun w => withinI n w
    simp only [h.2, and_self, decide_true] at C2
    have CD := isDateI cal y m d _ M1 true (by simp [h.1])
    have hg := h.1
    unfold GoodDate at hg
    have mp := mlen_pos cal y m
    have hw1 : wrap64 (y * 12) = y * 12 := by unfold wrap64; omega
    have hw2 : wrap64 (y * 12 + m) = y * 12 + m := by unfold wrap64; omega
    have hw3 : wrap64 (y * 12 + m - 1) = y * 12 + m - 1 := by unfold wrap64; omega
    have hw4 : wrap64 (y * 12 + m - 1 + n) = y * 12 + m - 1 + n := by unfold wrap64; omega
    have C3 := fun w => fdivI (y * 12 + m - 1 + n) 12 w (by omega) (by omega) (by omega)
    have C4 := fun w => fmodI (y * 12 + m - 1 + n) 12 w (by omega) (by omega) (by omega) (by omega)
    have C5 := fun w => yearI ((y * 12 + m - 1 + n) / 12) w
    have hN : 0 ≤ (y * 12 + m - 1 + n) % 12 ∧ (y * 12 + m - 1 + n) % 12 < 12 := by omega
    by_cases hy : -5000 ≤ (y * 12 + m - 1 + n) / 12 ∧ (y * 12 + m - 1 + n) / 12 ≤ 9999
    · have HR := AddRes.some ⟨h, hy⟩
      have C6 := fun w hM => mlenI cal ((y * 12 + m - 1 + n) / 12) ((y * 12 + m - 1 + n) % 12 + 1) w (by omega) (by omega) hM
      simp only [hy, and_self, decide_true] at C5
      obtain ⟨N, hNe⟩ : ∃ N, y * 12 + m - 1 + n = N := ⟨_, rfl⟩
      rw [hNe] at C3 C4 C5 C6 hN hw4 HR
      obtain ⟨Q, hQ⟩ : ∃ Q, N / 12 = Q := ⟨_, rfl⟩
      obtain ⟨R, hR⟩ : ∃ R, N % 12 = R := ⟨_, rfl⟩
      rw [hQ] at C3 C5 C6 HR
      rw [hR] at C4 hN C6 HR
      obtain ⟨D, hD⟩ : ∃ D, mlen cal Q (R + 1) = D := ⟨_, rfl⟩
      rw [hD] at C6 HR
      have HR' : Hid (AddRes cal y m d n Q (R + 1) (if D < d then D else d)) := HR
      have hw5 : wrap64 (R + 1) = R + 1 := by unfold wrap64; omega
      have hw6 : wrap64 (y * 12 + m - 1 + n) = N := by rw [hNe]; exact hw4
      clear hQ hR hy h hM hNe hg mp hw4 hD HR
      go_enter Tryz.func17, Tryz.ntmps17
      go_wp2_with (first | (go_at_call 30; refine CD.mono ?_; rintro e w1 ⟨rfl, e1⟩; obtain ⟨⟨r0, r1, r2⟩, s0, s1, s2⟩ := B.later e1; obtain ⟨⟨t0, t1, t2⟩, _⟩ := Bd.later e1; have M2 := M1.later e1) | (go_at_call 41; refine (C2 _).mono ?_; rintro e w' ⟨rfl, rfl⟩) | (go_at_call 42; refine (C3 _).mono ?_; rintro e w' ⟨rfl, rfl⟩) | (go_at_call 28; refine (C4 _).mono ?_; rintro e w' ⟨rfl, rfl⟩) | (go_at_call 32; refine (C5 _).mono ?_; rintro e w' ⟨rfl, rfl⟩))
      clear CD C2 C3 C4 C5 M1
      go_region_with (first | (go_at_call 34; refine (C6 _ (by first | exact M2.later (xd (xr _)) | exact M2)).mono ?_; rintro e w' ⟨rfl, rfl⟩))
      all_goals go_wp2_with fail
      all_goals first
        | exact bodyPost_ret (v := .agg #[.int .i64 Q, .int .i64 (R + 1), .int .i64 D]) (by simp [results, Tryz.results17, go_sem, r0, r1, r2]) rfl ⟨Q, R + 1, D, rfl, by have hr := HR'.out; rw [if_pos (by assumption)] at hr; exact hr, by first | exact xd (xset (xset (xset (xt X0 e1) (Nat.le_succ _) _) (Nat.le_succ _) _) (Nat.le_succ _) _) | exact xset (xset (xset (xd (xt X0 e1)) (Nat.le_succ _) _) (Nat.le_succ _) _) (Nat.le_succ _) _⟩
        | exact bodyPost_ret (v := .agg #[.int .i64 Q, .int .i64 (R + 1), .int .i64 d]) (by simp [results, Tryz.results17, go_sem, r0, r1, r2]) rfl ⟨Q, R + 1, d, rfl, by have hr := HR'.out; rw [if_neg (by first | assumption | omega)] at hr; exact hr, by first | exact xd (xset (xset (xset (xt X0 e1) (Nat.le_succ _) _) (Nat.le_succ _) _) (Nat.le_succ _) _) | exact xset (xset (xset (xd (xt X0 e1)) (Nat.le_succ _) _) (Nat.le_succ _) _) (Nat.le_succ _) _⟩
    · have HR : Hid (AddRes cal y m d n 0 0 0) := AddRes.none (fun k => hy k.2)
      simp only [hy, decide_false] at C5
      obtain ⟨N, hNe⟩ : ∃ N, y * 12 + m - 1 + n = N := ⟨_, rfl⟩
      rw [hNe] at C3 C4 C5 hN hw4
      obtain ⟨Q, hQ⟩ : ∃ Q, N / 12 = Q := ⟨_, rfl⟩
      obtain ⟨R, hR⟩ : ∃ R, N % 12 = R := ⟨_, rfl⟩
      rw [hQ] at C3 C5
      rw [hR] at C4 hN
      have hw5 : wrap64 (R + 1) = R + 1 := by unfold wrap64; omega
      have hw6 : wrap64 (y * 12 + m - 1 + n) = N := by rw [hNe]; exact hw4
      clear hQ hR hy h hM M1 hNe hg mp hw4
      go_enter Tryz.func17, Tryz.ntmps17
      go_wp2_with (first | (go_at_call 30; refine CD.mono ?_; rintro e w1 ⟨rfl, e1⟩; obtain ⟨⟨r0, r1, r2⟩, s0, s1, s2⟩ := B.later e1; obtain ⟨⟨t0, t1, t2⟩, _⟩ := Bd.later e1) | (go_at_call 41; refine (C2 _).mono ?_; rintro e w' ⟨rfl, rfl⟩) | (go_at_call 42; refine (C3 _).mono ?_; rintro e w' ⟨rfl, rfl⟩) | (go_at_call 28; refine (C4 _).mono ?_; rintro e w' ⟨rfl, rfl⟩) | (go_at_call 32; refine (C5 _).mono ?_; rintro e w' ⟨rfl, rfl⟩))
      exact bodyPost_ret (v := .agg #[.int .i64 0, .int .i64 0, .int .i64 0]) (by simp [results, Tryz.results17, go_sem, r0, r1, r2]) rfl ⟨0, 0, 0, rfl, HR.out, by first | exact xt X0 e1 | exact xset (xset (xset (xt X0 e1) (Nat.le_succ _) _) (Nat.le_succ _) _) (Nat.le_succ _) _⟩
  · refine (AddI_no cal y m d n w hM h).mono ?_
    rintro e w' ⟨rfl, e1⟩
    exact ⟨0, 0, 0, rfl, AddRes.none (fun k => h k.1), e1⟩

theorem dayOfS_some (cal y m d : Int) (w : World) (hg : GoodDate cal y m d) :
    Calls Tryz.prog 43 #[.int .i64 cal, .agg #[.int .i64 y, .int .i64 m, .int .i64 d]] w fun e w' => e = .returned (.tuple #[.int .i64 (cnt cal y m d - off cal), .bool true]) ∧ Ext w w' := by
  obtain ⟨k, rfl⟩ : ∃ k : Nat, m = (k : Int) + 1 := ⟨(m - 1).toNat, by unfold GoodDate at hg; omega⟩
  have h := dayOfS_ok cal y d k w hg
  have e : ((k : Int) + 1 - 1).toNat = k := by omega
  have e2 : cnt cal y ((k : Int) + 1) d - off cal = ahead cal y + cum cal y k + (d - 1) - off cal := by unfold cnt; rw [e]; omega
  rw [e2]
  exact h

set_option maxHeartbeats 1000000 in
theorem AddS_no (cal y m d n : Int) (w : World) (h : ¬ (GoodDate cal y m d ∧ -100000 ≤ n ∧ n ≤ 100000)) :
    Calls Tryz.prog 18 #[.int .i64 cal, .agg #[.int .i64 y, .int .i64 m, .int .i64 d], .int .i64 n] w fun e w' => e = .returned (.agg #[.int .i64 0, .int .i64 0, .int .i64 0]) ∧ Ext w w' := by
  have X0 := xa (x1 w (.cells #[.int .i64 y, .int .i64 m, .int .i64 d] 26)) (.cells #[.int .i64 0, .int .i64 0, .int .i64 0] 26)
  have B := Box3.made (w.alloc (.cells #[.int .i64 y, .int .i64 m, .int .i64 d] 26)) (.int .i64 0) (.int .i64 0) (.int .i64 0) 26
  rw [World.size_alloc] at B
  by_cases hg : GoodDate cal y m d
  · have CD := fun w => dayOfS_some cal y m d w hg
    have hn : n < -100000 ∨ 100000 < n := by
      by_cases q : -100000 ≤ n ∧ n ≤ 100000
      · exact (h ⟨hg, q⟩).elim
      · omega
    clear hg h
    rcases hn with hn | hn
    · have f1 : decide (n < -100000) = true := by simp; omega
      go_enter Tryz.func18, Tryz.ntmps18
      go_wp2_with (first | (go_at_call 43; refine (CD _).mono ?_; rintro e w1 ⟨rfl, e1⟩; obtain ⟨⟨r0, r1, r2⟩, s0, s1, s2⟩ := B.later e1))
      exact bodyPost_ret (v := .agg #[.int .i64 0, .int .i64 0, .int .i64 0]) (by simp [results, Tryz.results18, go_sem, r0, r1, r2]) rfl ⟨rfl, by first | exact xt X0 e1 | exact xset (xset (xset (xt X0 e1) (Nat.le_succ _) _) (Nat.le_succ _) _) (Nat.le_succ _) _⟩
    · have f1 : decide (n < -100000) = false := by simp; omega
      have f2 : decide (n > 100000) = true := by simp; omega
      go_enter Tryz.func18, Tryz.ntmps18
      go_wp2_with (first | (go_at_call 43; refine (CD _).mono ?_; rintro e w1 ⟨rfl, e1⟩; obtain ⟨⟨r0, r1, r2⟩, s0, s1, s2⟩ := B.later e1))
      exact bodyPost_ret (v := .agg #[.int .i64 0, .int .i64 0, .int .i64 0]) (by simp [results, Tryz.results18, go_sem, r0, r1, r2]) rfl ⟨rfl, by first | exact xt X0 e1 | exact xset (xset (xset (xt X0 e1) (Nat.le_succ _) _) (Nat.le_succ _) _) (Nat.le_succ _) _⟩
  · have CD := fun w => dayOfS_no cal y m d w hg
    clear hg h
    go_enter Tryz.func18, Tryz.ntmps18
    go_wp2_with (first | (go_at_call 43; refine (CD _).mono ?_; rintro e w1 ⟨rfl, e1⟩; obtain ⟨⟨r0, r1, r2⟩, s0, s1, s2⟩ := B.later e1))
    exact bodyPost_ret (v := .agg #[.int .i64 0, .int .i64 0, .int .i64 0]) (by simp [results, Tryz.results18, go_sem, r0, r1, r2]) rfl ⟨rfl, by first | exact xt X0 e1 | exact xset (xset (xset (xt X0 e1) (Nat.le_succ _) _) (Nat.le_succ _) _) (Nat.le_succ _) _⟩

set_option maxRecDepth 8000 in
set_option maxHeartbeats 1000000 in
theorem AddS (cal y m d n : Int) (w : World) :
    Calls Tryz.prog 18 #[.int .i64 cal, .agg #[.int .i64 y, .int .i64 m, .int .i64 d], .int .i64 n] w fun e w' => ∃ Y M D, e = .returned (.agg #[.int .i64 Y, .int .i64 M, .int .i64 D]) ∧ AddRes cal y m d n Y M D ∧ Ext w w' := by
  by_cases h : GoodDate cal y m d ∧ -100000 ≤ n ∧ n ≤ 100000
  · have X0 := xa (x1 w (.cells #[.int .i64 y, .int .i64 m, .int .i64 d] 26)) (.cells #[.int .i64 0, .int .i64 0, .int .i64 0] 26)
    have B := Box3.made (w.alloc (.cells #[.int .i64 y, .int .i64 m, .int .i64 d] 26)) (.int .i64 0) (.int .i64 0) (.int .i64 0) 26
    rw [World.size_alloc] at B
    have Bd := (Box3.made w (.int .i64 y) (.int .i64 m) (.int .i64 d) 26).later (x1 _ (.cells #[.int .i64 0, .int .i64 0, .int .i64 0] 26))
    have CD := fun w => dayOfS_some cal y m d w h.1
    have f1 : decide (n < -100000) = false := by simp; omega
    have f2 : decide (n > 100000) = false := by simp; omega
    have hg := h.1
    unfold GoodDate at hg
    have mp := mlen_pos cal y m
    have hw1 : wrap64 (y * 12) = y * 12 := by unfold wrap64; omega
    have hw2 : wrap64 (y * 12 + m) = y * 12 + m := by unfold wrap64; omega
    have hw3 : wrap64 (y * 12 + m - 1) = y * 12 + m - 1 := by unfold wrap64; omega
    have hw4 : wrap64 (y * 12 + m - 1 + n) = y * 12 + m - 1 + n := by unfold wrap64; omega
    have C3 := fun w => fdivS (y * 12 + m - 1 + n) 12 w (by omega) (by omega) (by omega)
    have C4 := fun w => fmodS (y * 12 + m - 1 + n) 12 w (by omega) (by omega) (by omega) (by omega)
    have C5 := fun w => yearS ((y * 12 + m - 1 + n) / 12) w
    have hN : 0 ≤ (y * 12 + m - 1 + n) % 12 ∧ (y * 12 + m - 1 + n) % 12 < 12 := by omega
    by_cases hy : -5000 ≤ (y * 12 + m - 1 + n) / 12 ∧ (y * 12 + m - 1 + n) / 12 ≤ 9999
    · have HR := AddRes.some ⟨h, hy⟩
      have C6 := fun w => mlenS cal ((y * 12 + m - 1 + n) / 12) ((y * 12 + m - 1 + n) % 12 + 1) w hg.1 (by omega) (by omega) (by omega) (by omega)
      simp only [hy, and_self, decide_true] at C5
      obtain ⟨N, hNe⟩ : ∃ N, y * 12 + m - 1 + n = N := ⟨_, rfl⟩
      rw [hNe] at C3 C4 C5 C6 hN hw4 HR
      obtain ⟨Q, hQ⟩ : ∃ Q, N / 12 = Q := ⟨_, rfl⟩
      obtain ⟨R, hR⟩ : ∃ R, N % 12 = R := ⟨_, rfl⟩
      rw [hQ] at C3 C5 C6 HR
      rw [hR] at C4 hN C6 HR
      obtain ⟨D, hD⟩ : ∃ D, mlen cal Q (R + 1) = D := ⟨_, rfl⟩
      rw [hD] at C6 HR
      have HR' : Hid (AddRes cal y m d n Q (R + 1) (if D < d then D else d)) := HR
      have hw5 : wrap64 (1 + R) = R + 1 := by unfold wrap64; omega
      have hw7 : IntKind.i64.wrap (1 + R) = R + 1 := by rw [IntKind.wrap_i64]; omega
      have hw6 : wrap64 (y * 12 + m - 1 + n) = N := by rw [hNe]; exact hw4
      clear hQ hR hy h hNe hg mp hw4 hD HR
      go_enter Tryz.func18, Tryz.ntmps18
      go_wp2_with (first | (go_at_call 43; refine (CD _).mono ?_; rintro e w1 ⟨rfl, e1⟩; have B1 := B.later e1; have B1' := B1; obtain ⟨⟨r0, r1, r2⟩, s0, s1, s2⟩ := B1'; obtain ⟨⟨t0, t1, t2⟩, _⟩ := Bd.later e1))
      go_cut [9, 10] (fun _ v wc => v = .pointer (some ⟨w1.heap.size, 0, none⟩) ∧ Box3 wc w1.heap.size (.int .i64 Q) (.int .i64 (R + 1)) (.int .i64 d) ∧ Ext w1 wc)
      case first =>
        have ne0 := World.new_ne w1 _ t0
        have ne1 := World.new_ne w1 _ t1
        have ne2 := World.new_ne w1 _ t2
        go_region_held3 (fun w' => w'.cell? ⟨w.heap.size, 2, none⟩ = some (.int .i64 d)) (go_keep) (first
          | (go_at_call 44; refine (C3 _).mono ?_; rintro e w' ⟨rfl, rfl⟩)
          | (go_at_call 29; refine (C4 _).mono ?_; rintro e w' ⟨rfl, rfl⟩))
        all_goals go_wp2_with fail
        all_goals
          go_meet
          case rel => exact ⟨rfl, by first | exact (Box3.made w1 _ _ _ _).later (xd (xr _)) | exact Box3.made _ _ _ _ _, by first | exact xd (x1 _ _) | exact xa (xd (xr _)) _ | exact x1 _ _⟩
      case rest =>
        obtain ⟨rfl, Bo, e2⟩ := hcut
        have Bo' := Bo
        obtain ⟨⟨p0, p1, p2⟩, _⟩ := Bo'
        clear r0 r1 r2 s0 s1 s2 t0 t1 t2 CD C3 C4 hw1 hw2 hw3 hw6 f1 f2 B Bd
        go_wp2_with fail
        refine (C5 _).mono ?_
        rintro e w2 ⟨rfl, rfl⟩
        go_wp2_with fail
        refine (C6 _).mono ?_
        rintro e w3 ⟨rfl, e3⟩
        have B3 := Bo.later e3
        have B4 := B1.later (xt e2 e3)
        have lt1 := B1.lt
        obtain ⟨⟨q0, q1, q2⟩, g0, g1, g2⟩ := B3
        obtain ⟨⟨r0, r1, r2⟩, s0, s1, s2⟩ := B4
        have X3 : Ext w w3 := xt (xt (xt X0 e1) e2) e3
        have nea : (w.heap.size + 1 = w1.heap.size) = False := by simp; omega
        have neb : (w1.heap.size = w.heap.size + 1) = False := by simp; omega
        have lew : w.heap.size ≤ w1.heap.size := (xt X0 e1).size
        by_cases hlt : D < d
        · have hr : Hid (AddRes cal y m d n Q (R + 1) D) := by have := HR'.out; rw [if_pos hlt] at this; exact this
          have f3 : decide (d > D) = true := by simp; omega
          clear C5 C6 HR' Bo B1 hlt e1 e2 e3 X0
          go_wp2_with fail
          exact bodyPost_ret (v := .agg #[.int .i64 Q, .int .i64 (R + 1), .int .i64 D]) (by simp [results, Tryz.results18, go_sem, r0, r1, r2]) rfl ⟨Q, R + 1, D, rfl, hr.out, xset (xset (xset (xset X3 lew _) (Nat.le_succ _) _) (Nat.le_succ _) _) (Nat.le_succ _) _⟩
        · have hr : Hid (AddRes cal y m d n Q (R + 1) d) := by have := HR'.out; rw [if_neg hlt] at this; exact this
          have f3 : decide (d > D) = false := by simp; omega
          clear C5 C6 HR' Bo B1 hlt e1 e2 e3 X0
          go_wp2_with fail
          exact bodyPost_ret (v := .agg #[.int .i64 Q, .int .i64 (R + 1), .int .i64 d]) (by simp [results, Tryz.results18, go_sem, r0, r1, r2]) rfl ⟨Q, R + 1, d, rfl, hr.out, xset (xset (xset X3 (Nat.le_succ _) _) (Nat.le_succ _) _) (Nat.le_succ _) _⟩
    · have HR : Hid (AddRes cal y m d n 0 0 0) := AddRes.none (fun k => hy k.2)
      simp only [hy, decide_false] at C5
      obtain ⟨N, hNe⟩ : ∃ N, y * 12 + m - 1 + n = N := ⟨_, rfl⟩
      rw [hNe] at C3 C4 C5 hN hw4
      obtain ⟨Q, hQ⟩ : ∃ Q, N / 12 = Q := ⟨_, rfl⟩
      obtain ⟨R, hR⟩ : ∃ R, N % 12 = R := ⟨_, rfl⟩
      rw [hQ] at C3 C5
      rw [hR] at C4 hN
      have hw5 : wrap64 (1 + R) = R + 1 := by unfold wrap64; omega
      have hw7 : IntKind.i64.wrap (1 + R) = R + 1 := by rw [IntKind.wrap_i64]; omega
      have hw6 : wrap64 (y * 12 + m - 1 + n) = N := by rw [hNe]; exact hw4
      clear hQ hR hy h hNe hg mp hw4
      go_enter Tryz.func18, Tryz.ntmps18
      go_wp2_with (first | (go_at_call 43; refine (CD _).mono ?_; rintro e w1 ⟨rfl, e1⟩; have B1 := B.later e1; have B1' := B1; obtain ⟨⟨r0, r1, r2⟩, s0, s1, s2⟩ := B1'; obtain ⟨⟨t0, t1, t2⟩, _⟩ := Bd.later e1))
      go_cut [9, 10] (fun _ v wc => v = .pointer (some ⟨w1.heap.size, 0, none⟩) ∧ Box3 wc w1.heap.size (.int .i64 Q) (.int .i64 (R + 1)) (.int .i64 d) ∧ Ext w1 wc)
      case first =>
        have ne0 := World.new_ne w1 _ t0
        have ne1 := World.new_ne w1 _ t1
        have ne2 := World.new_ne w1 _ t2
        go_region_held3 (fun w' => w'.cell? ⟨w.heap.size, 2, none⟩ = some (.int .i64 d)) (go_keep) (first
          | (go_at_call 44; refine (C3 _).mono ?_; rintro e w' ⟨rfl, rfl⟩)
          | (go_at_call 29; refine (C4 _).mono ?_; rintro e w' ⟨rfl, rfl⟩))
        all_goals go_wp2_with fail
        all_goals
          go_meet
          case rel => exact ⟨rfl, by first | exact (Box3.made w1 _ _ _ _).later (xd (xr _)) | exact Box3.made _ _ _ _ _, by first | exact xd (x1 _ _) | exact xa (xd (xr _)) _ | exact x1 _ _⟩
      case rest =>
        obtain ⟨rfl, Bo, e2⟩ := hcut
        obtain ⟨⟨p0, p1, p2⟩, _⟩ := Bo
        clear r0 r1 r2 s0 s1 s2
        obtain ⟨⟨r0, r1, r2⟩, s0, s1, s2⟩ := B1.later e2
        clear t0 t1 t2 CD C3 C4 hw1 hw2 hw3 hw6 f1 f2 B Bd B1
        go_wp2_with (go_at_call 45; refine (C5 _).mono ?_; rintro e w2 ⟨rfl, rfl⟩)
        exact bodyPost_ret (v := .agg #[.int .i64 0, .int .i64 0, .int .i64 0]) (by simp [results, Tryz.results18, go_sem, r0, r1, r2]) rfl ⟨0, 0, 0, rfl, HR.out, by first | exact xt (xt X0 e1) e2 | exact xset (xset (xset (xt (xt X0 e1) e2) (Nat.le_succ _) _) (Nat.le_succ _) _) (Nat.le_succ _) _⟩
  · refine (AddS_no cal y m d n w h).mono ?_
    rintro e w' ⟨rfl, e1⟩
    exact ⟨0, 0, 0, rfl, AddRes.none (fun k => h k.1), e1⟩

end Go.Proofs.YtmcmohooodpfeaaGreatDoor
