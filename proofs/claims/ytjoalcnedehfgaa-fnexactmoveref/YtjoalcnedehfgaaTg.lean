/-
  Turns: GoodTurn on both sides.
-/
import Derived.Test.YtjoalcnedehfgaaVek
import Derived.Deep.DeepCutAuto
import Derived.Deep.RegionHeld3
import Derived.BigQuiet
namespace Go.Proofs.Ytjoalcnedehfgaa
open Go.RowKit

abbrev tuV (k a m : Int) (d : Bool) : Value := .agg #[.int .i64 k, .int .i64 a, .int .i64 m, .bool d]
/-- The last row or column. -/
def limT (k : Int) : Int := if k = 1 then 1000 else 200
/-- Whether a turn is good. -/
def gTurnB (k a m : Int) (d : Bool) : Bool := decide ((k = 1 ∨ k = 2) ∧ (1 ≤ m ∧ m ≤ 100) ∧ (1 ≤ a ∧ a ≤ limT k) ∧ (d = true → a + m - 1 ≤ limT k))

set_option maxHeartbeats 400000 in
theorem lastI (k : Int) (w : World) :
    Calls Try.prog 26 #[.int .i64 k] w fun e w' => e = .returned (.int .i64 (if k = 1 then 1000 else if k = 2 then 200 else 0)) ∧ w' = w := by
  go_enter Try.func26, Try.ntmps26
  go_wp2
  all_goals go_ret
  all_goals refine ⟨ret_int ?_, rfl⟩
  all_goals simp_all
set_option maxHeartbeats 400000 in
theorem limitS (k : Int) (w : World) :
    Calls Try.prog 25 #[.int .i64 k] w fun e w' => e = .returned (.int .i64 (limT k)) ∧ w' = w := by
  go_enter Try.func25, Try.ntmps25
  go_wp2
  all_goals go_ret
  all_goals refine ⟨ret_int ?_, rfl⟩
  all_goals simp_all [limT]
theorem xdNt {a b : World} (h : Ext a b) (n : Nat) : Ext a (b.drewN n) := ⟨h.os, h.tape, h.output, h.size, h.block⟩
theorem limT_is (k : Int) : ∃ x, limT k = x ∧ ((k = 1 ∧ x = 1000) ∨ (k ≠ 1 ∧ x = 200)) := by
  unfold limT
  by_cases h : k = 1
  · exact ⟨1000, by simp [h], .inl ⟨h, rfl⟩⟩
  · exact ⟨200, by simp [h], .inr ⟨h, rfl⟩⟩
set_option maxRecDepth 8000 in
set_option maxHeartbeats 2000000 in
theorem goodTI (k a m : Int) (d : Bool) (w : World) :
    Calls Try.prog 10 #[tuV k a m d] w fun e w' => e = .returned (.bool (gTurnB k a m d)) ∧ Ext w w' := by
  have L := fun w => lastI k w
  obtain ⟨l, hl⟩ : ∃ l, (if k = 1 then (1000 : Int) else if k = 2 then 200 else 0) = l := ⟨_, rfl⟩
  have hl0 : (k = 1 ∧ l = 1000) ∨ (k = 2 ∧ l = 200) ∨ (k ≠ 1 ∧ k ≠ 2 ∧ l = 0) := by rw [← hl]; split; omega; split <;> omega
  rw [hl] at L
  clear hl
  obtain ⟨lt, hlt, hlt0⟩ := limT_is k
  unfold gTurnB
  rw [hlt]
  clear hlt
  cases d
  all_goals go_enter Try.func10, Try.ntmps10
  all_goals go_wp2_with fail
  all_goals refine (L _).mono ?_
  all_goals rintro e w1 ⟨rfl, rfl⟩
  all_goals go_wp2_with fail
  all_goals go_ret
  all_goals refine ⟨ret_bool ?_, x1 _ _⟩
  all_goals clear L
  all_goals rw [Bool.eq_iff_iff]
  all_goals first | (simp only [decide_eq_true_eq, Bool.false_eq_true, true_imp_iff, false_iff]; omega) | (simp; omega)
set_option maxRecDepth 8000 in
set_option maxHeartbeats 4000000 in
theorem gTurnS (k a m : Int) (d : Bool) (w : World) :
    Calls Try.prog 8 #[tuV k a m d] w fun e w' => e = .returned (.bool (gTurnB k a m d)) ∧ Ext w w' := by
  obtain ⟨lt, hlt, hlt0⟩ := limT_is k
  unfold gTurnB
  rw [hlt]
  have L : ∀ w, Calls Try.prog 25 #[.int .i64 k] w fun e w' => e = .returned (.int .i64 lt) ∧ w' = w := fun w => by rw [← hlt]; exact limitS k w
  clear hlt
  have B := Box4.made w (.int .i64 k) (.int .i64 a) (.int .i64 m) (.bool d) 25
  obtain ⟨⟨q0, q1, q2, q3⟩, _⟩ := B
  have X := x1 w (.cells #[.int .i64 k, .int .i64 a, .int .i64 m, .bool d] 25)
  go_enter Try.func8, Try.ntmps8
  go_upto_region 1 with fail
  obtain ⟨w0, hw0⟩ : ∃ u, w.alloc (.cells #[.int .i64 k, .int .i64 a, .int .i64 m, .bool d] 25) = u := ⟨_, rfl⟩
  rw [hw0] at X q0 q1 q2 q3 ⊢
  clear hw0
  go_cut [33] (fun v wc => v = .bool (decide (¬ ((k = 1 ∨ k = 2) ∧ (1 ≤ m ∧ m ≤ 100) ∧ (1 ≤ a ∧ a ≤ lt)))) ∧ Ext w0 wc)
  case first =>
    by_cases h1 : k = 1
    · subst h1
      by_cases h3 : m < 1
      · (go_quiet ((go_at_call 25; refine Calls.quiet_of_same (L _))); go_wp2; go_meet; case rel => (refine ⟨congrArg Value.bool ?_, xdNt (xr _) _⟩; rw [Bool.eq_iff_iff]; first | (simp only [decide_eq_true_eq]; omega) | (simp; omega) | (simp only [decide_eq_true_eq, true_iff]; omega)))
      have f3 : decide (m < 1) = false := decide_eq_false h3
      by_cases h4 : 100 < m
      · (go_quiet ((go_at_call 25; refine Calls.quiet_of_same (L _))); go_wp2; go_meet; case rel => (refine ⟨congrArg Value.bool ?_, xdNt (xr _) _⟩; rw [Bool.eq_iff_iff]; first | (simp only [decide_eq_true_eq]; omega) | (simp; omega) | (simp only [decide_eq_true_eq, true_iff]; omega)))
      have f4 : decide (100 < m) = false := decide_eq_false h4
      by_cases h5 : a < 1
      · (go_quiet ((go_at_call 25; refine Calls.quiet_of_same (L _))); go_wp2; go_meet; case rel => (refine ⟨congrArg Value.bool ?_, xdNt (xr _) _⟩; rw [Bool.eq_iff_iff]; first | (simp only [decide_eq_true_eq]; omega) | (simp; omega) | (simp only [decide_eq_true_eq, true_iff]; omega)))
      have f5 : decide (a < 1) = false := decide_eq_false h5
      (go_quiet ((go_at_call 25; refine Calls.quiet_of_same (L _))); go_wp2; go_meet; case rel => (refine ⟨congrArg Value.bool ?_, xdNt (xr _) _⟩; rw [Bool.eq_iff_iff]; first | (simp only [decide_eq_true_eq]; omega) | (simp; omega) | (simp only [decide_eq_true_eq, true_iff]; omega)))
    by_cases h2 : k = 2
    · subst h2
      by_cases h3 : m < 1
      · (go_quiet ((go_at_call 25; refine Calls.quiet_of_same (L _))); go_wp2; go_meet; case rel => (refine ⟨congrArg Value.bool ?_, xdNt (xr _) _⟩; rw [Bool.eq_iff_iff]; first | (simp only [decide_eq_true_eq]; omega) | (simp; omega) | (simp only [decide_eq_true_eq, true_iff]; omega)))
      have f3 : decide (m < 1) = false := decide_eq_false h3
      by_cases h4 : 100 < m
      · (go_quiet ((go_at_call 25; refine Calls.quiet_of_same (L _))); go_wp2; go_meet; case rel => (refine ⟨congrArg Value.bool ?_, xdNt (xr _) _⟩; rw [Bool.eq_iff_iff]; first | (simp only [decide_eq_true_eq]; omega) | (simp; omega) | (simp only [decide_eq_true_eq, true_iff]; omega)))
      have f4 : decide (100 < m) = false := decide_eq_false h4
      by_cases h5 : a < 1
      · (go_quiet ((go_at_call 25; refine Calls.quiet_of_same (L _))); go_wp2; go_meet; case rel => (refine ⟨congrArg Value.bool ?_, xdNt (xr _) _⟩; rw [Bool.eq_iff_iff]; first | (simp only [decide_eq_true_eq]; omega) | (simp; omega) | (simp only [decide_eq_true_eq, true_iff]; omega)))
      have f5 : decide (a < 1) = false := decide_eq_false h5
      (go_quiet ((go_at_call 25; refine Calls.quiet_of_same (L _))); go_wp2; go_meet; case rel => (refine ⟨congrArg Value.bool ?_, xdNt (xr _) _⟩; rw [Bool.eq_iff_iff]; first | (simp only [decide_eq_true_eq]; omega) | (simp; omega) | (simp only [decide_eq_true_eq, true_iff]; omega)))
    have f1 : decide (k = 1) = false := decide_eq_false h1
    have f2 : decide (k = 2) = false := decide_eq_false h2
    have f1' : (k == 1) = false := beq_eq_false_iff_ne.2 h1
    have f2' : (k == 2) = false := beq_eq_false_iff_ne.2 h2
    (go_quiet ((go_at_call 25; refine Calls.quiet_of_same (L _))); go_wp2; go_meet; case rel => (refine ⟨congrArg Value.bool ?_, xdNt (xr _) _⟩; rw [Bool.eq_iff_iff]; first | (simp only [decide_eq_true_eq]; omega) | (simp; omega) | (simp only [decide_eq_true_eq, true_iff]; omega)))
  case rest =>
    obtain ⟨rfl, E1⟩ := hcut
    rename World => w2
    have Y := xt X E1
    replace q0 := cell_later E1 q0
    replace q1 := cell_later E1 q1
    replace q2 := cell_later E1 q2
    replace q3 := cell_later E1 q3
    by_cases hb : (k = 1 ∨ k = 2) ∧ (1 ≤ m ∧ m ≤ 100) ∧ (1 ≤ a ∧ a ≤ lt)
    · have hb' : decide (¬ ((k = 1 ∨ k = 2) ∧ (1 ≤ m ∧ m ≤ 100) ∧ (1 ≤ a ∧ a ≤ lt))) = false := decide_eq_false (fun h => h hb)
      simp only [hb']
      have e1 : IntKind.i64.wrap (a + m) = a + m := by rw [IntKind.wrap_i64]; omega
      have e2 : IntKind.i64.wrap (a + m - 1) = a + m - 1 := by rw [IntKind.wrap_i64]; omega
      go_upto_region 3 with fail
      cases d
      all_goals go_quiet ((go_at_call 25; refine Calls.quiet_of_same (L _)))
      all_goals go_wp2
      all_goals go_ret
      all_goals refine ⟨ret_bool ?_, xdNt Y _⟩
      all_goals simp [hb]
    · have hb' : decide (¬ ((k = 1 ∨ k = 2) ∧ (1 ≤ m ∧ m ≤ 100) ∧ (1 ≤ a ∧ a ≤ lt))) = true := decide_eq_true hb
      simp only [hb']
      go_wp2
      go_ret
      refine ⟨ret_bool ?_, Y⟩
      symm
      rw [decide_eq_false_iff_not]
      exact fun h => hb ⟨h.1, h.2.1, h.2.2.1⟩
end Go.Proofs.Ytjoalcnedehfgaa
