/-
  GoodRef on both sides, refs handed over, refs compared.
-/
import Derived.Test.YtjoalcnedehfgaaAdN
namespace Go.Proofs.Ytjoalcnedehfgaa
open Go.RowKit

abbrev refV (r c : Int) (rf cf : Bool) : Value := .agg #[.int .i64 r, .int .i64 c, .bool rf, .bool cf]
/-- Whether a ref is good. -/
def goodRB (r c : Int) : Bool := decide ((1 ≤ r ∧ r ≤ 1000) ∧ (1 ≤ c ∧ c ≤ 200))

set_option maxHeartbeats 400000 in
theorem isRowI (n : Int) (w : World) :
    Calls Try.prog 46 #[.int .i64 n] w fun e w' => e = .returned (.bool (decide (1 ≤ n ∧ n ≤ 1000))) ∧ w' = w := by
  go_enter Try.func46, Try.ntmps46
  go_wp2
  all_goals go_ret
  all_goals refine ⟨ret_bool ?_, rfl⟩
  all_goals simp_all
  all_goals (intros; omega)
set_option maxHeartbeats 400000 in
theorem isColI (n : Int) (w : World) :
    Calls Try.prog 47 #[.int .i64 n] w fun e w' => e = .returned (.bool (decide (1 ≤ n ∧ n ≤ 200))) ∧ w' = w := by
  go_enter Try.func47, Try.ntmps47
  go_wp2
  all_goals go_ret
  all_goals refine ⟨ret_bool ?_, rfl⟩
  all_goals simp_all
  all_goals (intros; omega)
set_option maxHeartbeats 400000 in
theorem goodRI (r c : Int) (rf cf : Bool) (w : World) :
    Calls Try.prog 38 #[refV r c rf cf] w fun e w' => e = .returned (.bool (goodRB r c)) ∧ Ext w w' := by
  have C1 := fun w => isRowI r w
  have C2 := fun w => isColI c w
  have e : goodRB r c = (decide (1 ≤ r ∧ r ≤ 1000) && decide (1 ≤ c ∧ c ≤ 200)) := by unfold goodRB; simp
  rw [e]
  obtain ⟨c1, h1⟩ : ∃ b, decide (1 ≤ r ∧ r ≤ 1000) = b := ⟨_, rfl⟩
  obtain ⟨c2, h2⟩ : ∃ b, decide (1 ≤ c ∧ c ≤ 200) = b := ⟨_, rfl⟩
  rw [h1] at C1 ⊢
  rw [h2] at C2 ⊢
  clear h1 h2 e
  go_enter Try.func38, Try.ntmps38
  cases c1 <;> cases c2
  all_goals go_wp2_with (first | (go_at_call 46; refine (C1 _).mono ?_; rintro e w' ⟨rfl, rfl⟩) | (go_at_call 47; refine (C2 _).mono ?_; rintro e w' ⟨rfl, rfl⟩))
  all_goals go_ret
  all_goals exact ⟨rfl, x1 _ _⟩
set_option maxHeartbeats 400000 in
theorem goodRS (r c : Int) (rf cf : Bool) (w : World) :
    Calls Try.prog 27 #[refV r c rf cf] w fun e w' => e = .returned (.bool (goodRB r c)) ∧ Ext w w' := by
  go_enter Try.func27, Try.ntmps27
  go_wp2
  all_goals go_ret
  all_goals refine ⟨ret_bool ?_, ?_⟩
  all_goals first | exact x1 _ _ | skip
  all_goals simp_all [goodRB]
  all_goals (intros; omega)

set_option maxHeartbeats 400000 in
theorem toRef (r c : Int) (rf cf : Bool) (w : World) :
    Calls Try.prog 12 #[refV r c rf cf] w fun e w' => e = .returned (refV r c rf cf) ∧ Ext w w' := by
  go_enter Try.func12, Try.ntmps12
  go_wp2
  exact bodyPost_ret (v := refV r c rf cf) (by simp [results, Try.results12, go_sem]) rfl ⟨rfl, xa (xa (x1 _ _) _) _⟩
set_option maxHeartbeats 400000 in
theorem eqRef_same (r c : Int) (rf cf : Bool) (w : World) :
    Calls Try.prog 14 #[refV r c rf cf, refV r c rf cf] w fun e w' => e = .returned (.bool true) ∧ Ext w w' := by
  go_enter Try.func14, Try.ntmps14
  go_wp2
  all_goals go_ret
  all_goals exact ⟨rfl, xa (x1 _ _) _⟩


end Go.Proofs.Ytjoalcnedehfgaa
