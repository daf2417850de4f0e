/-
  Blocks of the program: what is common, what is around, what is empty.
-/
import Derived.Test.YtjoalcnedehfgaaNor
namespace Go.Proofs.Ytjoalcnedehfgaa
open Go.RowKit

abbrev spV (a b : Int) : Value := .agg #[.int .i64 a, .int .i64 b]
abbrev blV (a b c d : Int) : Value := .agg #[.int .i64 a, .int .i64 b, .int .i64 c, .int .i64 d]
set_option maxRecDepth 8000 in
set_option maxHeartbeats 1000000 in
theorem spanCommon (a b a' b' : Int) (w : World) :
    Calls Try.prog 48 #[spV a b, spV a' b'] w fun e w' => e = .returned (spV (hi a a') (lo b b')) ∧ Ext w w' := by
  by_cases ga : a < a'
  · have ea : hi a a' = a' := by unfold hi; split <;> omega
    have fa : (a < a') = True := eq_true ga
    rw [ea]
    by_cases gb : b' < b
    · have eb : lo b b' = b' := by unfold lo; split <;> omega
      have fb : (b' < b) = True := eq_true gb
      rw [eb]
      clear ga gb ea eb
      go_enter Try.func48, Try.ntmps48
      go_wp2
      exact bodyPost_ret (v := spV a' b') (by simp [results, Try.results48, go_sem] <;> (simp at fa fb; omega)) rfl ⟨rfl, xa (xa (x1 _ _) _) _⟩
    · have eb : lo b b' = b := by unfold lo; split <;> omega
      have fb : (b' < b) = False := eq_false gb
      rw [eb]
      clear ga gb ea eb
      go_enter Try.func48, Try.ntmps48
      go_wp2
      exact bodyPost_ret (v := spV a' b) (by simp [results, Try.results48, go_sem] <;> (simp at fa fb; omega)) rfl ⟨rfl, xa (xa (x1 _ _) _) _⟩
  · have ea : hi a a' = a := by unfold hi; split <;> omega
    have fa : (a < a') = False := eq_false ga
    rw [ea]
    by_cases gb : b' < b
    · have eb : lo b b' = b' := by unfold lo; split <;> omega
      have fb : (b' < b) = True := eq_true gb
      rw [eb]
      clear ga gb ea eb
      go_enter Try.func48, Try.ntmps48
      go_wp2
      exact bodyPost_ret (v := spV a b') (by simp [results, Try.results48, go_sem] <;> (simp at fa fb; omega)) rfl ⟨rfl, xa (xa (x1 _ _) _) _⟩
    · have eb : lo b b' = b := by unfold lo; split <;> omega
      have fb : (b' < b) = False := eq_false gb
      rw [eb]
      clear ga gb ea eb
      go_enter Try.func48, Try.ntmps48
      go_wp2
      exact bodyPost_ret (v := spV a b) (by simp [results, Try.results48, go_sem] <;> (simp at fa fb; omega)) rfl ⟨rfl, xa (xa (x1 _ _) _) _⟩
set_option maxRecDepth 8000 in
set_option maxHeartbeats 1000000 in
theorem spanAround (a b a' b' : Int) (w : World) :
    Calls Try.prog 50 #[spV a b, spV a' b'] w fun e w' => e = .returned (spV (lo a a') (hi b b')) ∧ Ext w w' := by
  by_cases ga : a' < a
  · have ea : lo a a' = a' := by unfold lo; split <;> omega
    have fa : (a' < a) = True := eq_true ga
    rw [ea]
    by_cases gb : b < b'
    · have eb : hi b b' = b' := by unfold hi; split <;> omega
      have fb : (b < b') = True := eq_true gb
      rw [eb]
      clear ga gb ea eb
      go_enter Try.func50, Try.ntmps50
      go_wp2
      exact bodyPost_ret (v := spV a' b') (by simp [results, Try.results50, go_sem] <;> (simp at fa fb; omega)) rfl ⟨rfl, xa (xa (x1 _ _) _) _⟩
    · have eb : hi b b' = b := by unfold hi; split <;> omega
      have fb : (b < b') = False := eq_false gb
      rw [eb]
      clear ga gb ea eb
      go_enter Try.func50, Try.ntmps50
      go_wp2
      exact bodyPost_ret (v := spV a' b) (by simp [results, Try.results50, go_sem] <;> (simp at fa fb; omega)) rfl ⟨rfl, xa (xa (x1 _ _) _) _⟩
  · have ea : lo a a' = a := by unfold lo; split <;> omega
    have fa : (a' < a) = False := eq_false ga
    rw [ea]
    by_cases gb : b < b'
    · have eb : hi b b' = b' := by unfold hi; split <;> omega
      have fb : (b < b') = True := eq_true gb
      rw [eb]
      clear ga gb ea eb
      go_enter Try.func50, Try.ntmps50
      go_wp2
      exact bodyPost_ret (v := spV a b') (by simp [results, Try.results50, go_sem] <;> (simp at fa fb; omega)) rfl ⟨rfl, xa (xa (x1 _ _) _) _⟩
    · have eb : hi b b' = b := by unfold hi; split <;> omega
      have fb : (b < b') = False := eq_false gb
      rw [eb]
      clear ga gb ea eb
      go_enter Try.func50, Try.ntmps50
      go_wp2
      exact bodyPost_ret (v := spV a b) (by simp [results, Try.results50, go_sem] <;> (simp at fa fb; omega)) rfl ⟨rfl, xa (xa (x1 _ _) _) _⟩
set_option maxHeartbeats 1000000 in
theorem spanEmpty (a b : Int) (w : World) :
    Calls Try.prog 40 #[spV a b] w fun e w' => e = .returned (.bool (decide (a > b))) ∧ Ext w w' := by
  go_enter Try.func40, Try.ntmps40
  go_wp2
  all_goals go_ret
  all_goals exact ⟨rfl, x1 _ _⟩
set_option maxRecDepth 8000 in
set_option maxHeartbeats 1000000 in
theorem blockArea (a b c d : Int) (w : World) :
    Calls Try.prog 54 #[blV a b c d] w fun e w' => e = .returned (arV a c false false b d false false) ∧ Ext w w' := by
  go_enter Try.func54, Try.ntmps54
  go_wp2
  exact bodyPost_ret (v := arV a c false false b d false false) (by simp [results, Try.results54, go_sem]) rfl ⟨rfl, xa (x1 _ _) _⟩
set_option maxRecDepth 8000 in
set_option maxHeartbeats 1000000 in
/-- The block of a good area. -/
theorem blockOf (r c : Int) (rf cf : Bool) (r' c' : Int) (rf' cf' : Bool) (w : World) (hg : goodAB r c r' c' = true) :
    Calls Try.prog 53 #[arV r c rf cf r' c' rf' cf'] w fun e w' => e = .returned (blV (lo r r') (hi r r') (lo c c') (hi c c')) ∧ Ext w w' := by
  have N := fun w => normalI_good r c rf cf r' c' rf' cf' w hg
  have B2 := Vec.made4 (w.alloc (.cells #[.int .i64 r, .int .i64 c, .bool rf, .bool cf, .int .i64 r', .int .i64 c', .bool rf', .bool cf'] 39)) (.int .i64 0) (.int .i64 0) (.int .i64 0) (.int .i64 0) 73
  have X := xa (x1 w (.cells #[.int .i64 r, .int .i64 c, .bool rf, .bool cf, .int .i64 r', .int .i64 c', .bool rf', .bool cf'] 39)) (.cells #[.int .i64 0, .int .i64 0, .int .i64 0, .int .i64 0] 73)
  rw [World.size_alloc] at B2
  obtain ⟨n1, h1⟩ : ∃ n, lo r r' = n := ⟨_, rfl⟩
  obtain ⟨n2, h2⟩ : ∃ n, lo c c' = n := ⟨_, rfl⟩
  obtain ⟨n3, h3⟩ : ∃ n, loF r r' rf rf' = n := ⟨_, rfl⟩
  obtain ⟨n4, h4⟩ : ∃ n, loF c c' cf cf' = n := ⟨_, rfl⟩
  obtain ⟨n5, h5⟩ : ∃ n, hi r r' = n := ⟨_, rfl⟩
  obtain ⟨n6, h6⟩ : ∃ n, hi c c' = n := ⟨_, rfl⟩
  obtain ⟨n7, h7⟩ : ∃ n, hiF r r' rf rf' = n := ⟨_, rfl⟩
  obtain ⟨n8, h8⟩ : ∃ n, hiF c c' cf cf' = n := ⟨_, rfl⟩
  simp only [norV, h1, h2, h3, h4, h5, h6, h7, h8] at N ⊢
  clear h1 h2 h3 h4 h5 h6 h7 h8 hg
  go_enter Try.func53, Try.ntmps53
  go_wp2_with fail
  refine (N _).mono ?_
  rintro e w1 ⟨rfl, e1⟩
  have C2 := B2.later e1
  have Y := xt X e1
  clear B2 X e1 N
  obtain ⟨w2, h2⟩ : ∃ w2, w1.alloc (.cells #[.int .i64 n1, .int .i64 n2, .bool n3, .bool n4, .int .i64 n5, .int .i64 n6, .bool n7, .bool n8] 39) = w2 := ⟨_, rfl⟩
  have P := Vec.made8 w1 (.int .i64 n1) (.int .i64 n2) (.bool n3) (.bool n4) (.int .i64 n5) (.int .i64 n6) (.bool n7) (.bool n8) 39
  have x2 := x1 w1 (.cells #[.int .i64 n1, .int .i64 n2, .bool n3, .bool n4, .int .i64 n5, .int .i64 n6, .bool n7, .bool n8] 39)
  rw [h2] at P x2
  have D2 := C2.later x2
  have Z := Ext.set4 (b := w.heap.size + 1) (o := 0) (xt Y x2) (by omega) (.int .i64 n1) (.int .i64 n5) (.int .i64 n2) (.int .i64 n6)
  obtain ⟨⟨⟨a0, a1, a2, a3⟩, a4, a5, a6, a7⟩, _⟩ := P.box8
  obtain ⟨⟨m0, m1, m2, m3⟩, f0, f1, f2, f3⟩ := D2.box4
  clear P D2 C2 Y x2
  go_wp2_with fail
  exact bodyPost_ret (v := blV n1 n5 n2 n6) (by simp [results, Try.results53, go_sem, m0, m1, m2, m3]) rfl ⟨rfl, Z⟩

set_option maxHeartbeats 400000 in
theorem maxS (a b : Int) (w : World) :
    Calls Try.prog 32 #[.int .i64 a, .int .i64 b] w fun e w' => e = .returned (.int .i64 (hi a b)) ∧ w' = w := by
  go_enter Try.func32, Try.ntmps32
  go_wp2
  all_goals go_ret
  all_goals exact ⟨ret_int (by unfold hi; split <;> omega), rfl⟩
set_option maxHeartbeats 400000 in
theorem minS (a b : Int) (w : World) :
    Calls Try.prog 31 #[.int .i64 a, .int .i64 b] w fun e w' => e = .returned (.int .i64 (lo a b)) ∧ w' = w := by
  go_enter Try.func31, Try.ntmps31
  go_wp2
  all_goals go_ret
  all_goals exact ⟨ret_int (by unfold lo; split <;> omega), rfl⟩
set_option maxRecDepth 8000 in
set_option maxHeartbeats 400000 in
theorem areaS (a b c d : Int) (w : World) :
    Calls Try.prog 52 #[.int .i64 a, .int .i64 b, .int .i64 c, .int .i64 d] w fun e w' => e = .returned (arV a b false false c d false false) ∧ Ext w w' := by
  go_enter Try.func52, Try.ntmps52
  go_wp2
  exact bodyPost_ret (v := arV a b false false c d false false) (by simp [results, Try.results52, go_sem]) rfl ⟨rfl, x1 _ _⟩

end Go.Proofs.Ytjoalcnedehfgaa
