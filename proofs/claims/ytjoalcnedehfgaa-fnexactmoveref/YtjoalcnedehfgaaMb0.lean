/-
  Blocks of a move: of an area, and whether they hold a ref.
-/
import Derived.Test.YtjoalcnedehfgaaMx
import Derived.Test.YtjoalcnedehfgaaTi
namespace Go.Proofs.Ytjoalcnedehfgaa
open Go.RowKit

theorem Vec.made1 (w : World) (v0 : Value) (t : TypeId) : Vec (w.alloc (.cells #[v0] t)) w.heap.size [v0] := by
  intro i v hi
  match i, hi with
  | 0, hi => cases hi; exact ⟨by simp [go_sem], by simp [go_sem]⟩
def set1 (w : World) (b : Nat) (u : Value) : World := w.setCell ⟨b, 0, none⟩ u
theorem Vec.put1 {w : World} {b : Nat} {v0 : Value} (h : Vec w b [v0]) (u : Value) : Vec (set1 w b u) b [u] := h.put 0 (by simp) u
theorem Vec.far1 {w : World} {b k : Nat} {l : List Value} (h : Vec w b l) (hk : k ≠ b) (u : Value) : Vec (set1 w k u) b l := h.far (p := ⟨k, 0, none⟩) hk u
theorem Ext.set1 {a w : World} {b : Nat} (h : Ext a w) (hb : a.heap.size ≤ b) (u : Value) : Ext a (set1 w b u) := xset (p := ⟨b, 0, none⟩) h hb u
set_option maxRecDepth 8000 in
set_option maxHeartbeats 1000000 in
theorem blockOf_of (r c : Int) (rf cf : Bool) (r' c' : Int) (rf' cf' : Bool) (n1 n2 : Int) (n3 n4 : Bool) (n5 n6 : Int) (n7 n8 : Bool) (N : ∀ w, Calls Try.prog 56 #[arV r c rf cf r' c' rf' cf'] w fun e w' => e = .returned (arV n1 n2 n3 n4 n5 n6 n7 n8) ∧ Ext w w') (w : World) :
    Calls Try.prog 53 #[arV r c rf cf r' c' rf' cf'] w fun e w' => e = .returned (blV n1 n5 n2 n6) ∧ Ext w w' := by
  have B2 := Vec.made4 (w.alloc (.cells #[.int .i64 r, .int .i64 c, .bool rf, .bool cf, .int .i64 r', .int .i64 c', .bool rf', .bool cf'] 39)) (.int .i64 0) (.int .i64 0) (.int .i64 0) (.int .i64 0) 73
  have X := xa (x1 w (.cells #[.int .i64 r, .int .i64 c, .bool rf, .bool cf, .int .i64 r', .int .i64 c', .bool rf', .bool cf'] 39)) (.cells #[.int .i64 0, .int .i64 0, .int .i64 0, .int .i64 0] 73)
  rw [World.size_alloc] at B2
  go_enter Try.func53, Try.ntmps53
  go_wp2_with fail
  refine (N _).mono ?_
  rintro e w1 ⟨rfl, e1⟩
  have C2 := B2.later e1
  have Y := xt X e1
  clear B2 X e1 N
  obtain ⟨w2, h2⟩ : ∃ w2, w1.alloc (.cells #[.int .i64 n1, .int .i64 n2, .bool n3, .bool n4, .int .i64 n5, .int .i64 n6, .bool n7, .bool n8] 39) = w2 := ⟨_, rfl⟩
  have P := Vec.made8 w1 (.int .i64 n1) (.int .i64 n2) (.bool n3) (.bool n4) (.int .i64 n5) (.int .i64 n6) (.bool n7) (.bool n8) 39
  have x2 := x1 w1 (.cells #[.int .i64 n1, .int .i64 n2, .bool n3, .bool n4, .int .i64 n5, .int .i64 n6, .bool n7, .bool n8] 39)
  rw [h2] at P x2
  have D2 := C2.later x2
  have Z := Ext.set4 (b := w.heap.size + 1) (o := 0) (xt Y x2) (by omega) (.int .i64 n1) (.int .i64 n5) (.int .i64 n2) (.int .i64 n6)
  obtain ⟨⟨⟨a0, a1, a2, a3⟩, a4, a5, a6, a7⟩, _⟩ := P.box8
  obtain ⟨⟨m0, m1, m2, m3⟩, f0, f1, f2, f3⟩ := D2.box4
  clear P D2 C2 Y x2
  go_wp2_with fail
  exact bodyPost_ret (v := blV n1 n5 n2 n6) (by simp [results, Try.results53, go_sem, m0, m1, m2, m3]) rfl ⟨rfl, Z⟩


theorem blockOf_bad (r c : Int) (rf cf : Bool) (r' c' : Int) (rf' cf' : Bool) (hg : goodAB r c r' c' = false) (w : World) :
    Calls Try.prog 53 #[arV r c rf cf r' c' rf' cf'] w fun e w' => e = .returned (blV 0 0 0 0) ∧ Ext w w' :=
  blockOf_of r c rf cf r' c' rf' cf' 0 0 false false 0 0 false false (fun w => normalI_bad r c rf cf r' c' rf' cf' w hg) w

set_option maxHeartbeats 1000000 in
theorem spanHolds (a b n : Int) (w : World) :
    Calls Try.prog 55 #[spV a b, .int .i64 n] w fun e w' => e = .returned (.bool (decide (a ≤ n ∧ n ≤ b))) ∧ Ext w w' := by
  go_enter Try.func55, Try.ntmps55
  go_wp2
  all_goals go_ret
  all_goals refine ⟨ret_bool ?_, x1 _ _⟩
  all_goals rw [Bool.eq_iff_iff]
  all_goals first | (simp only [decide_eq_true_eq]; omega) | (simp; omega)
set_option maxRecDepth 8000 in
set_option maxHeartbeats 1000000 in
theorem blockHolds (a b c d r s : Int) (h k : Bool) (w : World) :
    Calls Try.prog 45 #[blV a b c d, refV r s h k] w fun e w' => e = .returned (.bool (insB a b c d r s)) ∧ Ext w w' := by
  have S1 := fun w => spanHolds a b r w
  have S2 := fun w => spanHolds c d s w
  have e : insB a b c d r s = (decide (a ≤ r ∧ r ≤ b) && decide (c ≤ s ∧ s ≤ d)) := by unfold insB; simp
  rw [e]
  clear e
  obtain ⟨p, hp⟩ : ∃ p, decide (a ≤ r ∧ r ≤ b) = p := ⟨_, rfl⟩
  obtain ⟨q, hq⟩ : ∃ q, decide (c ≤ s ∧ s ≤ d) = q := ⟨_, rfl⟩
  rw [hp] at S1 ⊢
  rw [hq] at S2 ⊢
  clear hp hq
  have B1 := Vec.made4 w (.int .i64 a) (.int .i64 b) (.int .i64 c) (.int .i64 d) 73
  have X := x1 w (.cells #[.int .i64 a, .int .i64 b, .int .i64 c, .int .i64 d] 73)
  obtain ⟨wa, ha⟩ : ∃ u, w.alloc (.cells #[.int .i64 a, .int .i64 b, .int .i64 c, .int .i64 d] 73) = u := ⟨_, rfl⟩
  rw [ha] at B1 X
  have sa : wa.heap.size = w.heap.size + 1 := by rw [← ha, World.size_alloc]
  have B2 := Vec.made4 wa (.int .i64 r) (.int .i64 s) (.bool h) (.bool k) 30
  have x2 := x1 wa (.cells #[.int .i64 r, .int .i64 s, .bool h, .bool k] 30)
  rw [sa] at B2
  go_enter Try.func45, Try.ntmps45
  go_upto_region 1 with fail
  (try rw [ha])
  obtain ⟨w0, hw0⟩ : ∃ u, wa.alloc (.cells #[.int .i64 r, .int .i64 s, .bool h, .bool k] 30) = u := ⟨_, rfl⟩
  rw [hw0] at B2 x2 ⊢
  replace B1 := B1.later x2
  replace X := xt X x2
  clear ha hw0 sa x2
  obtain ⟨⟨a0, a1, a2, a3⟩, _⟩ := B1.box4
  obtain ⟨⟨b0, b1, b2, b3⟩, _⟩ := B2.box4
  go_wp2_with fail
  refine (S1 _).mono ?_
  rintro e w1 ⟨rfl, e1⟩
  clear a0 a1 a2 a3 b0 b1 b2 b3
  obtain ⟨⟨a0, a1, a2, a3⟩, _⟩ := (B1.later e1).box4
  obtain ⟨⟨b0, b1, b2, b3⟩, _⟩ := (B2.later e1).box4
  cases p
  · go_wp2
    go_ret
    exact ⟨rfl, xt X e1⟩
  · go_wp2_with fail
    refine (S2 _).mono ?_
    rintro e w2 ⟨rfl, e2⟩
    go_wp2
    go_ret
    exact ⟨rfl, xt (xt X e1) e2⟩

end Go.Proofs.Ytjoalcnedehfgaa
