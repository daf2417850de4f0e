/-
  Moves: handed over; the specification's insides.
-/
import Derived.Test.YtjoalcnedehfgaaTn
namespace Go.Proofs.Ytjoalcnedehfgaa
open Go.RowKit

abbrev moV (r c : Int) (f g : Bool) (r' c' : Int) (f' g' : Bool) (x y : Int) : Value := .agg #[.int .i64 r, .int .i64 c, .bool f, .bool g, .int .i64 r', .int .i64 c', .bool f', .bool g', .int .i64 x, .int .i64 y]
theorem Vec.made10 (w : World) (v0 v1 v2 v3 v4 v5 v6 v7 v8 v9 : Value) (t : TypeId) : Vec (w.alloc (.cells #[v0, v1, v2, v3, v4, v5, v6, v7, v8, v9] t)) w.heap.size [v0, v1, v2, v3, v4, v5, v6, v7, v8, v9] := by
  intro i v hi
  match i, hi with
  | 0, hi => cases hi; exact ⟨by simp [go_sem], by simp [go_sem]⟩
  | 1, hi => cases hi; exact ⟨by simp [go_sem], by simp [go_sem]⟩
  | 2, hi => cases hi; exact ⟨by simp [go_sem], by simp [go_sem]⟩
  | 3, hi => cases hi; exact ⟨by simp [go_sem], by simp [go_sem]⟩
  | 4, hi => cases hi; exact ⟨by simp [go_sem], by simp [go_sem]⟩
  | 5, hi => cases hi; exact ⟨by simp [go_sem], by simp [go_sem]⟩
  | 6, hi => cases hi; exact ⟨by simp [go_sem], by simp [go_sem]⟩
  | 7, hi => cases hi; exact ⟨by simp [go_sem], by simp [go_sem]⟩
  | 8, hi => cases hi; exact ⟨by simp [go_sem], by simp [go_sem]⟩
  | 9, hi => cases hi; exact ⟨by simp [go_sem], by simp [go_sem]⟩
theorem Vec.box10 {w : World} {b : Nat} {v0 v1 v2 v3 v4 v5 v6 v7 v8 v9 : Value} (h : Vec w b [v0, v1, v2, v3, v4, v5, v6, v7, v8, v9]) :
    (w.cell? ⟨b, 0, none⟩ = some v0 ∧ w.cell? ⟨b, 1, none⟩ = some v1 ∧ w.cell? ⟨b, 2, none⟩ = some v2 ∧ w.cell? ⟨b, 3, none⟩ = some v3 ∧ w.cell? ⟨b, 4, none⟩ = some v4 ∧ w.cell? ⟨b, 5, none⟩ = some v5 ∧ w.cell? ⟨b, 6, none⟩ = some v6 ∧ w.cell? ⟨b, 7, none⟩ = some v7 ∧ w.cell? ⟨b, 8, none⟩ = some v8 ∧ w.cell? ⟨b, 9, none⟩ = some v9) ∧
    w.frozen? ⟨b, 0, none⟩ = false ∧ w.frozen? ⟨b, 1, none⟩ = false ∧ w.frozen? ⟨b, 2, none⟩ = false ∧ w.frozen? ⟨b, 3, none⟩ = false ∧ w.frozen? ⟨b, 4, none⟩ = false ∧ w.frozen? ⟨b, 5, none⟩ = false ∧ w.frozen? ⟨b, 6, none⟩ = false ∧ w.frozen? ⟨b, 7, none⟩ = false ∧ w.frozen? ⟨b, 8, none⟩ = false ∧ w.frozen? ⟨b, 9, none⟩ = false :=
  ⟨⟨(h 0 _ rfl).1, (h 1 _ rfl).1, (h 2 _ rfl).1, (h 3 _ rfl).1, (h 4 _ rfl).1, (h 5 _ rfl).1, (h 6 _ rfl).1, (h 7 _ rfl).1, (h 8 _ rfl).1, (h 9 _ rfl).1⟩,
    (h 0 _ rfl).2, (h 1 _ rfl).2, (h 2 _ rfl).2, (h 3 _ rfl).2, (h 4 _ rfl).2, (h 5 _ rfl).2, (h 6 _ rfl).2, (h 7 _ rfl).2, (h 8 _ rfl).2, (h 9 _ rfl).2⟩

set_option maxRecDepth 8000 in
set_option maxHeartbeats 2000000 in
theorem toMove (r c : Int) (f g : Bool) (r' c' : Int) (f' g' : Bool) (x y : Int) (w : World) :
    Calls Try.prog 20 #[moV r c f g r' c' f' g' x y] w fun e w' => e = .returned (moV r c f g r' c' f' g' x y) ∧ Ext w w' := by
  have B1 := Vec.made10 w (.int .i64 r) (.int .i64 c) (.bool f) (.bool g) (.int .i64 r') (.int .i64 c') (.bool f') (.bool g') (.int .i64 x) (.int .i64 y) 46
  have X := x1 w (.cells #[.int .i64 r, .int .i64 c, .bool f, .bool g, .int .i64 r', .int .i64 c', .bool f', .bool g', .int .i64 x, .int .i64 y] 46)
  obtain ⟨wa, ha⟩ : ∃ u, w.alloc (.cells #[.int .i64 r, .int .i64 c, .bool f, .bool g, .int .i64 r', .int .i64 c', .bool f', .bool g', .int .i64 x, .int .i64 y] 46) = u := ⟨_, rfl⟩
  rw [ha] at B1 X
  have sa : wa.heap.size = w.heap.size + 1 := by rw [← ha, World.size_alloc]
  have B2 := Vec.made10 wa (.int .i64 0) (.int .i64 0) (.bool false) (.bool false) (.int .i64 0) (.int .i64 0) (.bool false) (.bool false) (.int .i64 0) (.int .i64 0) 49
  have x2 := x1 wa (.cells #[.int .i64 0, .int .i64 0, .bool false, .bool false, .int .i64 0, .int .i64 0, .bool false, .bool false, .int .i64 0, .int .i64 0] 49)
  obtain ⟨wb, hb⟩ : ∃ u, wa.alloc (.cells #[.int .i64 0, .int .i64 0, .bool false, .bool false, .int .i64 0, .int .i64 0, .bool false, .bool false, .int .i64 0, .int .i64 0] 49) = u := ⟨_, rfl⟩
  rw [hb] at B2 x2
  have sb : wb.heap.size = w.heap.size + 1 + 1 := by rw [← hb, World.size_alloc, sa]
  have B3 := Vec.made10 wb (.int .i64 0) (.int .i64 0) (.bool false) (.bool false) (.int .i64 0) (.int .i64 0) (.bool false) (.bool false) (.int .i64 0) (.int .i64 0) 49
  have x3 := x1 wb (.cells #[.int .i64 0, .int .i64 0, .bool false, .bool false, .int .i64 0, .int .i64 0, .bool false, .bool false, .int .i64 0, .int .i64 0] 49)
  rw [sa] at B2
  go_enter Try.func20, Try.ntmps20
  go_upto_region 2 with fail
  (try rw [ha])
  (try rw [hb])
  obtain ⟨w0, hw0⟩ : ∃ u, wb.alloc (.cells #[.int .i64 0, .int .i64 0, .bool false, .bool false, .int .i64 0, .int .i64 0, .bool false, .bool false, .int .i64 0, .int .i64 0] 49) = u := ⟨_, rfl⟩
  have s0 : w0.heap.size = w.heap.size + 1 + 1 + 1 := by rw [← hw0, World.size_alloc, sb]
  rw [hw0] at B3 x3 ⊢
  rw [sb] at B3
  replace B1 := (B1.later x2).later x3
  replace B2 := B2.later x3
  replace X := xt (xt X x2) x3
  clear ha hb hw0 sa sb x2 x3
  obtain ⟨⟨a0, a1, a2, a3, a4, a5, a6, a7, a8, a9⟩, _⟩ := B1.box10
  go_wp2_with fail
  refine (toArea _ _ _ _ _ _ _ _ _).mono ?_
  rintro e w1 ⟨rfl, e1⟩
  clear a0 a1 a2 a3 a4 a5 a6 a7 a8 a9
  replace B1 := B1.later e1
  replace B2 := B2.later e1
  replace B3 := B3.later e1
  replace X := xt X e1
  clear e1
  obtain ⟨⟨a0, a1, a2, a3, a4, a5, a6, a7, a8, a9⟩, _⟩ := B1.box10
  obtain ⟨⟨b0, b1, b2, b3, b4, b5, b6, b7, b8, b9⟩, c0, c1, c2, c3, c4, c5, c6, c7, c8, c9⟩ := B2.box10
  obtain ⟨⟨d0, d1, d2, d3, d4, d5, d6, d7, d8, d9⟩, f0, f1, f2, f3, f4, f5, f6, f7, f8, f9⟩ := B3.box10
  go_wp2
  exact bodyPost_ret (v := moV r c f g r' c' f' g' x y) (by simp [results, Try.results20, go_sem, b0, b1, b2, b3, b4, b5, b6, b7, b8, b9]) rfl ⟨rfl, xset (xset (xset (xset (xset (xset (xset (xset (xset (xset (xset (xset (xset (xset (xset (xset (xset (xset (xset (xset X (by simp only; omega) _) (by simp only; omega) _) (by simp only; omega) _) (by simp only; omega) _) (by simp only; omega) _) (by simp only; omega) _) (by simp only; omega) _) (by simp only; omega) _) (by simp only; omega) _) (by simp only; omega) _) (by simp only; omega) _) (by simp only; omega) _) (by simp only; omega) _) (by simp only; omega) _) (by simp only; omega) _) (by simp only; omega) _) (by simp only; omega) _) (by simp only; omega) _) (by simp only; omega) _) (by simp only; omega) _⟩

set_option maxHeartbeats 400000 in
theorem placeS (r c : Int) (w : World) :
    Calls Try.prog 42 #[.int .i64 r, .int .i64 c] w fun e w' => e = .returned (.bool (goodRB r c)) ∧ Ext w w' := by
  go_enter Try.func42, Try.ntmps42
  go_wp2_with fail
  refine (goodRS _ _ _ _ _).mono ?_
  rintro e w1 ⟨rfl, e1⟩
  go_wp2
  go_ret
  exact ⟨rfl, e1⟩
/-- Whether a ref lies in a block. -/
def insB (a b c d r s : Int) : Bool := decide ((a ≤ r ∧ r ≤ b) ∧ c ≤ s ∧ s ≤ d)
set_option maxRecDepth 8000 in
set_option maxHeartbeats 2000000 in
theorem insideS (r c : Int) (f g : Bool) (r' c' : Int) (f' g' : Bool) (s d : Int) (h k : Bool) (w : World) :
    Calls Try.prog 36 #[arV r c f g r' c' f' g', refV s d h k] w fun e w' => e = .returned (.bool (insB r r' c c' s d)) ∧ Ext w w' := by
  unfold insB
  go_enter Try.func36, Try.ntmps36
  go_wp2
  all_goals go_ret
  all_goals refine ⟨ret_bool ?_, xa (x1 _ _) _⟩
  all_goals rw [Bool.eq_iff_iff]
  all_goals first | (simp only [decide_eq_true_eq]; omega) | (simp; omega)

end Go.Proofs.Ytjoalcnedehfgaa
