/-
  Chapter 9: whether two places show the same.
-/
import Derived.Test.YtbipmeldmgpknaaD9e
namespace Go.Proofs.Ytbipmeldmgpknaa
open Go.RowKit

theorem like_iff {e f : ST} : e.like f = true ↔ (e.k = f.k ∧ e.n = f.n ∧ e.d = f.d ∧ e.x = f.x ∧ e.t = f.t) ∧ e.q = f.q := by
  simp [ST.like, and_assoc]
theorem like_false {e f : ST} : e.like f = false ↔ ¬ ((e.k = f.k ∧ e.n = f.n ∧ e.d = f.d ∧ e.x = f.x ∧ e.t = f.t) ∧ e.q = f.q) := by
  rw [← like_iff]; simp
set_option maxHeartbeats 1000000 in
theorem val_eq9 (e f : ST) (W : World) :
    (binOp BinOp.eql 40 (valV e.k e.n e.d e.x e.t) (valV f.k f.n f.d f.x f.t)).run Try.prog W = .ok (.bool (decide (e.k = f.k ∧ e.n = f.n ∧ e.d = f.d ∧ e.x = f.x ∧ e.t = f.t))) W := by
  obtain ⟨r, c, k, n, d, x, t, q⟩ := e
  obtain ⟨r', c', k', n', d', x', t', q'⟩ := f
  dsimp only
  by_cases h : k = k' ∧ n = n' ∧ d = d' ∧ x = x' ∧ t = t'
  · obtain ⟨rfl, rfl, rfl, rfl, rfl⟩ := h
    go_simp
  · rw [decide_eq_false h]
    have H : Hid (¬ (k = k' ∧ n = n' ∧ d = d' ∧ x = x' ∧ t = t')) := h
    clear h
    go_simp
    intros
    have := H.out
    simp_all
set_option maxHeartbeats 1000000 in
theorem shown_neq (e f : ST) (hr : e.r = f.r) (hc : e.c = f.c) (W : World) :
    (binOp BinOp.neq 42 (.agg e.cells.toArray) (.agg f.cells.toArray)).run Try.prog W = .ok (.bool (!(e.like f))) W := by
  obtain ⟨r, c, k, n, d, x, t, q⟩ := e
  obtain ⟨r', c', k', n', d', x', t', q'⟩ := f
  dsimp only at hr hc
  subst hr hc
  cases h : ST.like ⟨r, c, k, n, d, x, t, q⟩ ⟨r, c, k', n', d', x', t', q'⟩ with
  | true =>
    obtain ⟨⟨h1, h2, h3, h4, h5⟩, h6⟩ := like_iff.1 h
    dsimp only at h1 h2 h3 h4 h5 h6
    subst h1 h2 h3 h4 h5 h6
    clear h
    go_simp
  | false =>
    have H : Hid (¬ ((k = k' ∧ n = n' ∧ d = d' ∧ x = x' ∧ t = t') ∧ q = q')) := like_false.1 h
    clear h
    go_simp
    intros
    have := H.out
    simp_all
set_option maxRecDepth 8000 in
set_option maxHeartbeats 4000000 in
theorem likeI (e f : ST) (w : World) :
    Calls Try.prog 17 #[.agg e.cells.toArray, .agg f.cells.toArray] w fun v w' => v = .returned (.bool (e.like f)) ∧ Gro w w' := by
  have B1 := vec_made w e.cells 42
  have X1 := g1 w (.cells e.cells.toArray 42)
  obtain ⟨wa, ha⟩ : ∃ wa, w.alloc (.cells e.cells.toArray 42) = wa := ⟨_, rfl⟩
  rw [ha] at B1 X1
  have B2 := vec_made wa f.cells 42
  have X2 := g1 wa (.cells f.cells.toArray 42)
  have sa : wa.heap.size = w.heap.size + 1 := by rw [← ha, World.size_alloc]
  obtain ⟨wb, hb⟩ : ∃ wb, wa.alloc (.cells f.cells.toArray 42) = wb := ⟨_, rfl⟩
  rw [hb, sa] at B2
  rw [hb] at X2
  have B1 := B1.later X2.1
  have X := gt X1 X2
  have VE := fun W => val_eq9 e f W
  have HV : Hid (e.like f = (decide (e.k = f.k ∧ e.n = f.n ∧ e.d = f.d ∧ e.x = f.x ∧ e.t = f.t) && decide (e.q = f.q))) := by
    show _ = _
    cases h : e.like f with
    | true => have := like_iff.1 h; simp [this]
    | false =>
      have := like_false.1 h
      by_cases h1 : e.k = f.k ∧ e.n = f.n ∧ e.d = f.d ∧ e.x = f.x ∧ e.t = f.t
      · have h2 : e.q ≠ f.q := fun q => this ⟨h1, q⟩
        simp [h2]
      · simp [h1]
  generalize decide (e.k = f.k ∧ e.n = f.n ∧ e.d = f.d ∧ e.x = f.x ∧ e.t = f.t) = V at VE HV
  generalize e.like f = R at HV ⊢
  obtain ⟨r, c, k, n, d, x, t, q⟩ := e
  obtain ⟨r', c', k', n', d', x', t', q'⟩ := f
  have ha : w.alloc (.cells #[.int .i64 r, .int .i64 c, .int .i64 k, .bool n, .int .i64 d, .int .i64 x, sV t, .bool q] 42) = wa := ha
  have hb : wa.alloc (.cells #[.int .i64 r', .int .i64 c', .int .i64 k', .bool n', .int .i64 d', .int .i64 x', sV t', .bool q'] 42) = wb := hb
  show Calls Try.prog 17 #[shownV r c k n d x t q, shownV r' c' k' n' d' x' t' q'] w _
  have a2 := (B1 2 _ rfl).1
  have a3 := (B1 3 _ rfl).1
  have a4 := (B1 4 _ rfl).1
  have a5 := (B1 5 _ rfl).1
  have a6 := (B1 6 _ rfl).1
  have a7 := (B1 7 _ rfl).1
  have c2 := (B2 2 _ rfl).1
  have c3 := (B2 3 _ rfl).1
  have c4 := (B2 4 _ rfl).1
  have c5 := (B2 5 _ rfl).1
  have c6 := (B2 6 _ rfl).1
  have c7 := (B2 7 _ rfl).1
  dsimp only at a2 a3 a4 a5 a6 a7 c2 c3 c4 c5 c6 c7 VE HV
  clear X1 X2 B1 B2
  cases V with
  | true =>
    cases q <;> cases q'
    all_goals
      go_enter Try.func17, Try.ntmps17
      go_wp2_with fail
      go_ret
      exact ⟨ret_bool (by rw [HV.out]; rfl), X⟩
  | false =>
    have HE : Hid (R = false) := by show _ = _; rw [HV.out]; rfl
    go_enter Try.func17, Try.ntmps17
    go_wp2_with fail
    go_ret
    exact ⟨ret_bool (by rw [HE.out]), X⟩

end Go.Proofs.Ytbipmeldmgpknaa
