/-
  Rows of areas, compared, marked, held against their marks.
-/
import Derived.Test.YthdjlhhedkfibaaDoorWq
namespace Go.Proofs.YthdjlhhedkfibaaDoor
open Go.RowKit

/-- A slice of areas, by its cells. -/
def AreasAt (w : World) (base : Nat) (v : Value) (n : Nat) (L : List Value) : Prop :=
  L.length = n * 8 ∧ n ≤ 100 ∧ ∃ p cap, v = .slice p n cap ∧ (0 < n → ∃ g, p = some ⟨g, 0, none⟩ ∧ base ≤ g ∧ g < w.heap.size ∧ Vec w g L)
theorem AreasAt.of_own {w : World} {base : Nat} {v : Value} {l : List Ar} (h : OwnA w base v l) (hn : l.length ≤ 100) : AreasAt w base v l.length (flatA l) := by
  refine ⟨flatA_length l, hn, ?_⟩
  rcases h.2 with ⟨rfl, h0⟩ | ⟨g, cap, cur, rfl, hb, hg, _, _, hcs, htake⟩
  · exact ⟨none, 0, by rw [h0], fun h => absurd h0 (by omega)⟩
  · refine ⟨_, cap, rfl, fun _ => ⟨g, rfl, hb, ?_, fun i u hi => ⟨?_, ?_⟩⟩⟩
    · rcases Nat.lt_or_ge g w.heap.size with h' | h'
      · exact h'
      · rw [Array.getElem?_eq_none h'] at hg; cases hg
    · have := h.cells (g := g) rfl i u hi
      rw [show (⟨g, 0, none⟩ : Addr).add i = ⟨g, i, none⟩ by unfold Addr.add; split <;> simp_all] at this
      exact this
    · simp [World.frozen?, hg]
theorem AreasAt.later {w w' : World} {base : Nat} {v : Value} {n : Nat} {L : List Value} (h : AreasAt w base v n L) (e : Ext w w') : AreasAt w' base v n L := by
  obtain ⟨h1, h2, p, cap, hv, hg⟩ := h
  refine ⟨h1, h2, p, cap, hv, fun h0 => ?_⟩
  obtain ⟨g, hp, hb, hlt, hV⟩ := hg h0
  exact ⟨g, hp, hb, Nat.lt_of_lt_of_le hlt e.size, hV.later e⟩
theorem flatA_at {l : List Ar} {i : Nat} {x : Ar} (h : l[i]? = some x) (j : Nat) (hj : j < 8) : (flatA l)[i * 8 + j]? = (cellsA x)[j]? := by
  induction l generalizing i with
  | nil => cases h
  | cons y l ih =>
    cases i with
    | zero =>
      have : y = x := by simpa using h
      subst this
      show (cellsA y ++ flatA l)[0 * 8 + j]? = _
      rw [Nat.zero_mul, Nat.zero_add, List.getElem?_append_left (by simp [cellsA]; omega)]
    | succ i =>
      show (cellsA y ++ flatA l)[(i + 1) * 8 + j]? = _
      rw [List.getElem?_append_right (by simp [cellsA]; omega)]
      have e : (i + 1) * 8 + j - (cellsA y).length = i * 8 + j := by simp [cellsA]; omega
      rw [e]
      exact ih (by simpa using h)

set_option maxRecDepth 8000 in
set_option maxHeartbeats 2000000 in
theorem eqAreas (base base' : Nat) (v v' : Value) (l : List Ar) (w : World) (h : AreasAt w base v l.length (flatA l)) (h' : AreasAt w base' v' l.length (flatA l)) :
    Calls Tryd.prog 16 #[v, v'] w fun e w' => e = .returned (.bool true) ∧ Ext w w' := by
  obtain ⟨_, hn, p, cap, rfl, hp⟩ := h
  obtain ⟨_, _, p', cap', rfl, hp'⟩ := h'
  obtain ⟨n, hN⟩ : ∃ n, l.length = n := ⟨_, rfl⟩
  rw [hN] at hn hp hp' ⊢
  have H1 : Hid (l.length = n) := hN
  have H2 : Hid (0 < n → ∃ g, p = some ⟨g, 0, none⟩ ∧ base ≤ g ∧ g < w.heap.size ∧ Vec w g (flatA l)) := hp
  have H3 : Hid (0 < n → ∃ g, p' = some ⟨g, 0, none⟩ ∧ base' ≤ g ∧ g < w.heap.size ∧ Vec w g (flatA l)) := hp'
  clear hN hp hp'
  go_enter Tryd.func16, Tryd.ntmps16
  go_wp2_with fail
  go_loopw [5] (fun i wr => ∃ k : Nat, k ≤ n ∧ i = .int .i64 k ∧ Ext w wr) (fun i _ => n - (intOf i).toNat)
  case atStart => exact ⟨0, by omega, rfl, xr _⟩
  case round =>
    obtain ⟨k, hk, rfl, X⟩ := hrel
    by_cases hlt : k < n
    · obtain ⟨g, rfl, _, _, V⟩ := H2.out (by omega)
      obtain ⟨g', rfl, _, _, V'⟩ := H3.out (by omega)
      have V := V.later X
      have V' := V'.later X
      obtain ⟨x, hx⟩ : ∃ x, l[k]? = some x := ⟨_, List.getElem?_eq_getElem (by rw [H1.out]; exact hlt)⟩
      have F := fun j hj => flatA_at hx j hj
      clear H1 H2 H3 hx
      obtain ⟨r, c, r', c'⟩ := x
      have a0 := (V (k * 8 + 0) _ (F 0 (by omega))).1
      have a1 := (V (k * 8 + 1) _ (F 1 (by omega))).1
      have a2 := (V (k * 8 + 2) _ (F 2 (by omega))).1
      have a3 := (V (k * 8 + 3) _ (F 3 (by omega))).1
      have a4 := (V (k * 8 + 4) _ (F 4 (by omega))).1
      have a5 := (V (k * 8 + 5) _ (F 5 (by omega))).1
      have a6 := (V (k * 8 + 6) _ (F 6 (by omega))).1
      have a7 := (V (k * 8 + 7) _ (F 7 (by omega))).1
      have b0 := (V' (k * 8 + 0) _ (F 0 (by omega))).1
      have b1 := (V' (k * 8 + 1) _ (F 1 (by omega))).1
      have b2 := (V' (k * 8 + 2) _ (F 2 (by omega))).1
      have b3 := (V' (k * 8 + 3) _ (F 3 (by omega))).1
      have b4 := (V' (k * 8 + 4) _ (F 4 (by omega))).1
      have b5 := (V' (k * 8 + 5) _ (F 5 (by omega))).1
      have b6 := (V' (k * 8 + 6) _ (F 6 (by omega))).1
      have b7 := (V' (k * 8 + 7) _ (F 7 (by omega))).1
      simp only [Nat.add_zero] at a0 b0
      have i1 : (0 : Int) ≤ (k : Int) := by omega
      have i2 : (k : Int) < (n : Int) := by omega
      clear F V V'
      go_wp2_with fail
      go_region_held3 (fun w' => (w'.cell? ⟨g, k * 8, none⟩ = some (.int .i64 r) ∧ w'.cell? ⟨g, k * 8 + 1, none⟩ = some (.int .i64 c) ∧ w'.cell? ⟨g, k * 8 + 2, none⟩ = some (.bool false) ∧ w'.cell? ⟨g, k * 8 + 3, none⟩ = some (.bool false) ∧ w'.cell? ⟨g, k * 8 + 4, none⟩ = some (.int .i64 r') ∧ w'.cell? ⟨g, k * 8 + 5, none⟩ = some (.int .i64 c') ∧ w'.cell? ⟨g, k * 8 + 6, none⟩ = some (.bool false) ∧ w'.cell? ⟨g, k * 8 + 7, none⟩ = some (.bool false)) ∧ w'.cell? ⟨g', k * 8, none⟩ = some (.int .i64 r) ∧ w'.cell? ⟨g', k * 8 + 1, none⟩ = some (.int .i64 c) ∧ w'.cell? ⟨g', k * 8 + 2, none⟩ = some (.bool false) ∧ w'.cell? ⟨g', k * 8 + 3, none⟩ = some (.bool false) ∧ w'.cell? ⟨g', k * 8 + 4, none⟩ = some (.int .i64 r') ∧ w'.cell? ⟨g', k * 8 + 5, none⟩ = some (.int .i64 c') ∧ w'.cell? ⟨g', k * 8 + 6, none⟩ = some (.bool false) ∧ w'.cell? ⟨g', k * 8 + 7, none⟩ = some (.bool false)) (go_keep) (first
        | (go_at_call 33; refine (eqArea_same _ _ _ _ _ _ _ _ _).mono ?_; rintro e w1 ⟨rfl, e1⟩; have X1 : Ext wr w1 := (by first | exact xt (xd (xr _)) e1 | exact e1); have a0 := cell_later X1 a0; have a1 := cell_later X1 a1; have a2 := cell_later X1 a2; have a3 := cell_later X1 a3; have a4 := cell_later X1 a4; have a5 := cell_later X1 a5; have a6 := cell_later X1 a6; have a7 := cell_later X1 a7; have b0 := cell_later X1 b0; have b1 := cell_later X1 b1; have b2 := cell_later X1 b2; have b3 := cell_later X1 b3; have b4 := cell_later X1 b4; have b5 := cell_later X1 b5; have b6 := cell_later X1 b6; have b7 := cell_later X1 b7))
      go_wp2_with fail
      go_roundw
      case rel => exact ⟨k + 1, by omega, by go_num, xt X X1⟩
      case measure => simp [intOf]; omega
    · obtain rfl : k = n := by omega
      go_wp2_with fail
      go_ret
      exact ⟨rfl, X⟩

end Go.Proofs.YthdjlhhedkfibaaDoor
