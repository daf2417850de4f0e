/-
  How many cells an area has; two rows of areas compared at once.
-/
import Derived.Test.YthdjlhhedkfibaaDoorWr
namespace Go.Proofs.YthdjlhhedkfibaaDoor
open Go.RowKit

/-- How many cells. -/
def cellsN (r c r' c' : Int) : Int := (hi r r' - lo r r' + 1) * (hi c c' - lo c c' + 1)
theorem prod_bounds {a b : Int} (ha : 0 ≤ a) (ha' : a ≤ 1000) (hb : 0 ≤ b) (hb' : b ≤ 200) : 0 ≤ a * b ∧ a * b ≤ 200000 :=
  ⟨Int.mul_nonneg ha hb, Int.le_trans (Int.mul_le_mul ha' hb' hb (by omega)) (by omega)⟩
theorem cellsN_bounds {r c r' c' : Int} (hg : goodAB r c r' c' = true) : 0 ≤ cellsN r c r' c' ∧ cellsN r c r' c' ≤ 200000 := by
  have N := goodAB_bounds hg
  have L1 := lo_cases r r'
  have L2 := hi_cases r r'
  have L3 := lo_cases c c'
  have L4 := hi_cases c c'
  exact prod_bounds (by omega) (by omega) (by omega) (by omega)

set_option maxRecDepth 8000 in
set_option maxHeartbeats 2000000 in
theorem cellsIn (r c : Int) (f g : Bool) (r' c' : Int) (f' g' : Bool) (w : World) (hg : goodAB r c r' c' = true) :
    Calls Tryd.prog 12 #[arV r c f g r' c' f' g'] w fun e w' => e = .returned (.int .i64 (cellsN r c r' c')) ∧ Ext w w' := by
  have N := fun w => l3Normal r c f g r' c' f' g' w
  have bd := goodAB_bounds hg
  have pb := cellsN_bounds hg
  have L1 := lo_cases r r'
  have L2 := hi_cases r r'
  have L3 := lo_cases c c'
  have L4 := hi_cases c c'
  obtain ⟨P, hP⟩ : ∃ P, cellsN r c r' c' = P := ⟨_, rfl⟩
  have hP' := hP
  unfold cellsN at hP'
  rw [hP] at pb ⊢
  clear hP
  simp only [norV] at N
  obtain ⟨A, hAe⟩ : ∃ m, lo r r' = m := ⟨_, rfl⟩
  obtain ⟨B, hBe⟩ : ∃ m, hi r r' = m := ⟨_, rfl⟩
  obtain ⟨C, hCe⟩ : ∃ m, lo c c' = m := ⟨_, rfl⟩
  obtain ⟨D, hDe⟩ : ∃ m, hi c c' = m := ⟨_, rfl⟩
  obtain ⟨n1, hn1⟩ : ∃ n, loF r r' f f' = n := ⟨_, rfl⟩
  obtain ⟨n2, hn2⟩ : ∃ n, loF c c' g g' = n := ⟨_, rfl⟩
  obtain ⟨n3, hn3⟩ : ∃ n, hiF r r' f f' = n := ⟨_, rfl⟩
  obtain ⟨n4, hn4⟩ : ∃ n, hiF c c' g g' = n := ⟨_, rfl⟩
  rw [hAe] at L1
  rw [hBe] at L2
  rw [hCe] at L3
  rw [hDe] at L4
  rw [hAe, hBe, hCe, hDe] at hP'
  rw [hAe, hBe, hCe, hDe, hn1, hn2, hn3, hn4] at N
  have hA1 : 1 ≤ A ∧ A ≤ 1000 := by omega
  have hB1 : 1 ≤ B ∧ B ≤ 1000 := by omega
  have hC1 : 1 ≤ C ∧ C ≤ 200 := by omega
  have hD1 : 1 ≤ D ∧ D ≤ 200 := by omega
  clear hAe hBe hCe hDe hn1 hn2 hn3 hn4 L1 L2 L3 L4 bd hg
  have B1 := Vec.made8 w (.int .i64 r) (.int .i64 c) (.bool f) (.bool g) (.int .i64 r') (.int .i64 c') (.bool f') (.bool g') 26
  have X := x1 w (.cells #[.int .i64 r, .int .i64 c, .bool f, .bool g, .int .i64 r', .int .i64 c', .bool f', .bool g'] 26)
  obtain ⟨⟨⟨a0, a1, a2, a3⟩, a4, a5, a6, a7⟩, _⟩ := B1.box8
  go_enter Tryd.func12, Tryd.ntmps12
  go_wp2_with fail
  refine (N _).mono ?_
  rintro e w3 ⟨rfl, e3⟩
  have B1 := B1.later e3
  have X := xt X e3
  clear a0 a1 a2 a3 a4 a5 a6 a7 e3 N
  obtain ⟨w4, hw4⟩ : ∃ wy, set8 w3 (w.heap.size) (.int .i64 A) (.int .i64 C) (.bool n1) (.bool n2) (.int .i64 B) (.int .i64 D) (.bool n3) (.bool n4) = wy := ⟨_, rfl⟩
  obtain ⟨⟨⟨k0, k1, k2, k3⟩, k4, k5, k6, k7⟩, ⟨f0, f1, f2, f3⟩, f4, f5, f6, f7⟩ := B1.box8
  have B1 := B1.put8 (.int .i64 A) (.int .i64 C) (.bool n1) (.bool n2) (.int .i64 B) (.int .i64 D) (.bool n3) (.bool n4)
  have X := Ext.set8 (b := w.heap.size) X (by omega) (.int .i64 A) (.int .i64 C) (.bool n1) (.bool n2) (.int .i64 B) (.int .i64 D) (.bool n3) (.bool n4)
  rw [hw4] at B1 X
  unfold set8 set4 at hw4
  obtain ⟨⟨⟨a0, a1, a2, a3⟩, a4, a5, a6, a7⟩, _⟩ := B1.box8
  go_wp2_with fail
  go_ret
  exact ⟨ret_int (by first | exact hP' | omega), X⟩

set_option maxRecDepth 8000 in
set_option maxHeartbeats 2000000 in
theorem zAreasC (base base' : Nat) (v v' : Value) (l : List Ar) (w : World) (h : AreasAt w base v l.length (flatA l)) (h' : AreasAt w base' v' l.length (flatA l)) :
    Calls Tryd.prog 8 #[v, v'] w fun e w' => e = .returned (.bool true) ∧ Ext w w' := by
  obtain ⟨_, hn, p, cap, rfl, hp⟩ := h
  obtain ⟨_, _, p', cap', rfl, hp'⟩ := h'
  obtain ⟨n, hN⟩ : ∃ n, l.length = n := ⟨_, rfl⟩
  rw [hN] at hn hp hp' ⊢
  have H1 : Hid (l.length = n) := hN
  have H2 : Hid (0 < n → ∃ g, p = some ⟨g, 0, none⟩ ∧ base ≤ g ∧ g < w.heap.size ∧ Vec w g (flatA l)) := hp
  have H3 : Hid (0 < n → ∃ g, p' = some ⟨g, 0, none⟩ ∧ base' ≤ g ∧ g < w.heap.size ∧ Vec w g (flatA l)) := hp'
  clear hN hp hp'
  go_enter Tryd.func8, Tryd.ntmps8
  go_wp2_with fail
  go_loopw [13] (fun i wr => ∃ k : Nat, k ≤ n ∧ i = .int .i64 k ∧ Ext w wr) (fun i _ => n - (intOf i).toNat)
  case atStart => exact ⟨0, by omega, rfl, xr _⟩
  case round =>
    obtain ⟨k, hk, rfl, X⟩ := hrel
    by_cases hlt : k < n
    · obtain ⟨g, rfl, _, _, V⟩ := H2.out (by omega)
      obtain ⟨g', rfl, _, _, V'⟩ := H3.out (by omega)
      have V := V.later X
      have V' := V'.later X
      obtain ⟨x, hx⟩ : ∃ x, l[k]? = some x := ⟨_, List.getElem?_eq_getElem (by rw [H1.out]; exact hlt)⟩
      have F := fun j hj => flatA_at hx j hj
      clear H1 H2 H3 hx
      obtain ⟨r, c, r', c'⟩ := x
      have a0 := (V (k * 8 + 0) _ (F 0 (by omega))).1
      have a1 := (V (k * 8 + 1) _ (F 1 (by omega))).1
      have a2 := (V (k * 8 + 2) _ (F 2 (by omega))).1
      have a3 := (V (k * 8 + 3) _ (F 3 (by omega))).1
      have a4 := (V (k * 8 + 4) _ (F 4 (by omega))).1
      have a5 := (V (k * 8 + 5) _ (F 5 (by omega))).1
      have a6 := (V (k * 8 + 6) _ (F 6 (by omega))).1
      have a7 := (V (k * 8 + 7) _ (F 7 (by omega))).1
      have b0 := (V' (k * 8 + 0) _ (F 0 (by omega))).1
      have b1 := (V' (k * 8 + 1) _ (F 1 (by omega))).1
      have b2 := (V' (k * 8 + 2) _ (F 2 (by omega))).1
      have b3 := (V' (k * 8 + 3) _ (F 3 (by omega))).1
      have b4 := (V' (k * 8 + 4) _ (F 4 (by omega))).1
      have b5 := (V' (k * 8 + 5) _ (F 5 (by omega))).1
      have b6 := (V' (k * 8 + 6) _ (F 6 (by omega))).1
      have b7 := (V' (k * 8 + 7) _ (F 7 (by omega))).1
      simp only [Nat.add_zero] at a0 b0
      have i1 : (0 : Int) ≤ (k : Int) := by omega
      have i2 : (k : Int) < (n : Int) := by omega
      clear F V V'
      go_wp2_with fail
      go_region
      go_wp2_with fail
      go_roundw
      case rel => exact ⟨k + 1, by omega, by go_num, xd X⟩
      case measure => simp [intOf]; omega
    · obtain rfl : k = n := by omega
      go_wp2_with fail
      go_ret
      exact ⟨rfl, X⟩

end Go.Proofs.YthdjlhhedkfibaaDoor
