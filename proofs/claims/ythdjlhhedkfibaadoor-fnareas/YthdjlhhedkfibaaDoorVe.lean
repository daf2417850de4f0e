/-
  The hull of two areas holds both.
-/
import Derived.Test.YthdjlhhedkfibaaDoorVd
import Derived.Test.YthdjlhhedkfibaaDoorHulS
namespace Go.Proofs.YthdjlhhedkfibaaDoor
open Go.RowKit

/-- What meets a wider area is all of it. -/
theorem meet_wide {x1 x2 x3 x4 r c r' c' A B C D : Int} (hg : goodAB x1 x2 x3 x4 = true) (hA : goodAB r c r' c' = true) (eA : lo r r' = A) (eB : hi r r' = B) (eC : lo c c' = C) (eD : hi c c' = D)
    (h1 : x1 ≤ A ∧ A ≤ B ∧ B ≤ x3) (h2 : x2 ≤ C ∧ C ≤ D ∧ D ≤ x4) :
    meetB x1 x2 x3 x4 r c r' c' = .tuple #[arV A C false false B D false false, .bool true] := by
  have e1 : lo x1 x3 = x1 := by have := lo_cases x1 x3; omega
  have e2 : hi x1 x3 = x3 := by have := hi_cases x1 x3; omega
  have e3 : lo x2 x4 = x2 := by have := lo_cases x2 x4; omega
  have e4 : hi x2 x4 = x4 := by have := hi_cases x2 x4; omega
  have c1 : hi x1 A = A := by have := hi_cases x1 A; omega
  have c2 : lo x3 B = B := by have := lo_cases x3 B; omega
  have c3 : hi x2 C = C := by have := hi_cases x2 C; omega
  have c4 : lo x4 D = D := by have := lo_cases x4 D; omega
  unfold meetB
  rw [e1, e2, e3, e4, eA, eB, eC, eD, c1, c2, c3, c4, if_pos]
  refine ⟨⟨hg, hA⟩, ?_⟩
  have q1 : decide (A > B) = false := decide_eq_false (by omega)
  have q2 : decide (C > D) = false := decide_eq_false (by omega)
  rw [q1, q2]
  rfl
theorem hull_self {r c r' c' A B C D : Int} (hA : goodAB r c r' c' = true) (eA : lo r r' = A) (eB : hi r r' = B) (eC : lo c c' = C) (eD : hi c c' = D) : hullB r c r' c' r c r' c' = arV A C false false B D false false := by
  have e1 : lo A A = A := by have := lo_cases A A; omega
  have e2 : hi B B = B := by have := hi_cases B B; omega
  have e3 : lo C C = C := by have := lo_cases C C; omega
  have e4 : hi D D = D := by have := hi_cases D D; omega
  unfold hullB
  rw [if_pos ⟨hA, hA⟩, eA, eB, eC, eD, e1, e2, e3, e4]
theorem norm_bounds {r c r' c' A B C D : Int} (hA : goodAB r c r' c' = true) (eA : lo r r' = A) (eB : hi r r' = B) (eC : lo c c' = C) (eD : hi c c' = D) : (1 ≤ A ∧ A ≤ B ∧ B ≤ 1000) ∧ 1 ≤ C ∧ C ≤ D ∧ D ≤ 200 := by
  obtain ⟨N1, N2, N3, N4⟩ := goodAB_bounds hA
  have L1 := lo_cases r r'
  have L2 := hi_cases r r'
  have L3 := lo_cases c c'
  have L4 := hi_cases c c'
  rw [eA] at L1
  rw [eB] at L2
  rw [eC] at L3
  rw [eD] at L4
  refine ⟨?_, ?_⟩
  · clear L3 L4 N2 N4; omega
  · clear L1 L2 N1 N3; omega
/-- All that the law asks of the hull of two good areas. -/
theorem hull_holds {r c r' c' s d s' d' : Int} (hA : goodAB r c r' c' = true) (hB : goodAB s d s' d' = true) :
    ∃ h1 h2 h3 h4 A B C D E F G H, hullB r c r' c' s d s' d' = arV h1 h2 false false h3 h4 false false ∧
      meetB h1 h2 h3 h4 r c r' c' = .tuple #[arV A C false false B D false false, .bool true] ∧ hullB r c r' c' r c r' c' = arV A C false false B D false false ∧
      meetB h1 h2 h3 h4 s d s' d' = .tuple #[arV E G false false F H false false, .bool true] ∧ hullB s d s' d' s d s' d' = arV E G false false F H false false := by
  obtain ⟨A, hAe⟩ : ∃ m, lo r r' = m := ⟨_, rfl⟩
  obtain ⟨B, hBe⟩ : ∃ m, hi r r' = m := ⟨_, rfl⟩
  obtain ⟨C, hCe⟩ : ∃ m, lo c c' = m := ⟨_, rfl⟩
  obtain ⟨D, hDe⟩ : ∃ m, hi c c' = m := ⟨_, rfl⟩
  obtain ⟨E, hEe⟩ : ∃ m, lo s s' = m := ⟨_, rfl⟩
  obtain ⟨F, hFe⟩ : ∃ m, hi s s' = m := ⟨_, rfl⟩
  obtain ⟨G, hGe⟩ : ∃ m, lo d d' = m := ⟨_, rfl⟩
  obtain ⟨H, hHe⟩ : ∃ m, hi d d' = m := ⟨_, rfl⟩
  obtain ⟨n1, n2⟩ := norm_bounds hA hAe hBe hCe hDe
  obtain ⟨n3, n4⟩ := norm_bounds hB hEe hFe hGe hHe
  have c1 := lo_cases A E
  have c2 := hi_cases B F
  have c3 := lo_cases C G
  have c4 := hi_cases D H
  have hg : goodAB (lo A E) (lo C G) (hi B F) (hi D H) = true := by
    simp only [goodAB, goodRB, Bool.and_eq_true, decide_eq_true_eq]
    omega
  refine ⟨lo A E, lo C G, hi B F, hi D H, A, B, C, D, E, F, G, H, ?_, meet_wide hg hA hAe hBe hCe hDe ?_ ?_, hull_self hA hAe hBe hCe hDe, meet_wide hg hB hEe hFe hGe hHe ?_ ?_, hull_self hB hEe hFe hGe hHe⟩
  · unfold hullB
    rw [if_pos ⟨hA, hB⟩, hAe, hBe, hCe, hDe, hEe, hFe, hGe, hHe]
  · clear c3 c4 n2 n4; omega
  · clear c1 c2 n1 n3; omega
  · clear c3 c4 n2 n4; omega
  · clear c1 c2 n1 n3; omega
/-- All that the law asks of the pieces. -/
theorem pieces_hold' {r c r' c' s d s' d' : Int} (hA : goodAB r c r' c' = true) (hB : goodAB s d s' d' = true) :
    ∃ m1 m2 m3 m4 q M, meetB r c r' c' s d s' d' = .tuple #[arV m1 m2 false false m3 m4 false false, .bool q] ∧ Pcs (woB r c r' c' s d s' d') (lo s s', lo d d', hi s s', hi d d') M (cellsN r c r' c') ∧ 0 ≤ M ∧
      (q = false → M = 0) ∧ (q = true → goodAB m1 m2 m3 m4 = true ∧ cellsN m1 m2 m3 m4 = M) := by
  have W := woB_hold hA hB rfl rfl rfl rfl
  obtain ⟨A, hAe⟩ : ∃ m, lo r r' = m := ⟨_, rfl⟩
  obtain ⟨B, hBe⟩ : ∃ m, hi r r' = m := ⟨_, rfl⟩
  obtain ⟨C, hCe⟩ : ∃ m, lo c c' = m := ⟨_, rfl⟩
  obtain ⟨D, hDe⟩ : ∃ m, hi c c' = m := ⟨_, rfl⟩
  obtain ⟨n1, n2⟩ := norm_bounds hA hAe hBe hCe hDe
  have n3 := norm_bounds hB rfl rfl rfl rfl
  unfold meetB
  rw [hAe, hBe, hCe, hDe] at W ⊢
  have c1 := hi_cases A (lo s s')
  have c2 := lo_cases B (hi s s')
  have c3 := hi_cases C (lo d d')
  have c4 := lo_cases D (hi d d')
  obtain ⟨u1, h1⟩ : ∃ m, hi A (lo s s') = m := ⟨_, rfl⟩
  obtain ⟨u2, h2⟩ : ∃ m, lo B (hi s s') = m := ⟨_, rfl⟩
  obtain ⟨u3, h3⟩ : ∃ m, hi C (lo d d') = m := ⟨_, rfl⟩
  obtain ⟨u4, h4⟩ : ∃ m, lo D (hi d d') = m := ⟨_, rfl⟩
  rw [h1] at c1 W ⊢
  rw [h2] at c2 W ⊢
  rw [h3] at c3 W ⊢
  rw [h4] at c4 W ⊢
  by_cases q : (decide (u1 > u2) || decide (u3 > u4)) = true
  · rw [if_pos q] at W
    rw [if_neg (fun h => by rw [q] at h; cases h.2)]
    exact ⟨0, 0, 0, 0, false, 0, rfl, W, by omega, fun _ => rfl, fun h => by cases h⟩
  · rw [if_neg q] at W
    have q' : u1 ≤ u2 ∧ u3 ≤ u4 := by
      have := q
      simp only [Bool.or_eq_true, decide_eq_true_eq] at this
      omega
    rw [if_pos ⟨⟨hA, hB⟩, by simpa using q⟩]
    have hf : Fine (u1, u3, u2, u4) := by
      unfold Fine
      dsimp only
      refine ⟨?_, ?_⟩
      · clear c3 c4; omega
      · clear c1 c2; omega
    refine ⟨u1, u3, u2, u4, true, _, rfl, W, ?_, (fun h => by cases h), fun _ => ⟨hf.good, hf.cells⟩⟩
    exact Int.mul_nonneg (by omega) (by omega)
theorem sumA_nonneg {l : List Ar} (h : ∀ x ∈ l, Fine x) : 0 ≤ sumA l := by
  induction l with
  | nil => simp [sumA]
  | cons x l ih =>
    have hx := h x (by simp)
    have h0 := ih (fun y hy => h y (by simp [hy]))
    obtain ⟨⟨h1, h2, h3⟩, h4, h5, h6⟩ := hx
    have := Int.mul_nonneg (a := x.2.2.1 - x.1 + 1) (b := x.2.2.2 - x.2.1 + 1) (by omega) (by omega)
    simp only [sumA]
    omega
theorem sumA_take_succ {l : List Ar} {k : Nat} {x : Ar} (h : l[k]? = some x) : sumA (l.take (k + 1)) = sumA (l.take k) + (x.2.2.1 - x.1 + 1) * (x.2.2.2 - x.2.1 + 1) := by
  rw [List.take_add_one, h, sumA_append]
  simp [sumA]
/-- A part of the pieces has no more cells than all. -/
theorem Pcs.part {l : List Ar} {y : Ar} {M T : Int} (h : Pcs l y M T) (k : Nat) : 0 ≤ sumA (l.take k) ∧ M + sumA (l.take k) ≤ T := by
  have h0 := sumA_nonneg (l := l.take k) (fun x hx => (h.1 x (List.mem_of_mem_take hx)).1)
  have h1 := sumA_nonneg (l := l.drop k) (fun x hx => (h.1 x (List.mem_of_mem_drop hx)).1)
  have h2 := h.2.2
  rw [← List.take_append_drop k l, sumA_append] at h2
  exact ⟨h0, by omega⟩
theorem Pcs.pair {l : List Ar} {y : Ar} {M T : Int} (h : Pcs l y M T) {i j : Nat} (hij : i < j) {a b : Ar} (ha : l[i]? = some a) (hb : l[j]? = some b) : meetB b.1 b.2.1 b.2.2.1 b.2.2.2 a.1 a.2.1 a.2.2.1 a.2.2.2 = .tuple #[arV 0 0 false false 0 0 false false, .bool false] := by
  obtain ⟨hi', ha'⟩ := List.getElem?_eq_some_iff.1 ha
  obtain ⟨hj', hb'⟩ := List.getElem?_eq_some_iff.1 hb
  have := List.pairwise_iff_getElem.1 h.2.1 i j hi' hj' hij
  rw [ha', hb'] at this
  exact Apart.meet (h.1 b (List.mem_of_getElem? hb)).1 (h.1 a (List.mem_of_getElem? ha)).1 this.symm

end Go.Proofs.YthdjlhhedkfibaaDoor
