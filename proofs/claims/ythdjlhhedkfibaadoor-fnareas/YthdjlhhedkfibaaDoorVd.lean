/-
  What is left of an area without another one: good areas, apart from each other and from it, as many cells as there were.
-/
import Derived.Test.YthdjlhhedkfibaaDoorWp
import Derived.Test.YthdjlhhedkfibaaDoorVc
namespace Go.Proofs.YthdjlhhedkfibaaDoor
open Go.RowKit

def Fine (x : Ar) : Prop := (1 ≤ x.1 ∧ x.1 ≤ x.2.2.1 ∧ x.2.2.1 ≤ 1000) ∧ 1 ≤ x.2.1 ∧ x.2.1 ≤ x.2.2.2 ∧ x.2.2.2 ≤ 200
def Apart (x y : Ar) : Prop := x.2.2.1 < y.1 ∨ y.2.2.1 < x.1 ∨ x.2.2.2 < y.2.1 ∨ y.2.2.2 < x.2.1
theorem Fine.good {x : Ar} (h : Fine x) : goodAB x.1 x.2.1 x.2.2.1 x.2.2.2 = true := by
  obtain ⟨⟨h1, h2, h3⟩, h4, h5, h6⟩ := h
  simp only [goodAB, goodRB, Bool.and_eq_true, decide_eq_true_eq]
  omega
theorem meetB_none {x1 x2 x3 x4 s d s' d' : Int} (h : x1 ≤ x3 ∧ x2 ≤ x4) (ha : x3 < lo s s' ∨ hi s s' < x1 ∨ x4 < lo d d' ∨ hi d d' < x2) :
    meetB x1 x2 x3 x4 s d s' d' = .tuple #[arV 0 0 false false 0 0 false false, .bool false] := by
  unfold meetB
  rw [if_neg]
  rintro ⟨_, hq⟩
  have q1 := (Bool.or_eq_false_iff.1 hq).1
  have q2 := (Bool.or_eq_false_iff.1 hq).2
  have q1 := of_decide_eq_false q1
  have q2 := of_decide_eq_false q2
  have e1 : lo x1 x3 = x1 := by have := lo_cases x1 x3; omega
  have e2 : hi x1 x3 = x3 := by have := hi_cases x1 x3; omega
  have e3 : lo x2 x4 = x2 := by have := lo_cases x2 x4; omega
  have e4 : hi x2 x4 = x4 := by have := hi_cases x2 x4; omega
  rw [e1, e2] at q1
  rw [e3, e4] at q2
  have c1 := hi_cases x1 (lo s s')
  have c2 := lo_cases x3 (hi s s')
  have c3 := hi_cases x2 (lo d d')
  have c4 := lo_cases x4 (hi d d')
  omega
theorem Apart.meet {x y : Ar} (hx : Fine x) (hy : Fine y) (h : Apart x y) : meetB x.1 x.2.1 x.2.2.1 x.2.2.2 y.1 y.2.1 y.2.2.1 y.2.2.2 = .tuple #[arV 0 0 false false 0 0 false false, .bool false] := by
  obtain ⟨⟨h1, h2, h3⟩, h4, h5, h6⟩ := hx
  obtain ⟨⟨k1, k2, k3⟩, k4, k5, k6⟩ := hy
  refine meetB_none ⟨h2, h5⟩ ?_
  have e1 : lo y.1 y.2.2.1 = y.1 := by have := lo_cases y.1 y.2.2.1; omega
  have e2 : hi y.1 y.2.2.1 = y.2.2.1 := by have := hi_cases y.1 y.2.2.1; omega
  have e3 : lo y.2.1 y.2.2.2 = y.2.1 := by have := lo_cases y.2.1 y.2.2.2; omega
  have e4 : hi y.2.1 y.2.2.2 = y.2.2.2 := by have := hi_cases y.2.1 y.2.2.2; omega
  rw [e1, e2, e3, e4]
  exact h
theorem Apart.symm {x y : Ar} (h : Apart x y) : Apart y x := by
  unfold Apart at *
  omega
def sumA : List Ar → Int
  | [] => 0
  | x :: l => (x.2.2.1 - x.1 + 1) * (x.2.2.2 - x.2.1 + 1) + sumA l
theorem sumA_append (l m : List Ar) : sumA (l ++ m) = sumA l + sumA m := by
  induction l with
  | nil => simp [sumA]
  | cons x l ih => simp [sumA, ih]; omega
theorem Fine.cells {x : Ar} (h : Fine x) : cellsN x.1 x.2.1 x.2.2.1 x.2.2.2 = (x.2.2.1 - x.1 + 1) * (x.2.2.2 - x.2.1 + 1) := by
  obtain ⟨⟨h1, h2, h3⟩, h4, h5, h6⟩ := h
  have e1 : lo x.1 x.2.2.1 = x.1 := by have := lo_cases x.1 x.2.2.1; omega
  have e2 : hi x.1 x.2.2.1 = x.2.2.1 := by have := hi_cases x.1 x.2.2.1; omega
  have e3 : lo x.2.1 x.2.2.2 = x.2.1 := by have := lo_cases x.2.1 x.2.2.2; omega
  have e4 : hi x.2.1 x.2.2.2 = x.2.2.2 := by have := hi_cases x.2.1 x.2.2.2; omega
  unfold cellsN
  rw [e1, e2, e3, e4]
/-- What holds of the pieces. -/
def Pcs (l : List Ar) (y : Ar) (M T : Int) : Prop := (∀ x ∈ l, Fine x ∧ Apart x y) ∧ l.Pairwise Apart ∧ M + sumA l = T

theorem pieces_hold {A B C D E F G H u1 u2 u3 u4 : Int} (hA : 1 ≤ A ∧ A ≤ B ∧ B ≤ 1000) (hC : 1 ≤ C ∧ C ≤ D ∧ D ≤ 200) (hE : 1 ≤ E ∧ E ≤ F ∧ F ≤ 1000) (hG : 1 ≤ G ∧ G ≤ H ∧ H ≤ 200)
    (c1 : (u1 = A ∧ E ≤ A) ∨ (u1 = E ∧ A ≤ E)) (c2 : (u2 = B ∧ B ≤ F) ∨ (u2 = F ∧ F ≤ B)) (c3 : (u3 = C ∧ G ≤ C) ∨ (u3 = G ∧ C ≤ G)) (c4 : (u4 = D ∧ D ≤ H) ∨ (u4 = H ∧ H ≤ D)) (h1 : u1 ≤ u2) (h2 : u3 ≤ u4) :
    Pcs (told (pieceQ A B C D u1 u2 u3 u4) 4) (E, G, F, H) ((u2 - u1 + 1) * (u4 - u3 + 1)) ((B - A + 1) * (D - C + 1)) := by
  rw [told4 A B C D u1 u2 u3 u4 h1, told3 A B C D u1 u2 u3 u4 h1, told2 A B C D u1 u2 u3 u4 hC.2.1, told1 A B C D u1 u2 u3 u4 hC.2.1]
  refine ⟨?_, ?_, ?_⟩
  · intro x hx
    simp only [List.mem_append] at hx
    unfold Fine Apart
    rcases hx with ((hx | hx) | hx) | hx <;> split at hx <;> simp only [List.mem_singleton, List.not_mem_nil] at hx <;> subst hx <;> dsimp only <;> omega
  · unfold Apart
    by_cases q1 : A < u1 <;> by_cases q2 : B > u2 <;> by_cases q3 : C < u3 <;> by_cases q4 : D > u4 <;> simp [q1, q2, q3, q4] <;> omega
  · have s1 : sumA (if A < u1 then [(A, C, u1 - 1, D)] else []) = (u1 - A) * (D - C + 1) := by
      split
      · simp [sumA]; congr 1; omega
      · rw [show u1 = A by omega]; simp [sumA]
    have s2 : sumA (if B > u2 then [(u2 + 1, C, B, D)] else []) = (B - u2) * (D - C + 1) := by
      split
      · simp [sumA]; congr 1; omega
      · rw [show u2 = B by omega]; simp [sumA]
    have s3 : sumA (if C < u3 then [(u1, C, u2, u3 - 1)] else []) = (u2 - u1 + 1) * (u3 - C) := by
      split
      · simp [sumA]; congr 1; omega
      · rw [show u3 = C by omega]; simp [sumA]
    have s4 : sumA (if D > u4 then [(u1, u4 + 1, u2, D)] else []) = (u2 - u1 + 1) * (D - u4) := by
      split
      · simp [sumA]; congr 1; omega
      · rw [show u4 = D by omega]; simp [sumA]
    rw [sumA_append, sumA_append, sumA_append, s1, s2, s3, s4]
    simp only [Int.sub_mul, Int.add_mul, Int.mul_sub, Int.mul_add, Int.one_mul, Int.mul_one]
    omega

theorem woB_hold {r c r' c' s d s' d' : Int} (hA : goodAB r c r' c' = true) (hB : goodAB s d s' d' = true) {u1 u2 u3 u4 : Int}
    (h1 : hi (lo r r') (lo s s') = u1) (h2 : lo (hi r r') (hi s s') = u2) (h3 : hi (lo c c') (lo d d') = u3) (h4 : lo (hi c c') (hi d d') = u4) :
    Pcs (woB r c r' c' s d s' d') (lo s s', lo d d', hi s s', hi d d') (if (decide (u1 > u2) || decide (u3 > u4)) = true then 0 else (u2 - u1 + 1) * (u4 - u3 + 1)) (cellsN r c r' c') := by
  have N1 := goodAB_bounds hA
  have N2 := goodAB_bounds hB
  have L1 := lo_cases r r'
  have L2 := hi_cases r r'
  have L3 := lo_cases c c'
  have L4 := hi_cases c c'
  have M1 := lo_cases s s'
  have M2 := hi_cases s s'
  have M3 := lo_cases d d'
  have M4 := hi_cases d d'
  unfold woB cellsN
  rw [if_pos ⟨hA, hB⟩]
  obtain ⟨A, hAe⟩ : ∃ m, lo r r' = m := ⟨_, rfl⟩
  obtain ⟨B, hBe⟩ : ∃ m, hi r r' = m := ⟨_, rfl⟩
  obtain ⟨C, hCe⟩ : ∃ m, lo c c' = m := ⟨_, rfl⟩
  obtain ⟨D, hDe⟩ : ∃ m, hi c c' = m := ⟨_, rfl⟩
  obtain ⟨E, hEe⟩ : ∃ m, lo s s' = m := ⟨_, rfl⟩
  obtain ⟨F, hFe⟩ : ∃ m, hi s s' = m := ⟨_, rfl⟩
  obtain ⟨G, hGe⟩ : ∃ m, lo d d' = m := ⟨_, rfl⟩
  obtain ⟨H, hHe⟩ : ∃ m, hi d d' = m := ⟨_, rfl⟩
  simp only [hAe, hBe, hCe, hDe, hEe, hFe, hGe, hHe] at h1 h2 h3 h4 L1 L2 L3 L4 M1 M2 M3 M4 ⊢
  obtain ⟨N1a, N1b, N1c, N1d⟩ := N1
  obtain ⟨N2a, N2b, N2c, N2d⟩ := N2
  have kA : 1 ≤ A ∧ A ≤ B ∧ B ≤ 1000 := by
    clear L3 L4 M1 M2 M3 M4 N2a N2b N2c N2d N1b N1d
    omega
  have kC : 1 ≤ C ∧ C ≤ D ∧ D ≤ 200 := by
    clear L1 L2 M1 M2 M3 M4 N2a N2b N2c N2d N1a N1c kA
    omega
  have kE : 1 ≤ E ∧ E ≤ F ∧ F ≤ 1000 := by
    clear L1 L2 L3 L4 M3 M4 N1a N1b N1c N1d N2b N2d kA kC
    omega
  have kG : 1 ≤ G ∧ G ≤ H ∧ H ≤ 200 := by
    clear L1 L2 L3 L4 M1 M2 N1a N1b N1c N1d N2a N2c kA kC kE
    omega
  have c1 := hi_cases A E
  have c2 := lo_cases B F
  have c3 := hi_cases C G
  have c4 := lo_cases D H
  rw [h1] at c1
  rw [h2] at c2
  rw [h3] at c3
  rw [h4] at c4
  rw [h1, h2, h3, h4]
  clear hAe hBe hCe hDe hEe hFe hGe hHe h1 h2 h3 h4 L1 L2 L3 L4 M1 M2 M3 M4 N1a N1b N1c N1d N2a N2b N2c N2d hA hB
  by_cases q : (decide (u1 > u2) || decide (u3 > u4)) = true
  · rw [if_pos q, if_pos q]
    have q' : u1 > u2 ∨ u3 > u4 := by simpa using q
    refine ⟨fun x hx => ?_, by simp, by simp [sumA]⟩
    obtain rfl : x = (A, C, B, D) := by simpa using hx
    unfold Fine Apart
    dsimp only
    omega
  · rw [if_neg q, if_neg q]
    have q' : u1 ≤ u2 ∧ u3 ≤ u4 := by
      have := q
      simp only [Bool.or_eq_true, decide_eq_true_eq] at this
      omega
    exact pieces_hold kA kC kE kG (by clear c2 c3 c4; omega) (by clear c1 c3 c4; omega) (by clear c1 c2 c4; omega) (by clear c1 c2 c3; omega) q'.1 q'.2

end Go.Proofs.YthdjlhhedkfibaaDoor
