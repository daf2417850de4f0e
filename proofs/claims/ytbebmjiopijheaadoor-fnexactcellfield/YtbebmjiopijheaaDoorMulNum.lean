/-
  The plain mathematics of the product by limbs.
-/
import Derived.Test.YtbebmjiopijheaaDoorNum
namespace Go.Proofs.YtbebmjiopijheaaDoor

/-- What stands in the row of limbs in the midst of the product: round i, step j, the carry c. -/
def MulAt (xs ys fs : List Int) (i j : Nat) (c : Int) : Prop :=
  fs.length = xs.length + ys.length + 1 ∧ Lim fs ∧ (∀ n, i + ys.length ≤ n → fs.getD n 0 = 0) ∧ 0 ≤ c ∧ c < 1000000000 ∧
  lv fs + 1000000000 ^ (i + j) * c = lv (xs.take i) * lv ys + xs.getD i 0 * (1000000000 ^ i * lv (ys.take j))

theorem MulAt.start {xs ys fs : List Int} {i : Nat} (h1 : fs.length = xs.length + ys.length + 1) (h2 : Lim fs) (h3 : ∀ n, i + ys.length ≤ n → fs.getD n 0 = 0) (h4 : lv fs = lv (xs.take i) * lv ys) : MulAt xs ys fs i 0 0 :=
  ⟨h1, h2, h3, by decide, by decide, by simp [lv, h4]⟩

/-- The sum of one step, and its bounds. -/
theorem mul_sum {x y f c : Int} (x0 : 0 ≤ x) (x1 : x < 1000000000) (y0 : 0 ≤ y) (y1 : y < 1000000000) (f0 : 0 ≤ f) (f1 : f < 1000000000) (c0 : 0 ≤ c) (c1 : c < 1000000000) :
    0 ≤ x * y ∧ x * y ≤ 999999998000000001 ∧ f + x * y + c < 1000000000000000000 := by
  have h0 : 0 ≤ x * y := Int.mul_nonneg x0 y0
  have h1 : x * y ≤ 999999999 * 999999999 := Int.mul_le_mul (by omega) (by omega) y0 (by decide)
  omega

theorem MulAt.step {xs ys fs : List Int} {i j : Nat} {c x y f : Int} (h : MulAt xs ys fs i j c) (hi : i < xs.length) (hj : j < ys.length) (lx : Lim xs) (ly : Lim ys)
    (ex : xs.getD i 0 = x) (ey : ys.getD j 0 = y) (ef : fs.getD (i + j) 0 = f) :
    MulAt xs ys (fs.set (i + j) ((f + x * y + c) % 1000000000)) i (j + 1) ((f + x * y + c) / 1000000000) := by
  obtain ⟨h1, h2, h3, c0, c1, h4⟩ := h
  have hx := lx.getD i
  have hy := ly.getD j
  have hf := h2.getD (i + j)
  rw [ex] at hx h4
  rw [ey] at hy
  rw [ef] at hf
  obtain ⟨m0, m1, m2⟩ := mul_sum hx.1 hx.2 hy.1 hy.2 hf.1 hf.2 c0 c1
  refine ⟨by simpa using h1, h2.set _ (by omega) (by omega), ?_, by omega, by omega, ?_⟩
  · intro n hn
    rw [getD_set (by omega), if_neg (by omega)]
    exact h3 n hn
  · rw [lv_set _ _ _ (by omega), ef, ex, lv_take_succ ys j hj, ey]
    have e1 : (1000000000 : Int) ^ (i + (j + 1)) = 1000000000 ^ (i + j) * 1000000000 := by rw [← Nat.add_assoc, Int.pow_succ]
    have e2 : (1000000000 : Int) ^ (i + j) = 1000000000 ^ i * 1000000000 ^ j := Int.pow_add _ _ _
    have e3 : (f + x * y + c) % 1000000000 + 1000000000 * ((f + x * y + c) / 1000000000) = f + x * y + c := Int.emod_add_mul_ediv _ _
    rw [e1]
    generalize (f + x * y + c) / 1000000000 = q at *
    generalize (f + x * y + c) % 1000000000 = r at *
    have e4 : r = f + x * y + c - 1000000000 * q := by omega
    subst e4
    rw [e2] at h4 ⊢
    generalize (1000000000 : Int) ^ i = p at *
    generalize (1000000000 : Int) ^ j = s at *
    generalize lv fs = F at *
    generalize lv (List.take j ys) = Y at *
    generalize lv (List.take i xs) * lv ys = P at *
    simp only [Int.mul_add, Int.mul_sub, Int.mul_assoc, Int.mul_comm, Int.mul_left_comm] at h4 ⊢
    omega

theorem MulAt.close {xs ys fs : List Int} {i : Nat} {c : Int} (h : MulAt xs ys fs i ys.length c) (hi : i < xs.length) :
    (fs.set (i + ys.length) c).length = xs.length + ys.length + 1 ∧ Lim (fs.set (i + ys.length) c) ∧ (∀ n, (i + 1) + ys.length ≤ n → (fs.set (i + ys.length) c).getD n 0 = 0) ∧ lv (fs.set (i + ys.length) c) = lv (xs.take (i + 1)) * lv ys := by
  obtain ⟨h1, h2, h3, c0, c1, h4⟩ := h
  refine ⟨by simpa using h1, h2.set _ c0 c1, ?_, ?_⟩
  · intro n hn
    rw [getD_set (by omega), if_neg (by omega)]
    exact h3 n (by omega)
  · rw [lv_set _ _ _ (by omega), h3 _ (Nat.le_refl _), lv_take_succ xs i hi]
    simp only [List.take_length] at h4
    simp only [Int.sub_zero, Int.add_mul]
    rw [h4]
    simp only [Int.mul_assoc, Int.mul_comm]

end Go.Proofs.YtbebmjiopijheaaDoor

