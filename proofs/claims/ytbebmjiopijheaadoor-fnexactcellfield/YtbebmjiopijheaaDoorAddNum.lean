/-
  The plain mathematics of sums and differences by limbs.
-/
import Derived.Test.YtbebmjiopijheaaDoorCmpNum
namespace Go.Proofs.YtbebmjiopijheaaDoor

theorem lv_take_getD (xs : List Int) (i : Nat) : lv (xs.take (i + 1)) = lv (xs.take i) + 1000000000 ^ i * xs.getD i 0 := by
  by_cases h : i < xs.length
  · exact lv_take_succ xs i h
  · rw [List.take_of_length_le (by omega), List.take_of_length_le (by omega), List.getD_eq_getElem?_getD, List.getElem?_eq_none (by omega)]
    simp

/-- In the midst of a sum. -/
def AddAt (xs ys fs : List Int) (n i : Nat) (c : Int) : Prop :=
  fs.length = n + 1 ∧ Lim fs ∧ (∀ j, i ≤ j → fs.getD j 0 = 0) ∧ 0 ≤ c ∧ c ≤ 1 ∧ lv fs + 1000000000 ^ i * c = lv (xs.take i) + lv (ys.take i)

theorem AddAt.start (xs ys : List Int) (n : Nat) : AddAt xs ys (List.replicate (n + 1) 0) n 0 0 :=
  ⟨by simp, Lim.zeros _, fun j _ => getD_zeros _ j, by decide, by decide, by simp [lv, lv_replicate]⟩

theorem AddAt.step {xs ys fs : List Int} {n i : Nat} {c x y : Int} (h : AddAt xs ys fs n i c) (hi : i ≤ n) (lx : Lim xs) (ly : Lim ys) (ex : xs.getD i 0 = x) (ey : ys.getD i 0 = y) :
    AddAt xs ys (fs.set i ((c + x + y) % 1000000000)) n (i + 1) ((c + x + y) / 1000000000) := by
  obtain ⟨h1, h2, h3, c0, c1, h4⟩ := h
  have hx := lx.getD i
  have hy := ly.getD i
  rw [ex] at hx
  rw [ey] at hy
  refine ⟨by simpa using h1, h2.set _ (by omega) (by omega), ?_, by omega, by omega, ?_⟩
  · intro j hj
    rw [getD_set (by omega), if_neg (by omega)]
    exact h3 j (by omega)
  · rw [lv_set _ _ _ (by omega), h3 i (Nat.le_refl _), lv_take_getD xs, lv_take_getD ys, ex, ey, Int.pow_succ]
    have e3 : (c + x + y) % 1000000000 + 1000000000 * ((c + x + y) / 1000000000) = c + x + y := Int.emod_add_mul_ediv _ _
    generalize (c + x + y) / 1000000000 = q at *
    generalize (c + x + y) % 1000000000 = r at *
    obtain rfl : r = c + x + y - 1000000000 * q := by omega
    generalize (1000000000 : Int) ^ i = p at *
    generalize lv fs = F at *
    generalize lv (List.take i xs) = X at *
    generalize lv (List.take i ys) = Y at *
    simp only [Int.sub_zero, Int.mul_add, Int.mul_sub, Int.mul_comm, Int.mul_left_comm] at h4 ⊢
    omega

theorem AddAt.done {xs ys fs : List Int} {n : Nat} {c : Int} (h : AddAt xs ys fs n (n + 1) c) (lx : Lim xs) (ly : Lim ys) (hx : xs.length ≤ n) (hy : ys.length ≤ n) : lv fs = lv xs + lv ys := by
  obtain ⟨h1, h2, h3, c0, c1, h4⟩ := h
  rw [List.take_of_length_le (by omega), List.take_of_length_le (by omega)] at h4
  have b1 := lv_lt lx
  have b2 := lv_lt ly
  have b3 := pow_le_pow hx
  have b4 := pow_le_pow hy
  have b5 := lv_nonneg h2
  have hp := pos_pow n
  rw [Int.pow_succ] at h4
  generalize (1000000000 : Int) ^ n = p at *
  by_cases hc : c = 0
  · subst hc; simp at h4; omega
  · obtain rfl : c = 1 := by omega
    omega

/-- In the midst of a difference. -/
def SubAt (xs ys fs : List Int) (i : Nat) (c : Int) : Prop :=
  fs.length = xs.length ∧ Lim fs ∧ (∀ j, i ≤ j → fs.getD j 0 = 0) ∧ 0 ≤ c ∧ c ≤ 1 ∧ lv fs + lv (ys.take i) = lv (xs.take i) + 1000000000 ^ i * c

theorem SubAt.start (xs ys : List Int) : SubAt xs ys (List.replicate xs.length 0) 0 0 :=
  ⟨by simp, Lim.zeros _, fun j _ => getD_zeros _ j, by decide, by decide, by simp [lv, lv_replicate]⟩

theorem SubAt.step {xs ys fs : List Int} {i : Nat} {c s d : Int} (h : SubAt xs ys fs i c) (hi : i < xs.length) (d0 : 0 ≤ d) (d1 : d ≤ 1) (hs : s = xs.getD i 0 - c - ys.getD i 0 + 1000000000 * d) (s0 : 0 ≤ s) (s1 : s < 1000000000) :
    SubAt xs ys (fs.set i s) (i + 1) d := by
  obtain ⟨h1, h2, h3, c0, c1, h4⟩ := h
  refine ⟨by simpa using h1, h2.set _ s0 s1, ?_, d0, d1, ?_⟩
  · intro j hj
    rw [getD_set (by omega), if_neg (by omega)]
    exact h3 j (by omega)
  · rw [lv_set _ _ _ (by omega), h3 i (Nat.le_refl _), lv_take_getD xs, lv_take_getD ys, Int.pow_succ]
    generalize xs.getD i 0 = x at *
    generalize ys.getD i 0 = y at *
    subst hs
    generalize (1000000000 : Int) ^ i = p at *
    generalize lv fs = F at *
    generalize lv (List.take i xs) = X at *
    generalize lv (List.take i ys) = Y at *
    simp only [Int.sub_zero, Int.mul_add, Int.mul_sub, Int.mul_comm, Int.mul_left_comm] at h4 ⊢
    omega

theorem SubAt.done {xs ys fs : List Int} {c : Int} (h : SubAt xs ys fs xs.length c) (hy : ys.length ≤ xs.length) (hle : lv ys ≤ lv xs) : lv fs = lv xs - lv ys := by
  obtain ⟨h1, h2, h3, c0, c1, h4⟩ := h
  rw [List.take_of_length_le (Nat.le_refl _), List.take_of_length_le hy] at h4
  have b1 := lv_lt h2
  rw [h1] at b1
  generalize (1000000000 : Int) ^ xs.length = p at *
  by_cases hc : c = 0
  · subst hc; simp at h4; omega
  · obtain rfl : c = 1 := by omega
    omega

/-- The borrow of one step. -/
theorem sub_sum {x y c : Int} (x0 : 0 ≤ x) (x1 : x < 1000000000) (y0 : 0 ≤ y) (y1 : y < 1000000000) (c0 : 0 ≤ c) (c1 : c ≤ 1) : -1000000001 < x - c - y ∧ x - c - y < 1000000000 := by omega

end Go.Proofs.YtbebmjiopijheaaDoor

