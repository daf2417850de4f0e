/-
  The plain mathematics of comparing numbers in limbs.
-/
import Derived.Test.YtbebmjiopijheaaDoorNum
namespace Go.Proofs.YtbebmjiopijheaaDoor

/-- The order of two numbers: -1, 0, 1. -/
def cmpI (a b : Int) : Int := if a < b then -1 else if b < a then 1 else 0
theorem cmpI_lt {a b : Int} (h : a < b) : cmpI a b = -1 := by unfold cmpI; rw [if_pos h]
theorem cmpI_gt {a b : Int} (h : b < a) : cmpI a b = 1 := by unfold cmpI; rw [if_neg (by omega), if_pos h]
theorem cmpI_eq (a : Int) : cmpI a a = 0 := by unfold cmpI; rw [if_neg (by omega), if_neg (by omega)]
theorem cmpI_neg (a b : Int) : -cmpI a b = cmpI (-a) (-b) := by unfold cmpI; split <;> (try split) <;> (try split) <;> (try split) <;> omega

theorem pow_le_pow {i j : Nat} (h : i ≤ j) : (1000000000 : Int) ^ i ≤ 1000000000 ^ j := by
  have := Nat.pow_le_pow_right (n := 1000000000) (by decide) h
  have h3 : ((1000000000 ^ i : Nat) : Int) ≤ ((1000000000 ^ j : Nat) : Int) := by exact_mod_cast this
  simpa using h3

theorem lv_len {xs ys : List Int} (lx : Lim xs) (ly : Lim ys) (ty : ys.getD (ys.length - 1) 0 ≠ 0) (h : xs.length < ys.length) : lv xs < lv ys := by
  have h1 := lv_lt lx
  have h2 := lv_ge ly (by omega) ty
  have h3 := pow_le_pow (show xs.length ≤ ys.length - 1 by omega)
  omega

theorem lv_split (xs : List Int) (j : Nat) (h : j < xs.length) : lv xs = lv (xs.take j) + 1000000000 ^ j * (xs.getD j 0 + 1000000000 * lv (xs.drop (j + 1))) := by
  have e : xs = xs.take j ++ (xs[j] :: xs.drop (j + 1)) := by rw [← List.drop_eq_getElem_cons h, List.take_append_drop]
  have h1 := congrArg lv e
  rw [lv_app] at h1
  simp only [lv, List.length_take, Nat.min_eq_left (Nat.le_of_lt h)] at h1
  rw [h1]
  simp [h]

theorem lv_top {xs ys : List Int} {j : Nat} (lx : Lim xs) (ly : Lim ys) (hx : j < xs.length) (hy : j < ys.length) (hd : xs.drop (j + 1) = ys.drop (j + 1)) (h : xs.getD j 0 < ys.getD j 0) : lv xs < lv ys := by
  rw [lv_split xs j hx, lv_split ys j hy, hd]
  have h1 := lv_lt (lx.take j)
  have h2 := lv_nonneg (ly.take j)
  have e : (xs.take j).length = j := by simp; omega
  rw [e] at h1
  generalize lv (ys.drop (j + 1)) = D at *
  generalize xs.getD j 0 = x at *
  generalize ys.getD j 0 = y at *
  generalize lv (xs.take j) = X at *
  generalize lv (ys.take j) = Y at *
  have hp := pos_pow j
  have h3 : (1000000000 : Int) ^ j * (x + 1000000000 * D + 1) ≤ 1000000000 ^ j * (y + 1000000000 * D) := Int.mul_le_mul_of_nonneg_left (by omega) (by omega)
  rw [Int.mul_add _ _ 1, Int.mul_one] at h3
  omega

theorem drop_step {xs ys : List Int} {j : Nat} (hx : j < xs.length) (hy : j < ys.length) (hd : xs.drop (j + 1) = ys.drop (j + 1)) (h : xs.getD j 0 = ys.getD j 0) : xs.drop j = ys.drop j := by
  rw [List.drop_eq_getElem_cons hx, List.drop_eq_getElem_cons hy, hd]
  have e1 : xs.getD j 0 = xs[j] := by simp [hx]
  have e2 : ys.getD j 0 = ys[j] := by simp [hy]
  rw [← e1, ← e2, h]

end Go.Proofs.YtbebmjiopijheaaDoor

