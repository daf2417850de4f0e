/-
  The plain mathematics of putting a number: digits, rounding, noughts at the end. No program here.
-/
import Derived.Test.YtpoihneecafijaaDoorCmpNum
namespace Go.Proofs.YtpoihneecafijaaDoor

theorem ten_pow_pos (n : Nat) : 0 < 10 ^ n := Nat.pow_pos (by decide)

/-- How many digits; 0 has none. -/
def nd (a : Nat) : Nat := if h : a = 0 then 0 else nd (a / 10) + 1
termination_by a
decreasing_by omega

theorem nd_zero : nd 0 = 0 := by rw [nd]; simp
theorem nd_pos {a : Nat} (h : a ≠ 0) : nd a = nd (a / 10) + 1 := by rw [nd]; simp [h]
theorem nd_dig (a : Nat) : a < 10 ^ nd a ∧ (nd a = 0 ∨ 10 ^ (nd a - 1) ≤ a) := by
  induction a using Nat.strongRecOn with
  | ind a ih =>
    by_cases h : a = 0
    · subst h; rw [nd_zero]; simp
    · rw [nd_pos h]
      obtain ⟨h1, h2⟩ := ih (a / 10) (by omega)
      refine ⟨by rw [Nat.pow_succ]; omega, .inr ?_⟩
      rw [Nat.add_sub_cancel]
      by_cases h3 : a / 10 = 0
      · rw [h3, nd_zero]; simp; omega
      · have h4 : nd (a / 10) ≠ 0 := by rw [nd_pos h3]; omega
        have h5 := h2.resolve_left h4
        obtain ⟨m, hm⟩ : ∃ m, nd (a / 10) = m + 1 := ⟨nd (a / 10) - 1, by omega⟩
        rw [hm] at h5 ⊢
        rw [Nat.pow_succ]
        simp at h5
        omega
theorem pow10_le {i j : Nat} (h : i ≤ j) : 10 ^ i ≤ 10 ^ j := Nat.pow_le_pow_right (by decide) h
theorem pow10_lt_iff {i j : Nat} (h : 10 ^ i < 10 ^ j) : i < j := by
  by_cases e : i < j
  · exact e
  · have := pow10_le (show j ≤ i by omega); omega
theorem nd_eq {a k : Nat} (h1 : a < 10 ^ k) (h2 : k = 0 ∨ 10 ^ (k - 1) ≤ a) : nd a = k := by
  obtain ⟨h3, h4⟩ := nd_dig a
  have e1 : k ≤ nd a := by
    rcases h2 with h2 | h2
    · omega
    · have := pow10_lt_iff (i := k - 1) (j := nd a) (by omega)
      omega
  have e2 : nd a ≤ k := by
    rcases h4 with h4 | h4
    · omega
    · have := pow10_lt_iff (i := nd a - 1) (j := k) (by omega)
      omega
  omega
theorem nd_ge {a k : Nat} (h : 10 ^ k ≤ a) : k < nd a := pow10_lt_iff (Nat.lt_of_le_of_lt h (nd_dig a).1)
theorem nd_le {a k : Nat} (h : a < 10 ^ k) : nd a ≤ k := by
  rcases (nd_dig a).2 with h2 | h2
  · omega
  · have := pow10_lt_iff (i := nd a - 1) (j := k) (by omega)
    omega
theorem nd_lt {a k : Nat} (h : k < nd a) : 10 ^ k ≤ a := by
  rcases (nd_dig a).2 with h2 | h2
  · omega
  · exact Nat.le_trans (pow10_le (by omega)) h2

/-- What is cut off: nothing, below a half, a half, above a half, in units of the last digit that stays. -/
def restN (P cut : Nat) (more : Bool) : Nat :=
  if 10 ^ cut < 2 * (P % 10 ^ cut) ∨ (2 * (P % 10 ^ cut) = 10 ^ cut ∧ more = true) then 3
  else if 2 * (P % 10 ^ cut) = 10 ^ cut then 2
  else if 0 < P % 10 ^ cut ∨ more = true then 1 else 0
/-- Whether a mode goes one on. -/
def goesOn (mode : Nat) (odd : Bool) (rest : Nat) : Bool :=
  if mode = 0 then decide (rest = 3) || (decide (rest = 2) && odd) else if mode = 1 then decide (2 ≤ rest) else if mode = 2 then false else decide (rest ≠ 0)
def rndM (mode P cut : Nat) (more : Bool) : Nat := P / 10 ^ cut + if goesOn mode (decide (P / 10 ^ cut % 2 = 1)) (restN P cut more) = true then 1 else 0

/-- Noughts at the end go into the power of ten. -/
def strip (P : Nat) (e : Int) : Nat × Int := if h : P ≠ 0 ∧ P % 10 = 0 then strip (P / 10) (e + 1) else (P, e)
termination_by P
decreasing_by omega
theorem strip_ten {P : Nat} {e : Int} (h0 : P ≠ 0) (h : P % 10 = 0) : strip P e = strip (P / 10) (e + 1) := by rw [strip]; simp [h0, h]
theorem strip_stop {P : Nat} {e : Int} (h : P % 10 ≠ 0) : strip P e = (P, e) := by rw [strip]; simp [h]

/-- What is answered: whether it is one, and the decimal. -/
structure DR where
  ok : Bool
  neg : Bool
  d : Int
  e : Int

def fitR (neg : Bool) (P : Nat) (e : Int) : DR :=
  if P = 0 then ⟨true, false, 0, 0⟩
  else if 300 < (strip P e).2 then ⟨false, false, 0, 0⟩
  else if (strip P e).2 < -300 then ⟨true, false, 0, 0⟩
  else ⟨true, neg, (strip P e).1, (strip P e).2⟩
def putR (neg : Bool) (P : Nat) (e : Int) (more : Bool) : DR :=
  if 15 < nd P then fitR neg (rndM 0 P (nd P - 15) more) (e + ((nd P - 15 : Nat) : Int)) else fitR neg P e

theorem strip_pow (a : Nat) (ha : a % 10 ≠ 0) (m : Nat) (e : Int) : strip (a * 10 ^ m) e = (a, e + m) := by
  induction m generalizing e with
  | zero => rw [Nat.pow_zero, Nat.mul_one, strip_stop ha]; simp
  | succ m ih =>
    have h1 : a * 10 ^ (m + 1) = a * 10 ^ m * 10 := by rw [Nat.pow_succ, Nat.mul_assoc]
    have hp : 0 < a * 10 ^ m := Nat.mul_pos (by omega) (ten_pow_pos m)
    rw [h1, strip_ten (by omega) (by omega), Nat.mul_div_cancel _ (by decide), ih]
    congr 1
    omega
theorem strip_add (P : Nat) (e : Int) (k : Int) : strip P (e + k) = ((strip P e).1, (strip P e).2 + k) := by
  induction P using Nat.strongRecOn generalizing e with
  | ind P ih =>
    by_cases h : P ≠ 0 ∧ P % 10 = 0
    · rw [strip_ten h.1 h.2, strip_ten h.1 h.2, show e + k + 1 = e + 1 + k by omega, ih (P / 10) (by omega)]
    · rw [strip, dif_neg h, strip, dif_neg h]
theorem strip_scale (P : Nat) (m : Nat) (e : Int) (h0 : P ≠ 0) : strip (P * 10 ^ m) e = strip P (e + m) := by
  induction m generalizing e with
  | zero => simp
  | succ m ih =>
    have h1 : P * 10 ^ (m + 1) = P * 10 ^ m * 10 := by rw [Nat.pow_succ, Nat.mul_assoc]
    have hp : 0 < P * 10 ^ m := Nat.mul_pos (by omega) (ten_pow_pos m)
    rw [h1, strip_ten (by omega) (by omega), Nat.mul_div_cancel _ (by decide), ih]
    congr 1
    omega
theorem strip_le (P : Nat) (e : Int) : (strip P e).1 ≤ P ∧ e ≤ (strip P e).2 := by
  induction P using Nat.strongRecOn generalizing e with
  | ind P ih =>
    by_cases h : P ≠ 0 ∧ P % 10 = 0
    · rw [strip_ten h.1 h.2]
      have := ih (P / 10) (by omega) (e + 1)
      omega
    · rw [strip, dif_neg h]; simp
theorem strip_good (P : Nat) (e : Int) (h0 : P ≠ 0) : (strip P e).1 % 10 ≠ 0 := by
  induction P using Nat.strongRecOn generalizing e with
  | ind P ih =>
    by_cases h : P % 10 = 0
    · rw [strip_ten h0 h]
      exact ih (P / 10) (by omega) (e + 1) (by omega)
    · rw [strip_stop h]; exact h

/-- A digit more is cut. -/
theorem rest_step (P n : Nat) (more : Bool) :
    restN P (n + 1) more = restN (P / 10 ^ n) 1 (more || decide (P % 10 ^ n ≠ 0)) := by
  obtain ⟨T, hT⟩ : ∃ T, 10 ^ n = T := ⟨_, rfl⟩
  have hp : 0 < T := by rw [← hT]; exact ten_pow_pos n
  have e1 : P % 10 ^ (n + 1) = P % T + T * (P / T % 10) := by
    rw [Nat.pow_succ, hT, Nat.mod_mul]
  have e2 : (10 : Nat) ^ (n + 1) = T * 10 := by rw [Nat.pow_succ, hT]
  unfold restN
  rw [e1, e2, hT, Nat.pow_one]
  have hs := Nat.mod_lt P hp
  generalize P % T = s at *
  have hl : P / T % 10 < 10 := Nat.mod_lt _ (by decide)
  generalize P / T % 10 = l at *
  have e3 : l = 0 ∨ l = 1 ∨ l = 2 ∨ l = 3 ∨ l = 4 ∨ l = 5 ∨ l = 6 ∨ l = 7 ∨ l = 8 ∨ l = 9 := by omega
  have e4 : (more || decide (s ≠ 0)) = true ↔ more = true ∨ s ≠ 0 := by simp
  simp only [e4]
  clear e4
  clear e1 e2 hT hl
  cases more
  all_goals simp only [Bool.false_eq_true, and_true, and_false, or_true, true_or, or_false, false_or]
  all_goals rcases e3 with h | h | h | h | h | h | h | h | h | h <;> subst h <;> (repeat' split) <;> omega

end Go.Proofs.YtpoihneecafijaaDoor
