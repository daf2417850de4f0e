/-
  Several texts in one: PutN, PutM, ZTwo.
-/
import Derived.Test.YtfkihaihbaobeaaGreatDoorMg4
import Derived.Test.YtfkihaihbaobeaaGreatDoorDivZ
namespace Go.Proofs.YtfkihaihbaobeaaGreatDoor

theorem ten_pow_pos (n : Nat) : 0 < 10 ^ n := Nat.pow_pos (by decide)

/-- How many digits; 0 has none. -/
def nd (a : Nat) : Nat := if h : a = 0 then 0 else nd (a / 10) + 1
termination_by a
decreasing_by omega

theorem nd_zero : nd 0 = 0 := by rw [nd]; simp
theorem nd_pos {a : Nat} (h : a ≠ 0) : nd a = nd (a / 10) + 1 := by rw [nd]; simp [h]
theorem nd_dig (a : Nat) : a < 10 ^ nd a ∧ (nd a = 0 ∨ 10 ^ (nd a - 1) ≤ a) := by
  induction a using Nat.strongRecOn with
  | ind a ih =>
    by_cases h : a = 0
    · subst h; rw [nd_zero]; simp
    · rw [nd_pos h]
      obtain ⟨h1, h2⟩ := ih (a / 10) (by omega)
      refine ⟨by rw [Nat.pow_succ]; omega, .inr ?_⟩
      rw [Nat.add_sub_cancel]
      by_cases h3 : a / 10 = 0
      · rw [h3, nd_zero]; simp; omega
      · have h4 : nd (a / 10) ≠ 0 := by rw [nd_pos h3]; omega
        have h5 := h2.resolve_left h4
        obtain ⟨m, hm⟩ : ∃ m, nd (a / 10) = m + 1 := ⟨nd (a / 10) - 1, by omega⟩
        rw [hm] at h5 ⊢
        rw [Nat.pow_succ]
        simp at h5
        omega
theorem pow10_le {i j : Nat} (h : i ≤ j) : 10 ^ i ≤ 10 ^ j := Nat.pow_le_pow_right (by decide) h
theorem pow10_lt_iff {i j : Nat} (h : 10 ^ i < 10 ^ j) : i < j := by
  by_cases e : i < j
  · exact e
  · have := pow10_le (show j ≤ i by omega); omega
theorem nd_eq {a k : Nat} (h1 : a < 10 ^ k) (h2 : k = 0 ∨ 10 ^ (k - 1) ≤ a) : nd a = k := by
  obtain ⟨h3, h4⟩ := nd_dig a
  have e1 : k ≤ nd a := by
    rcases h2 with h2 | h2
    · omega
    · have := pow10_lt_iff (i := k - 1) (j := nd a) (by omega)
      omega
  have e2 : nd a ≤ k := by
    rcases h4 with h4 | h4
    · omega
    · have := pow10_lt_iff (i := nd a - 1) (j := k) (by omega)
      omega
  omega
theorem nd_ge {a k : Nat} (h : 10 ^ k ≤ a) : k < nd a := pow10_lt_iff (Nat.lt_of_le_of_lt h (nd_dig a).1)
theorem nd_le {a k : Nat} (h : a < 10 ^ k) : nd a ≤ k := by
  rcases (nd_dig a).2 with h2 | h2
  · omega
  · have := pow10_lt_iff (i := nd a - 1) (j := k) (by omega)
    omega
theorem nd_lt {a k : Nat} (h : k < nd a) : 10 ^ k ≤ a := by
  rcases (nd_dig a).2 with h2 | h2
  · omega
  · exact Nat.le_trans (pow10_le (by omega)) h2

/-- What is cut off: nothing, below a half, a half, above a half, in units of the last digit that stays. -/
def restN (P cut : Nat) (more : Bool) : Nat :=
  if 10 ^ cut < 2 * (P % 10 ^ cut) ∨ (2 * (P % 10 ^ cut) = 10 ^ cut ∧ more = true) then 3
  else if 2 * (P % 10 ^ cut) = 10 ^ cut then 2
  else if 0 < P % 10 ^ cut ∨ more = true then 1 else 0
/-- Whether a mode goes one on. -/
def goesOn (mode : Nat) (odd : Bool) (rest : Nat) : Bool :=
  if mode = 0 then decide (rest = 3) || (decide (rest = 2) && odd) else if mode = 1 then decide (2 ≤ rest) else if mode = 2 then false else decide (rest ≠ 0)
def rndM (mode P cut : Nat) (more : Bool) : Nat := P / 10 ^ cut + if goesOn mode (decide (P / 10 ^ cut % 2 = 1)) (restN P cut more) = true then 1 else 0

/-- Noughts at the end go into the power of ten. -/
def strip (P : Nat) (e : Int) : Nat × Int := if h : P ≠ 0 ∧ P % 10 = 0 then strip (P / 10) (e + 1) else (P, e)
termination_by P
decreasing_by omega
theorem strip_ten {P : Nat} {e : Int} (h0 : P ≠ 0) (h : P % 10 = 0) : strip P e = strip (P / 10) (e + 1) := by rw [strip]; simp [h0, h]
theorem strip_stop {P : Nat} {e : Int} (h : P % 10 ≠ 0) : strip P e = (P, e) := by rw [strip]; simp [h]

/-- What is answered: whether it is one, and the decimal. -/
structure DR where
  ok : Bool
  neg : Bool
  d : Int
  e : Int

def fitR (neg : Bool) (P : Nat) (e : Int) : DR :=
  if P = 0 then ⟨true, false, 0, 0⟩
  else if 300 < (strip P e).2 then ⟨false, false, 0, 0⟩
  else if (strip P e).2 < -300 then ⟨true, false, 0, 0⟩
  else ⟨true, neg, (strip P e).1, (strip P e).2⟩
def putR (neg : Bool) (P : Nat) (e : Int) (more : Bool) : DR :=
  if 15 < nd P then fitR neg (rndM 0 P (nd P - 15) more) (e + ((nd P - 15 : Nat) : Int)) else fitR neg P e

theorem strip_pow (a : Nat) (ha : a % 10 ≠ 0) (m : Nat) (e : Int) : strip (a * 10 ^ m) e = (a, e + m) := by
  induction m generalizing e with
  | zero => rw [Nat.pow_zero, Nat.mul_one, strip_stop ha]; simp
  | succ m ih =>
    have h1 : a * 10 ^ (m + 1) = a * 10 ^ m * 10 := by rw [Nat.pow_succ, Nat.mul_assoc]
    have hp : 0 < a * 10 ^ m := Nat.mul_pos (by omega) (ten_pow_pos m)
    rw [h1, strip_ten (by omega) (by omega), Nat.mul_div_cancel _ (by decide), ih]
    congr 1
    omega
theorem strip_add (P : Nat) (e : Int) (k : Int) : strip P (e + k) = ((strip P e).1, (strip P e).2 + k) := by
  induction P using Nat.strongRecOn generalizing e with
  | ind P ih =>
    by_cases h : P ≠ 0 ∧ P % 10 = 0
    · rw [strip_ten h.1 h.2, strip_ten h.1 h.2, show e + k + 1 = e + 1 + k by omega, ih (P / 10) (by omega)]
    · rw [strip, dif_neg h, strip, dif_neg h]
theorem strip_scale (P : Nat) (m : Nat) (e : Int) (h0 : P ≠ 0) : strip (P * 10 ^ m) e = strip P (e + m) := by
  induction m generalizing e with
  | zero => simp
  | succ m ih =>
    have h1 : P * 10 ^ (m + 1) = P * 10 ^ m * 10 := by rw [Nat.pow_succ, Nat.mul_assoc]
    have hp : 0 < P * 10 ^ m := Nat.mul_pos (by omega) (ten_pow_pos m)
    rw [h1, strip_ten (by omega) (by omega), Nat.mul_div_cancel _ (by decide), ih]
    congr 1
    omega
theorem strip_le (P : Nat) (e : Int) : (strip P e).1 ≤ P ∧ e ≤ (strip P e).2 := by
  induction P using Nat.strongRecOn generalizing e with
  | ind P ih =>
    by_cases h : P ≠ 0 ∧ P % 10 = 0
    · rw [strip_ten h.1 h.2]
      have := ih (P / 10) (by omega) (e + 1)
      omega
    · rw [strip, dif_neg h]; simp
theorem strip_good (P : Nat) (e : Int) (h0 : P ≠ 0) : (strip P e).1 % 10 ≠ 0 := by
  induction P using Nat.strongRecOn generalizing e with
  | ind P ih =>
    by_cases h : P % 10 = 0
    · rw [strip_ten h0 h]
      exact ih (P / 10) (by omega) (e + 1) (by omega)
    · rw [strip_stop h]; exact h

/-- A digit more is cut. -/
theorem rest_step (P n : Nat) (more : Bool) :
    restN P (n + 1) more = restN (P / 10 ^ n) 1 (more || decide (P % 10 ^ n ≠ 0)) := by
  obtain ⟨T, hT⟩ : ∃ T, 10 ^ n = T := ⟨_, rfl⟩
  have hp : 0 < T := by rw [← hT]; exact ten_pow_pos n
  have e1 : P % 10 ^ (n + 1) = P % T + T * (P / T % 10) := by
    rw [Nat.pow_succ, hT, Nat.mod_mul]
  have e2 : (10 : Nat) ^ (n + 1) = T * 10 := by rw [Nat.pow_succ, hT]
  unfold restN
  rw [e1, e2, hT, Nat.pow_one]
  have hs := Nat.mod_lt P hp
  generalize P % T = s at *
  have hl : P / T % 10 < 10 := Nat.mod_lt _ (by decide)
  generalize P / T % 10 = l at *
  have e3 : l = 0 ∨ l = 1 ∨ l = 2 ∨ l = 3 ∨ l = 4 ∨ l = 5 ∨ l = 6 ∨ l = 7 ∨ l = 8 ∨ l = 9 := by omega
  have e4 : (more || decide (s ≠ 0)) = true ↔ more = true ∨ s ≠ 0 := by simp
  simp only [e4]
  clear e4
  clear e1 e2 hT hl
  cases more
  all_goals simp only [Bool.false_eq_true, and_true, and_false, or_true, true_or, or_false, false_or]
  all_goals rcases e3 with h | h | h | h | h | h | h | h | h | h <;> subst h <;> (repeat' split) <;> omega

end Go.Proofs.YtfkihaihbaobeaaGreatDoor

namespace Go.Proofs.YtfkihaihbaobeaaGreatDoor

theorem div_pow (N i j : Nat) : N / 10 ^ i / 10 ^ j = N / 10 ^ (i + j) := by rw [Nat.div_div_eq_div_mul, Nat.pow_add]
theorem mod_pow (N i j : Nat) : N % 10 ^ (i + j) = N % 10 ^ i + 10 ^ i * (N / 10 ^ i % 10 ^ j) := by rw [Nat.pow_add, Nat.mod_mul]
theorem mod_pow_zero (N i j : Nat) : N % 10 ^ (i + j) ≠ 0 ↔ N % 10 ^ i ≠ 0 ∨ N / 10 ^ i % 10 ^ j ≠ 0 := by
  rw [mod_pow]
  have hp := ten_pow_pos i
  by_cases h : N / 10 ^ i % 10 ^ j = 0
  · rw [h]; simp
  · have : 0 < 10 ^ i * (N / 10 ^ i % 10 ^ j) := Nat.mul_pos hp (by omega)
    constructor
    · intro _; exact .inr h
    · intro _; omega

theorem rest_steps (P j cut : Nat) (more : Bool) (hc : 1 ≤ cut) : restN P (j + cut) more = restN (P / 10 ^ j) cut (more || decide (P % 10 ^ j ≠ 0)) := by
  obtain ⟨c, rfl⟩ : ∃ c, cut = c + 1 := ⟨cut - 1, by omega⟩
  rw [show j + (c + 1) = (j + c) + 1 by omega, rest_step P (j + c), rest_step (P / 10 ^ j) c, div_pow P j c]
  congr 1
  have e := mod_pow_zero P j c
  rw [Bool.or_assoc]
  congr 1
  rw [Bool.eq_iff_iff]
  simp only [Bool.or_eq_true, decide_eq_true_eq]
  exact e
theorem rnd_steps (mode P j cut : Nat) (more : Bool) (hc : 1 ≤ cut) : rndM mode P (j + cut) more = rndM mode (P / 10 ^ j) cut (more || decide (P % 10 ^ j ≠ 0)) := by
  unfold rndM
  rw [rest_steps P j cut more hc, div_pow]

theorem nd_div (N j : Nat) : nd (N / 10 ^ j) = nd N - j := by
  induction j with
  | zero => simp
  | succ j ih =>
    rw [← div_pow N j 1, Nat.pow_one]
    by_cases h : N / 10 ^ j = 0
    · rw [h] at ih ⊢; simp only [Nat.zero_div, nd_zero] at *; omega
    · have := nd_pos h
      omega
/-- More digits than sixteen change nothing but whether there is more. -/
theorem put_refine (neg : Bool) (N j : Nat) (e : Int) (m : Bool) (h : 15 < nd (N / 10 ^ j)) : putR neg N e m = putR neg (N / 10 ^ j) (e + j) (m || decide (N % 10 ^ j ≠ 0)) := by
  have hn := nd_div N j
  unfold putR
  rw [if_pos h, if_pos (by omega), show nd N - 15 = j + (nd (N / 10 ^ j) - 15) by omega, rnd_steps _ _ _ _ _ (by omega)]
  congr 1
  omega
theorem nd_mul (P j : Nat) (h : P ≠ 0) : nd (P * 10 ^ j) = nd P + j := by
  have := nd_div (P * 10 ^ j) j
  rw [Nat.mul_div_cancel _ (ten_pow_pos j)] at this
  have h2 : 0 < nd P := by rw [nd_pos h]; omega
  omega
theorem rest_none {P c : Nat} (h : P % 10 ^ c = 0) : restN P c false = 0 := by
  have hp := ten_pow_pos c
  unfold restN
  rw [h, if_neg (by simp), if_neg (by omega), if_neg (by simp)]
theorem rest_below {P c : Nat} (h : 2 * (P % 10 ^ c) < 10 ^ c) : restN P c false ≤ 1 := by
  unfold restN
  rw [if_neg (by simp; omega), if_neg (by omega)]
  split <;> omega
theorem rest_above {P c : Nat} {m : Bool} (h : 10 ^ c < 2 * (P % 10 ^ c)) : restN P c m = 3 := by
  unfold restN
  rw [if_pos (.inl h)]
theorem goes_none (mode : Nat) (odd : Bool) (hm : mode ≤ 3) : goesOn mode odd 0 = false := by
  unfold goesOn
  have : mode = 0 ∨ mode = 1 ∨ mode = 2 ∨ mode = 3 := by omega
  rcases this with rfl | rfl | rfl | rfl <;> simp
theorem goes_below (odd : Bool) {r : Nat} (h : r ≤ 1) : goesOn 0 odd r = false := by
  unfold goesOn
  have : r = 0 ∨ r = 1 := by omega
  rcases this with rfl | rfl <;> simp
theorem rnd_exact (mode Q c : Nat) (hm : mode ≤ 3) : rndM mode (Q * 10 ^ c) c false = Q := by
  unfold rndM
  rw [rest_none (Nat.mul_mod_left _ _), Nat.mul_div_cancel _ (ten_pow_pos c), goes_none _ _ hm]
  simp
theorem fit_scale (neg : Bool) (P m : Nat) (e : Int) : fitR neg (P * 10 ^ m) e = fitR neg P (e + m) := by
  unfold fitR
  by_cases h : P = 0
  · subst h; simp
  · have : P * 10 ^ m ≠ 0 := by have := Nat.mul_pos (show 0 < P by omega) (ten_pow_pos m); omega
    rw [if_neg h, if_neg this, strip_scale P m e h]
/-- Noughts at the end change nothing. -/
theorem put_scale (neg : Bool) (P j : Nat) (e : Int) : putR neg (P * 10 ^ j) e false = putR neg P (e + j) false := by
  by_cases h0 : P = 0
  · subst h0
    simp [putR, nd_zero, fitR]
  · by_cases h : 15 < nd P
    · have := put_refine neg (P * 10 ^ j) j e false (by rw [Nat.mul_div_cancel _ (ten_pow_pos j)]; exact h)
      rw [this, Nat.mul_div_cancel _ (ten_pow_pos j), Nat.mul_mod_left]
      rfl
    · have hn := nd_mul P j h0
      unfold putR
      rw [if_neg h]
      by_cases h2 : 15 < nd (P * 10 ^ j)
      · rw [if_pos h2]
        obtain ⟨c, hc⟩ : ∃ c, nd (P * 10 ^ j) - 15 = c := ⟨_, rfl⟩
        obtain ⟨r, hr⟩ : ∃ r, j = r + c := ⟨j - c, by omega⟩
        have e1 : P * 10 ^ j = P * 10 ^ r * 10 ^ c := by rw [hr, Nat.pow_add, Nat.mul_assoc]
        rw [hc, e1, rnd_exact 0 _ _ (by decide), fit_scale]
        congr 1
        omega
      · rw [if_neg h2, fit_scale]

/-- A decimal that is good is put as it is. -/
theorem fit_good (neg : Bool) (d : Nat) (e : Int) (h : d % 10 ≠ 0) (e0 : -300 ≤ e) (e1 : e ≤ 300) : fitR neg d e = ⟨true, neg, d, e⟩ := by
  unfold fitR
  rw [if_neg (by omega), strip_stop h]
  simp only
  rw [if_neg (by omega), if_neg (by omega)]
theorem put_good (neg : Bool) (d : Nat) (e : Int) (h : d % 10 ≠ 0) (hd : d < 1000000000000000) (e0 : -300 ≤ e) (e1 : e ≤ 300) : putR neg d e false = ⟨true, neg, d, e⟩ := by
  unfold putR
  rw [if_neg (by have := nd_le (a := d) (k := 15) (by omega); omega), fit_good neg d e h e0 e1]

theorem rnd_near_up (Q b c : Nat) (h : 2 * b < 10 ^ c) : rndM 0 (Q * 10 ^ c + b) c false = Q := by
  have hp := ten_pow_pos c
  have e1 : (Q * 10 ^ c + b) / 10 ^ c = Q := by rw [Nat.mul_comm, Nat.mul_add_div hp, Nat.div_eq_of_lt (by omega)]; omega
  have e2 : (Q * 10 ^ c + b) % 10 ^ c = b := by rw [Nat.mul_comm, Nat.mul_add_mod, Nat.mod_eq_of_lt (by omega)]
  unfold rndM
  rw [e1, goes_below _ (rest_below (by rw [e2]; exact h))]
  simp
theorem rnd_near_down (Q b c : Nat) (hb : 0 < b) (h : 2 * b < 10 ^ c) (hQ : 0 < Q) : rndM 0 (Q * 10 ^ c - b) c false = Q := by
  have hp := ten_pow_pos c
  obtain ⟨q, rfl⟩ : ∃ q, Q = q + 1 := ⟨Q - 1, by omega⟩
  have e0 : (q + 1) * 10 ^ c - b = q * 10 ^ c + (10 ^ c - b) := by rw [Nat.add_mul]; omega
  rw [e0]
  have e1 : (q * 10 ^ c + (10 ^ c - b)) / 10 ^ c = q := by rw [Nat.mul_comm, Nat.mul_add_div hp, Nat.div_eq_of_lt (by omega)]; omega
  have e2 : (q * 10 ^ c + (10 ^ c - b)) % 10 ^ c = 10 ^ c - b := by rw [Nat.mul_comm, Nat.mul_add_mod, Nat.mod_eq_of_lt (by omega)]
  unfold rndM
  rw [e1, rest_above (by rw [e2]; omega)]
  simp [goesOn]

theorem far_pow : (10 : Nat) ^ 37 = 10000000000000000000000000000000000000 ∧ (10 : Nat) ^ 38 = 100000000000000000000000000000000000000 ∧ (10 : Nat) ^ 16 = 10000000000000000 := by decide
/-- A sum of what lies far apart. -/
theorem put_far (neg minus : Bool) (a b m : Nat) (e : Int) (ha : a % 10 ≠ 0) (ha1 : a < 1000000000000000) (hb : 0 < b) (hb1 : b < 1000000000000000) (hm : 38 < nd a + m) (e0 : -300 ≤ e + m) (e1 : e + m ≤ 300) :
    putR neg (if minus then a * 10 ^ m - b else a * 10 ^ m + b) e false = ⟨true, neg, a, e + m⟩ := by
  have na := nd_mul a m (by omega)
  have n15 := nd_le (a := a) (k := 15) (by omega)
  obtain ⟨A, hA⟩ : ∃ A, a * 10 ^ m = A := ⟨_, rfl⟩
  obtain ⟨f1, f2, f3⟩ := far_pow
  have A38 : 10 ^ 38 ≤ A := by rw [← hA]; exact nd_lt (by omega)
  obtain ⟨X, hX⟩ : ∃ X, (if minus then A - b else A + b) = X := ⟨_, rfl⟩
  have Xlo : 10 ^ 37 ≤ X := by rw [← hX]; split <;> omega
  have nlo := nd_ge Xlo
  have nhi : nd X ≤ nd a + m := by
    apply nd_le
    have h1 : (a + 1) * 10 ^ m ≤ 10 ^ nd a * 10 ^ m := Nat.mul_le_mul_right _ (nd_dig a).1
    rw [← Nat.pow_add, Nat.add_mul, hA] at h1
    have h2 : 10 ^ 16 ≤ 10 ^ m := pow10_le (by omega)
    have := ten_pow_pos m
    rw [← hX]; split <;> omega
  obtain ⟨c, hc⟩ : ∃ c, nd X - 15 = c := ⟨_, rfl⟩
  obtain ⟨r, hr⟩ : ∃ r, m = r + c := ⟨m - c, by omega⟩
  have c16 : 10 ^ 16 ≤ 10 ^ c := pow10_le (by omega)
  have hQ : A = a * 10 ^ r * 10 ^ c := by rw [← hA, hr, Nat.pow_add, Nat.mul_assoc]
  have Qp : 0 < a * 10 ^ r := Nat.mul_pos (by omega) (ten_pow_pos r)
  have hR : rndM 0 X c false = a * 10 ^ r := by
    rw [← hX, hQ]
    cases minus
    · exact rnd_near_up _ _ _ (by omega)
    · exact rnd_near_down _ _ _ hb (by omega) Qp
  rw [hA, hX]
  unfold putR
  rw [if_pos (by omega), hc, hR, fit_scale, show e + (c : Int) + (r : Int) = e + (m : Int) by omega, fit_good neg a _ ha e0 e1]

/-- A quotient with more places. -/
theorem div_refine (y T B : Nat) (hT : 0 < T) : y * T / B / T = y / B ∧ ((y * T % B ≠ 0 ∨ y * T / B % T ≠ 0) ↔ y % B ≠ 0) := by
  refine ⟨by rw [Nat.div_div_eq_div_mul, Nat.mul_div_mul_right _ _ hT], ?_⟩
  have h1 : y * T % (B * T) = y % B * T := Nat.mul_mod_mul_right _ _ _
  rw [Nat.mod_mul] at h1
  by_cases h : y % B = 0
  · rw [h, Nat.zero_mul] at h1
    constructor
    · intro h2
      by_cases hB : B = 0
      · subst hB; simp at h; subst h; simp at h2
      · rcases h2 with h2 | h2
        · omega
        · have : 0 < B * (y * T / B % T) := Nat.mul_pos (by omega) (by omega)
          omega
    · intro h2; exact absurd h h2
  · have h3 : 0 < y % B * T := Nat.mul_pos (by omega) hT
    constructor
    · intro _; exact h
    · intro _
      by_cases h4 : y * T % B = 0
      · right
        intro h5
        rw [h4, h5] at h1
        simp at h1
        omega
      · exact .inl h4
theorem put_div (neg : Bool) (A B u v : Nat) (e : Int) (h : 15 < nd (A * 10 ^ u / B)) (huv : u ≤ v) :
    putR neg (A * 10 ^ v / B) (e - v) (decide (A * 10 ^ v % B ≠ 0)) = putR neg (A * 10 ^ u / B) (e - u) (decide (A * 10 ^ u % B ≠ 0)) := by
  obtain ⟨j, rfl⟩ : ∃ j, v = u + j := ⟨v - u, by omega⟩
  have e1 : A * 10 ^ (u + j) = A * 10 ^ u * 10 ^ j := by rw [Nat.pow_add, Nat.mul_assoc]
  obtain ⟨d1, d2⟩ := div_refine (A * 10 ^ u) (10 ^ j) B (ten_pow_pos j)
  rw [e1, put_refine neg _ j _ _ (by rw [d1]; exact h), d1]
  congr 1
  · omega
  · rw [Bool.eq_iff_iff]
    simp only [Bool.or_eq_true, decide_eq_true_eq]
    exact d2

/-- A root with more places. -/
def IsRoot (r x : Nat) : Prop := r * r ≤ x ∧ x < (r + 1) * (r + 1)
theorem sq_lt {a b : Nat} (h : a * a < b * b) : a < b := by
  by_cases e : a < b
  · exact e
  · have := Nat.mul_le_mul (show b ≤ a by omega) (show b ≤ a by omega); omega
theorem IsRoot.uniq {r s x : Nat} (h : IsRoot r x) (k : IsRoot s x) : r = s := by
  have h1 := sq_lt (show r * r < (s + 1) * (s + 1) from Nat.lt_of_le_of_lt h.1 k.2)
  have h2 := sq_lt (show s * s < (r + 1) * (r + 1) from Nat.lt_of_le_of_lt k.1 h.2)
  omega
theorem sqrt_refine {R N X T : Nat} (hT : 0 < T) (hR : IsRoot R X) (hN : IsRoot N (X * (T * T))) : N / T = R ∧ ((N * N ≠ X * (T * T) ∨ N % T ≠ 0) ↔ R * R ≠ X) := by
  have e1 : N / T = R := by
    apply IsRoot.uniq (x := X) _ hR
    obtain ⟨n1, n2⟩ := hN
    obtain ⟨q, hq⟩ : ∃ q, N / T = q := ⟨_, rfl⟩
    have h1 : q * T ≤ N := by rw [← hq]; exact Nat.div_mul_le_self _ _
    have h2 : N < (q + 1) * T := by rw [← hq, Nat.mul_comm]; exact Nat.lt_mul_div_succ N hT
    rw [hq]
    constructor
    · have := Nat.mul_le_mul h1 h1
      have h3 : q * q * (T * T) ≤ X * (T * T) := by
        rw [show q * q * (T * T) = q * T * (q * T) by rw [Nat.mul_mul_mul_comm]]; omega
      exact Nat.le_of_mul_le_mul_right h3 (Nat.mul_pos hT hT)
    · have := Nat.mul_le_mul (show N + 1 ≤ (q + 1) * T from h2) (show N + 1 ≤ (q + 1) * T from h2)
      have h3 : X * (T * T) < (q + 1) * (q + 1) * (T * T) := by
        rw [show (q + 1) * (q + 1) * (T * T) = (q + 1) * T * ((q + 1) * T) by rw [Nat.mul_mul_mul_comm]]; omega
      exact Nat.lt_of_mul_lt_mul_right h3
  refine ⟨e1, ?_⟩
  have e2 := Nat.div_add_mod N T
  rw [e1] at e2
  by_cases hx : R * R = X
  · have hN' : IsRoot (T * R) (X * (T * T)) := by
      rw [← hx, show R * R * (T * T) = T * R * (T * R) by rw [Nat.mul_mul_mul_comm, Nat.mul_comm R T]]
      exact ⟨Nat.le_refl _, by rw [Nat.mul_add, Nat.add_mul]; omega⟩
    have := hN.uniq hN'
    constructor
    · intro h
      rcases h with h | h
      · exfalso; apply h
        rw [this, ← hx, show R * R * (T * T) = T * R * (T * R) by rw [Nat.mul_mul_mul_comm, Nat.mul_comm R T]]
      · omega
    · intro h; exact absurd hx h
  · constructor
    · intro _; exact hx
    · intro _
      by_cases hm : N % T = 0
      · left
        intro h
        rw [hm, Nat.add_zero] at e2
        rw [← e2, show T * R * (T * R) = R * R * (T * T) by rw [Nat.mul_comm T R, Nat.mul_mul_mul_comm]] at h
        exact hx (Nat.eq_of_mul_eq_mul_right (Nat.mul_pos hT hT) h)
      · exact .inr hm
theorem put_root {R N X j : Nat} (neg : Bool) (e : Int) (hR : IsRoot R X) (hN : IsRoot N (X * (10 ^ j * 10 ^ j))) (h : 15 < nd R) :
    putR neg N (e - j) (decide (N * N ≠ X * (10 ^ j * 10 ^ j))) = putR neg R e (decide (R * R ≠ X)) := by
  obtain ⟨d1, d2⟩ := sqrt_refine (ten_pow_pos j) hR hN
  rw [put_refine neg N j _ _ (by rw [d1]; exact h), d1]
  congr 1
  · omega
  · rw [Bool.eq_iff_iff]
    simp only [Bool.or_eq_true, decide_eq_true_eq]
    exact d2

end Go.Proofs.YtfkihaihbaobeaaGreatDoor

namespace Go.Proofs.YtfkihaihbaobeaaGreatDoor
open Go.RowKit

/-- Two boxes that did not lie in the elder world, and what they hold. -/
def Two (w0 w : World) (b c : Nat) (q r : Int) : Prop := w0.heap.size ≤ b ∧ w0.heap.size ≤ c ∧ b ≠ c ∧ ZIn w b q ∧ ZIn w c r ∧ Ext w0 w

section
variable {w0 w : World} {q r : Int} {q0 : Int} {q1 : Bool} {q2 : Option Addr} {q3 q4 : Nat} {r0 : Int} {r1 : Bool} {r2 : Option Addr} {r3 r4 : Nat} {t : TypeId}

theorem two1 (X : Ext w0 w) (hq : ZV w (.agg #[.int .i64 q0, .bool q1, .slice q2 q3 q4]) q) (hr : ZV w (.agg #[.int .i64 r0, .bool r1, .slice r2 r3 r4]) r) :
    Two w0 ((w.alloc (.cells #[.int .i64 q0, .bool q1, .slice q2 q3 q4] t)).alloc (.cells #[.int .i64 r0, .bool r1, .slice r2 r3 r4] t)) w.heap.size (w.heap.size + 1) q r := by
  have h1 := ZIn.made t (hr.later (x1 w (.cells #[.int .i64 q0, .bool q1, .slice q2 q3 q4] t)))
  simp only [World.size_alloc] at h1
  exact ⟨X.size, Nat.le_succ_of_le X.size, by omega, (ZIn.made t hq).later (x1 _ _), h1, xa (xa X _) _⟩
theorem two2 (X : Ext w0 w) (hq : ZV w (.agg #[.int .i64 q0, .bool q1, .slice q2 q3 q4]) q) (hr : ZV w (.agg #[.int .i64 r0, .bool r1, .slice r2 r3 r4]) r) :
    Two w0 ((w.alloc (.cells #[.int .i64 r0, .bool r1, .slice r2 r3 r4] t)).alloc (.cells #[.int .i64 q0, .bool q1, .slice q2 q3 q4] t)) (w.heap.size + 1) w.heap.size q r := by
  have h1 := ZIn.made t (hq.later (x1 w (.cells #[.int .i64 r0, .bool r1, .slice r2 r3 r4] t)))
  simp only [World.size_alloc] at h1
  exact ⟨Nat.le_succ_of_le X.size, X.size, by omega, h1, (ZIn.made t hr).later (x1 _ _), xa (xa X _) _⟩
theorem Box3.zin {b : Nat} (h : Box3 w b (.int .i64 0) (.bool false) (.slice none 0 0)) : ZIn w b 0 := ⟨_, _, _, _, _, h, ZV.small (by decide) (by decide)⟩
theorem Box3.lt {b : Nat} {v0 v1 v2 : Value} (h : Box3 w b v0 v1 v2) : b < w.heap.size := World.block_lt_of_cell? _ _ h.1.1
theorem two5 (X : Ext w0 w) (hq : ZV w (.agg #[.int .i64 q0, .bool q1, .slice q2 q3 q4]) q) (hr : ZV w (.agg #[.int .i64 r0, .bool r1, .slice r2 r3 r4]) r) {b c : Nat} (hb : Box3 w b (.int .i64 0) (.bool false) (.slice none 0 0)) (hc : Box3 w c (.int .i64 0) (.bool false) (.slice none 0 0)) (b0 : w0.heap.size ≤ b) (c0 : w0.heap.size ≤ c) (hne : b ≠ c) :
    Two w0 (set3 (set3 w b (.int .i64 q0) (.bool q1) (.slice q2 q3 q4)) c (.int .i64 r0) (.bool r1) (.slice r2 r3 r4)) b c q r := by
  have k1 := hb.zin.put hq
  have k2 := hc.zin.far hb.zin hne (.int .i64 q0) (.bool q1) (.slice q2 q3 q4)
  exact ⟨b0, c0, hne, k1.far k2 hne.symm _ _ _, k2.put (hr.set3 hb _ _ _), Ext.set3 (Ext.set3 X b0 _ _ _) c0 _ _ _⟩
theorem two3 (X : Ext w0 w) (hq : ZV w (.agg #[.int .i64 q0, .bool q1, .slice q2 q3 q4]) q) (hr : ZV w (.agg #[.int .i64 r0, .bool r1, .slice r2 r3 r4]) r) {b : Nat} (hb : Box3 w b (.int .i64 0) (.bool false) (.slice none 0 0)) (b0 : w0.heap.size ≤ b) :
    Two w0 (set3 (set3 (w.alloc (.cells #[.int .i64 0, .bool false, .slice none 0 0] t)) b (.int .i64 q0) (.bool q1) (.slice q2 q3 q4)) w.heap.size (.int .i64 r0) (.bool r1) (.slice r2 r3 r4)) b w.heap.size q r :=
  two5 (xa X _) (hq.later (x1 _ _)) (hr.later (x1 _ _)) (hb.later (x1 _ _)) (Box3.made w _ _ _ t) b0 X.size (Nat.ne_of_lt hb.lt)
theorem two4 (X : Ext w0 w) (hq : ZV w (.agg #[.int .i64 q0, .bool q1, .slice q2 q3 q4]) q) (hr : ZV w (.agg #[.int .i64 r0, .bool r1, .slice r2 r3 r4]) r) {b : Nat} (hb : Box3 w b (.int .i64 0) (.bool false) (.slice none 0 0)) (b0 : w0.heap.size ≤ b) :
    Two w0 (set3 (w.alloc (.cells #[.int .i64 q0, .bool q1, .slice q2 q3 q4] t)) b (.int .i64 r0) (.bool r1) (.slice r2 r3 r4)) w.heap.size b q r := by
  have k1 := (hb.later (x1 w (.cells #[.int .i64 q0, .bool q1, .slice q2 q3 q4] t))).zin
  exact ⟨X.size, b0, (Nat.ne_of_lt hb.lt).symm, (ZIn.made t hq).far k1 (Nat.ne_of_lt hb.lt) _ _ _, k1.put (hr.later (x1 _ _)), Ext.set3 (xa X _) b0 _ _ _⟩
end

end Go.Proofs.YtfkihaihbaobeaaGreatDoor

