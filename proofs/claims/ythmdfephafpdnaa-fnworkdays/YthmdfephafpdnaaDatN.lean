/-
  The plain maths of the two calendars.
-/
import Derived.WalkKit
namespace Go.Proofs.Ythmdfephafpdnaa

theorem tdiv_cases (a : Int) (b : Int) : Int.tdiv a b = if 0 ≤ a then a / b else -((-a) / b) := by
  split
  · exact Int.tdiv_eq_ediv_of_nonneg ‹_›
  · have h : Int.tdiv a b = -Int.tdiv (-a) b := by rw [Int.neg_tdiv]; simp
    rw [h, Int.tdiv_eq_ediv_of_nonneg (by omega)]
theorem tmod_cases (a : Int) (b : Int) : Int.tmod a b = if 0 ≤ a then a % b else -((-a) % b) := by
  split
  · exact Int.tmod_eq_emod_of_nonneg ‹_›
  · have h : Int.tmod a b = -Int.tmod (-a) b := by rw [Int.neg_tmod]; simp
    rw [h, Int.tmod_eq_emod_of_nonneg (by omega)]

/-- Which years are leap years. -/
def leapY (cal y : Int) : Bool := if cal = 1 then (decide (y % 4 = 0) && !decide (y % 100 = 0)) || decide (y % 400 = 0) else decide (y % 4 = 0)
/-- A month's days in a year that is none. -/
def mtab (m : Int) : Int := if m = 2 then 28 else if m = 4 ∨ m = 6 ∨ m = 9 ∨ m = 11 then 30 else 31
def mlen (cal y m : Int) : Int := mtab m + if m = 2 ∧ leapY cal y = true then 1 else 0
/-- The days ahead of a year, from the year 0 on. -/
def ahead (cal y : Int) : Int := y * 365 + (y - 1) / 4 + 1 + if cal = 1 then (y - 1) / 400 - (y - 1) / 100 else 0
/-- The days of the first months. -/
def cum (cal y : Int) : Nat → Int
  | 0 => 0
  | n + 1 => cum cal y n + mlen cal y ((n : Int) + 1)
/-- What day 0 is, counted so. -/
def off (cal : Int) : Int := if cal = 1 then 730485 else 730487

theorem cum_succ (cal y : Int) (n : Nat) : cum cal y (n + 1) = cum cal y n + mlen cal y ((n : Int) + 1) := rfl
theorem mlen_pos (cal y m : Int) : 28 ≤ mlen cal y m ∧ mlen cal y m ≤ 31 := by
  unfold mlen mtab
  repeat' split
  all_goals omega
theorem cum_mono (cal y : Int) {a b : Nat} (h : a ≤ b) : cum cal y a ≤ cum cal y b := by
  induction b with
  | zero => obtain rfl : a = 0 := by omega
            exact Int.le_refl _
  | succ n ih =>
    by_cases e : a = n + 1
    · subst e; exact Int.le_refl _
    · have := ih (by omega)
      have := mlen_pos cal y ((n : Int) + 1)
      simp only [cum]
      omega
theorem cum_12 (cal y : Int) : cum cal y 12 = 365 + if leapY cal y = true then 1 else 0 := by
  by_cases h : leapY cal y = true
  · simp [cum, mlen, mtab, h]
  · simp [cum, mlen, mtab, h]
theorem cum_nonneg (cal y : Int) (n : Nat) : 0 ≤ cum cal y n := by have := cum_mono cal y (Nat.zero_le n); simpa [cum] using this
theorem cum_le (cal y : Int) {n : Nat} (h : n ≤ 12) : cum cal y n ≤ 366 := by
  have a := cum_mono cal y h
  have b := cum_12 cal y
  split at b <;> omega
theorem ahead_next (cal y : Int) : ahead cal (y + 1) = ahead cal y + cum cal y 12 := by
  rw [cum_12]
  unfold ahead leapY
  by_cases h : cal = 1
  · simp only [h, if_true]
    by_cases h4 : y % 4 = 0 <;> by_cases h1 : y % 100 = 0 <;> by_cases h2 : y % 400 = 0 <;> simp [h4, h1, h2] <;> omega
  · simp only [h, if_false]
    by_cases h4 : y % 4 = 0 <;> simp [h4] <;> omega
theorem ahead_mono (cal : Int) {a b : Int} (h : a ≤ b) : ahead cal a ≤ ahead cal b := by
  obtain ⟨n, rfl⟩ : ∃ n : Nat, b = a + n := ⟨(b - a).toNat, by omega⟩
  clear h
  induction n with
  | zero => simp
  | succ n ih =>
    have e : a + ((n + 1 : Nat) : Int) = (a + n) + 1 := by omega
    rw [e, ahead_next, cum_12]
    split <;> omega

/-- A date is the date of a day. -/
def IsDt (cal day y m d : Int) : Prop := 1 ≤ m ∧ m ≤ 12 ∧ 1 ≤ d ∧ d ≤ mlen cal y m ∧ ahead cal y + cum cal y (m - 1).toNat + (d - 1) - off cal = day
/-- A year holds a day, counted from the year 0. -/
def Holds (cal y n : Int) : Prop := ahead cal y ≤ n ∧ n < ahead cal (y + 1)
theorem Holds.one {cal y y' n : Int} (h : Holds cal y n) (h' : Holds cal y' n) : y = y' := by
  obtain ⟨a, b⟩ := h
  obtain ⟨c, d⟩ := h'
  rcases Int.lt_trichotomy y y' with k | k | k
  · have := ahead_mono cal (show y + 1 ≤ y' by omega); omega
  · exact k
  · have := ahead_mono cal (show y' + 1 ≤ y by omega); omega
theorem cum_in {cal y m d : Int} (h1 : 1 ≤ m) (h2 : m ≤ 12) (h3 : 1 ≤ d) (h4 : d ≤ mlen cal y m) : 0 ≤ cum cal y (m - 1).toNat + (d - 1) ∧ cum cal y (m - 1).toNat + (d - 1) < cum cal y 12 := by
  have a := cum_nonneg cal y (m - 1).toNat
  have b := cum_mono cal y (show (m - 1).toNat + 1 ≤ 12 by omega)
  have e : (((m - 1).toNat : Nat) : Int) + 1 = m := by omega
  rw [cum_succ, e] at b
  omega
theorem IsDt.holds {cal day y m d : Int} (h : IsDt cal day y m d) : Holds cal y (day + off cal) := by
  obtain ⟨h1, h2, h3, h4, h5⟩ := h
  have := cum_in h1 h2 h3 h4
  unfold Holds
  rw [ahead_next]
  omega
theorem cum_one {cal y m d m' d' : Int} (h1 : 1 ≤ m) (h3 : 1 ≤ d) (h4 : d ≤ mlen cal y m) (g1 : 1 ≤ m') (g3 : 1 ≤ d') (g4 : d' ≤ mlen cal y m')
    (h : cum cal y (m - 1).toNat + (d - 1) = cum cal y (m' - 1).toNat + (d' - 1)) : m = m' ∧ d = d' := by
  have aux : ∀ {m d m' d' : Int}, 1 ≤ m → d ≤ mlen cal y m → 1 ≤ d' → m < m' → cum cal y (m - 1).toNat + (d - 1) = cum cal y (m' - 1).toNat + (d' - 1) → False := by
    intro m d m' d' a b c e f
    have b' := cum_mono cal y (show (m - 1).toNat + 1 ≤ (m' - 1).toNat by omega)
    have e' : (((m - 1).toNat : Nat) : Int) + 1 = m := by omega
    simp only [cum, e'] at b'
    omega
  rcases Int.lt_trichotomy m m' with k | k | k
  · exact (aux h1 h4 g3 k h).elim
  · subst k; exact ⟨rfl, by omega⟩
  · exact (aux g1 g4 h3 k h.symm).elim
theorem IsDt.one {cal day y m d y' m' d' : Int} (h : IsDt cal day y m d) (h' : IsDt cal day y' m' d') : y = y' ∧ m = m' ∧ d = d' := by
  have e := h.holds.one h'.holds
  subst e
  obtain ⟨h1, _, h3, h4, h5⟩ := h
  obtain ⟨g1, _, g3, g4, g5⟩ := h'
  exact ⟨rfl, cum_one h1 h3 h4 g1 g3 g4 (by omega)⟩

end Go.Proofs.Ythmdfephafpdnaa
