/-
  Powers by steps of one, plain: where a digit alone is raised to 12 at the most nothing is rounded.
-/
import Derived.Test.YtpeobfkenekmhaaDoorPwM
namespace Go.Proofs.YtpeobfkenekmhaaDoor

def zeroR : DR := ⟨true, false, 0, 0⟩
/-- A digit's power. -/
def pwD (n : Bool) (d : Nat) (e : Int) (k : Nat) : DR :=
  if k = 0 then oneR else if d = 0 ∨ (k : Int) * e < -300 then zeroR else ⟨true, n && decide (k % 2 = 1), ((d ^ k : Nat) : Int), (k : Int) * e⟩

theorem pow9d : ∀ d : Nat, d ≤ 9 → ∀ k : Nat, k ≤ 12 → (d ≠ 0 → d ^ k % 10 ≠ 0) ∧ d ^ k < 1000000000000000 := by decide
theorem fit_over (neg : Bool) (d : Nat) (e : Int) (h : d % 10 ≠ 0) (e1 : 300 < e) : (fitR neg d e).ok = false := by
  unfold fitR
  rw [strip_stop h]
  have : d ≠ 0 := by omega
  simp [this, e1]
theorem fit_under (neg : Bool) (d : Nat) (e : Int) (h : d % 10 ≠ 0) (e1 : e < -300) : fitR neg d e = zeroR := by
  unfold fitR
  rw [strip_stop h]
  have h0 : d ≠ 0 := by omega
  have h1 : ¬ (300 < e) := by omega
  simp [h0, h1, e1, zeroR]
theorem put_fit (neg : Bool) (d : Nat) (e : Int) (h : d < 1000000000000000) : putR neg d e false = fitR neg d e := by
  unfold putR
  have : nd d ≤ 15 := nd_le (by omega)
  rw [if_neg (by omega)]
theorem mul_zero_r {n : Bool} {d e : Int} (h : goodB n d e = true) : mulD2 zeroR ⟨true, n, d, e⟩ = zeroR := by
  have g : goodB false 0 0 = true := by decide
  unfold mulD2 mulR zeroR
  simp only [g, h, Bool.and_self, if_true]
  simp only [Int.toNat_zero, Nat.zero_mul]
  rw [put_fit _ _ _ (by decide)]
  unfold fitR
  rfl
theorem mul_r_zero {n : Bool} {d e : Int} (h : goodB n d e = true) : mulD2 ⟨true, n, d, e⟩ zeroR = zeroR := by
  have g : goodB false 0 0 = true := by decide
  unfold mulD2 mulR zeroR
  simp only [g, h, Bool.and_self, if_true]
  simp only [Int.toNat_zero, Nat.mul_zero]
  rw [put_fit _ _ _ (by decide)]
  unfold fitR
  rfl
theorem pwD_good (n : Bool) (d : Nat) (e : Int) (k : Nat) (hd : d ≤ 9) (hk : k ≤ 12) (he : (k : Int) * e ≤ 300) : goodB (pwD n d e k).neg (pwD n d e k).d (pwD n d e k).e = true := by
  unfold pwD
  split
  · decide
  · split
    · decide
    · rename_i h0 h1
      have ⟨p1, p2⟩ := pow9d d hd k hk
      have p1 := p1 (by omega)
      unfold goodB
      have : ((d ^ k : Nat) : Int) ≠ 0 := by omega
      simp only [this, if_false]
      simp only [decide_eq_true_eq]
      refine ⟨by omega, by omega, by omega, by omega, by omega⟩
theorem pwD_ok (n : Bool) (d : Nat) (e : Int) (k : Nat) : (pwD n d e k).ok = true := by
  unfold pwD
  split
  · rfl
  · split <;> rfl
theorem mulD2_eq (s t : DR) (hs : goodB s.neg s.d s.e = true) (ht : goodB t.neg t.d t.e = true) : mulD2 s t = putR (s.neg != t.neg) (s.d.toNat * t.d.toNat) (s.e + t.e) false := by
  unfold mulD2 mulR
  rw [hs, ht]
  rfl
theorem odd_add (i j : Nat) (n : Bool) : ((n && decide (i % 2 = 1)) != (n && decide (j % 2 = 1))) = (n && decide ((i + j) % 2 = 1)) := by
  have : decide ((i + j) % 2 = 1) = (decide (i % 2 = 1) != decide (j % 2 = 1)) := by
    rcases Nat.mod_two_eq_zero_or_one i with hi | hi <;> rcases Nat.mod_two_eq_zero_or_one j with hj | hj <;> simp [hi, hj, Nat.add_mod]
  rw [this]
  cases n <;> simp
/-- Two powers of one digit. -/
theorem mul_pw (n : Bool) (d : Nat) (e : Int) (i j : Nat) (hd : d ≤ 9) (hij : i + j ≤ 12) (hi : (i : Int) * e ≤ 300) (hj : (j : Int) * e ≤ 300) :
    (((i + j : Nat) : Int) * e ≤ 300 → mulD2 (pwD n d e i) (pwD n d e j) = pwD n d e (i + j)) ∧ (300 < ((i + j : Nat) : Int) * e → d ≠ 0 → (mulD2 (pwD n d e i) (pwD n d e j)).ok = false) := by
  have gi := pwD_good n d e i hd (by omega) hi
  have gj := pwD_good n d e j hd (by omega) hj
  have es : ((i + j : Nat) : Int) * e = (i : Int) * e + (j : Int) * e := by rw [Int.natCast_add, Int.add_mul]
  rw [es]
  rw [mulD2_eq _ _ gi gj]
  by_cases i0 : i = 0
  · subst i0
    have ej : pwD n d e 0 = oneR := rfl
    rw [ej, Nat.zero_add]
    constructor
    · intro _
      have e1 : putR (oneR.neg != (pwD n d e j).neg) (oneR.d.toNat * (pwD n d e j).d.toNat) (oneR.e + (pwD n d e j).e) false = putR (pwD n d e j).neg (pwD n d e j).d.toNat (pwD n d e j).e false := by
        simp [oneR]
      rw [e1]
      unfold pwD
      split
      · exact put_good false 1 0 (by decide) (by decide) (by decide) (by decide)
      · split
        · rw [put_fit _ _ _ (by decide)]; unfold fitR; rfl
        · rename_i h0 h1
          have ⟨p1, p2⟩ := pow9d d hd j (by omega)
          simp only [Int.toNat_natCast]
          exact put_good _ _ _ (p1 (by omega)) p2 (by omega) hj
    · intro h; simp at h; omega
  · by_cases j0 : j = 0
    · subst j0
      have ej : pwD n d e 0 = oneR := rfl
      rw [ej, Nat.add_zero]
      constructor
      · intro _
        have e1 : putR ((pwD n d e i).neg != oneR.neg) ((pwD n d e i).d.toNat * oneR.d.toNat) ((pwD n d e i).e + oneR.e) false = putR (pwD n d e i).neg (pwD n d e i).d.toNat (pwD n d e i).e false := by
          simp [oneR]
        rw [e1]
        unfold pwD
        rw [if_neg i0]
        split
        · rw [put_fit _ _ _ (by decide)]; unfold fitR; rfl
        · rename_i h1
          have ⟨p1, p2⟩ := pow9d d hd i (by omega)
          simp only [Int.toNat_natCast]
          exact put_good _ _ _ (p1 (by omega)) p2 (by omega) hi
      · intro h; simp at h; omega
    · have ⟨p1, p2⟩ := pow9d d hd (i + j) (by omega)
      by_cases z : d = 0 ∨ (i : Int) * e < -300 ∨ (j : Int) * e < -300
      · have em : (pwD n d e i).d.toNat * (pwD n d e j).d.toNat = 0 := by
          rcases z with z | z | z
          · simp [pwD, i0, z, zeroR]
          · simp [pwD, i0, z, zeroR]
          · simp [pwD, j0, z, zeroR]
        have er : pwD n d e (i + j) = zeroR := by
          unfold pwD
          rw [if_neg (by omega), if_pos]
          rcases z with z | z | z
          · exact .inl z
          · right
            rw [es]
            have : e < 0 := by
              rcases Int.lt_or_le e 0 with h | h
              · exact h
              · have := Int.mul_nonneg (Int.natCast_nonneg i) h; omega
            have : (j : Int) * e ≤ 0 := Int.mul_nonpos_of_nonneg_of_nonpos (Int.natCast_nonneg j) (by omega)
            omega
          · right
            rw [es]
            have : e < 0 := by
              rcases Int.lt_or_le e 0 with h | h
              · exact h
              · have := Int.mul_nonneg (Int.natCast_nonneg j) h; omega
            have : (i : Int) * e ≤ 0 := Int.mul_nonpos_of_nonneg_of_nonpos (Int.natCast_nonneg i) (by omega)
            omega
        constructor
        · intro _
          rw [em, er, put_fit _ _ _ (by decide)]
          unfold fitR
          rfl
        · intro h hd0
          exfalso
          rcases z with z | z | z
          · exact hd0 z
          · omega
          · omega
      · have z0 : d ≠ 0 := fun h => z (.inl h)
        have z1 : ¬ (i : Int) * e < -300 := fun h => z (.inr (.inl h))
        have z2 : ¬ (j : Int) * e < -300 := fun h => z (.inr (.inr h))
        have ei : pwD n d e i = ⟨true, n && decide (i % 2 = 1), ((d ^ i : Nat) : Int), (i : Int) * e⟩ := by
          unfold pwD; rw [if_neg i0, if_neg (by omega)]
        have ej : pwD n d e j = ⟨true, n && decide (j % 2 = 1), ((d ^ j : Nat) : Int), (j : Int) * e⟩ := by
          unfold pwD; rw [if_neg j0, if_neg (by omega)]
        rw [ei, ej]
        simp only [Int.toNat_natCast]
        rw [odd_add, ← Nat.pow_add, put_fit _ _ _ p2]
        constructor
        · intro h
          by_cases u : (i : Int) * e + (j : Int) * e < -300
          · rw [fit_under _ _ _ (p1 z0) u]
            unfold pwD
            rw [if_neg (by omega), if_pos (.inr (by rw [es]; exact u))]
          · rw [fit_good _ _ _ (p1 z0) (by omega) h]
            unfold pwD
            rw [if_neg (by omega), if_neg (by rw [es]; omega), es]
        · intro h _
          exact fit_over _ _ _ (p1 z0) h

theorem pw_one {n : Bool} {d : Nat} {e : Int} (h : goodB n d e = true) : pwD n d e 1 = ⟨true, n, d, e⟩ := by
  unfold goodB at h
  unfold pwD
  rw [if_neg (by decide)]
  by_cases h0 : d = 0
  · subst h0
    simp at h
    simp [zeroR, h]
  · have hd : (d : Int) ≠ 0 := by omega
    simp only [hd, if_false, decide_eq_true_eq] at h
    rw [if_neg (by omega)]
    simp
theorem mul_le {i m : Nat} {e : Int} (h : i ≤ m) (hm : (m : Int) * e ≤ 300) : (i : Int) * e ≤ 300 := by
  rcases Int.lt_or_le e 0 with he | he
  · have : (i : Int) * e ≤ 0 := Int.mul_nonpos_of_nonneg_of_nonpos (Int.natCast_nonneg i) (by omega)
    omega
  · have : (i : Int) * e ≤ (m : Int) * e := Int.mul_le_mul_of_nonneg_right (by omega) he
    omega

/-- One bit of the power, of powers of a digit. -/
theorem powS_pw {n : Bool} {d : Nat} {e : Int} (g : goodB n d e = true) (hd : d ≤ 9) (i : Nat) (bit : Bool) (hi : 2 * i + 1 ≤ 13) (hi2 : 2 * i + bit.toNat ≤ 12) (he : (i : Int) * e ≤ 300) :
    (((2 * i + bit.toNat : Nat) : Int) * e ≤ 300 → powS ⟨true, n, d, e⟩ bit (pwD n d e i) = pwD n d e (2 * i + bit.toNat)) ∧
    (300 < ((2 * i + bit.toNat : Nat) : Int) * e → d ≠ 0 → (powS ⟨true, n, d, e⟩ bit (pwD n d e i)).ok = false) := by
  have e1 : (1 : Int) * e ≤ 300 := by
    unfold goodB at g
    split at g
    · simp at g; omega
    · simp only [decide_eq_true_eq] at g; omega
  have M := mul_pw n d e i i hd (by omega) he he
  rw [← Nat.two_mul] at M
  have e1' : ((1 : Nat) : Int) * e ≤ 300 := by simpa using e1
  unfold powS
  constructor
  · intro h
    have h2 : ((2 * i : Nat) : Int) * e ≤ 300 := mul_le (by omega) h
    rw [M.1 h2]
    cases bit with
    | false => simp
    | true =>
      simp only [pwD_ok, true_and, if_true, Bool.toNat_true]
      rw [← pw_one g]
      exact (mul_pw n d e (2 * i) 1 hd hi2 h2 e1').1 h
  · intro h h0
    by_cases h2 : ((2 * i : Nat) : Int) * e ≤ 300
    · rw [M.1 h2]
      cases bit with
      | false => simp at h h2; omega
      | true =>
        simp only [pwD_ok, true_and, if_true]
        rw [← pw_one g]
        exact (mul_pw n d e (2 * i) 1 hd hi2 h2 e1').2 h h0
    · have hf := M.2 (by omega) h0
      rw [if_neg (by rw [hf]; simp)]
      exact hf

theorem shift_bit (m k : Nat) : m / 2 ^ k = 2 * (m / 2 ^ (k + 1)) + (m.testBit k).toNat := by
  have h1 : m / 2 ^ (k + 1) = m / 2 ^ k / 2 := by rw [Nat.pow_succ, Nat.div_div_eq_div_mul]
  have h2 : (m.testBit k).toNat = m / 2 ^ k % 2 := by
    rw [Nat.testBit_eq_decide_div_mod_eq]
    rcases Nat.mod_two_eq_zero_or_one (m / 2 ^ k) with h | h <;> simp [h]
  rw [h1, h2]
  omega
theorem powL_pw {n : Bool} {d : Nat} {e : Int} (g : goodB n d e = true) (hd : d ≤ 9) (m : Nat) (hm : m ≤ 12) (k : Nat) (he : ((m / 2 ^ k : Nat) : Int) * e ≤ 300) :
    ((m : Int) * e ≤ 300 → powL ⟨true, n, d, e⟩ m k (pwD n d e (m / 2 ^ k)) = pwD n d e m) ∧ (300 < (m : Int) * e → d ≠ 0 → (powL ⟨true, n, d, e⟩ m k (pwD n d e (m / 2 ^ k))).ok = false) := by
  induction k with
  | zero =>
    simp only [Nat.pow_zero, Nat.div_one] at he ⊢
    exact ⟨fun _ => rfl, fun h => by omega⟩
  | succ k ih =>
    have sb := shift_bit m k
    have bl : (m.testBit k).toNat ≤ 1 := by cases m.testBit k <;> simp
    have ml : m / 2 ^ k ≤ m := Nat.div_le_self _ _
    have S := powS_pw g hd (m / 2 ^ (k + 1)) (m.testBit k) (by omega) (by omega) he
    rw [← sb] at S
    rw [powL_go _ _ _ (pwD_ok n d e _)]
    by_cases h : ((m / 2 ^ k : Nat) : Int) * e ≤ 300
    · rw [S.1 h]
      exact ih h
    · refine ⟨fun hm2 => absurd (mul_le ml hm2) h, fun _ h0 => ?_⟩
      have hf := S.2 (by omega) h0
      rw [powL_stop _ _ _ hf]
      exact hf
/-- A digit's power by DecPow. -/
theorem pow_digit {n : Bool} {d : Nat} {e x : Int} (g : goodB n d e = true) (hd : d ≤ 9) (x0 : 1 ≤ x) (x1 : x ≤ 12) :
    (x * e ≤ 300 → powR n d e x = pwD n d e x.toNat) ∧ (300 < x * e → d ≠ 0 → (powR n d e x).ok = false) := by
  obtain ⟨m, rfl⟩ : ∃ m : Nat, x = m := ⟨x.toNat, by omega⟩
  have hm : m ≤ 12 := by omega
  have e0 : powL ⟨true, n, d, e⟩ m 11 oneR = powL ⟨true, n, d, e⟩ m 4 (pwD n d e (m / 2 ^ 4)) := by
    have h0 : m / 2 ^ 4 = 0 := by omega
    rw [h0]
    exact powL_one _ m 4 (by omega) 7
  have P := powL_pw g hd m hm 4 (by have h0 : m / 2 ^ 4 = 0 := by omega
                                    rw [h0]; simp)
  have er : powR n d e m = powL ⟨true, n, d, e⟩ m 11 oneR := by
    unfold powR
    rw [g]
    simp only [Int.natAbs_natCast]
    have hd1 : decide (-1000 ≤ (m : Int) ∧ (m : Int) ≤ 1000) = true := by simp; omega
    rw [hd1]
    simp only [Bool.and_self, if_true]
    rw [if_neg (by omega)]
  rw [er, e0, Int.toNat_natCast]
  exact P
/-- So many steps of one. -/
def stepsR (a : DR) : Nat → DR
  | 0 => oneR
  | k + 1 => mulD2 (stepsR a k) a
theorem steps_digit {n : Bool} {d : Nat} {e : Int} (g : goodB n d e = true) (hd : d ≤ 9) (m : Nat) (hm : m ≤ 12) (he : (m : Int) * e ≤ 300) (k : Nat) (hk : k ≤ m) : stepsR ⟨true, n, d, e⟩ k = pwD n d e k := by
  have e1 : ((1 : Nat) : Int) * e ≤ 300 := by
    unfold goodB at g
    split at g
    · simp at g; omega
    · simp only [decide_eq_true_eq] at g; omega
  induction k with
  | zero => rfl
  | succ k ih =>
    rw [stepsR, ih (by omega)]
    have h := (mul_pw n d e k 1 hd (by omega) (mul_le (by omega) he) e1).1 (mul_le hk he)
    rw [pw_one g] at h
    exact h
/-- Where DecPow of a digit answers, the steps of one come to the same. -/
theorem steps_pow {n : Bool} {d e x : Int} (h : (powR n d e x).ok = true) (x0 : 1 ≤ x) (x1 : x ≤ 12) (hd : d ≤ 9) :
    (stepsR ⟨true, n, d, e⟩ x.toNat).neg = (powR n d e x).neg ∧ (stepsR ⟨true, n, d, e⟩ x.toNat).d = (powR n d e x).d ∧ (stepsR ⟨true, n, d, e⟩ x.toNat).e = (powR n d e x).e := by
  have g : goodB n d e = true := by
    cases hg : goodB n d e with
    | true => rfl
    | false =>
      unfold powR at h
      rw [hg] at h
      simp [badR] at h
  have d0 : 0 ≤ d := by
    unfold goodB at g
    split at g
    · omega
    · simp only [decide_eq_true_eq] at g; omega
  obtain ⟨D, rfl⟩ : ∃ D : Nat, d = D := ⟨d.toNat, by omega⟩
  have P := pow_digit g (by omega) x0 x1
  by_cases he : x * e ≤ 300
  · have S := steps_digit g (by omega) x.toNat (by omega) (by rw [Int.toNat_of_nonneg (by omega)]; exact he) x.toNat (Nat.le_refl _)
    rw [S, P.1 he]
    exact ⟨rfl, rfl, rfl⟩
  · by_cases h0 : D = 0
    · subst h0
      unfold goodB at g
      simp at g
      rw [g.2] at he
      simp at he
    · rw [P.2 (by omega) h0] at h
      cases h

end Go.Proofs.YtpeobfkenekmhaaDoor

