/-
  The plain maths of reading a date's text.
-/
import Derived.Test.YtmcmohooodpfeaaGreatDoorDgI
namespace Go.Proofs.YtmcmohooodpfeaaGreatDoor
open Go.RowKit

/-- A digit's letter. -/
def dig (a : Nat) : UInt8 := UInt8.ofNat (48 + a)
theorem dig_toNat {a : Nat} (h : a < 10) : (dig a).toNat = 48 + a := by
  unfold dig
  rw [UInt8.toNat_ofNat']
  omega
theorem dec1 {u : Nat} (h : u < 10) : Lib.decDigits u = [dig u] := by rw [Lib.decDigits, dif_pos h]; rfl
theorem dec_step {u : Nat} (h : ¬ u < 10) : Lib.decDigits u = Lib.decDigits (u / 10) ++ [dig (u % 10)] := by rw [Lib.decDigits, dif_neg h]; rfl
theorem pad2 {u : Nat} (h : u ≤ 99) : padT (u : Int) 2 = [dig (u / 10), dig (u % 10)] := by
  unfold padT
  rw [Int.toNat_natCast]
  by_cases h1 : u < 10
  · rw [dec1 h1]
    have e : u / 10 = 0 := by omega
    have e2 : u % 10 = u := by omega
    rw [e, e2]
    rfl
  · rw [dec_step h1, dec1 (by omega)]
    rfl
theorem pad4 {u : Nat} (h : u ≤ 9999) : padT (u : Int) 4 = [dig (u / 1000), dig (u / 100 % 10), dig (u / 10 % 10), dig (u % 10)] := by
  unfold padT
  rw [Int.toNat_natCast]
  by_cases h1 : u < 10
  · rw [dec1 h1, show u / 1000 = 0 by omega, show u / 100 % 10 = 0 by omega, show u / 10 % 10 = 0 by omega, show u % 10 = u by omega]
    rfl
  · by_cases h2 : u < 100
    · rw [dec_step h1, dec1 (by omega), show u / 1000 = 0 by omega, show u / 100 % 10 = 0 by omega, show u / 10 % 10 = u / 10 by omega]
      rfl
    · by_cases h3 : u < 1000
      · rw [dec_step h1, dec_step (by omega), dec1 (by omega), show u / 1000 = 0 by omega, show u / 100 % 10 = u / 10 / 10 by omega]
        rfl
      · rw [dec_step h1, dec_step (by omega), dec_step (by omega), dec1 (by omega), show u / 1000 = u / 10 / 10 / 10 by omega, show u / 100 % 10 = u / 10 / 10 % 10 by omega]
        rfl

/-- The letters of a date. -/
def dateL (neg : Bool) (u m d : Nat) : List UInt8 :=
  (if neg then [45] else []) ++ [dig (u / 1000), dig (u / 100 % 10), dig (u / 10 % 10), dig (u % 10), 45, dig (m / 10), dig (m % 10), 45, dig (d / 10), dig (d % 10)]
theorem dateB_list {y m d : Int} (h : DText y m d) : (dateB y m d).data.toList = dateL (decide (y < 0)) y.natAbs m.toNat d.toNat := by
  obtain ⟨hy, hm, hd⟩ := h
  have em : padT m 2 = [dig (m.toNat / 10), dig (m.toNat % 10)] := by rw [← pad2 (u := m.toNat) (by omega), Int.toNat_of_nonneg (by omega)]
  have ed : padT d 2 = [dig (d.toNat / 10), dig (d.toNat % 10)] := by rw [← pad2 (u := d.toNat) (by omega), Int.toNat_of_nonneg (by omega)]
  unfold dateB dateL
  by_cases hn : y < 0
  · rw [if_pos hn]
    have e : -y = ((y.natAbs : Nat) : Int) := by omega
    have e4 : padT (-y) 4 = [dig (y.natAbs / 1000), dig (y.natAbs / 100 % 10), dig (y.natAbs / 10 % 10), dig (y.natAbs % 10)] := by rw [e]; exact pad4 (by omega)
    simp [padB_list, em, ed, e4, hn]
  · rw [if_neg hn]
    have e : y = ((y.natAbs : Nat) : Int) := by omega
    have e4 : padT y 4 = [dig (y.natAbs / 1000), dig (y.natAbs / 100 % 10), dig (y.natAbs / 10 % 10), dig (y.natAbs % 10)] := by
      have := pad4 (u := y.natAbs) (by omega)
      rw [← e] at this
      exact this
    simp [padB_list, em, ed, e4, hn]

/-- What the specification reads as a number. -/
def isDig (c : UInt8) : Bool := decide (48 ≤ c.toNat ∧ c.toNat ≤ 57)
def numF (acc : Int) : List UInt8 → Int
  | [] => acc
  | c :: r => if isDig c then numF (acc * 10 + ((c.toNat : Int) - 48)) r else -1
def numL (l : List UInt8) : Int := if 1 ≤ l.length ∧ l.length ≤ 6 then numF 0 l else -1
theorem isDig_dig {a : Nat} (h : a < 10) : isDig (dig a) = true := by simp [isDig, dig_toNat h]; omega
theorem numF_dig {a : Nat} (h : a < 10) (acc : Int) (r : List UInt8) : numF acc (dig a :: r) = numF (acc * 10 + a) r := by
  rw [numF, isDig_dig h, if_pos rfl, dig_toNat h]
  congr 1
  omega
theorem num4 {u : Nat} (h : u ≤ 9999) : numL [dig (u / 1000), dig (u / 100 % 10), dig (u / 10 % 10), dig (u % 10)] = u := by
  rw [numL, if_pos (by simp), numF_dig (by omega), numF_dig (by omega), numF_dig (by omega), numF_dig (by omega), numF]
  omega
theorem num2 {u : Nat} (h : u ≤ 99) : numL [dig (u / 10), dig (u % 10)] = u := by
  rw [numL, if_pos (by simp), numF_dig (by omega), numF_dig (by omega), numF]
  omega
theorem numF_fits : ∀ (l : List UInt8) (acc : Int) (k : Nat), 0 ≤ acc → acc < 10 ^ k → l.length + k ≤ 6 → -1 ≤ numF acc l ∧ numF acc l < 1000000
  | [], acc, k, h0, h1, hk => by
    have : (10 : Int) ^ k ≤ 10 ^ 6 := by
      have := Nat.pow_le_pow_right (n := 10) (by decide) (show k ≤ 6 by simpa using hk)
      exact_mod_cast this
    simp only [numF]
    omega
  | c :: r, acc, k, h0, h1, hk => by
    rw [numF]
    by_cases hc : isDig c = true
    · rw [if_pos hc]
      simp only [isDig, decide_eq_true_eq] at hc
      refine numF_fits r _ (k + 1) (by omega) ?_ (by simp only [List.length_cons] at hk; omega)
      rw [Int.pow_succ]
      omega
    · rw [if_neg hc]
      omega
theorem numL_fits (l : List UInt8) : -1 ≤ numL l ∧ numL l < 1000000 := by
  unfold numL
  split
  · exact numF_fits l 0 0 (by omega) (by simp) (by omega)
  · omega
/-- Which date, if any, has the text. -/
def HasText (t : ByteArray) (y m d : Int) : Prop := DText y m d ∧ dateB y m d = t

end Go.Proofs.YtmcmohooodpfeaaGreatDoor
