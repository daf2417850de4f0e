/-
  Runes of any bytes: what is passed by.
-/
import Derived.Test.YtkjbeciiecljgaaDoorBase
import Derived.Laws.RangeAny
import Derived.Lib.OthersKept
namespace Go.Proofs.YtkjbeciiecljgaaDoor
open Go.RowKit

theorem get_in (s : ByteArray) (i : Nat) (h : i < s.size) : s.get! i = s[i]'h := by
  simp [ByteArray.get!, getElem!_pos, h]
  rfl
/-- What is passed by with a rune of a byte from 128 on is such bytes alone. -/
theorem decode_pass (s : ByteArray) (i : Nat) (h : i < s.size) (ha : 128 ≤ (s[i]'h).toNat) :
    i + (Utf8.decode s i).2 ≤ s.size ∧ ∀ j (hj : j < s.size), i ≤ j → j < i + (Utf8.decode s i).2 → 128 ≤ (s[j]'hj).toNat := by
  have hb0 : s.get! (i + 0) = s[i]'h := get_in s i h
  have one : i + 1 ≤ s.size ∧ ∀ j (hj : j < s.size), i ≤ j → j < i + 1 → 128 ≤ (s[j]'hj).toNat := ⟨by omega, fun j hj h1 h2 => (by omega : j = i) ▸ ha⟩
  have cont : ∀ k, (decide (i + k < s.size) && (s.get! (i + k)).toNat / 64 == 2) = true → ∃ hk : i + k < s.size, 128 ≤ (s[i + k]'hk).toNat := fun k hk => by
    rw [Bool.and_eq_true, decide_eq_true_eq, beq_iff_eq] at hk
    refine ⟨hk.1, ?_⟩
    rw [← get_in s (i + k) hk.1]
    omega
  unfold Utf8.decode
  simp only
  rw [if_neg (by rw [hb0]; omega)]
  split
  · next h1 =>
    rw [Bool.and_eq_true] at h1
    obtain ⟨k1, b1⟩ := cont 1 h1.2
    split
    · refine ⟨by simp; omega, fun j hj h2 h3 => ?_⟩
      simp at h3
      by_cases e : j = i
      · subst e; exact ha
      · obtain rfl : j = i + 1 := by omega
        exact b1
    · exact one
  · split
    · next h1 =>
      rw [Bool.and_eq_true, Bool.and_eq_true] at h1
      obtain ⟨k1, b1⟩ := cont 1 h1.1.2
      obtain ⟨k2, b2⟩ := cont 2 h1.2
      split
      · refine ⟨by simp; omega, fun j hj h2 h3 => ?_⟩
        simp at h3
        by_cases e : j = i
        · subst e; exact ha
        · by_cases e : j = i + 1
          · subst e; exact b1
          · obtain rfl : j = i + 2 := by omega
            exact b2
      · exact one
    · split
      · next h1 =>
        rw [Bool.and_eq_true, Bool.and_eq_true, Bool.and_eq_true] at h1
        obtain ⟨k1, b1⟩ := cont 1 h1.1.1.2
        obtain ⟨k2, b2⟩ := cont 2 h1.1.2
        obtain ⟨k3, b3⟩ := cont 3 h1.2
        split
        · refine ⟨by simp; omega, fun j hj h2 h3 => ?_⟩
          simp at h3
          by_cases e : j = i
          · subst e; exact ha
          · by_cases e : j = i + 1
            · subst e; exact b1
            · by_cases e : j = i + 2
              · subst e; exact b2
              · obtain rfl : j = i + 3 := by omega
                exact b3
        · exact one
      · exact one
theorem iter_ext (w : World) (s : ByteArray) (i : Nat) : Ext w (w.iter s i) := x1 w _
theorem iterAt_ext {w wr : World} {k : Nat} (s : ByteArray) (p : Nat) (h : Ext w wr) (hk : w.heap.size ≤ k) : Ext w (wr.iterAt k s p) :=
  ⟨h.os, h.tape, h.output, by have := h.size; simp [World.iterAt]; omega, fun j hj => by
    have := h.block j hj
    unfold World.iterAt
    simp only
    rw [Array.getElem?_setIfInBounds_ne (by omega)]
    exact this⟩

end Go.Proofs.YtkjbeciiecljgaaDoor
