/-
  Chapter 14: rows told with a mark between the fields, plain.
-/
import Derived.Test.YtkjbeciiecljgaaDoorSs1
namespace Go.Proofs.YtkjbeciiecljgaaDoor
open Go.RowKit

/-- A field has a byte that must stand in quotes. -/
def needB (m : UInt8) (f : List UInt8) : Bool := f.any fun b => b == m || b == 34 || b == 10 || b == 13
def oddB (m : UInt8) (alone : Bool) (f : List UInt8) : Bool := (f.isEmpty && alone) || needB m f
def quoF (f : List UInt8) : List UInt8 := f.flatMap fun b => if b = 34 then [34, 34] else [b]
def quoT (f : List UInt8) : List UInt8 := 34 :: (quoF f ++ [34])
def fldT (m : UInt8) (alone : Bool) (f : List UInt8) : List UInt8 := if oddB m alone f = true then quoT f else f
def partT (m : UInt8) (l : List (List UInt8)) : Nat → List UInt8
  | 0 => []
  | j + 1 => partT m l j ++ ((if j = 0 then [] else [m]) ++ fldT m (l.length == 1) (l.getD j []))
def rowT (m : UInt8) (l : List (List UInt8)) : List UInt8 := partT m l l.length ++ [10]
def allT (m : UInt8) (L : List (List (List UInt8))) : Nat → List UInt8
  | 0 => []
  | i + 1 => allT m L i ++ rowT m (L.getD i [])
/-- What SeparatedText tells. -/
def sepR (m : UInt8) (L : List (List (List UInt8))) : List UInt8 := if L.any List.isEmpty = true ∨ 20000 < (allT m L L.length).length then [] else allT m L L.length

theorem partT_mono (m : UInt8) (l : List (List UInt8)) (j k : Nat) (h : j ≤ k) : (partT m l j).length ≤ (partT m l k).length := by
  induction k with
  | zero =>
    obtain rfl : j = 0 := by omega
    exact Nat.le_refl _
  | succ k ih =>
    by_cases e : j = k + 1
    · subst e; exact Nat.le_refl _
    · have := ih (by omega)
      simp only [partT, List.length_append] at this ⊢
      omega
theorem allT_mono (m : UInt8) (L : List (List (List UInt8))) (j k : Nat) (h : j ≤ k) : (allT m L j).length ≤ (allT m L k).length := by
  induction k with
  | zero =>
    obtain rfl : j = 0 := by omega
    exact Nat.le_refl _
  | succ k ih =>
    by_cases e : j = k + 1
    · subst e; exact Nat.le_refl _
    · have := ih (by omega)
      simp only [allT, List.length_append] at this ⊢
      omega
theorem part_all (m : UInt8) (L : List (List (List UInt8))) (i j : Nat) (hi : i < L.length) (hj : j ≤ (L.getD i []).length) : (allT m L i).length + (partT m (L.getD i []) j).length + 1 ≤ (allT m L L.length).length := by
  have h1 := allT_mono m L (i + 1) L.length (by omega)
  have h2 := partT_mono m (L.getD i []) j _ hj
  simp only [allT, rowT, List.length_append, List.length_singleton] at h1
  omega
theorem sepR_long {m : UInt8} {L : List (List (List UInt8))} (i j : Nat) (hi : i < L.length) (hj : j ≤ (L.getD i []).length) (h : 20000 < (allT m L i).length + (partT m (L.getD i []) j).length + 1) : sepR m L = [] := by
  have := part_all m L i j hi hj
  unfold sepR
  rw [if_pos (.inr (by omega))]
theorem sepR_empty {m : UInt8} {L : List (List (List UInt8))} {i : Nat} (h : L[i]? = some []) : sepR m L = [] := by
  unfold sepR
  rw [if_pos (.inl (List.any_eq_true.2 ⟨[], List.mem_of_getElem? h, rfl⟩))]
theorem sepR_end {m : UInt8} {L : List (List (List UInt8))} (h : ∀ (i : Nat) (l : List (List UInt8)), L[i]? = some l → l ≠ []) : sepR m L = if 20000 < (allT m L L.length).length then [] else allT m L L.length := by
  unfold sepR
  have : L.any List.isEmpty = false := by
    rw [List.any_eq_false]
    intro l hl
    obtain ⟨i, hi⟩ := List.mem_iff_getElem?.1 hl
    have := h i l hi
    cases l with
    | nil => exact absurd rfl this
    | cons a l => simp
  rw [this]
  simp
theorem quoF_length (f : List UInt8) : (quoF f).length ≤ 2 * f.length := by
  induction f with
  | nil => simp [quoF]
  | cons b f ih =>
    unfold quoF at ih ⊢
    rw [List.flatMap_cons, List.length_append, List.length_cons]
    split
    · rw [List.length_cons, List.length_singleton]; omega
    · rw [List.length_singleton]; omega
theorem fldT_length (m : UInt8) (a : Bool) (f : List UInt8) : (fldT m a f).length ≤ 2 * f.length + 2 := by
  unfold fldT
  split
  · have := quoF_length f
    unfold quoT
    simp
    omega
  · omega
theorem quoF_take {f : List UInt8} {k : Nat} {b : UInt8} (h : f[k]? = some b) : quoF (f.take (k + 1)) = quoF (f.take k) ++ (if b = 34 then [34, 34] else [b]) := by
  rw [List.take_add_one, h]
  unfold quoF
  rw [List.flatMap_append]
  simp
theorem needB_take {m : UInt8} {f : List UInt8} {k : Nat} {b : UInt8} (h : f[k]? = some b) : needB m (f.take (k + 1)) = (needB m (f.take k) || (b == m || b == 34 || b == 10 || b == 13)) := by
  rw [List.take_add_one, h]
  unfold needB
  rw [List.any_append]
  simp
/-- One of the three marks. -/
def isMk (l : List UInt8) : Bool := l == [44] || l == [59] || l == [9]
theorem isMk_one {l : List UInt8} (h : isMk l = true) : ∃ m : UInt8, l = [m] ∧ (m = 44 ∨ m = 59 ∨ m = 9) := by
  unfold isMk at h
  simp only [Bool.or_eq_true, beq_iff_eq] at h
  rcases h with (h | h) | h
  · exact ⟨44, h, .inl rfl⟩
  · exact ⟨59, h, .inr (.inl rfl)⟩
  · exact ⟨9, h, .inr (.inr rfl)⟩

end Go.Proofs.YtkjbeciiecljgaaDoor
