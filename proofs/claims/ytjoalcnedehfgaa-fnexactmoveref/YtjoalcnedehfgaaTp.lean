/-
  What a turn leaves of a run of rows or columns: plain.
-/
import Derived.Test.YtjoalcnedehfgaaTn
namespace Go.Proofs.Ytjoalcnedehfgaa
open Go.RowKit

/-- Where a row or column stands then; 0 where it is gone. -/
def tN (l a m : Int) (d : Bool) (n : Int) : Int :=
  if n < a then n else if d then (if n < a + m then 0 else n - m) else (if l < n + m then 0 else n + m)
def bF (a m : Int) (d : Bool) : Int := if d then a + m else a
def bT (l m : Int) (d : Bool) : Int := if d then l else l - m
def fa (m : Int) (d : Bool) : Int := if d then -m else m
def gF (a m : Int) (d : Bool) (A : Int) : Int := hi A (bF a m d) + fa m d
def gT (l m : Int) (d : Bool) (B : Int) : Int := lo B (bT l m d) + fa m d
/-- The first one that is left of a run, and the last one. -/
def lfF (l a m : Int) (d : Bool) (A B : Int) : Int :=
  if lo B (a - 1) < hi A 1 then gF a m d A else if gT l m d B < gF a m d A then hi A 1 else lo (hi A 1) (gF a m d A)
def lfT (l a m : Int) (d : Bool) (A B : Int) : Int :=
  if lo B (a - 1) < hi A 1 then gT l m d B else if gT l m d B < gF a m d A then lo B (a - 1) else hi (lo B (a - 1)) (gT l m d B)

theorem lo_is (a b : Int) : (b < a ∧ lo a b = b) ∨ (a ≤ b ∧ lo a b = a) := by
  unfold lo
  split
  · exact .inl ⟨by assumption, rfl⟩
  · exact .inr ⟨by omega, rfl⟩
theorem hi_is (a b : Int) : (b < a ∧ hi a b = a) ∨ (a ≤ b ∧ hi a b = b) := by
  unfold hi
  split
  · exact .inl ⟨by assumption, rfl⟩
  · exact .inr ⟨by omega, rfl⟩
theorem gF_is (a m : Int) (d : Bool) (A : Int) : (d = true ∧ ((a + m < A ∧ gF a m d A = A - m) ∨ (A ≤ a + m ∧ gF a m d A = a))) ∨ (d = false ∧ ((a < A ∧ gF a m d A = A + m) ∨ (A ≤ a ∧ gF a m d A = a + m))) := by
  unfold gF bF fa
  cases d
  · have := hi_is A a
    refine .inr ⟨rfl, ?_⟩
    simp only [Bool.false_eq_true, if_false]
    omega
  · have := hi_is A (a + m)
    refine .inl ⟨rfl, ?_⟩
    simp only [if_true]
    omega
theorem gT_is (l m : Int) (d : Bool) (B : Int) : (d = true ∧ ((l < B ∧ gT l m d B = l - m) ∨ (B ≤ l ∧ gT l m d B = B - m))) ∨ (d = false ∧ ((l - m < B ∧ gT l m d B = l) ∨ (B ≤ l - m ∧ gT l m d B = B + m))) := by
  unfold gT bT fa
  cases d
  · have := lo_is B (l - m)
    refine .inr ⟨rfl, ?_⟩
    simp only [Bool.false_eq_true, if_false]
    omega
  · have := lo_is B l
    refine .inl ⟨rfl, ?_⟩
    simp only [if_true]
    omega
theorem lf_is (l a m : Int) (d : Bool) (A B : Int) (hA : 1 ≤ A) : ∃ sT, ((a - 1 < B ∧ sT = a - 1) ∨ (B ≤ a - 1 ∧ sT = B)) ∧
    ((sT < A ∧ lfF l a m d A B = gF a m d A ∧ lfT l a m d A B = gT l m d B) ∨ (A ≤ sT ∧ gT l m d B < gF a m d A ∧ lfF l a m d A B = A ∧ lfT l a m d A B = sT) ∨
      (A ≤ sT ∧ gF a m d A ≤ gT l m d B ∧ lfF l a m d A B = lo A (gF a m d A) ∧ lfT l a m d A B = hi sT (gT l m d B))) := by
  have h1 : hi A 1 = A := by have := hi_is A 1; omega
  refine ⟨lo B (a - 1), by have := lo_is B (a - 1); omega, ?_⟩
  unfold lfF lfT
  rw [h1]
  by_cases c1 : lo B (a - 1) < A
  · rw [if_pos c1, if_pos c1]; exact .inl ⟨c1, rfl, rfl⟩
  · rw [if_neg c1, if_neg c1]
    by_cases c2 : gT l m d B < gF a m d A
    · rw [if_pos c2, if_pos c2]; exact .inr (.inl ⟨by omega, c2, rfl, rfl⟩)
    · rw [if_neg c2, if_neg c2]; exact .inr (.inr ⟨by omega, by omega, rfl, rfl⟩)
theorem tN_is (l a m : Int) (d : Bool) (n : Int) : (n < a ∧ tN l a m d n = n) ∨ (a ≤ n ∧ d = true ∧ n < a + m ∧ tN l a m d n = 0) ∨ (a ≤ n ∧ d = true ∧ a + m ≤ n ∧ tN l a m d n = n - m) ∨
    (a ≤ n ∧ d = false ∧ l < n + m ∧ tN l a m d n = 0) ∨ (a ≤ n ∧ d = false ∧ n + m ≤ l ∧ tN l a m d n = n + m) := by
  unfold tN
  by_cases h : n < a
  · rw [if_pos h]; exact .inl ⟨h, rfl⟩
  · rw [if_neg h]
    cases d
    · by_cases h2 : l < n + m
      · exact .inr (.inr (.inr (.inl ⟨by omega, rfl, h2, by simp [h2]⟩)))
      · exact .inr (.inr (.inr (.inr ⟨by omega, rfl, by omega, by simp [h2]⟩)))
    · by_cases h2 : n < a + m
      · exact .inr (.inl ⟨by omega, rfl, h2, by simp [h2]⟩)
      · exact .inr (.inr (.inl ⟨by omega, rfl, by omega, by simp [h2]⟩))

/-- What the loop has behind row or column B. -/
def stF (l a m : Int) (d : Bool) (A B : Int) : Int := if lfT l a m d A B < lfF l a m d A B then 0 else lfF l a m d A B
def stT (l a m : Int) (d : Bool) (A B : Int) : Int := if lfT l a m d A B < lfF l a m d A B then 0 else lfT l a m d A B
theorem st_is (l a m : Int) (d : Bool) (A B : Int) : (lfT l a m d A B < lfF l a m d A B ∧ stF l a m d A B = 0 ∧ stT l a m d A B = 0) ∨ (lfF l a m d A B ≤ lfT l a m d A B ∧ stF l a m d A B = lfF l a m d A B ∧ stT l a m d A B = lfT l a m d A B) := by
  unfold stF stT
  split
  · exact .inl ⟨by assumption, rfl, rfl⟩
  · exact .inr ⟨by omega, rfl, rfl⟩
section
variable {l a m : Int} {d : Bool} (hm : 1 ≤ m) (ha : 1 ≤ a) (hl : a ≤ l) (hd : d = true → a + m - 1 ≤ l)
include hm ha hl hd
theorem st_start {A : Int} (hA : 1 ≤ A) (hAl : A ≤ l) : stF l a m d A (A - 1) = 0 ∧ stT l a m d A (A - 1) = 0 := by
  have h1 := st_is l a m d A (A - 1)
  obtain ⟨sT, h2, h3⟩ := lf_is l a m d A (A - 1) hA
  have h4 := gF_is a m d A
  have h5 := gT_is l m d (A - 1)
  have h6 := lo_is A (gF a m d A)
  have h7 := hi_is sT (gT l m d (A - 1))
  cases d <;> simp at h4 h5 hd <;> omega
set_option maxHeartbeats 4000000 in
theorem st_step {A n : Int} (hA : 1 ≤ A) (hn : A ≤ n) (hnl : n ≤ l) :
    (0 < tN l a m d n → stF l a m d A n = (if stF l a m d A (n - 1) = 0 then tN l a m d n else stF l a m d A (n - 1)) ∧ stT l a m d A n = tN l a m d n) ∧
    (tN l a m d n ≤ 0 → stF l a m d A n = stF l a m d A (n - 1) ∧ stT l a m d A n = stT l a m d A (n - 1)) := by
  have h1 := st_is l a m d A (n - 1)
  have h1' := st_is l a m d A n
  obtain ⟨sT, h2, h3⟩ := lf_is l a m d A (n - 1) hA
  obtain ⟨sT', h2', h3'⟩ := lf_is l a m d A n hA
  have h4 := gF_is a m d A
  have h5 := gT_is l m d (n - 1)
  have h5' := gT_is l m d n
  have h6 := lo_is A (gF a m d A)
  have h7 := hi_is sT (gT l m d (n - 1))
  have h7' := hi_is sT' (gT l m d n)
  have h8 := tN_is l a m d n
  obtain ⟨f0, e0⟩ : ∃ x, stF l a m d A (n - 1) = x := ⟨_, rfl⟩
  rw [e0] at h1 ⊢
  have key : 0 < tN l a m d n → (f0 = 0 → stF l a m d A n = tN l a m d n) ∧ (f0 ≠ 0 → stF l a m d A n = f0) ∧ stT l a m d A n = tN l a m d n := by
    intro hp
    cases d <;> simp at h4 h5 h5' h8 hd <;> rcases h3 with h3 | h3 | h3 <;> rcases h3' with h3' | h3' | h3' <;> rcases h1 with h1 | h1 <;> omega
  refine ⟨fun hp => ?_, fun hp => ?_⟩
  · obtain ⟨k1, k2, k3⟩ := key hp
    refine ⟨?_, k3⟩
    split
    · exact k1 (by assumption)
    · exact k2 (by assumption)
  · cases d <;> simp at h4 h5 h5' h8 hd <;> rcases h3 with h3 | h3 | h3 <;> rcases h3' with h3' | h3' | h3' <;> rcases h1 with h1 | h1 <;> omega
theorem st_good {A B : Int} (hA : 1 ≤ A) (hB : A ≤ B) (hBl : B ≤ l) : (lfT l a m d A B < lfF l a m d A B ∧ stF l a m d A B = 0) ∨ (1 ≤ lfF l a m d A B ∧ lfF l a m d A B ≤ lfT l a m d A B ∧ lfT l a m d A B ≤ l ∧ stF l a m d A B = lfF l a m d A B ∧ stT l a m d A B = lfT l a m d A B) := by
  have h1 := st_is l a m d A B
  obtain ⟨sT, h2, h3⟩ := lf_is l a m d A B hA
  have h4 := gF_is a m d A
  have h5 := gT_is l m d B
  have h6 := lo_is A (gF a m d A)
  have h7 := hi_is sT (gT l m d B)
  cases d <;> simp at h4 h5 hd <;> omega
end

end Go.Proofs.Ytjoalcnedehfgaa
