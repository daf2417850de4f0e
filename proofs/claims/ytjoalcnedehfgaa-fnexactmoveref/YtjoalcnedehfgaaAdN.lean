/-
  The plain maths of addresses: columns' names and their numbers.
-/
import Derived.Test.YtjoalcnedehfgaaBase
import Derived.Lib.Bytealg
namespace Go.Proofs.Ytjoalcnedehfgaa
open Go.RowKit

/-- A column's name. -/
def colN (n : Nat) : List UInt8 := if n ≤ 26 then [UInt8.ofNat (64 + n)] else [UInt8.ofNat (64 + (n - 1) / 26), UInt8.ofNat (65 + (n - 1) % 26)]
/-- The name that both sides tell: none of what is no column. -/
def colName (n : Int) : List UInt8 := if 1 ≤ n ∧ n ≤ 200 then colN n.toNat else []
def isLet (c : UInt8) : Bool := decide (65 ≤ c.toNat ∧ c.toNat ≤ 90)
/-- What letters count. -/
def lstep (a : Nat) (c : UInt8) : Nat := a * 26 + (c.toNat - 64)
def valF (acc : Nat) (l : List UInt8) : Nat := l.foldl lstep acc
theorem valF_nil (acc : Nat) : valF acc [] = acc := by unfold valF; exact List.foldl_nil
theorem valF_cons (acc : Nat) (c : UInt8) (r : List UInt8) : valF acc (c :: r) = valF (acc * 26 + (c.toNat - 64)) r := by unfold valF; rw [List.foldl_cons, lstep]
theorem valF_app (acc : Nat) (a b : List UInt8) : valF acc (a ++ b) = valF (valF acc a) b := by unfold valF; rw [List.foldl_append]
/-- The number that both sides tell. -/
def colV (l : List UInt8) : Int := if l.all isLet = true ∧ valF 0 l ≤ 200 then valF 0 l else 0

/-- The name of a number, nothing of nought: how the loops build it. -/
def nameOf (m : Nat) : List UInt8 := if m = 0 then [] else colN m
theorem nameOf_step : ∀ m : Nat, m < 201 → 1 ≤ m → nameOf m = nameOf ((m - 1) / 26) ++ [UInt8.ofNat (65 + (m - 1) % 26)] := by decide +kernel
theorem colN_val : ∀ n : Nat, n < 201 → 1 ≤ n → valF 0 (colN n) = n ∧ (colN n).all isLet = true ∧ (colN n).length ≤ 2 ∧ 1 ≤ (colN n).length := by decide +kernel
theorem valF_ge : ∀ (l : List UInt8) (acc : Nat), l.all isLet = true → acc ≤ valF acc l ∧ (1 ≤ l.length → acc * 26 + 1 ≤ valF acc l)
  | [], acc, _ => ⟨Nat.le_refl _, fun h => absurd h (by decide)⟩
  | c :: r, acc, h => by
    simp only [List.all_cons, Bool.and_eq_true, isLet, decide_eq_true_eq] at h
    have := (valF_ge r (acc * 26 + (c.toNat - 64)) h.2).1
    rw [valF_cons]
    omega
theorem valF_long {l : List UInt8} (h : l.all isLet = true) (hl : 3 ≤ l.length) : 200 < valF 0 l := by
  obtain ⟨a, b, c, r, rfl⟩ : ∃ a b c r, l = a :: b :: c :: r := by
    cases l with
    | nil => simp at hl
    | cons a l =>
      cases l with
      | nil => simp at hl
      | cons b l =>
        cases l with
        | nil => simp at hl
        | cons c r => exact ⟨a, b, c, r, rfl⟩
  simp only [List.all_cons, Bool.and_eq_true, isLet, decide_eq_true_eq] at h
  have := (valF_ge r ((((0 * 26 + (a.toNat - 64)) * 26) + (b.toNat - 64)) * 26 + (c.toNat - 64)) h.2.2.2).1
  rw [valF_cons, valF_cons, valF_cons]
  omega
theorem let_of {c : UInt8} (h : isLet c = true) : ∃ a : Nat, a < 26 ∧ c = UInt8.ofNat (65 + a) := by
  simp only [isLet, decide_eq_true_eq] at h
  refine ⟨c.toNat - 65, by omega, ?_⟩
  rw [show 65 + (c.toNat - 65) = c.toNat by omega]
  simp
theorem colN_one : ∀ a : Nat, a < 26 → colN (valF 0 [UInt8.ofNat (65 + a)]) = [UInt8.ofNat (65 + a)] := by decide +kernel
theorem colN_two : ∀ a : Nat, a < 26 → ∀ b : Nat, b < 26 → colN (valF 0 [UInt8.ofNat (65 + a), UInt8.ofNat (65 + b)]) = [UInt8.ofNat (65 + a), UInt8.ofNat (65 + b)] := by decide +kernel
theorem colN_of {l : List UInt8} (h : l.all isLet = true) (h1 : 1 ≤ l.length) (h2 : l.length ≤ 2) : colN (valF 0 l) = l := by
  match l, h, h1, h2 with
  | [a], h, _, _ =>
    obtain ⟨x, hx, rfl⟩ := let_of (c := a) (by simpa using h)
    exact colN_one x hx
  | [a, b], h, _, _ =>
    simp only [List.all_cons, Bool.and_eq_true] at h
    obtain ⟨x, hx, rfl⟩ := let_of h.1
    obtain ⟨y, hy, rfl⟩ := let_of h.2.1
    exact colN_two x hx y hy
theorem colName_of {l : List UInt8} (h : l.all isLet = true) (hv : valF 0 l ≤ 200) : colName (valF 0 l) = l := by
  have h2 : l.length ≤ 2 := by
    rcases Nat.lt_or_ge l.length 3 with k | k
    · omega
    · have := valF_long h k
      omega
  cases l with
  | nil => rfl
  | cons a r =>
    have h1 := (valF_ge (a :: r) 0 h).2 (by simp)
    rw [colName, if_pos (by omega), Int.toNat_natCast]
    exact colN_of h (by simp) h2
theorem colV_colN {n : Int} (h1 : 1 ≤ n) (h2 : n ≤ 200) : colV (colN n.toNat) = n := by
  obtain ⟨a, b, _, _⟩ := colN_val n.toNat (by omega) (by omega)
  rw [colV, if_pos ⟨b, by omega⟩, a]
  omega
/-- What the specification's way of reading gives. -/
theorem colV_spec {l t : List UInt8} (ht : t = l.take 4) : (if colName (valF 0 t) = l then (valF 0 t : Int) else 0) = colV l := by
  by_cases hg : l.all isLet = true ∧ valF 0 l ≤ 200
  · have h2 : l.length ≤ 2 := by
      rcases Nat.lt_or_ge l.length 3 with k | k
      · omega
      · have := valF_long hg.1 k
        omega
    have e : t = l := by rw [ht, List.take_of_length_le (by omega)]
    rw [e, colName_of hg.1 hg.2, if_pos rfl, colV, if_pos hg]
  · rw [colV, if_neg hg, if_neg]
    intro hc
    apply hg
    unfold colName at hc
    split at hc
    · rename_i hr
      obtain ⟨a, b, _, _⟩ := colN_val (valF 0 t : Int).toNat (by omega) (by omega)
      rw [hc] at a b
      exact ⟨b, by omega⟩
    · subst hc
      exact ⟨rfl, by rw [valF_nil]; omega⟩
theorem colV_bad {l t : List UInt8} (ht : t = l.take 4) (h : ¬ t.all isLet = true) : colV l = 0 := by
  rw [colV, if_neg]
  intro hg
  apply h
  rw [ht]
  rw [List.all_eq_true] at hg ⊢
  exact fun x hx => hg.1 x (List.mem_of_mem_take hx)
/-- A prefix that counts too much, or has no letter at its end, ends it. -/
theorem colV_cut {p r : List UInt8} {c : UInt8} (h : isLet c = false ∨ (p.all isLet = true ∧ isLet c = true ∧ 200 < valF 0 (p ++ [c]))) : colV (p ++ c :: r) = 0 := by
  rw [colV, if_neg]
  rintro ⟨h1, h2⟩
  rcases h with h | ⟨hp, hc, hv⟩
  · simp [h] at h1
  · have e : p ++ c :: r = (p ++ [c]) ++ r := by simp
    rw [e, valF_app] at h2
    have := (valF_ge r (valF 0 (p ++ [c])) (by rw [List.all_eq_true] at h1 ⊢; intro x hx; exact h1 x (by simp [hx]))).1
    omega
theorem valF_snoc (p : List UInt8) (c : UInt8) : valF 0 (p ++ [c]) = valF 0 p * 26 + (c.toNat - 64) := by
  rw [valF_app, valF_cons, valF_nil]
/-- The letters in a row. -/
def letters : List UInt8 := [65, 66, 67, 68, 69, 70, 71, 72, 73, 74, 75, 76, 77, 78, 79, 80, 81, 82, 83, 84, 85, 86, 87, 88, 89, 90]
theorem index_let : ∀ n : Nat, n < 256 → Lib.indexByte letters (UInt8.ofNat n) = if 65 ≤ n ∧ n ≤ 90 then (n : Int) - 65 else -1 := by decide +kernel
theorem index_letter (c : UInt8) : Lib.indexByte letters c = if isLet c then (c.toNat : Int) - 65 else -1 := by
  have h := index_let c.toNat (UInt8.toNat_lt c)
  rw [UInt8.ofNat_toNat] at h
  rw [h, isLet]
  simp
theorem contains_letter (c : UInt8) : letters.contains c = isLet c := by
  have h : ∀ n : Nat, n < 256 → letters.contains (UInt8.ofNat n) = isLet (UInt8.ofNat n) := by decide +kernel
  have := h c.toNat (UInt8.toNat_lt c)
  rwa [UInt8.ofNat_toNat] at this

end Go.Proofs.Ytjoalcnedehfgaa
