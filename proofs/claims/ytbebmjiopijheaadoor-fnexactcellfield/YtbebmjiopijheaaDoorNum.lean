/-
  The plain mathematics of numbers in limbs of nine digits: no program here.
-/
namespace Go.Proofs.YtbebmjiopijheaaDoor

/-- What limbs say, the lowest first. -/
def lv : List Int → Int
  | [] => 0
  | x :: xs => x + 1000000000 * lv xs

/-- Each limb has at most nine digits. -/
def Lim (xs : List Int) : Prop := ∀ x ∈ xs, 0 ≤ x ∧ x < 1000000000

theorem Lim.nil : Lim [] := fun _ h => by cases h
theorem Lim.cons {x : Int} {xs : List Int} (h0 : 0 ≤ x) (h1 : x < 1000000000) (h : Lim xs) : Lim (x :: xs) := fun y hy => by
  rcases List.mem_cons.1 hy with rfl | hy
  · exact ⟨h0, h1⟩
  · exact h y hy
theorem Lim.head {x : Int} {xs : List Int} (h : Lim (x :: xs)) : 0 ≤ x ∧ x < 1000000000 := h x (by simp)
theorem Lim.tail {x : Int} {xs : List Int} (h : Lim (x :: xs)) : Lim xs := fun y hy => h y (by simp [hy])
theorem Lim.app {xs ys : List Int} (h : Lim xs) (k : Lim ys) : Lim (xs ++ ys) := fun y hy => by
  rcases List.mem_append.1 hy with hy | hy
  · exact h y hy
  · exact k y hy
theorem Lim.take {xs : List Int} (h : Lim xs) (n : Nat) : Lim (xs.take n) := fun y hy => h y (List.mem_of_mem_take hy)
theorem Lim.drop {xs : List Int} (h : Lim xs) (n : Nat) : Lim (xs.drop n) := fun y hy => h y (List.mem_of_mem_drop hy)
theorem Lim.getD {xs : List Int} (h : Lim xs) (i : Nat) : 0 ≤ xs.getD i 0 ∧ xs.getD i 0 < 1000000000 := by
  by_cases hi : i < xs.length
  · rw [List.getD_eq_getElem?_getD, List.getElem?_eq_getElem hi]
    exact h _ (List.getElem_mem hi)
  · rw [List.getD_eq_getElem?_getD, List.getElem?_eq_none (by omega)]
    simp

theorem lv_nonneg : ∀ {xs : List Int}, Lim xs → 0 ≤ lv xs
  | [], _ => by simp [lv]
  | x :: xs, h => by
    have := lv_nonneg h.tail
    have := h.head
    simp only [lv]; omega

theorem lv_app : ∀ (xs ys : List Int), lv (xs ++ ys) = lv xs + 1000000000 ^ xs.length * lv ys
  | [], ys => by simp [lv]
  | x :: xs, ys => by
    simp only [List.cons_append, lv, lv_app xs ys, List.length_cons, Int.pow_succ]
    rw [Int.mul_add, Int.mul_comm (1000000000 ^ xs.length) 1000000000, ← Int.mul_assoc]
    omega

theorem lv_lt : ∀ {xs : List Int}, Lim xs → lv xs < 1000000000 ^ xs.length
  | [], _ => by simp [lv]
  | x :: xs, h => by
    have := lv_lt h.tail
    have := h.head
    simp only [lv, List.length_cons, Int.pow_succ]; omega

theorem pos_pow (n : Nat) : (0 : Int) < 1000000000 ^ n := Int.pow_pos (by decide)

/-- Where the highest limb is not nought, so many limbs are wanted. -/
theorem lv_ge {xs : List Int} (h : Lim xs) (hn : 0 < xs.length) (ht : xs.getD (xs.length - 1) 0 ≠ 0) : 1000000000 ^ (xs.length - 1) ≤ lv xs := by
  obtain ⟨ys, y, rfl⟩ : ∃ ys y, xs = ys ++ [y] := ⟨xs.dropLast, xs.getLast (by intro e; simp [e] at hn), (List.dropLast_concat_getLast _).symm⟩
  have h1 : (ys ++ [y]).getD ((ys ++ [y]).length - 1) 0 = y := by simp
  rw [h1] at ht
  have hy := h y (by simp)
  have h0 := lv_nonneg (fun z hz => h z (by simp [hz]) : Lim ys)
  rw [lv_app]
  simp only [List.length_append, List.length_singleton, Nat.add_sub_cancel, lv]
  have hp := pos_pow ys.length
  have : (1000000000 : Int) ^ ys.length * 1 ≤ 1000000000 ^ ys.length * (y + 1000000000 * 0) := Int.mul_le_mul_of_nonneg_left (by omega) (by omega)
  omega

/-- So many limbs, by what they say. -/
theorem len_le {xs : List Int} {k : Nat} (h : Lim xs) (ht : xs.length = 0 ∨ xs.getD (xs.length - 1) 0 ≠ 0) (hk : lv xs < 1000000000 ^ k) : xs.length ≤ k := by
  rcases ht with ht | ht
  · omega
  · by_cases hn : xs.length ≤ k
    · exact hn
    · have h1 := lv_ge h (by omega) ht
      have h2 : (1000000000 : Int) ^ k ≤ 1000000000 ^ (xs.length - 1) := by
        have := Nat.pow_le_pow_right (n := 1000000000) (by decide) (show k ≤ xs.length - 1 by omega)
        have h3 : ((1000000000 ^ k : Nat) : Int) ≤ ((1000000000 ^ (xs.length - 1) : Nat) : Int) := by exact_mod_cast this
        simpa using h3
      omega

theorem lv_take_succ (xs : List Int) (i : Nat) (h : i < xs.length) : lv (xs.take (i + 1)) = lv (xs.take i) + 1000000000 ^ i * xs.getD i 0 := by
  rw [List.take_succ_eq_append_getElem h, lv_app]
  simp [lv, List.length_take, Nat.min_eq_left (Nat.le_of_lt h), h]

theorem lv_set : ∀ (xs : List Int) (i : Nat) (v : Int), i < xs.length → lv (xs.set i v) = lv xs + 1000000000 ^ i * (v - xs.getD i 0)
  | [], _, _, h => by simp at h
  | x :: xs, 0, v, _ => by simp [lv]; omega
  | x :: xs, i + 1, v, h => by
    have := lv_set xs i v (by simpa using h)
    simp only [List.set_cons_succ, lv, this, List.getD_cons_succ, Int.pow_succ]
    rw [Int.mul_add, Int.mul_comm (1000000000 ^ i) 1000000000, Int.mul_assoc]
    omega
theorem getD_set {xs : List Int} {i j : Nat} {v : Int} (h : i < xs.length) : (xs.set i v).getD j 0 = if j = i then v else xs.getD j 0 := by
  simp only [List.getD_eq_getElem?_getD, List.getElem?_set]
  by_cases e : i = j
  · subst e; simp [h]
  · rw [if_neg e, if_neg (fun h => e h.symm)]
theorem Lim.set {xs : List Int} (h : Lim xs) (i : Nat) {v : Int} (h0 : 0 ≤ v) (h1 : v < 1000000000) : Lim (xs.set i v) := fun y hy => by
  rcases List.mem_or_eq_of_mem_set hy with hy | rfl
  · exact h y hy
  · exact ⟨h0, h1⟩
theorem lv_replicate (n : Nat) : lv (List.replicate n 0) = 0 := by
  induction n with
  | zero => rfl
  | succ n ih => simp [List.replicate_succ, lv, ih]
theorem Lim.zeros (n : Nat) : Lim (List.replicate n 0) := fun y hy => by
  rw [List.eq_of_mem_replicate hy]; decide
theorem getD_zeros (n i : Nat) : (List.replicate n (0 : Int)).getD i 0 = 0 := by
  simp only [List.getD_eq_getElem?_getD, List.getElem?_replicate]
  split <;> rfl

end Go.Proofs.YtbebmjiopijheaaDoor

