/-
  Several texts in one: Num, MulNum, CmpNum, AddNum, DivNum, TextNum, PutN, PutM, DvN, ReadNum.
-/
namespace Go.Proofs.YtkadkfmidlhedaaGreatDoor

/-- What limbs say, the lowest first. -/
def lv : List Int → Int
  | [] => 0
  | x :: xs => x + 1000000000 * lv xs

/-- Each limb has at most nine digits. -/
def Lim (xs : List Int) : Prop := ∀ x ∈ xs, 0 ≤ x ∧ x < 1000000000

theorem Lim.nil : Lim [] := fun _ h => by cases h
theorem Lim.cons {x : Int} {xs : List Int} (h0 : 0 ≤ x) (h1 : x < 1000000000) (h : Lim xs) : Lim (x :: xs) := fun y hy => by
  rcases List.mem_cons.1 hy with rfl | hy
  · exact ⟨h0, h1⟩
  · exact h y hy
theorem Lim.head {x : Int} {xs : List Int} (h : Lim (x :: xs)) : 0 ≤ x ∧ x < 1000000000 := h x (by simp)
theorem Lim.tail {x : Int} {xs : List Int} (h : Lim (x :: xs)) : Lim xs := fun y hy => h y (by simp [hy])
theorem Lim.app {xs ys : List Int} (h : Lim xs) (k : Lim ys) : Lim (xs ++ ys) := fun y hy => by
  rcases List.mem_append.1 hy with hy | hy
  · exact h y hy
  · exact k y hy
theorem Lim.take {xs : List Int} (h : Lim xs) (n : Nat) : Lim (xs.take n) := fun y hy => h y (List.mem_of_mem_take hy)
theorem Lim.drop {xs : List Int} (h : Lim xs) (n : Nat) : Lim (xs.drop n) := fun y hy => h y (List.mem_of_mem_drop hy)
theorem Lim.getD {xs : List Int} (h : Lim xs) (i : Nat) : 0 ≤ xs.getD i 0 ∧ xs.getD i 0 < 1000000000 := by
  by_cases hi : i < xs.length
  · rw [List.getD_eq_getElem?_getD, List.getElem?_eq_getElem hi]
    exact h _ (List.getElem_mem hi)
  · rw [List.getD_eq_getElem?_getD, List.getElem?_eq_none (by omega)]
    simp

theorem lv_nonneg : ∀ {xs : List Int}, Lim xs → 0 ≤ lv xs
  | [], _ => by simp [lv]
  | x :: xs, h => by
    have := lv_nonneg h.tail
    have := h.head
    simp only [lv]; omega

theorem lv_app : ∀ (xs ys : List Int), lv (xs ++ ys) = lv xs + 1000000000 ^ xs.length * lv ys
  | [], ys => by simp [lv]
  | x :: xs, ys => by
    simp only [List.cons_append, lv, lv_app xs ys, List.length_cons, Int.pow_succ]
    rw [Int.mul_add, Int.mul_comm (1000000000 ^ xs.length) 1000000000, ← Int.mul_assoc]
    omega

theorem lv_lt : ∀ {xs : List Int}, Lim xs → lv xs < 1000000000 ^ xs.length
  | [], _ => by simp [lv]
  | x :: xs, h => by
    have := lv_lt h.tail
    have := h.head
    simp only [lv, List.length_cons, Int.pow_succ]; omega

theorem pos_pow (n : Nat) : (0 : Int) < 1000000000 ^ n := Int.pow_pos (by decide)

/-- Where the highest limb is not nought, so many limbs are wanted. -/
theorem lv_ge {xs : List Int} (h : Lim xs) (hn : 0 < xs.length) (ht : xs.getD (xs.length - 1) 0 ≠ 0) : 1000000000 ^ (xs.length - 1) ≤ lv xs := by
  obtain ⟨ys, y, rfl⟩ : ∃ ys y, xs = ys ++ [y] := ⟨xs.dropLast, xs.getLast (by intro e; simp [e] at hn), (List.dropLast_concat_getLast _).symm⟩
  have h1 : (ys ++ [y]).getD ((ys ++ [y]).length - 1) 0 = y := by simp
  rw [h1] at ht
  have hy := h y (by simp)
  have h0 := lv_nonneg (fun z hz => h z (by simp [hz]) : Lim ys)
  rw [lv_app]
  simp only [List.length_append, List.length_singleton, Nat.add_sub_cancel, lv]
  have hp := pos_pow ys.length
  have : (1000000000 : Int) ^ ys.length * 1 ≤ 1000000000 ^ ys.length * (y + 1000000000 * 0) := Int.mul_le_mul_of_nonneg_left (by omega) (by omega)
  omega

/-- So many limbs, by what they say. -/
theorem len_le {xs : List Int} {k : Nat} (h : Lim xs) (ht : xs.length = 0 ∨ xs.getD (xs.length - 1) 0 ≠ 0) (hk : lv xs < 1000000000 ^ k) : xs.length ≤ k := by
  rcases ht with ht | ht
  · omega
  · by_cases hn : xs.length ≤ k
    · exact hn
    · have h1 := lv_ge h (by omega) ht
      have h2 : (1000000000 : Int) ^ k ≤ 1000000000 ^ (xs.length - 1) := by
        have := Nat.pow_le_pow_right (n := 1000000000) (by decide) (show k ≤ xs.length - 1 by omega)
        have h3 : ((1000000000 ^ k : Nat) : Int) ≤ ((1000000000 ^ (xs.length - 1) : Nat) : Int) := by exact_mod_cast this
        simpa using h3
      omega

theorem lv_take_succ (xs : List Int) (i : Nat) (h : i < xs.length) : lv (xs.take (i + 1)) = lv (xs.take i) + 1000000000 ^ i * xs.getD i 0 := by
  rw [List.take_succ_eq_append_getElem h, lv_app]
  simp [lv, List.length_take, Nat.min_eq_left (Nat.le_of_lt h), h]

theorem lv_set : ∀ (xs : List Int) (i : Nat) (v : Int), i < xs.length → lv (xs.set i v) = lv xs + 1000000000 ^ i * (v - xs.getD i 0)
  | [], _, _, h => by simp at h
  | x :: xs, 0, v, _ => by simp [lv]; omega
  | x :: xs, i + 1, v, h => by
    have := lv_set xs i v (by simpa using h)
    simp only [List.set_cons_succ, lv, this, List.getD_cons_succ, Int.pow_succ]
    rw [Int.mul_add, Int.mul_comm (1000000000 ^ i) 1000000000, Int.mul_assoc]
    omega
theorem getD_set {xs : List Int} {i j : Nat} {v : Int} (h : i < xs.length) : (xs.set i v).getD j 0 = if j = i then v else xs.getD j 0 := by
  simp only [List.getD_eq_getElem?_getD, List.getElem?_set]
  by_cases e : i = j
  · subst e; simp [h]
  · rw [if_neg e, if_neg (fun h => e h.symm)]
theorem Lim.set {xs : List Int} (h : Lim xs) (i : Nat) {v : Int} (h0 : 0 ≤ v) (h1 : v < 1000000000) : Lim (xs.set i v) := fun y hy => by
  rcases List.mem_or_eq_of_mem_set hy with hy | rfl
  · exact h y hy
  · exact ⟨h0, h1⟩
theorem lv_replicate (n : Nat) : lv (List.replicate n 0) = 0 := by
  induction n with
  | zero => rfl
  | succ n ih => simp [List.replicate_succ, lv, ih]
theorem Lim.zeros (n : Nat) : Lim (List.replicate n 0) := fun y hy => by
  rw [List.eq_of_mem_replicate hy]; decide
theorem getD_zeros (n i : Nat) : (List.replicate n (0 : Int)).getD i 0 = 0 := by
  simp only [List.getD_eq_getElem?_getD, List.getElem?_replicate]
  split <;> rfl

end Go.Proofs.YtkadkfmidlhedaaGreatDoor

namespace Go.Proofs.YtkadkfmidlhedaaGreatDoor

/-- What stands in the row of limbs in the midst of the product: round i, step j, the carry c. -/
def MulAt (xs ys fs : List Int) (i j : Nat) (c : Int) : Prop :=
  fs.length = xs.length + ys.length + 1 ∧ Lim fs ∧ (∀ n, i + ys.length ≤ n → fs.getD n 0 = 0) ∧ 0 ≤ c ∧ c < 1000000000 ∧
  lv fs + 1000000000 ^ (i + j) * c = lv (xs.take i) * lv ys + xs.getD i 0 * (1000000000 ^ i * lv (ys.take j))

theorem MulAt.start {xs ys fs : List Int} {i : Nat} (h1 : fs.length = xs.length + ys.length + 1) (h2 : Lim fs) (h3 : ∀ n, i + ys.length ≤ n → fs.getD n 0 = 0) (h4 : lv fs = lv (xs.take i) * lv ys) : MulAt xs ys fs i 0 0 :=
  ⟨h1, h2, h3, by decide, by decide, by simp [lv, h4]⟩

/-- The sum of one step, and its bounds. -/
theorem mul_sum {x y f c : Int} (x0 : 0 ≤ x) (x1 : x < 1000000000) (y0 : 0 ≤ y) (y1 : y < 1000000000) (f0 : 0 ≤ f) (f1 : f < 1000000000) (c0 : 0 ≤ c) (c1 : c < 1000000000) :
    0 ≤ x * y ∧ x * y ≤ 999999998000000001 ∧ f + x * y + c < 1000000000000000000 := by
  have h0 : 0 ≤ x * y := Int.mul_nonneg x0 y0
  have h1 : x * y ≤ 999999999 * 999999999 := Int.mul_le_mul (by omega) (by omega) y0 (by decide)
  omega

theorem MulAt.step {xs ys fs : List Int} {i j : Nat} {c x y f : Int} (h : MulAt xs ys fs i j c) (hi : i < xs.length) (hj : j < ys.length) (lx : Lim xs) (ly : Lim ys)
    (ex : xs.getD i 0 = x) (ey : ys.getD j 0 = y) (ef : fs.getD (i + j) 0 = f) :
    MulAt xs ys (fs.set (i + j) ((f + x * y + c) % 1000000000)) i (j + 1) ((f + x * y + c) / 1000000000) := by
  obtain ⟨h1, h2, h3, c0, c1, h4⟩ := h
  have hx := lx.getD i
  have hy := ly.getD j
  have hf := h2.getD (i + j)
  rw [ex] at hx h4
  rw [ey] at hy
  rw [ef] at hf
  obtain ⟨m0, m1, m2⟩ := mul_sum hx.1 hx.2 hy.1 hy.2 hf.1 hf.2 c0 c1
  refine ⟨by simpa using h1, h2.set _ (by omega) (by omega), ?_, by omega, by omega, ?_⟩
  · intro n hn
    rw [getD_set (by omega), if_neg (by omega)]
    exact h3 n hn
  · rw [lv_set _ _ _ (by omega), ef, ex, lv_take_succ ys j hj, ey]
    have e1 : (1000000000 : Int) ^ (i + (j + 1)) = 1000000000 ^ (i + j) * 1000000000 := by rw [← Nat.add_assoc, Int.pow_succ]
    have e2 : (1000000000 : Int) ^ (i + j) = 1000000000 ^ i * 1000000000 ^ j := Int.pow_add _ _ _
    have e3 : (f + x * y + c) % 1000000000 + 1000000000 * ((f + x * y + c) / 1000000000) = f + x * y + c := Int.emod_add_mul_ediv _ _
    rw [e1]
    generalize (f + x * y + c) / 1000000000 = q at *
    generalize (f + x * y + c) % 1000000000 = r at *
    have e4 : r = f + x * y + c - 1000000000 * q := by omega
    subst e4
    rw [e2] at h4 ⊢
    generalize (1000000000 : Int) ^ i = p at *
    generalize (1000000000 : Int) ^ j = s at *
    generalize lv fs = F at *
    generalize lv (List.take j ys) = Y at *
    generalize lv (List.take i xs) * lv ys = P at *
    simp only [Int.mul_add, Int.mul_sub, Int.mul_assoc, Int.mul_comm, Int.mul_left_comm] at h4 ⊢
    omega

theorem MulAt.close {xs ys fs : List Int} {i : Nat} {c : Int} (h : MulAt xs ys fs i ys.length c) (hi : i < xs.length) :
    (fs.set (i + ys.length) c).length = xs.length + ys.length + 1 ∧ Lim (fs.set (i + ys.length) c) ∧ (∀ n, (i + 1) + ys.length ≤ n → (fs.set (i + ys.length) c).getD n 0 = 0) ∧ lv (fs.set (i + ys.length) c) = lv (xs.take (i + 1)) * lv ys := by
  obtain ⟨h1, h2, h3, c0, c1, h4⟩ := h
  refine ⟨by simpa using h1, h2.set _ c0 c1, ?_, ?_⟩
  · intro n hn
    rw [getD_set (by omega), if_neg (by omega)]
    exact h3 n (by omega)
  · rw [lv_set _ _ _ (by omega), h3 _ (Nat.le_refl _), lv_take_succ xs i hi]
    simp only [List.take_length] at h4
    simp only [Int.sub_zero, Int.add_mul]
    rw [h4]
    simp only [Int.mul_assoc, Int.mul_comm]

end Go.Proofs.YtkadkfmidlhedaaGreatDoor

namespace Go.Proofs.YtkadkfmidlhedaaGreatDoor

/-- The order of two numbers: -1, 0, 1. -/
def cmpI (a b : Int) : Int := if a < b then -1 else if b < a then 1 else 0
theorem cmpI_lt {a b : Int} (h : a < b) : cmpI a b = -1 := by unfold cmpI; rw [if_pos h]
theorem cmpI_gt {a b : Int} (h : b < a) : cmpI a b = 1 := by unfold cmpI; rw [if_neg (by omega), if_pos h]
theorem cmpI_eq (a : Int) : cmpI a a = 0 := by unfold cmpI; rw [if_neg (by omega), if_neg (by omega)]
theorem cmpI_neg (a b : Int) : -cmpI a b = cmpI (-a) (-b) := by unfold cmpI; split <;> (try split) <;> (try split) <;> (try split) <;> omega

theorem pow_le_pow {i j : Nat} (h : i ≤ j) : (1000000000 : Int) ^ i ≤ 1000000000 ^ j := by
  have := Nat.pow_le_pow_right (n := 1000000000) (by decide) h
  have h3 : ((1000000000 ^ i : Nat) : Int) ≤ ((1000000000 ^ j : Nat) : Int) := by exact_mod_cast this
  simpa using h3

theorem lv_len {xs ys : List Int} (lx : Lim xs) (ly : Lim ys) (ty : ys.getD (ys.length - 1) 0 ≠ 0) (h : xs.length < ys.length) : lv xs < lv ys := by
  have h1 := lv_lt lx
  have h2 := lv_ge ly (by omega) ty
  have h3 := pow_le_pow (show xs.length ≤ ys.length - 1 by omega)
  omega

theorem lv_split (xs : List Int) (j : Nat) (h : j < xs.length) : lv xs = lv (xs.take j) + 1000000000 ^ j * (xs.getD j 0 + 1000000000 * lv (xs.drop (j + 1))) := by
  have e : xs = xs.take j ++ (xs[j] :: xs.drop (j + 1)) := by rw [← List.drop_eq_getElem_cons h, List.take_append_drop]
  have h1 := congrArg lv e
  rw [lv_app] at h1
  simp only [lv, List.length_take, Nat.min_eq_left (Nat.le_of_lt h)] at h1
  rw [h1]
  simp [h]

theorem lv_top {xs ys : List Int} {j : Nat} (lx : Lim xs) (ly : Lim ys) (hx : j < xs.length) (hy : j < ys.length) (hd : xs.drop (j + 1) = ys.drop (j + 1)) (h : xs.getD j 0 < ys.getD j 0) : lv xs < lv ys := by
  rw [lv_split xs j hx, lv_split ys j hy, hd]
  have h1 := lv_lt (lx.take j)
  have h2 := lv_nonneg (ly.take j)
  have e : (xs.take j).length = j := by simp; omega
  rw [e] at h1
  generalize lv (ys.drop (j + 1)) = D at *
  generalize xs.getD j 0 = x at *
  generalize ys.getD j 0 = y at *
  generalize lv (xs.take j) = X at *
  generalize lv (ys.take j) = Y at *
  have hp := pos_pow j
  have h3 : (1000000000 : Int) ^ j * (x + 1000000000 * D + 1) ≤ 1000000000 ^ j * (y + 1000000000 * D) := Int.mul_le_mul_of_nonneg_left (by omega) (by omega)
  rw [Int.mul_add _ _ 1, Int.mul_one] at h3
  omega

theorem drop_step {xs ys : List Int} {j : Nat} (hx : j < xs.length) (hy : j < ys.length) (hd : xs.drop (j + 1) = ys.drop (j + 1)) (h : xs.getD j 0 = ys.getD j 0) : xs.drop j = ys.drop j := by
  rw [List.drop_eq_getElem_cons hx, List.drop_eq_getElem_cons hy, hd]
  have e1 : xs.getD j 0 = xs[j] := by simp [hx]
  have e2 : ys.getD j 0 = ys[j] := by simp [hy]
  rw [← e1, ← e2, h]

end Go.Proofs.YtkadkfmidlhedaaGreatDoor

namespace Go.Proofs.YtkadkfmidlhedaaGreatDoor

theorem lv_take_getD (xs : List Int) (i : Nat) : lv (xs.take (i + 1)) = lv (xs.take i) + 1000000000 ^ i * xs.getD i 0 := by
  by_cases h : i < xs.length
  · exact lv_take_succ xs i h
  · rw [List.take_of_length_le (by omega), List.take_of_length_le (by omega), List.getD_eq_getElem?_getD, List.getElem?_eq_none (by omega)]
    simp

/-- In the midst of a sum. -/
def AddAt (xs ys fs : List Int) (n i : Nat) (c : Int) : Prop :=
  fs.length = n + 1 ∧ Lim fs ∧ (∀ j, i ≤ j → fs.getD j 0 = 0) ∧ 0 ≤ c ∧ c ≤ 1 ∧ lv fs + 1000000000 ^ i * c = lv (xs.take i) + lv (ys.take i)

theorem AddAt.start (xs ys : List Int) (n : Nat) : AddAt xs ys (List.replicate (n + 1) 0) n 0 0 :=
  ⟨by simp, Lim.zeros _, fun j _ => getD_zeros _ j, by decide, by decide, by simp [lv, lv_replicate]⟩

theorem AddAt.step {xs ys fs : List Int} {n i : Nat} {c x y : Int} (h : AddAt xs ys fs n i c) (hi : i ≤ n) (lx : Lim xs) (ly : Lim ys) (ex : xs.getD i 0 = x) (ey : ys.getD i 0 = y) :
    AddAt xs ys (fs.set i ((c + x + y) % 1000000000)) n (i + 1) ((c + x + y) / 1000000000) := by
  obtain ⟨h1, h2, h3, c0, c1, h4⟩ := h
  have hx := lx.getD i
  have hy := ly.getD i
  rw [ex] at hx
  rw [ey] at hy
  refine ⟨by simpa using h1, h2.set _ (by omega) (by omega), ?_, by omega, by omega, ?_⟩
  · intro j hj
    rw [getD_set (by omega), if_neg (by omega)]
    exact h3 j (by omega)
  · rw [lv_set _ _ _ (by omega), h3 i (Nat.le_refl _), lv_take_getD xs, lv_take_getD ys, ex, ey, Int.pow_succ]
    have e3 : (c + x + y) % 1000000000 + 1000000000 * ((c + x + y) / 1000000000) = c + x + y := Int.emod_add_mul_ediv _ _
    generalize (c + x + y) / 1000000000 = q at *
    generalize (c + x + y) % 1000000000 = r at *
    obtain rfl : r = c + x + y - 1000000000 * q := by omega
    generalize (1000000000 : Int) ^ i = p at *
    generalize lv fs = F at *
    generalize lv (List.take i xs) = X at *
    generalize lv (List.take i ys) = Y at *
    simp only [Int.sub_zero, Int.mul_add, Int.mul_sub, Int.mul_comm, Int.mul_left_comm] at h4 ⊢
    omega

theorem AddAt.done {xs ys fs : List Int} {n : Nat} {c : Int} (h : AddAt xs ys fs n (n + 1) c) (lx : Lim xs) (ly : Lim ys) (hx : xs.length ≤ n) (hy : ys.length ≤ n) : lv fs = lv xs + lv ys := by
  obtain ⟨h1, h2, h3, c0, c1, h4⟩ := h
  rw [List.take_of_length_le (by omega), List.take_of_length_le (by omega)] at h4
  have b1 := lv_lt lx
  have b2 := lv_lt ly
  have b3 := pow_le_pow hx
  have b4 := pow_le_pow hy
  have b5 := lv_nonneg h2
  have hp := pos_pow n
  rw [Int.pow_succ] at h4
  generalize (1000000000 : Int) ^ n = p at *
  by_cases hc : c = 0
  · subst hc; simp at h4; omega
  · obtain rfl : c = 1 := by omega
    omega

/-- In the midst of a difference. -/
def SubAt (xs ys fs : List Int) (i : Nat) (c : Int) : Prop :=
  fs.length = xs.length ∧ Lim fs ∧ (∀ j, i ≤ j → fs.getD j 0 = 0) ∧ 0 ≤ c ∧ c ≤ 1 ∧ lv fs + lv (ys.take i) = lv (xs.take i) + 1000000000 ^ i * c

theorem SubAt.start (xs ys : List Int) : SubAt xs ys (List.replicate xs.length 0) 0 0 :=
  ⟨by simp, Lim.zeros _, fun j _ => getD_zeros _ j, by decide, by decide, by simp [lv, lv_replicate]⟩

theorem SubAt.step {xs ys fs : List Int} {i : Nat} {c s d : Int} (h : SubAt xs ys fs i c) (hi : i < xs.length) (d0 : 0 ≤ d) (d1 : d ≤ 1) (hs : s = xs.getD i 0 - c - ys.getD i 0 + 1000000000 * d) (s0 : 0 ≤ s) (s1 : s < 1000000000) :
    SubAt xs ys (fs.set i s) (i + 1) d := by
  obtain ⟨h1, h2, h3, c0, c1, h4⟩ := h
  refine ⟨by simpa using h1, h2.set _ s0 s1, ?_, d0, d1, ?_⟩
  · intro j hj
    rw [getD_set (by omega), if_neg (by omega)]
    exact h3 j (by omega)
  · rw [lv_set _ _ _ (by omega), h3 i (Nat.le_refl _), lv_take_getD xs, lv_take_getD ys, Int.pow_succ]
    generalize xs.getD i 0 = x at *
    generalize ys.getD i 0 = y at *
    subst hs
    generalize (1000000000 : Int) ^ i = p at *
    generalize lv fs = F at *
    generalize lv (List.take i xs) = X at *
    generalize lv (List.take i ys) = Y at *
    simp only [Int.sub_zero, Int.mul_add, Int.mul_sub, Int.mul_comm, Int.mul_left_comm] at h4 ⊢
    omega

theorem SubAt.done {xs ys fs : List Int} {c : Int} (h : SubAt xs ys fs xs.length c) (hy : ys.length ≤ xs.length) (hle : lv ys ≤ lv xs) : lv fs = lv xs - lv ys := by
  obtain ⟨h1, h2, h3, c0, c1, h4⟩ := h
  rw [List.take_of_length_le (Nat.le_refl _), List.take_of_length_le hy] at h4
  have b1 := lv_lt h2
  rw [h1] at b1
  generalize (1000000000 : Int) ^ xs.length = p at *
  by_cases hc : c = 0
  · subst hc; simp at h4; omega
  · obtain rfl : c = 1 := by omega
    omega

/-- The borrow of one step. -/
theorem sub_sum {x y c : Int} (x0 : 0 ≤ x) (x1 : x < 1000000000) (y0 : 0 ≤ y) (y1 : y < 1000000000) (c0 : 0 ≤ c) (c1 : c ≤ 1) : -1000000001 < x - c - y ∧ x - c - y < 1000000000 := by omega

end Go.Proofs.YtkadkfmidlhedaaGreatDoor

namespace Go.Proofs.YtkadkfmidlhedaaGreatDoor

theorem lv_drop_getD (xs : List Int) (i : Nat) (h : i < xs.length) : lv (xs.drop i) = xs.getD i 0 + 1000000000 * lv (xs.drop (i + 1)) := by
  rw [List.drop_eq_getElem_cons h]
  simp [lv, h]

/-- In the midst of a division: the limbs from n on are divided, R is left. -/
def DivAt (xs bs qs : List Int) (n : Nat) (R : Int) : Prop :=
  qs.length = xs.length + 1 ∧ Lim qs ∧ lv (xs.drop n) = lv (qs.drop n) * lv bs + R ∧ 0 ≤ R ∧ R < lv bs ∧ (∀ j, j < n → qs.getD j 0 = 0) ∧ qs.getD xs.length 0 = 0

theorem DivAt.start (xs bs : List Int) (hb : 0 < lv bs) : DivAt xs bs (List.replicate (xs.length + 1) 0) xs.length 0 := by
  refine ⟨by simp, Lim.zeros _, ?_, by omega, hb, fun j _ => getD_zeros _ j, getD_zeros _ _⟩
  rw [List.drop_eq_nil_of_le (Nat.le_refl _), List.drop_replicate, lv_replicate]
  simp [lv]

theorem DivAt.step {xs bs qs : List Int} {i : Nat} {R g R' x : Int} (h : DivAt xs bs qs (i + 1) R) (hi : i < xs.length) (ex : xs.getD i 0 = x) (g0 : 0 ≤ g) (g1 : g < 1000000000) (hR : R' = x + 1000000000 * R - g * lv bs) (r0 : 0 ≤ R') (r1 : R' < lv bs) :
    DivAt xs bs (qs.set i g) i R' := by
  obtain ⟨h1, h2, h3, _, _, h6, h7⟩ := h
  refine ⟨by simpa using h1, h2.set _ g0 g1, ?_, r0, r1, ?_, ?_⟩
  · rw [lv_drop_getD xs i hi, ex, h3, lv_drop_getD (qs.set i g) i (by simp; omega), getD_set (by omega), if_pos rfl, List.drop_set_of_lt (by omega), hR]
    generalize lv (qs.drop (i + 1)) = Q at *
    generalize lv bs = B at *
    simp only [Int.add_mul, Int.mul_add, Int.mul_assoc]
    omega
  · intro j hj
    rw [getD_set (by omega), if_neg (by omega)]
    exact h6 j (by omega)
  · rw [getD_set (by omega), if_neg (by omega)]
    exact h7

/-- A step that finds nothing to take: the limb stays nought. -/
theorem DivAt.skip {xs bs qs : List Int} {i : Nat} {R x : Int} (h : DivAt xs bs qs (i + 1) R) (hi : i < xs.length) (lx : Lim xs) (ex : xs.getD i 0 = x) (r1 : x + 1000000000 * R < lv bs) :
    DivAt xs bs qs i (x + 1000000000 * R) := by
  obtain ⟨h1, h2, h3, h4, _, h6, h7⟩ := h
  have hx := lx.getD i
  rw [ex] at hx
  refine ⟨h1, h2, ?_, by omega, r1, fun j hj => h6 j (by omega), h7⟩
  rw [lv_drop_getD xs i hi, ex, h3, lv_drop_getD qs i (by omega), h6 i (by omega)]
  generalize lv (qs.drop (i + 1)) = Q at *
  generalize lv bs = B at *
  simp only [Int.mul_add, Int.zero_add, Int.mul_assoc]
  omega

theorem DivAt.done {xs bs qs : List Int} {R : Int} (h : DivAt xs bs qs 0 R) : lv xs = lv qs * lv bs + R := by
  have := h.2.2.1
  simpa using this

theorem len_mono {bs ps : List Int} (lb : Lim bs) (lp : Lim ps) (tb : bs.length = 0 ∨ bs.getD (bs.length - 1) 0 ≠ 0) (h : lv bs ≤ lv ps) : bs.length ≤ ps.length := by
  by_cases hl : bs.length ≤ ps.length
  · exact hl
  · have := lv_len lp lb (tb.resolve_left (by omega)) (by omega)
    omega

/-- The highest limb of b, and what it says. -/
theorem top_ge {bs : List Int} (lb : Lim bs) (hb : 0 < bs.length) : bs.getD (bs.length - 1) 0 * 1000000000 ^ (bs.length - 1) ≤ lv bs := by
  rw [lv_split bs (bs.length - 1) (by omega), List.drop_eq_nil_of_le (by omega)]
  have := lv_nonneg (lb.take (bs.length - 1))
  simp only [lv, Int.mul_zero, Int.add_zero]
  rw [Int.mul_comm]
  omega

theorem cancel_lt {a b p : Int} (hp : 0 < p) (h : a * p < b * p) : a < b := (Int.mul_lt_mul_right hp).1 h

/-- The guess out of one limb is not too small. -/
theorem guess1 {rs bs : List Int} {t : Int} (lr : Lim rs) (lb : Lim bs) (hL : rs.length = bs.length) (hb : 0 < bs.length) (ht : 0 < bs.getD (bs.length - 1) 0) (t0 : 0 ≤ t) (h : t * lv bs ≤ lv rs) :
    t ≤ rs.getD (rs.length - 1) 0 / bs.getD (bs.length - 1) 0 := by
  have hB := top_ge lb hb
  have hR : lv rs < (rs.getD (rs.length - 1) 0 + 1) * 1000000000 ^ (bs.length - 1) := by
    rw [lv_split rs (rs.length - 1) (by omega), List.drop_eq_nil_of_le (by omega)]
    have h1 := lv_lt (lr.take (rs.length - 1))
    have e : (rs.take (rs.length - 1)).length = rs.length - 1 := by simp
    rw [e] at h1
    rw [hL] at h1 ⊢
    simp only [lv, Int.mul_zero, Int.add_zero, Int.add_mul, Int.one_mul]
    rw [Int.mul_comm (rs.getD (bs.length - 1) 0)]
    omega
  generalize rs.getD (rs.length - 1) 0 = r at *
  generalize bs.getD (bs.length - 1) 0 = b at *
  have hp := pos_pow (bs.length - 1)
  generalize (1000000000 : Int) ^ (bs.length - 1) = p at *
  have h2 : t * (b * p) ≤ t * lv bs := Int.mul_le_mul_of_nonneg_left hB t0
  have h3 : t * b * p < (r + 1) * p := by rw [Int.mul_assoc]; omega
  have h4 := cancel_lt hp h3
  exact (Int.le_ediv_iff_mul_le ht).2 (by omega)

/-- The guess out of two limbs is not too small. -/
theorem guess2 {rs bs : List Int} {t : Int} (lr : Lim rs) (lb : Lim bs) (hL : rs.length = bs.length + 1) (hb : 0 < bs.length) (ht : 0 < bs.getD (bs.length - 1) 0) (t0 : 0 ≤ t) (h : t * lv bs ≤ lv rs) :
    t ≤ (rs.getD (rs.length - 1) 0 * 1000000000 + rs.getD (rs.length - 2) 0) / bs.getD (bs.length - 1) 0 := by
  have hB := top_ge lb hb
  have e2 : rs.length - 2 + 1 = rs.length - 1 := by omega
  have e3 : rs.length - 2 = bs.length - 1 := by omega
  have hR : lv rs < (rs.getD (rs.length - 1) 0 * 1000000000 + rs.getD (rs.length - 2) 0 + 1) * 1000000000 ^ (bs.length - 1) := by
    rw [lv_split rs (rs.length - 2) (by omega), e2, lv_drop_getD rs (rs.length - 1) (by omega), List.drop_eq_nil_of_le (by omega)]
    have h1 := lv_lt (lr.take (rs.length - 2))
    have e : (rs.take (rs.length - 2)).length = rs.length - 2 := by simp
    rw [e] at h1
    rw [e3] at h1 ⊢
    simp only [lv, Int.mul_zero, Int.add_zero]
    generalize rs.getD (rs.length - 1) 0 = r at *
    generalize rs.getD (bs.length - 1) 0 = s at *
    generalize (1000000000 : Int) ^ (bs.length - 1) = p at *
    generalize lv (List.take (bs.length - 1) rs) = X at *
    simp only [Int.mul_add, Int.mul_comm, Int.mul_left_comm]
    omega
  generalize rs.getD (rs.length - 1) 0 * 1000000000 + rs.getD (rs.length - 2) 0 = r at *
  generalize bs.getD (bs.length - 1) 0 = b at *
  have hp := pos_pow (bs.length - 1)
  generalize (1000000000 : Int) ^ (bs.length - 1) = p at *
  have h2 : t * (b * p) ≤ t * lv bs := Int.mul_le_mul_of_nonneg_left hB t0
  have h3 : t * b * p < (r + 1) * p := by rw [Int.mul_assoc]; omega
  have h4 := cancel_lt hp h3
  exact (Int.le_ediv_iff_mul_le ht).2 (by omega)

/-- No guess need be above nine nines. -/
theorem guess_cap {B rho t : Int} (hB : 0 < B) (hr : rho < B * 1000000000) (h : t * B ≤ rho) : t ≤ 999999999 := by
  have h1 : t * B < 1000000000 * B := by rw [Int.mul_comm 1000000000 B]; omega
  have := cancel_lt hB h1
  omega

/-- What the search keeps: the guess is not too small; where it stops it is the quotient. -/
theorem search_next {B rho g : Int} (hub : ∀ t, 0 ≤ t → t * B ≤ rho → t ≤ g) (hg : rho < g * B) : ∀ t, 0 ≤ t → t * B ≤ rho → t ≤ g - 1 := fun t h0 h => by
  have h1 := hub t h0 h
  by_cases e : t = g
  · subst e; omega
  · omega
theorem search_stop {B rho g : Int} (g0 : 0 ≤ g) (hub : ∀ t, 0 ≤ t → t * B ≤ rho → t ≤ g) : rho - g * B < B := by
  by_cases h : rho - g * B < B
  · exact h
  · have := hub (g + 1) (by omega) (by rw [Int.add_mul, Int.one_mul]; omega)
    omega
theorem search_pos {B rho g : Int} (r0 : 0 ≤ rho) (g0 : 0 ≤ g) (h : rho < g * B) : 1 ≤ g := by
  by_cases e : g = 0
  · subst e; simp at h; omega
  · omega

/-- In the midst of a division by one limb. -/
def Div1At (rs fs : List Int) (k : Int) (n : Nat) (c : Int) : Prop :=
  fs.length = rs.length ∧ Lim fs ∧ 0 ≤ c ∧ c < k ∧ lv (rs.drop n) = lv (fs.drop n) * k + c ∧ (∀ j, j < n → fs.getD j 0 = 0)
theorem Div1At.start (rs : List Int) (k : Int) (hk : 0 < k) : Div1At rs (List.replicate rs.length 0) k rs.length 0 := by
  refine ⟨by simp, Lim.zeros _, by omega, hk, ?_, fun j _ => getD_zeros _ j⟩
  rw [List.drop_eq_nil_of_le (Nat.le_refl _), List.drop_replicate, lv_replicate]
  simp [lv]
theorem Div1At.step {rs fs : List Int} {k : Int} {i : Nat} {c x : Int} (h : Div1At rs fs k (i + 1) c) (hi : i < rs.length) (lr : Lim rs) (hk : 0 < k) (ex : rs.getD i 0 = x) :
    Div1At rs (fs.set i ((c * 1000000000 + x) / k)) k i ((c * 1000000000 + x) % k) ∧ 0 ≤ (c * 1000000000 + x) / k ∧ (c * 1000000000 + x) / k < 1000000000 := by
  obtain ⟨h1, h2, h3, h4, h5, h6⟩ := h
  have hx := lr.getD i
  rw [ex] at hx
  have q0 : 0 ≤ (c * 1000000000 + x) / k := Int.ediv_nonneg (by omega) (by omega)
  have q1 : (c * 1000000000 + x) / k < 1000000000 := by
    refine (Int.ediv_lt_iff_lt_mul hk).2 ?_
    have : c * 1000000000 + 1000000000 ≤ k * 1000000000 := by omega
    omega
  refine ⟨⟨by simpa using h1, h2.set _ q0 q1, Int.emod_nonneg _ (by omega), Int.emod_lt_of_pos _ hk, ?_, ?_⟩, q0, q1⟩
  · rw [lv_drop_getD rs i hi, ex, h5, lv_drop_getD (fs.set i _) i (by simp; omega), getD_set (by omega), if_pos rfl, List.drop_set_of_lt (by omega)]
    have e3 : (c * 1000000000 + x) % k + k * ((c * 1000000000 + x) / k) = c * 1000000000 + x := Int.emod_add_mul_ediv _ _
    generalize (c * 1000000000 + x) / k = q at *
    generalize (c * 1000000000 + x) % k = r at *
    generalize lv (fs.drop (i + 1)) = F at *
    rw [Int.mul_comm k q] at e3
    simp only [Int.add_mul, Int.mul_add, Int.mul_assoc]
    generalize F * k = Fk at *
    generalize q * k = qk at *
    omega
  · intro j hj
    rw [getD_set (by omega), if_neg (by omega)]
    exact h6 j (by omega)
theorem Div1At.done {rs fs : List Int} {k c : Int} (h : Div1At rs fs k 0 c) : lv rs = lv fs * k + c := by
  have := h.2.2.2.2.1
  simpa using this

/-- The whole division, out of its parts. -/
theorem div_whole {a b k q R r c : Int} (hk : 0 < k) (h1 : a * k = q * (b * k) + R) (h2 : 0 ≤ R) (h3 : R < b * k) (h4 : R = r * k + c) (c0 : 0 ≤ c) (c1 : c < k) : q = a / b ∧ r = a % b := by
  have e : (a - q * b - r) * k = c := by
    rw [Int.sub_mul, Int.sub_mul, Int.mul_assoc]
    omega
  have hz : a - q * b - r = 0 := by
    by_cases hp : a - q * b - r = 0
    · exact hp
    · by_cases hn : a - q * b - r < 0
      · have : (a - q * b - r) * k ≤ -1 * k := Int.mul_le_mul_of_nonneg_right (by omega) (by omega)
        omega
      · have : 1 * k ≤ (a - q * b - r) * k := Int.mul_le_mul_of_nonneg_right (by omega) (by omega)
        omega
  have hc : c = 0 := by rw [hz] at e; simpa using e.symm
  have r0 : 0 ≤ r := by
    by_cases h : 0 ≤ r
    · exact h
    · have : r * k ≤ -1 * k := Int.mul_le_mul_of_nonneg_right (by omega) (by omega)
      omega
  have r1 : r < b := cancel_lt hk (by omega)
  have hb : 0 < b := by omega
  have ea : a = r + b * q := by rw [Int.mul_comm b q]; omega
  constructor
  · rw [ea, Int.add_mul_ediv_left _ _ (by omega), Int.ediv_eq_zero_of_lt r0 r1]; omega
  · rw [ea, Int.add_mul_emod_self_left, Int.emod_eq_of_lt r0 r1]

end Go.Proofs.YtkadkfmidlhedaaGreatDoor

namespace Go.Proofs.YtkadkfmidlhedaaGreatDoor

/-- What digits say, the lowest first. -/
def dv : List Int → Int
  | [] => 0
  | x :: xs => x + 10 * dv xs
def D10 (xs : List Int) : Prop := ∀ x ∈ xs, 0 ≤ x ∧ x < 10
theorem D10.nil : D10 [] := fun _ h => by cases h
theorem D10.snoc {xs : List Int} {x : Int} (h : D10 xs) (h0 : 0 ≤ x) (h1 : x < 10) : D10 (xs ++ [x]) := fun y hy => by
  rcases List.mem_append.1 hy with hy | hy
  · exact h y hy
  · obtain rfl : y = x := by simpa using hy
    exact ⟨h0, h1⟩
theorem D10.take {xs : List Int} (h : D10 xs) (n : Nat) : D10 (xs.take n) := fun y hy => h y (List.mem_of_mem_take hy)
theorem D10.getD {xs : List Int} (h : D10 xs) (i : Nat) : 0 ≤ xs.getD i 0 ∧ xs.getD i 0 < 10 := by
  by_cases hi : i < xs.length
  · rw [List.getD_eq_getElem?_getD, List.getElem?_eq_getElem hi]
    exact h _ (List.getElem_mem hi)
  · rw [List.getD_eq_getElem?_getD, List.getElem?_eq_none (by omega)]
    simp
theorem dv_app : ∀ (xs ys : List Int), dv (xs ++ ys) = dv xs + 10 ^ xs.length * dv ys
  | [], ys => by simp [dv]
  | x :: xs, ys => by
    simp only [List.cons_append, dv, dv_app xs ys, List.length_cons, Int.pow_succ]
    rw [Int.mul_add, Int.mul_comm (10 ^ xs.length) 10, ← Int.mul_assoc]
    omega
theorem dv_snoc (xs : List Int) (x : Int) : dv (xs ++ [x]) = dv xs + 10 ^ xs.length * x := by
  rw [dv_app]
  simp [dv]
theorem take_snoc (xs : List Int) (i : Nat) (h : i < xs.length) : xs.take (i + 1) = xs.take i ++ [xs.getD i 0] := by
  rw [List.take_succ_eq_append_getElem h]
  simp [List.getElem?_eq_getElem h]
theorem dv_take (xs : List Int) (i : Nat) (h : i < xs.length) : dv (xs.take (i + 1)) = dv (xs.take i) + 10 ^ i * xs.getD i 0 := by
  rw [take_snoc xs i h, dv_snoc]
  have e : (xs.take i).length = i := by simp; omega
  rw [e]
theorem dv_nonneg : ∀ {xs : List Int}, D10 xs → 0 ≤ dv xs
  | [], _ => by simp [dv]
  | x :: xs, h => by
    have := dv_nonneg (xs := xs) (fun y hy => h y (by simp [hy]))
    have := h x (by simp)
    simp only [dv]; omega
theorem dv_lt : ∀ {xs : List Int}, D10 xs → dv xs < 10 ^ xs.length
  | [], _ => by simp [dv]
  | x :: xs, h => by
    have := dv_lt (xs := xs) (fun y hy => h y (by simp [hy]))
    have := h x (by simp)
    simp only [dv, List.length_cons, Int.pow_succ]; omega
theorem pow9 (i : Nat) : (10 : Int) ^ (9 * i) = 1000000000 ^ i := by
  rw [Int.pow_mul]
  rfl

/-- In the midst of a limb: i limbs are told, and k digits of the next; x is what is left of it. -/
def TextAt (xs ds : List Int) (i k : Nat) (x : Int) : Prop :=
  ds.length = 9 * i + k ∧ D10 ds ∧ 0 ≤ x ∧ x < 10 ^ (9 - k) ∧ dv ds + 10 ^ (9 * i + k) * x = lv (xs.take (i + 1))
def LimbsTold (xs ds : List Int) (i : Nat) : Prop := ds.length = 9 * i ∧ D10 ds ∧ dv ds = lv (xs.take i)
theorem LimbsTold.start (xs : List Int) : LimbsTold xs [] 0 := ⟨rfl, D10.nil, by simp [dv, lv]⟩
theorem LimbsTold.next {xs ds : List Int} {i : Nat} (h : LimbsTold xs ds i) (hl : Lim xs) : TextAt xs ds i 0 (xs.getD i 0) := by
  obtain ⟨h1, h2, h3⟩ := h
  have hx := hl.getD i
  refine ⟨h1, h2, hx.1, hx.2, ?_⟩
  rw [h3, lv_take_getD, Nat.add_zero, pow9]
theorem TextAt.step {xs ds : List Int} {i k : Nat} {x : Int} (h : TextAt xs ds i k x) (hk : k < 9) : TextAt xs (ds ++ [x % 10]) i (k + 1) (x / 10) := by
  obtain ⟨h1, h2, h3, h4, h5⟩ := h
  refine ⟨by simp; omega, h2.snoc (by omega) (by omega), by omega, ?_, ?_⟩
  · have e : 9 - k = (9 - (k + 1)) + 1 := by omega
    rw [e, Int.pow_succ] at h4
    omega
  · rw [dv_snoc, h1, ← h5, show 9 * i + (k + 1) = (9 * i + k) + 1 from rfl, Int.pow_succ]
    generalize (10 : Int) ^ (9 * i + k) = p
    have e3 : x % 10 + 10 * (x / 10) = x := Int.emod_add_mul_ediv _ _
    generalize x % 10 = r at *
    generalize x / 10 = q at *
    subst e3
    simp only [Int.mul_add, Int.mul_comm, Int.mul_left_comm]
    omega
theorem TextAt.done {xs ds : List Int} {i : Nat} {x : Int} (h : TextAt xs ds i 9 x) : LimbsTold xs ds (i + 1) := by
  obtain ⟨h1, h2, h3, h4, h5⟩ := h
  have : x = 0 := by simp at h4; omega
  subst this
  exact ⟨by omega, h2, by simpa using h5⟩

/-- The digits of a number above 0, the lowest first, the highest not 0. -/
def Digs (ds : List Int) (u : Int) : Prop := D10 ds ∧ dv ds = u ∧ 0 < ds.length ∧ ds.getD (ds.length - 1) 0 ≠ 0
theorem trim_zero {ds : List Int} {j : Nat} (hj : j < ds.length) (hz : ds.getD j 0 = 0) : dv (ds.take (j + 1)) = dv (ds.take j) := by
  rw [dv_take ds j hj, hz]; simp
theorem Digs.of {ds : List Int} {j : Nat} {u : Int} (h : D10 ds) (hj : j < ds.length) (hz : ds.getD j 0 ≠ 0) (hv : dv (ds.take (j + 1)) = u) : Digs (ds.take (j + 1)) u := by
  have e : (ds.take (j + 1)).length = j + 1 := by simp; omega
  refine ⟨h.take _, hv, by omega, ?_⟩
  rw [e]
  simp only [Nat.add_sub_cancel, List.getD_eq_getElem?_getD, List.getElem?_take, Nat.lt_succ_self, if_true] at *
  exact hz
theorem Digs.ge {ds : List Int} {u : Int} (h : Digs ds u) : 10 ^ (ds.length - 1) ≤ u := by
  obtain ⟨h1, h2, h3, h4⟩ := h
  have e := dv_take ds (ds.length - 1) (by omega)
  rw [show ds.length - 1 + 1 = ds.length by omega, List.take_length] at e
  have h5 := dv_nonneg (h1.take (ds.length - 1))
  have h6 := h1.getD (ds.length - 1)
  have hp : (0 : Int) < 10 ^ (ds.length - 1) := Int.pow_pos (by decide)
  have : (10 : Int) ^ (ds.length - 1) * 1 ≤ 10 ^ (ds.length - 1) * ds.getD (ds.length - 1) 0 := Int.mul_le_mul_of_nonneg_left (by omega) (by omega)
  omega
theorem Digs.lt {ds : List Int} {u : Int} (h : Digs ds u) : u < 10 ^ ds.length := by
  rw [← h.2.1]
  exact dv_lt h.1

/-- The bytes of digits. -/
def chr (d : Int) : UInt8 := UInt8.ofNat (48 + d).toNat
theorem chr_nat {d : Int} (h0 : -48 ≤ d) (h1 : d < 10) : ((chr d).toNat : Int) = 48 + d := by
  unfold chr
  rw [UInt8.toNat_ofNat']
  omega
/-- The text of a number: its sign, its digits from the highest on; "0" for 0. -/
def TextOf (l : List UInt8) (z : Int) : Prop :=
  (z = 0 ∧ l = [48]) ∨ ∃ ds, Digs ds (z.natAbs : Int) ∧ l = (if z < 0 then [45] else []) ++ ds.reverse.map chr

end Go.Proofs.YtkadkfmidlhedaaGreatDoor

namespace Go.Proofs.YtkadkfmidlhedaaGreatDoor

theorem ten_pow_pos (n : Nat) : 0 < 10 ^ n := Nat.pow_pos (by decide)

/-- How many digits; 0 has none. -/
def nd (a : Nat) : Nat := if h : a = 0 then 0 else nd (a / 10) + 1
termination_by a
decreasing_by omega

theorem nd_zero : nd 0 = 0 := by rw [nd]; simp
theorem nd_pos {a : Nat} (h : a ≠ 0) : nd a = nd (a / 10) + 1 := by rw [nd]; simp [h]
theorem nd_dig (a : Nat) : a < 10 ^ nd a ∧ (nd a = 0 ∨ 10 ^ (nd a - 1) ≤ a) := by
  induction a using Nat.strongRecOn with
  | ind a ih =>
    by_cases h : a = 0
    · subst h; rw [nd_zero]; simp
    · rw [nd_pos h]
      obtain ⟨h1, h2⟩ := ih (a / 10) (by omega)
      refine ⟨by rw [Nat.pow_succ]; omega, .inr ?_⟩
      rw [Nat.add_sub_cancel]
      by_cases h3 : a / 10 = 0
      · rw [h3, nd_zero]; simp; omega
      · have h4 : nd (a / 10) ≠ 0 := by rw [nd_pos h3]; omega
        have h5 := h2.resolve_left h4
        obtain ⟨m, hm⟩ : ∃ m, nd (a / 10) = m + 1 := ⟨nd (a / 10) - 1, by omega⟩
        rw [hm] at h5 ⊢
        rw [Nat.pow_succ]
        simp at h5
        omega
theorem pow10_le {i j : Nat} (h : i ≤ j) : 10 ^ i ≤ 10 ^ j := Nat.pow_le_pow_right (by decide) h
theorem pow10_lt_iff {i j : Nat} (h : 10 ^ i < 10 ^ j) : i < j := by
  by_cases e : i < j
  · exact e
  · have := pow10_le (show j ≤ i by omega); omega
theorem nd_eq {a k : Nat} (h1 : a < 10 ^ k) (h2 : k = 0 ∨ 10 ^ (k - 1) ≤ a) : nd a = k := by
  obtain ⟨h3, h4⟩ := nd_dig a
  have e1 : k ≤ nd a := by
    rcases h2 with h2 | h2
    · omega
    · have := pow10_lt_iff (i := k - 1) (j := nd a) (by omega)
      omega
  have e2 : nd a ≤ k := by
    rcases h4 with h4 | h4
    · omega
    · have := pow10_lt_iff (i := nd a - 1) (j := k) (by omega)
      omega
  omega
theorem nd_ge {a k : Nat} (h : 10 ^ k ≤ a) : k < nd a := pow10_lt_iff (Nat.lt_of_le_of_lt h (nd_dig a).1)
theorem nd_le {a k : Nat} (h : a < 10 ^ k) : nd a ≤ k := by
  rcases (nd_dig a).2 with h2 | h2
  · omega
  · have := pow10_lt_iff (i := nd a - 1) (j := k) (by omega)
    omega
theorem nd_lt {a k : Nat} (h : k < nd a) : 10 ^ k ≤ a := by
  rcases (nd_dig a).2 with h2 | h2
  · omega
  · exact Nat.le_trans (pow10_le (by omega)) h2

/-- What is cut off: nothing, below a half, a half, above a half, in units of the last digit that stays. -/
def restN (P cut : Nat) (more : Bool) : Nat :=
  if 10 ^ cut < 2 * (P % 10 ^ cut) ∨ (2 * (P % 10 ^ cut) = 10 ^ cut ∧ more = true) then 3
  else if 2 * (P % 10 ^ cut) = 10 ^ cut then 2
  else if 0 < P % 10 ^ cut ∨ more = true then 1 else 0
/-- Whether a mode goes one on. -/
def goesOn (mode : Nat) (odd : Bool) (rest : Nat) : Bool :=
  if mode = 0 then decide (rest = 3) || (decide (rest = 2) && odd) else if mode = 1 then decide (2 ≤ rest) else if mode = 2 then false else decide (rest ≠ 0)
def rndM (mode P cut : Nat) (more : Bool) : Nat := P / 10 ^ cut + if goesOn mode (decide (P / 10 ^ cut % 2 = 1)) (restN P cut more) = true then 1 else 0

/-- Noughts at the end go into the power of ten. -/
def strip (P : Nat) (e : Int) : Nat × Int := if h : P ≠ 0 ∧ P % 10 = 0 then strip (P / 10) (e + 1) else (P, e)
termination_by P
decreasing_by omega
theorem strip_ten {P : Nat} {e : Int} (h0 : P ≠ 0) (h : P % 10 = 0) : strip P e = strip (P / 10) (e + 1) := by rw [strip]; simp [h0, h]
theorem strip_stop {P : Nat} {e : Int} (h : P % 10 ≠ 0) : strip P e = (P, e) := by rw [strip]; simp [h]

/-- What is answered: whether it is one, and the decimal. -/
structure DR where
  ok : Bool
  neg : Bool
  d : Int
  e : Int

def fitR (neg : Bool) (P : Nat) (e : Int) : DR :=
  if P = 0 then ⟨true, false, 0, 0⟩
  else if 300 < (strip P e).2 then ⟨false, false, 0, 0⟩
  else if (strip P e).2 < -300 then ⟨true, false, 0, 0⟩
  else ⟨true, neg, (strip P e).1, (strip P e).2⟩
def putR (neg : Bool) (P : Nat) (e : Int) (more : Bool) : DR :=
  if 15 < nd P then fitR neg (rndM 0 P (nd P - 15) more) (e + ((nd P - 15 : Nat) : Int)) else fitR neg P e

theorem strip_pow (a : Nat) (ha : a % 10 ≠ 0) (m : Nat) (e : Int) : strip (a * 10 ^ m) e = (a, e + m) := by
  induction m generalizing e with
  | zero => rw [Nat.pow_zero, Nat.mul_one, strip_stop ha]; simp
  | succ m ih =>
    have h1 : a * 10 ^ (m + 1) = a * 10 ^ m * 10 := by rw [Nat.pow_succ, Nat.mul_assoc]
    have hp : 0 < a * 10 ^ m := Nat.mul_pos (by omega) (ten_pow_pos m)
    rw [h1, strip_ten (by omega) (by omega), Nat.mul_div_cancel _ (by decide), ih]
    congr 1
    omega
theorem strip_add (P : Nat) (e : Int) (k : Int) : strip P (e + k) = ((strip P e).1, (strip P e).2 + k) := by
  induction P using Nat.strongRecOn generalizing e with
  | ind P ih =>
    by_cases h : P ≠ 0 ∧ P % 10 = 0
    · rw [strip_ten h.1 h.2, strip_ten h.1 h.2, show e + k + 1 = e + 1 + k by omega, ih (P / 10) (by omega)]
    · rw [strip, dif_neg h, strip, dif_neg h]
theorem strip_scale (P : Nat) (m : Nat) (e : Int) (h0 : P ≠ 0) : strip (P * 10 ^ m) e = strip P (e + m) := by
  induction m generalizing e with
  | zero => simp
  | succ m ih =>
    have h1 : P * 10 ^ (m + 1) = P * 10 ^ m * 10 := by rw [Nat.pow_succ, Nat.mul_assoc]
    have hp : 0 < P * 10 ^ m := Nat.mul_pos (by omega) (ten_pow_pos m)
    rw [h1, strip_ten (by omega) (by omega), Nat.mul_div_cancel _ (by decide), ih]
    congr 1
    omega
theorem strip_le (P : Nat) (e : Int) : (strip P e).1 ≤ P ∧ e ≤ (strip P e).2 := by
  induction P using Nat.strongRecOn generalizing e with
  | ind P ih =>
    by_cases h : P ≠ 0 ∧ P % 10 = 0
    · rw [strip_ten h.1 h.2]
      have := ih (P / 10) (by omega) (e + 1)
      omega
    · rw [strip, dif_neg h]; simp
theorem strip_good (P : Nat) (e : Int) (h0 : P ≠ 0) : (strip P e).1 % 10 ≠ 0 := by
  induction P using Nat.strongRecOn generalizing e with
  | ind P ih =>
    by_cases h : P % 10 = 0
    · rw [strip_ten h0 h]
      exact ih (P / 10) (by omega) (e + 1) (by omega)
    · rw [strip_stop h]; exact h

/-- A digit more is cut. -/
theorem rest_step (P n : Nat) (more : Bool) :
    restN P (n + 1) more = restN (P / 10 ^ n) 1 (more || decide (P % 10 ^ n ≠ 0)) := by
  obtain ⟨T, hT⟩ : ∃ T, 10 ^ n = T := ⟨_, rfl⟩
  have hp : 0 < T := by rw [← hT]; exact ten_pow_pos n
  have e1 : P % 10 ^ (n + 1) = P % T + T * (P / T % 10) := by
    rw [Nat.pow_succ, hT, Nat.mod_mul]
  have e2 : (10 : Nat) ^ (n + 1) = T * 10 := by rw [Nat.pow_succ, hT]
  unfold restN
  rw [e1, e2, hT, Nat.pow_one]
  have hs := Nat.mod_lt P hp
  generalize P % T = s at *
  have hl : P / T % 10 < 10 := Nat.mod_lt _ (by decide)
  generalize P / T % 10 = l at *
  have e3 : l = 0 ∨ l = 1 ∨ l = 2 ∨ l = 3 ∨ l = 4 ∨ l = 5 ∨ l = 6 ∨ l = 7 ∨ l = 8 ∨ l = 9 := by omega
  have e4 : (more || decide (s ≠ 0)) = true ↔ more = true ∨ s ≠ 0 := by simp
  simp only [e4]
  clear e4
  clear e1 e2 hT hl
  cases more
  all_goals simp only [Bool.false_eq_true, and_true, and_false, or_true, true_or, or_false, false_or]
  all_goals rcases e3 with h | h | h | h | h | h | h | h | h | h <;> subst h <;> (repeat' split) <;> omega

end Go.Proofs.YtkadkfmidlhedaaGreatDoor

namespace Go.Proofs.YtkadkfmidlhedaaGreatDoor

theorem div_pow (N i j : Nat) : N / 10 ^ i / 10 ^ j = N / 10 ^ (i + j) := by rw [Nat.div_div_eq_div_mul, Nat.pow_add]
theorem mod_pow (N i j : Nat) : N % 10 ^ (i + j) = N % 10 ^ i + 10 ^ i * (N / 10 ^ i % 10 ^ j) := by rw [Nat.pow_add, Nat.mod_mul]
theorem mod_pow_zero (N i j : Nat) : N % 10 ^ (i + j) ≠ 0 ↔ N % 10 ^ i ≠ 0 ∨ N / 10 ^ i % 10 ^ j ≠ 0 := by
  rw [mod_pow]
  have hp := ten_pow_pos i
  by_cases h : N / 10 ^ i % 10 ^ j = 0
  · rw [h]; simp
  · have : 0 < 10 ^ i * (N / 10 ^ i % 10 ^ j) := Nat.mul_pos hp (by omega)
    constructor
    · intro _; exact .inr h
    · intro _; omega

theorem rest_steps (P j cut : Nat) (more : Bool) (hc : 1 ≤ cut) : restN P (j + cut) more = restN (P / 10 ^ j) cut (more || decide (P % 10 ^ j ≠ 0)) := by
  obtain ⟨c, rfl⟩ : ∃ c, cut = c + 1 := ⟨cut - 1, by omega⟩
  rw [show j + (c + 1) = (j + c) + 1 by omega, rest_step P (j + c), rest_step (P / 10 ^ j) c, div_pow P j c]
  congr 1
  have e := mod_pow_zero P j c
  rw [Bool.or_assoc]
  congr 1
  rw [Bool.eq_iff_iff]
  simp only [Bool.or_eq_true, decide_eq_true_eq]
  exact e
theorem rnd_steps (mode P j cut : Nat) (more : Bool) (hc : 1 ≤ cut) : rndM mode P (j + cut) more = rndM mode (P / 10 ^ j) cut (more || decide (P % 10 ^ j ≠ 0)) := by
  unfold rndM
  rw [rest_steps P j cut more hc, div_pow]

theorem nd_div (N j : Nat) : nd (N / 10 ^ j) = nd N - j := by
  induction j with
  | zero => simp
  | succ j ih =>
    rw [← div_pow N j 1, Nat.pow_one]
    by_cases h : N / 10 ^ j = 0
    · rw [h] at ih ⊢; simp only [Nat.zero_div, nd_zero] at *; omega
    · have := nd_pos h
      omega
/-- More digits than sixteen change nothing but whether there is more. -/
theorem put_refine (neg : Bool) (N j : Nat) (e : Int) (m : Bool) (h : 15 < nd (N / 10 ^ j)) : putR neg N e m = putR neg (N / 10 ^ j) (e + j) (m || decide (N % 10 ^ j ≠ 0)) := by
  have hn := nd_div N j
  unfold putR
  rw [if_pos h, if_pos (by omega), show nd N - 15 = j + (nd (N / 10 ^ j) - 15) by omega, rnd_steps _ _ _ _ _ (by omega)]
  congr 1
  omega
theorem nd_mul (P j : Nat) (h : P ≠ 0) : nd (P * 10 ^ j) = nd P + j := by
  have := nd_div (P * 10 ^ j) j
  rw [Nat.mul_div_cancel _ (ten_pow_pos j)] at this
  have h2 : 0 < nd P := by rw [nd_pos h]; omega
  omega
theorem rest_none {P c : Nat} (h : P % 10 ^ c = 0) : restN P c false = 0 := by
  have hp := ten_pow_pos c
  unfold restN
  rw [h, if_neg (by simp), if_neg (by omega), if_neg (by simp)]
theorem rest_below {P c : Nat} (h : 2 * (P % 10 ^ c) < 10 ^ c) : restN P c false ≤ 1 := by
  unfold restN
  rw [if_neg (by simp; omega), if_neg (by omega)]
  split <;> omega
theorem rest_above {P c : Nat} {m : Bool} (h : 10 ^ c < 2 * (P % 10 ^ c)) : restN P c m = 3 := by
  unfold restN
  rw [if_pos (.inl h)]
theorem goes_none (mode : Nat) (odd : Bool) (hm : mode ≤ 3) : goesOn mode odd 0 = false := by
  unfold goesOn
  have : mode = 0 ∨ mode = 1 ∨ mode = 2 ∨ mode = 3 := by omega
  rcases this with rfl | rfl | rfl | rfl <;> simp
theorem goes_below (odd : Bool) {r : Nat} (h : r ≤ 1) : goesOn 0 odd r = false := by
  unfold goesOn
  have : r = 0 ∨ r = 1 := by omega
  rcases this with rfl | rfl <;> simp
theorem rnd_exact (mode Q c : Nat) (hm : mode ≤ 3) : rndM mode (Q * 10 ^ c) c false = Q := by
  unfold rndM
  rw [rest_none (Nat.mul_mod_left _ _), Nat.mul_div_cancel _ (ten_pow_pos c), goes_none _ _ hm]
  simp
theorem fit_scale (neg : Bool) (P m : Nat) (e : Int) : fitR neg (P * 10 ^ m) e = fitR neg P (e + m) := by
  unfold fitR
  by_cases h : P = 0
  · subst h; simp
  · have : P * 10 ^ m ≠ 0 := by have := Nat.mul_pos (show 0 < P by omega) (ten_pow_pos m); omega
    rw [if_neg h, if_neg this, strip_scale P m e h]
/-- Noughts at the end change nothing. -/
theorem put_scale (neg : Bool) (P j : Nat) (e : Int) : putR neg (P * 10 ^ j) e false = putR neg P (e + j) false := by
  by_cases h0 : P = 0
  · subst h0
    simp [putR, nd_zero, fitR]
  · by_cases h : 15 < nd P
    · have := put_refine neg (P * 10 ^ j) j e false (by rw [Nat.mul_div_cancel _ (ten_pow_pos j)]; exact h)
      rw [this, Nat.mul_div_cancel _ (ten_pow_pos j), Nat.mul_mod_left]
      rfl
    · have hn := nd_mul P j h0
      unfold putR
      rw [if_neg h]
      by_cases h2 : 15 < nd (P * 10 ^ j)
      · rw [if_pos h2]
        obtain ⟨c, hc⟩ : ∃ c, nd (P * 10 ^ j) - 15 = c := ⟨_, rfl⟩
        obtain ⟨r, hr⟩ : ∃ r, j = r + c := ⟨j - c, by omega⟩
        have e1 : P * 10 ^ j = P * 10 ^ r * 10 ^ c := by rw [hr, Nat.pow_add, Nat.mul_assoc]
        rw [hc, e1, rnd_exact 0 _ _ (by decide), fit_scale]
        congr 1
        omega
      · rw [if_neg h2, fit_scale]

/-- A decimal that is good is put as it is. -/
theorem fit_good (neg : Bool) (d : Nat) (e : Int) (h : d % 10 ≠ 0) (e0 : -300 ≤ e) (e1 : e ≤ 300) : fitR neg d e = ⟨true, neg, d, e⟩ := by
  unfold fitR
  rw [if_neg (by omega), strip_stop h]
  simp only
  rw [if_neg (by omega), if_neg (by omega)]
theorem put_good (neg : Bool) (d : Nat) (e : Int) (h : d % 10 ≠ 0) (hd : d < 1000000000000000) (e0 : -300 ≤ e) (e1 : e ≤ 300) : putR neg d e false = ⟨true, neg, d, e⟩ := by
  unfold putR
  rw [if_neg (by have := nd_le (a := d) (k := 15) (by omega); omega), fit_good neg d e h e0 e1]

theorem rnd_near_up (Q b c : Nat) (h : 2 * b < 10 ^ c) : rndM 0 (Q * 10 ^ c + b) c false = Q := by
  have hp := ten_pow_pos c
  have e1 : (Q * 10 ^ c + b) / 10 ^ c = Q := by rw [Nat.mul_comm, Nat.mul_add_div hp, Nat.div_eq_of_lt (by omega)]; omega
  have e2 : (Q * 10 ^ c + b) % 10 ^ c = b := by rw [Nat.mul_comm, Nat.mul_add_mod, Nat.mod_eq_of_lt (by omega)]
  unfold rndM
  rw [e1, goes_below _ (rest_below (by rw [e2]; exact h))]
  simp
theorem rnd_near_down (Q b c : Nat) (hb : 0 < b) (h : 2 * b < 10 ^ c) (hQ : 0 < Q) : rndM 0 (Q * 10 ^ c - b) c false = Q := by
  have hp := ten_pow_pos c
  obtain ⟨q, rfl⟩ : ∃ q, Q = q + 1 := ⟨Q - 1, by omega⟩
  have e0 : (q + 1) * 10 ^ c - b = q * 10 ^ c + (10 ^ c - b) := by rw [Nat.add_mul]; omega
  rw [e0]
  have e1 : (q * 10 ^ c + (10 ^ c - b)) / 10 ^ c = q := by rw [Nat.mul_comm, Nat.mul_add_div hp, Nat.div_eq_of_lt (by omega)]; omega
  have e2 : (q * 10 ^ c + (10 ^ c - b)) % 10 ^ c = 10 ^ c - b := by rw [Nat.mul_comm, Nat.mul_add_mod, Nat.mod_eq_of_lt (by omega)]
  unfold rndM
  rw [e1, rest_above (by rw [e2]; omega)]
  simp [goesOn]

theorem far_pow : (10 : Nat) ^ 37 = 10000000000000000000000000000000000000 ∧ (10 : Nat) ^ 38 = 100000000000000000000000000000000000000 ∧ (10 : Nat) ^ 16 = 10000000000000000 := by decide
/-- A sum of what lies far apart. -/
theorem put_far (neg minus : Bool) (a b m : Nat) (e : Int) (ha : a % 10 ≠ 0) (ha1 : a < 1000000000000000) (hb : 0 < b) (hb1 : b < 1000000000000000) (hm : 38 < nd a + m) (e0 : -300 ≤ e + m) (e1 : e + m ≤ 300) :
    putR neg (if minus then a * 10 ^ m - b else a * 10 ^ m + b) e false = ⟨true, neg, a, e + m⟩ := by
  have na := nd_mul a m (by omega)
  have n15 := nd_le (a := a) (k := 15) (by omega)
  obtain ⟨A, hA⟩ : ∃ A, a * 10 ^ m = A := ⟨_, rfl⟩
  obtain ⟨f1, f2, f3⟩ := far_pow
  have A38 : 10 ^ 38 ≤ A := by rw [← hA]; exact nd_lt (by omega)
  obtain ⟨X, hX⟩ : ∃ X, (if minus then A - b else A + b) = X := ⟨_, rfl⟩
  have Xlo : 10 ^ 37 ≤ X := by rw [← hX]; split <;> omega
  have nlo := nd_ge Xlo
  have nhi : nd X ≤ nd a + m := by
    apply nd_le
    have h1 : (a + 1) * 10 ^ m ≤ 10 ^ nd a * 10 ^ m := Nat.mul_le_mul_right _ (nd_dig a).1
    rw [← Nat.pow_add, Nat.add_mul, hA] at h1
    have h2 : 10 ^ 16 ≤ 10 ^ m := pow10_le (by omega)
    have := ten_pow_pos m
    rw [← hX]; split <;> omega
  obtain ⟨c, hc⟩ : ∃ c, nd X - 15 = c := ⟨_, rfl⟩
  obtain ⟨r, hr⟩ : ∃ r, m = r + c := ⟨m - c, by omega⟩
  have c16 : 10 ^ 16 ≤ 10 ^ c := pow10_le (by omega)
  have hQ : A = a * 10 ^ r * 10 ^ c := by rw [← hA, hr, Nat.pow_add, Nat.mul_assoc]
  have Qp : 0 < a * 10 ^ r := Nat.mul_pos (by omega) (ten_pow_pos r)
  have hR : rndM 0 X c false = a * 10 ^ r := by
    rw [← hX, hQ]
    cases minus
    · exact rnd_near_up _ _ _ (by omega)
    · exact rnd_near_down _ _ _ hb (by omega) Qp
  rw [hA, hX]
  unfold putR
  rw [if_pos (by omega), hc, hR, fit_scale, show e + (c : Int) + (r : Int) = e + (m : Int) by omega, fit_good neg a _ ha e0 e1]

/-- A quotient with more places. -/
theorem div_refine (y T B : Nat) (hT : 0 < T) : y * T / B / T = y / B ∧ ((y * T % B ≠ 0 ∨ y * T / B % T ≠ 0) ↔ y % B ≠ 0) := by
  refine ⟨by rw [Nat.div_div_eq_div_mul, Nat.mul_div_mul_right _ _ hT], ?_⟩
  have h1 : y * T % (B * T) = y % B * T := Nat.mul_mod_mul_right _ _ _
  rw [Nat.mod_mul] at h1
  by_cases h : y % B = 0
  · rw [h, Nat.zero_mul] at h1
    constructor
    · intro h2
      by_cases hB : B = 0
      · subst hB; simp at h; subst h; simp at h2
      · rcases h2 with h2 | h2
        · omega
        · have : 0 < B * (y * T / B % T) := Nat.mul_pos (by omega) (by omega)
          omega
    · intro h2; exact absurd h h2
  · have h3 : 0 < y % B * T := Nat.mul_pos (by omega) hT
    constructor
    · intro _; exact h
    · intro _
      by_cases h4 : y * T % B = 0
      · right
        intro h5
        rw [h4, h5] at h1
        simp at h1
        omega
      · exact .inl h4
theorem put_div (neg : Bool) (A B u v : Nat) (e : Int) (h : 15 < nd (A * 10 ^ u / B)) (huv : u ≤ v) :
    putR neg (A * 10 ^ v / B) (e - v) (decide (A * 10 ^ v % B ≠ 0)) = putR neg (A * 10 ^ u / B) (e - u) (decide (A * 10 ^ u % B ≠ 0)) := by
  obtain ⟨j, rfl⟩ : ∃ j, v = u + j := ⟨v - u, by omega⟩
  have e1 : A * 10 ^ (u + j) = A * 10 ^ u * 10 ^ j := by rw [Nat.pow_add, Nat.mul_assoc]
  obtain ⟨d1, d2⟩ := div_refine (A * 10 ^ u) (10 ^ j) B (ten_pow_pos j)
  rw [e1, put_refine neg _ j _ _ (by rw [d1]; exact h), d1]
  congr 1
  · omega
  · rw [Bool.eq_iff_iff]
    simp only [Bool.or_eq_true, decide_eq_true_eq]
    exact d2

/-- A root with more places. -/
def IsRoot (r x : Nat) : Prop := r * r ≤ x ∧ x < (r + 1) * (r + 1)
theorem sq_lt {a b : Nat} (h : a * a < b * b) : a < b := by
  by_cases e : a < b
  · exact e
  · have := Nat.mul_le_mul (show b ≤ a by omega) (show b ≤ a by omega); omega
theorem IsRoot.uniq {r s x : Nat} (h : IsRoot r x) (k : IsRoot s x) : r = s := by
  have h1 := sq_lt (show r * r < (s + 1) * (s + 1) from Nat.lt_of_le_of_lt h.1 k.2)
  have h2 := sq_lt (show s * s < (r + 1) * (r + 1) from Nat.lt_of_le_of_lt k.1 h.2)
  omega
theorem sqrt_refine {R N X T : Nat} (hT : 0 < T) (hR : IsRoot R X) (hN : IsRoot N (X * (T * T))) : N / T = R ∧ ((N * N ≠ X * (T * T) ∨ N % T ≠ 0) ↔ R * R ≠ X) := by
  have e1 : N / T = R := by
    apply IsRoot.uniq (x := X) _ hR
    obtain ⟨n1, n2⟩ := hN
    obtain ⟨q, hq⟩ : ∃ q, N / T = q := ⟨_, rfl⟩
    have h1 : q * T ≤ N := by rw [← hq]; exact Nat.div_mul_le_self _ _
    have h2 : N < (q + 1) * T := by rw [← hq, Nat.mul_comm]; exact Nat.lt_mul_div_succ N hT
    rw [hq]
    constructor
    · have := Nat.mul_le_mul h1 h1
      have h3 : q * q * (T * T) ≤ X * (T * T) := by
        rw [show q * q * (T * T) = q * T * (q * T) by rw [Nat.mul_mul_mul_comm]]; omega
      exact Nat.le_of_mul_le_mul_right h3 (Nat.mul_pos hT hT)
    · have := Nat.mul_le_mul (show N + 1 ≤ (q + 1) * T from h2) (show N + 1 ≤ (q + 1) * T from h2)
      have h3 : X * (T * T) < (q + 1) * (q + 1) * (T * T) := by
        rw [show (q + 1) * (q + 1) * (T * T) = (q + 1) * T * ((q + 1) * T) by rw [Nat.mul_mul_mul_comm]]; omega
      exact Nat.lt_of_mul_lt_mul_right h3
  refine ⟨e1, ?_⟩
  have e2 := Nat.div_add_mod N T
  rw [e1] at e2
  by_cases hx : R * R = X
  · have hN' : IsRoot (T * R) (X * (T * T)) := by
      rw [← hx, show R * R * (T * T) = T * R * (T * R) by rw [Nat.mul_mul_mul_comm, Nat.mul_comm R T]]
      exact ⟨Nat.le_refl _, by rw [Nat.mul_add, Nat.add_mul]; omega⟩
    have := hN.uniq hN'
    constructor
    · intro h
      rcases h with h | h
      · exfalso; apply h
        rw [this, ← hx, show R * R * (T * T) = T * R * (T * R) by rw [Nat.mul_mul_mul_comm, Nat.mul_comm R T]]
      · omega
    · intro h; exact absurd hx h
  · constructor
    · intro _; exact hx
    · intro _
      by_cases hm : N % T = 0
      · left
        intro h
        rw [hm, Nat.add_zero] at e2
        rw [← e2, show T * R * (T * R) = R * R * (T * T) by rw [Nat.mul_comm T R, Nat.mul_mul_mul_comm]] at h
        exact hx (Nat.eq_of_mul_eq_mul_right (Nat.mul_pos hT hT) h)
      · exact .inr hm
theorem put_root {R N X j : Nat} (neg : Bool) (e : Int) (hR : IsRoot R X) (hN : IsRoot N (X * (10 ^ j * 10 ^ j))) (h : 15 < nd R) :
    putR neg N (e - j) (decide (N * N ≠ X * (10 ^ j * 10 ^ j))) = putR neg R e (decide (R * R ≠ X)) := by
  obtain ⟨d1, d2⟩ := sqrt_refine (ten_pow_pos j) hR hN
  rw [put_refine neg N j _ _ (by rw [d1]; exact h), d1]
  congr 1
  · omega
  · rw [Bool.eq_iff_iff]
    simp only [Bool.or_eq_true, decide_eq_true_eq]
    exact d2

end Go.Proofs.YtkadkfmidlhedaaGreatDoor

namespace Go.Proofs.YtkadkfmidlhedaaGreatDoor

/-- In the search of half a quotient: Y = a * 2^32 + b, what is divided is u * 2^32 + n. -/
def HalfAt (a b u n q r : Int) : Prop :=
  q * a + r = u ∧ (∀ t, 0 ≤ t → t * (a * 4294967296 + b) ≤ u * 4294967296 + n → t ≤ q) ∧ 0 ≤ q ∧ q ≤ 4294967297 ∧ 0 ≤ r ∧ r < 4294967296
/-- What the search ends with. -/
def HalfDone (a b u n q : Int) : Prop := q = (u * 4294967296 + n) / (a * 4294967296 + b) ∧ 0 ≤ q ∧ q < 4294967296
def HalfIn (a b u n : Int) : Prop := 2147483648 ≤ a ∧ a < 4294967296 ∧ 0 ≤ b ∧ b < 4294967296 ∧ 0 ≤ u ∧ u < a * 4294967296 + b ∧ 0 ≤ n ∧ n < 4294967296

theorem HalfAt.start {a b u n : Int} (h : HalfIn a b u n) : HalfAt a b u n (u / a) (u % a) := by
  obtain ⟨a0, a1, b0, b1, u0, u1, n0, n1⟩ := h
  have hq : 0 ≤ u / a := Int.ediv_nonneg u0 (by omega)
  refine ⟨by rw [Int.mul_comm]; exact Int.mul_ediv_add_emod u a, ?_, hq, ?_, Int.emod_nonneg _ (by omega), Int.lt_trans (Int.emod_lt_of_pos _ (by omega)) a1⟩
  · intro t t0 ht
    refine (Int.le_ediv_iff_mul_le (by omega)).2 ?_
    have h1 : t * (a * 4294967296 + b) = t * a * 4294967296 + t * b := by rw [Int.mul_add, Int.mul_assoc]
    have h2 : 0 ≤ t * b := Int.mul_nonneg t0 b0
    generalize t * a = p at *
    omega
  · have h3 : u / a < 4294967298 := by
      refine (Int.ediv_lt_iff_lt_mul (by omega)).2 ?_
      omega
    omega
theorem HalfAt.pos {a b u n q r : Int} (h : HalfAt a b u n q r) (hi : HalfIn a b u n) (hc : 4294967296 ≤ q ∨ r * 4294967296 + n < q * b) : 1 ≤ q := by
  obtain ⟨h1, h2, h3, h4, h5, h6⟩ := h
  by_cases e : q = 0
  · subst e
    have := hi.2.2.2.2.2.2.1
    simp at hc
    omega
  · omega
theorem half_top {a b u n t : Int} (hi : HalfIn a b u n) (ht : t * (a * 4294967296 + b) ≤ u * 4294967296 + n) : t < 4294967296 := by
  obtain ⟨a0, a1, b0, b1, u0, u1, n0, n1⟩ := hi
  by_cases e : t < 4294967296
  · exact e
  · have h1 : 4294967296 * (a * 4294967296 + b) ≤ t * (a * 4294967296 + b) := Int.mul_le_mul_of_nonneg_right (by omega) (by omega)
    generalize t * (a * 4294967296 + b) = p at *
    omega
/-- One taken off. -/
theorem HalfAt.less {a b u n q r : Int} (h : HalfAt a b u n q r) (hi : HalfIn a b u n) (hc : 4294967296 ≤ q ∨ r * 4294967296 + n < q * b) : (q - 1) * a + (r + a) = u ∧ ∀ t, 0 ≤ t → t * (a * 4294967296 + b) ≤ u * 4294967296 + n → t ≤ q - 1 := by
  obtain ⟨h1, h2, h3, h4, h5, h6⟩ := h
  refine ⟨by rw [Int.sub_mul]; omega, ?_⟩
  intro t t0 ht
  have := h2 t t0 ht
  by_cases e : t = q
  · subst e
    exfalso
    rcases hc with hc | hc
    · have := half_top hi ht; omega
    · have e1 : t * (a * 4294967296 + b) = t * a * 4294967296 + t * b := by rw [Int.mul_add, Int.mul_assoc]
      generalize t * a = p at *
      generalize t * b = s at *
      omega
  · omega
theorem half_done {a b u n q : Int} (hi : HalfIn a b u n) (q0 : 0 ≤ q) (hub : ∀ t, 0 ≤ t → t * (a * 4294967296 + b) ≤ u * 4294967296 + n → t ≤ q) (hle : q * (a * 4294967296 + b) ≤ u * 4294967296 + n) : HalfDone a b u n q := by
  refine ⟨?_, q0, half_top hi hle⟩
  obtain ⟨a0, a1, b0, b1, u0, u1, n0, n1⟩ := hi
  have hY : 0 < a * 4294967296 + b := by omega
  have h1 : q ≤ (u * 4294967296 + n) / (a * 4294967296 + b) := (Int.le_ediv_iff_mul_le hY).2 hle
  have h2 := hub ((u * 4294967296 + n) / (a * 4294967296 + b)) (by omega) (Int.ediv_mul_le _ (by omega))
  omega
theorem HalfAt.stop {a b u n q r : Int} (h : HalfAt a b u n q r) (hi : HalfIn a b u n) (hc : ¬ (r * 4294967296 + n < q * b)) : HalfDone a b u n q := by
  obtain ⟨h1, h2, h3, h4, h5, h6⟩ := h
  refine half_done hi h3 h2 ?_
  have e1 : q * (a * 4294967296 + b) = q * a * 4294967296 + q * b := by rw [Int.mul_add, Int.mul_assoc]
  generalize q * a = p at *
  generalize q * b = s at *
  omega
theorem HalfAt.next {a b u n q r : Int} (h : HalfAt a b u n q r) (hi : HalfIn a b u n) (hc : 4294967296 ≤ q ∨ r * 4294967296 + n < q * b) (hr : r + a < 4294967296) : HalfAt a b u n (q - 1) (r + a) := by
  have hp := h.pos hi hc
  obtain ⟨l1, l2⟩ := h.less hi hc
  have := hi.1
  have h3 := h.2.2.2
  exact ⟨l1, l2, by omega, by omega, by omega, hr⟩
theorem HalfAt.last {a b u n q r : Int} (h : HalfAt a b u n q r) (hi : HalfIn a b u n) (hc : 4294967296 ≤ q ∨ r * 4294967296 + n < q * b) (hr : 4294967296 ≤ r + a) : HalfDone a b u n (q - 1) := by
  have hp := h.pos hi hc
  obtain ⟨l1, l2⟩ := h.less hi hc
  refine half_done hi (by omega) l2 ?_
  obtain ⟨a0, a1, b0, b1, u0, u1, n0, n1⟩ := hi
  have h4 := h.2.2.2.1
  have e1 : (q - 1) * (a * 4294967296 + b) = (q - 1) * a * 4294967296 + (q - 1) * b := by rw [Int.mul_add, Int.mul_assoc]
  have e2 : (q - 1) * b ≤ 4294967296 * b := Int.mul_le_mul_of_nonneg_right (by omega) b0
  generalize (q - 1) * a = p at *
  generalize (q - 1) * b = s at *
  omega

/-- The rest of one half. -/
theorem HalfDone.rest {a b u n q : Int} (h : HalfDone a b u n q) (hi : HalfIn a b u n) : 0 ≤ u * 4294967296 + n - q * (a * 4294967296 + b) ∧ u * 4294967296 + n - q * (a * 4294967296 + b) < a * 4294967296 + b := by
  obtain ⟨rfl, _, _⟩ := h
  obtain ⟨a0, a1, b0, b1, u0, u1, n0, n1⟩ := hi
  have hY : 0 < a * 4294967296 + b := by omega
  have e := Int.mul_ediv_add_emod (u * 4294967296 + n) (a * 4294967296 + b)
  have := Int.emod_nonneg (u * 4294967296 + n) (b := a * 4294967296 + b) (by omega)
  have := Int.emod_lt_of_pos (u * 4294967296 + n) hY
  rw [Int.mul_comm] at e
  omega

/-- The whole: two halves, and the shift taken back. -/
theorem div_halves {V y S a b u n1 n0 q1 q0 u' : Int} (hS : 0 < S) (hy : 0 < y) (hY : y * S = a * 4294967296 + b) (hU : V * S = u * 18446744073709551616 + n1 * 4294967296 + n0)
    (hu' : u' = u * 4294967296 + n1 - q1 * (a * 4294967296 + b)) (hi' : HalfIn a b u' n0) (h2 : HalfDone a b u' n0 q0) :
    q1 * 4294967296 + q0 = V / y ∧ (u' * 4294967296 + n0 - q0 * (a * 4294967296 + b)) / S = V % y := by
  obtain ⟨r0, r1⟩ := h2.rest hi'
  obtain ⟨R, hR⟩ : ∃ R, u' * 4294967296 + n0 - q0 * (a * 4294967296 + b) = R := ⟨_, rfl⟩
  rw [hR] at r0 r1 ⊢
  rw [← hY] at hu' hR r1
  have e1 : V * S = (q1 * 4294967296 + q0) * y * S + R := by
    rw [hU, ← hR, hu', Int.add_mul, Int.add_mul, Int.mul_assoc q0 y S, Int.mul_right_comm q1 4294967296 y, Int.mul_right_comm (q1 * y) 4294967296 S, Int.mul_assoc q1 y S]
    generalize q1 * (y * S) = p1
    generalize q0 * (y * S) = p0
    omega
  have e2 : (V - (q1 * 4294967296 + q0) * y) * S = R := by rw [Int.sub_mul]; omega
  obtain ⟨r, hr⟩ : ∃ r, V - (q1 * 4294967296 + q0) * y = r := ⟨_, rfl⟩
  rw [hr] at e2
  have r2 : 0 ≤ r := by
    by_cases h : 0 ≤ r
    · exact h
    · have : r * S ≤ -1 * S := Int.mul_le_mul_of_nonneg_right (by omega) (by omega)
      omega
  have r3 : r < y := (Int.mul_lt_mul_right hS).1 (by omega)
  have e3 : V = r + y * (q1 * 4294967296 + q0) := by rw [Int.mul_comm y]; omega
  constructor
  · rw [e3, Int.add_mul_ediv_left _ _ (by omega), Int.ediv_eq_zero_of_lt r2 r3]; omega
  · rw [e3, Int.add_mul_emod_self_left, Int.emod_eq_of_lt r2 r3, ← e2, Int.mul_ediv_cancel _ (by omega)]

/-- What the shift makes of the arguments. -/
theorem div64_in {hi lo y n s : Nat} (hns : n + s = 64) (hn : 1 ≤ n) (h1 : hi < y) (yl : 2 ^ (n - 1) ≤ y) (yu : y < 2 ^ n) (l1 : lo < 18446744073709551616) :
    9223372036854775808 ≤ y * 2 ^ s ∧ y * 2 ^ s < 18446744073709551616 ∧ hi * 2 ^ s < 18446744073709551616 ∧ (hi * 2 ^ s ||| lo / 2 ^ n) = hi * 2 ^ s + lo / 2 ^ n ∧ hi * 2 ^ s + lo / 2 ^ n < y * 2 ^ s ∧
      (hi * 18446744073709551616 + lo) * 2 ^ s = (hi * 2 ^ s + lo / 2 ^ n) * 18446744073709551616 + lo * 2 ^ s % 18446744073709551616 := by
  have e1 : 2 ^ n * 2 ^ s = 18446744073709551616 := by rw [← Nat.pow_add, hns]
  have e2 : 2 ^ (n - 1) * 2 ^ s = 9223372036854775808 := by rw [← Nat.pow_add, show n - 1 + s = 63 by omega]
  have hT : 0 < 2 ^ s := Nat.pow_pos (by decide)
  have hN : 0 < 2 ^ n := Nat.pow_pos (by decide)
  have a1 : 2 ^ (n - 1) * 2 ^ s ≤ y * 2 ^ s := Nat.mul_le_mul_right _ yl
  have a2 : y * 2 ^ s < 2 ^ n * 2 ^ s := Nat.mul_lt_mul_of_pos_right yu hT
  have a3 : (hi + 1) * 2 ^ s ≤ y * 2 ^ s := Nat.mul_le_mul_right _ h1
  rw [Nat.add_mul, Nat.one_mul] at a3
  have a4 : lo / 2 ^ n < 2 ^ s := Nat.div_lt_of_lt_mul (by rw [e1]; exact l1)
  refine ⟨by omega, by omega, by omega, ?_, by omega, ?_⟩
  · rw [Nat.mul_comm hi]
    exact (Nat.two_pow_add_eq_or_of_lt a4 hi).symm
  · have a5 := Nat.div_add_mod lo (2 ^ n)
    have a6 := Nat.mod_lt lo hN
    have a7 : lo % 2 ^ n * 2 ^ s < 2 ^ n * 2 ^ s := Nat.mul_lt_mul_of_pos_right a6 hT
    have a8 : lo * 2 ^ s = lo / 2 ^ n * 18446744073709551616 + lo % 2 ^ n * 2 ^ s := by
      rw [← e1, ← Nat.mul_assoc, ← Nat.add_mul, Nat.mul_comm (lo / 2 ^ n)]
      rw [a5]
    have a9 : lo * 2 ^ s % 18446744073709551616 = lo % 2 ^ n * 2 ^ s := by rw [a8]; omega
    rw [a9, Nat.add_mul, a8, Nat.add_mul, Nat.mul_right_comm]
    omega

end Go.Proofs.YtkadkfmidlhedaaGreatDoor

namespace Go.Proofs.YtkadkfmidlhedaaGreatDoor

theorem dv_step (ds : List Int) (hi k : Nat) (h1 : k < hi) (h2 : hi ≤ ds.length) : dv ((ds.take hi).drop k) = dv ((ds.take hi).drop (k + 1)) * 10 + ds.getD k 0 := by
  have hl : k < (ds.take hi).length := by simp; omega
  rw [List.drop_eq_getElem_cons hl]
  simp only [dv, List.getElem_take]
  simp [show k < ds.length by omega]
  omega
theorem D10.drop {xs : List Int} (h : D10 xs) (n : Nat) : D10 (xs.drop n) := fun y hy => h y (List.mem_of_mem_drop hy)
theorem dv_part {ds : List Int} (h : D10 ds) (hi k : Nat) (hk : hi ≤ k + 9) : 0 ≤ dv ((ds.take hi).drop k) ∧ dv ((ds.take hi).drop k) < 1000000000 := by
  refine ⟨dv_nonneg ((h.take hi).drop k), ?_⟩
  have h1 := dv_lt ((h.take hi).drop k)
  have h2 : ((ds.take hi).drop k).length ≤ 9 := by simp; omega
  have h3 : (10 : Int) ^ ((ds.take hi).drop k).length ≤ 10 ^ 9 := by
    have := Nat.pow_le_pow_right (n := 10) (by decide) h2
    exact_mod_cast this
  have h4 : (10 : Int) ^ 9 = 1000000000 := by decide
  omega
theorem dv_part8 {ds : List Int} (h : D10 ds) (hi k : Nat) (hk : hi ≤ k + 8) : 0 ≤ dv ((ds.take hi).drop k) ∧ dv ((ds.take hi).drop k) < 100000000 := by
  refine ⟨dv_nonneg ((h.take hi).drop k), ?_⟩
  have h1 := dv_lt ((h.take hi).drop k)
  have h2 : ((ds.take hi).drop k).length ≤ 8 := by simp; omega
  have h3 : (10 : Int) ^ ((ds.take hi).drop k).length ≤ 10 ^ 8 := by
    have := Nat.pow_le_pow_right (n := 10) (by decide) h2
    exact_mod_cast this
  have h4 : (10 : Int) ^ 8 = 100000000 := by decide
  omega

/-- So many limbs are read. -/
def ReadAt (ds xs : List Int) (m : Nat) : Prop := xs.length = m ∧ Lim xs ∧ lv xs = dv (ds.take (9 * m))
theorem ReadAt.start (ds : List Int) : ReadAt ds [] 0 := ⟨rfl, Lim.nil, by simp [dv, lv]⟩
theorem ReadAt.step {ds xs : List Int} {m hi : Nat} (h : ReadAt ds xs m) (hd : D10 ds) (hlo : 9 * m < ds.length) (hhi : hi = min (9 * m + 9) ds.length) : ReadAt ds (xs ++ [dv ((ds.take hi).drop (9 * m))]) (m + 1) := by
  obtain ⟨h1, h2, h3⟩ := h
  have hp := dv_part hd hi (9 * m) (by omega)
  refine ⟨by simp [h1], h2.app (Lim.cons hp.1 hp.2 Lim.nil), ?_⟩
  rw [lv_app, h3, h1]
  have e1 : ds.take (9 * (m + 1)) = ds.take hi := by
    rcases Nat.lt_or_ge (9 * m + 9) ds.length with hl | hl
    · rw [show hi = 9 * (m + 1) by omega]
    · rw [show hi = ds.length by omega, List.take_length, List.take_of_length_le (by omega)]
  have e2 : ds.take hi = ds.take (9 * m) ++ (ds.take hi).drop (9 * m) := by
    have := List.take_append_drop (9 * m) (ds.take hi)
    rw [List.take_take, show min (9 * m) hi = 9 * m by omega] at this
    exact this.symm
  have e3 : (ds.take (9 * m)).length = 9 * m := by simp; omega
  have e4 : dv (ds.take hi) = dv (ds.take (9 * m)) + 10 ^ (9 * m) * dv ((ds.take hi).drop (9 * m)) := by
    conv => lhs; rw [e2]
    rw [dv_app, e3]
  rw [e1, e4, pow9]
  simp [lv]
theorem ReadAt.done {ds xs : List Int} {m : Nat} (h : ReadAt ds xs m) (hm : ds.length ≤ 9 * m) : Lim xs ∧ lv xs = dv ds := ⟨h.2.1, by rw [h.2.2, List.take_of_length_le hm]⟩

/-- A text of digits alone. -/
def Plain (s : ByteArray) (ds : List Int) : Prop := s = ⟨(ds.reverse.map chr).toArray⟩
theorem Plain.size {s : ByteArray} {ds : List Int} (h : Plain s ds) : s.size = ds.length := by
  rw [h]
  simp [ByteArray.size]
theorem Plain.at {s : ByteArray} {ds : List Int} (h : Plain s ds) (hd : D10 ds) {p k : Nat} (hp : p + k + 1 = ds.length) (hs : p < s.size) : ((s[p]'hs).toNat : Int) = 48 + ds.getD k 0 := by
  have hk : k < ds.length := by omega
  have := hd.getD k
  rw [← chr_nat (d := ds.getD k 0) (by omega) (by omega)]
  subst h
  have hk2 : ds.length - 1 - p = k := by omega
  simp [ByteArray.getElem_eq_getElem_data, hk, hk2]

end Go.Proofs.YtkadkfmidlhedaaGreatDoor

