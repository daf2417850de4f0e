/-
  Chapter 15, plain: which steps stand.
-/
namespace Go.Proofs.Ytmpemgpfjopkgaa

/-- Whether one of those that stand takes the m-th back. -/
def tkB : List Bool → List Nat → Nat → Bool
  | b :: t, u :: r, m => (b && u == m) || tkB t r m
  | _, _, _ => false
/-- Which of the steps from the i-th on (by what they take back) stand. -/
def stV : List Nat → Nat → List Bool
  | [], _ => []
  | _ :: r, i => (!tkB (stV r (i + 1)) r (i + 1)) :: stV r (i + 1)
/-- Those that stand, the last first. -/
def dnL : List Nat → Nat → List Nat
  | [], _ => []
  | _ :: r, i => dnL r (i + 1) ++ (if tkB (stV r (i + 1)) r (i + 1) then [] else [i])
theorem stV_length (us : List Nat) : ∀ i, (stV us i).length = us.length := by
  induction us with
  | nil => intro i; rfl
  | cons u r ih => intro i; simp [stV, ih]
theorem stV_drop (us : List Nat) : ∀ i k, (stV us i).drop k = stV (us.drop k) (i + k) := by
  induction us with
  | nil => intro i k; simp [stV]
  | cons u r ih =>
    intro i k
    cases k with
    | zero => rfl
    | succ k =>
      show (stV r (i + 1)).drop k = stV (r.drop k) (i + (k + 1))
      rw [ih]
      congr 1
      omega
theorem drop_at {us : List Nat} {k u : Nat} (h : us[k]? = some u) : us.drop k = u :: us.drop (k + 1) := by
  obtain ⟨hk, rfl⟩ := List.getElem?_eq_some_iff.1 h
  exact List.drop_eq_getElem_cons hk
theorem stV_at {us : List Nat} {k u : Nat} (h : us[k]? = some u) : stV (us.drop k) k = (!tkB (stV (us.drop (k + 1)) (k + 1)) (us.drop (k + 1)) (k + 1)) :: stV (us.drop (k + 1)) (k + 1) := by
  rw [drop_at h]
  rfl
theorem dnL_at {us : List Nat} {k u : Nat} (h : us[k]? = some u) : dnL (us.drop k) k = dnL (us.drop (k + 1)) (k + 1) ++ (if tkB (stV (us.drop (k + 1)) (k + 1)) (us.drop (k + 1)) (k + 1) then [] else [k]) := by
  rw [drop_at h]
  rfl
/-- What is taken back when one more is come to. -/
theorem tkB_at {us : List Nat} {k u : Nat} (h : us[k]? = some u) (m : Nat) :
    tkB (stV (us.drop k) k) (us.drop k) m = ((!tkB (stV (us.drop (k + 1)) (k + 1)) (us.drop (k + 1)) (k + 1)) && u == m || tkB (stV (us.drop (k + 1)) (k + 1)) (us.drop (k + 1)) m) := by
  rw [stV_at h, drop_at h]
  rfl
theorem dnL_pre (us : List Nat) (k : Nat) : dnL (us.drop k) k <+: dnL us 0 := by
  induction k with
  | zero => exact List.prefix_refl _
  | succ k ih =>
    by_cases h : k < us.length
    · rw [dnL_at (List.getElem?_eq_getElem h)] at ih
      exact List.IsPrefix.trans (List.prefix_append _ _) ih
    · rw [List.drop_eq_nil_of_le (by omega)]
      exact List.nil_prefix
theorem tkB_take_succ : ∀ (T : List Bool) (R : List Nat) (j m : Nat) (b : Bool) (u : Nat), T[j]? = some b → R[j]? = some u → tkB (T.take (j + 1)) R m = (tkB (T.take j) R m || (b && u == m)) := by
  intro T
  induction T with
  | nil => intro R j m b u h; simp at h
  | cons c T ih =>
    intro R j m b u hb hu
    cases R with
    | nil => simp at hu
    | cons v R =>
      cases j with
      | zero =>
        simp at hb hu
        subst hb hu
        cases T <;> cases R <;> simp [tkB]
      | succ j =>
        have h1 : T[j]? = some b := by simpa using hb
        have h2 : R[j]? = some u := by simpa using hu
        show (c && v == m || tkB (T.take (j + 1)) R m) = ((c && v == m || tkB (T.take j) R m) || (b && u == m))
        rw [ih R j m b u h1 h2, Bool.or_assoc]
/-- Those that stand are those that are told so. -/
theorem dnL_mem (us : List Nat) : ∀ i j, j ∈ dnL us i ↔ i ≤ j ∧ (stV us i)[j - i]? = some true := by
  induction us with
  | nil => intro i j; simp [dnL, stV]
  | cons u r ih =>
    intro i j
    have e : dnL (u :: r) i = dnL r (i + 1) ++ (if tkB (stV r (i + 1)) r (i + 1) then [] else [i]) := rfl
    have e2 : stV (u :: r) i = (!tkB (stV r (i + 1)) r (i + 1)) :: stV r (i + 1) := rfl
    rw [e, e2, List.mem_append, ih]
    by_cases hj : j = i
    · subst hj
      simp only [Nat.sub_self, List.getElem?_cons_zero, Option.some.injEq, Nat.le_refl, true_and]
      have : ¬ (j + 1 ≤ j) := by omega
      simp only [this, false_and, false_or]
      cases tkB (stV r (j + 1)) r (j + 1) <;> simp
    · have h1 : j ∉ (if tkB (stV r (i + 1)) r (i + 1) then [] else [i]) := by
        cases tkB (stV r (i + 1)) r (i + 1) <;> simp [hj]
      simp only [h1, or_false]
      constructor
      · rintro ⟨h2, h3⟩
        refine ⟨by omega, ?_⟩
        rw [show j - i = (j - (i + 1)) + 1 by omega, List.getElem?_cons_succ]
        exact h3
      · rintro ⟨h2, h3⟩
        refine ⟨by omega, ?_⟩
        rw [show j - i = (j - (i + 1)) + 1 by omega, List.getElem?_cons_succ] at h3
        exact h3
theorem dnL_lt (us : List Nat) (j : Nat) (h : j ∈ dnL us 0) : j < us.length := by
  have h1 := (dnL_mem us 0 j).1 h
  have := (List.getElem?_eq_some_iff.1 h1.2).1
  rw [stV_length] at this
  omega
/-- The numbers told, by what was come to. -/
theorem stV_told (us : List Nat) : (List.range us.length).map (fun i => decide (i ∈ dnL us 0)) = stV us 0 := by
  apply List.ext_getElem?
  intro i
  by_cases h : i < us.length
  · rw [List.getElem?_map, List.getElem?_range h]
    have hl : i < (stV us 0).length := by rw [stV_length]; exact h
    rw [List.getElem?_eq_getElem hl]
    show some (decide (i ∈ dnL us 0)) = _
    congr 1
    have hm := dnL_mem us 0 i
    rw [Nat.sub_zero, List.getElem?_eq_getElem hl] at hm
    cases hb : (stV us 0)[i] with
    | true =>
      rw [hb] at hm
      exact decide_eq_true (hm.2 ⟨Nat.zero_le _, rfl⟩)
    | false =>
      rw [hb] at hm
      exact decide_eq_false (fun h => by have := (hm.1 h).2; simp at this)
  · rw [List.getElem?_eq_none (by simp; omega), List.getElem?_eq_none (by rw [stV_length]; omega)]
/-- The number of the first that is so; 0 for none. -/
def firstN (p : Nat → Bool) (l : List Nat) : Nat := match l.find? p with
  | some x => x + 1
  | none => 0
theorem firstN_hit {p : Nat → Bool} {a l : List Nat} {x : Nat} (h : a ++ [x] <+: l) (ha : ∀ y ∈ a, p y = false) (hx : p x = true) : firstN p l = x + 1 := by
  obtain ⟨t, rfl⟩ := h
  unfold firstN
  have : (a ++ [x] ++ t).find? p = some x := by
    rw [List.append_assoc, List.find?_append]
    have hn : a.find? p = none := List.find?_eq_none.2 (fun y hy => by simp [ha y hy])
    rw [hn]
    simp [hx]
  rw [this]
theorem firstN_miss {p : Nat → Bool} {l : List Nat} (h : ∀ y ∈ l, p y = false) : firstN p l = 0 := by
  unfold firstN
  rw [List.find?_eq_none.2 (fun y hy => by simp [h y hy])]
/-- The last one that is so, as it is looked for upwards. -/
def lastN (q : Nat → Bool) : Nat → Nat
  | 0 => 0
  | i + 1 => if q i then i + 1 else lastN q i
theorem lastN_none {q : Nat → Bool} {n : Nat} (h : ∀ i, i < n → q i = false) : lastN q n = 0 := by
  induction n with
  | zero => rfl
  | succ n ih =>
    show (if q n then n + 1 else lastN q n) = 0
    rw [h n (by omega)]
    simp
    exact ih (fun i hi => h i (by omega))
theorem lastN_hit {q : Nat → Bool} {n x : Nat} (hx : x < n) (hq : q x = true) (h : ∀ i, x < i → i < n → q i = false) : lastN q n = x + 1 := by
  induction n with
  | zero => omega
  | succ n ih =>
    show (if q n then n + 1 else lastN q n) = x + 1
    by_cases e : x = n
    · subst e; rw [if_pos hq]
    · rw [h n (by omega) (by omega)]
      simp
      exact ih (by omega) (fun i h1 h2 => h i h1 (by omega))
theorem dnL_order (us : List Nat) : ∀ i, (dnL us i).Pairwise (fun a b => b < a) ∧ ∀ j ∈ dnL us i, i ≤ j := by
  induction us with
  | nil => intro i; simp [dnL]
  | cons u r ih =>
    intro i
    have e : dnL (u :: r) i = dnL r (i + 1) ++ (if tkB (stV r (i + 1)) r (i + 1) then [] else [i]) := rfl
    have h := ih (i + 1)
    rw [e]
    refine ⟨?_, fun j hj => ?_⟩
    · rw [List.pairwise_append]
      refine ⟨h.1, ?_, fun a ha b hb => ?_⟩
      · cases tkB (stV r (i + 1)) r (i + 1) <;> simp
      · have := h.2 a ha
        cases hc : tkB (stV r (i + 1)) r (i + 1) <;> rw [hc] at hb <;> simp at hb
        omega
    · rcases List.mem_append.1 hj with h1 | h1
      · have := h.2 j h1; omega
      · cases hc : tkB (stV r (i + 1)) r (i + 1) <;> rw [hc] at h1 <;> simp at h1
        omega
/-- Looked for from the last one down or upwards: the same. -/
theorem first_last (us : List Nat) (p : Nat → Bool) : firstN p (dnL us 0) = lastN (fun i => decide (i ∈ dnL us 0) && p i) us.length := by
  by_cases h : ∃ x ∈ dnL us 0, p x = true
  · cases hf : (dnL us 0).find? p with
    | none =>
      obtain ⟨x, h1, h2⟩ := h
      have := List.find?_eq_none.1 hf x h1
      rw [h2] at this
      exact absurd rfl this
    | some x =>
      have hx := List.mem_of_find?_eq_some hf
      have hp := List.find?_some hf
      unfold firstN
      rw [hf]
      refine (lastN_hit (dnL_lt us x hx) (by simp [hx, hp]) (fun i h1 h2 => ?_)).symm
      by_cases hi : i ∈ dnL us 0
      · rw [List.find?_eq_some_iff_append] at hf
        obtain ⟨_, a, b, hab, hq⟩ := hf
        have ho := (dnL_order us 0).1
        rw [hab] at hi ho
        rcases List.mem_append.1 hi with h3 | h3
        · have := hq i h3
          simp at this
          simp [this]
        · rw [List.pairwise_append] at ho
          rcases List.mem_cons.1 h3 with rfl | h3
          · omega
          · have := (List.pairwise_cons.1 ho.2.1).1 i h3
            omega
      · simp [hi]
  · have hn : ∀ y ∈ dnL us 0, p y = false := fun y hy => by
      cases hp : p y
      · rfl
      · exact absurd ⟨y, hy, hp⟩ h
    rw [firstN_miss hn, lastN_none (fun i _ => ?_)]
    by_cases hi : i ∈ dnL us 0
    · simp [hn i hi]
    · simp [hi]

end Go.Proofs.Ytmpemgpfjopkgaa
