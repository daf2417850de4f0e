/-
  Chapter 14: the cells that rows of texts make, plain.
-/
import Derived.Test.YtichaheefailoaaSs1
import Derived.Test.YtichaheefailoaaFe
namespace Go.Proofs.Ytichaheefailoaa
open Go.RowKit

/-- A cell of a sheet. -/
structure CE where
  r : Nat
  c : Nat
  t : List UInt8
abbrev CE.cells (e : CE) : List Value := [.int .i64 e.r, .int .i64 e.c, sV e.t]
/-- A field as it is typed. -/
def typT (f : List UInt8) : List UInt8 := if f.head? = some 61 ∨ f.head? = some 39 then 39 :: f else f
def CE.good (e : CE) : Bool := decide (e.r ≤ 1000) && decide (e.c ≤ 200) && decide (e.t.length ≤ 2000) && plainB e.t
def fieldC (i j : Nat) : Option (List UInt8) → List CE
  | some (b :: f) => [⟨i + 1, j + 1, typT (b :: f)⟩]
  | _ => []
def rowK (i : Nat) (l : List (List UInt8)) : Nat → List CE
  | 0 => []
  | j + 1 => rowK i l j ++ fieldC i j l[j]?
def allK (L : List (List (List UInt8))) : Nat → List CE
  | 0 => []
  | i + 1 => allK L i ++ rowK i (L.getD i []) (L.getD i []).length
theorem fieldC_length (i j : Nat) (o : Option (List UInt8)) : (fieldC i j o).length ≤ 1 := by unfold fieldC; split <;> simp
theorem rowK_length (i : Nat) (l : List (List UInt8)) (j : Nat) : (rowK i l j).length ≤ j := by
  induction j with
  | zero => simp [rowK]
  | succ j ih => have := fieldC_length i j l[j]?; simp only [rowK, List.length_append]; omega
theorem rowK_mem {i : Nat} {l : List (List UInt8)} {j : Nat} {e : CE} (h : e ∈ rowK i l j) : e.r = i + 1 ∧ 1 ≤ e.c ∧ e.c ≤ j ∧ 1 ≤ e.t.length := by
  induction j with
  | zero => simp [rowK] at h
  | succ j ih =>
    rcases List.mem_append.1 h with h | h
    · have := ih h; omega
    · unfold fieldC at h
      split at h
      · simp at h; subst h
        refine ⟨rfl, by simp, by simp, ?_⟩
        show 1 ≤ (typT _).length
        unfold typT; split <;> simp
      · simp at h
theorem allK_mem {L : List (List (List UInt8))} {i : Nat} {e : CE} (h : e ∈ allK L i) : 1 ≤ e.r ∧ e.r ≤ i ∧ 1 ≤ e.c ∧ 1 ≤ e.t.length := by
  induction i with
  | zero => simp [allK] at h
  | succ i ih =>
    rcases List.mem_append.1 h with h | h
    · have := ih h; omega
    · have := rowK_mem h; omega
/-- A place is ahead of another one. -/
def CE.lt (a b : CE) : Prop := a.r < b.r ∨ (a.r = b.r ∧ a.c < b.c)
theorem rowK_rise (i : Nat) (l : List (List UInt8)) (j : Nat) : (rowK i l j).Pairwise CE.lt := by
  induction j with
  | zero => simp [rowK]
  | succ j ih =>
    unfold rowK
    refine List.pairwise_append.2 ⟨ih, ?_, fun a ha b hb => ?_⟩
    · unfold fieldC; split <;> simp
    · have h1 := rowK_mem ha
      unfold fieldC at hb
      split at hb
      · simp at hb; subst hb
        exact .inr ⟨by show a.r = i + 1; omega, by show a.c < j + 1; omega⟩
      · simp at hb
theorem allK_rise (L : List (List (List UInt8))) (i : Nat) : (allK L i).Pairwise CE.lt := by
  induction i with
  | zero => simp [allK]
  | succ i ih =>
    unfold allK
    refine List.pairwise_append.2 ⟨ih, rowK_rise _ _ _, fun a ha b hb => ?_⟩
    have h1 := allK_mem ha
    have h2 := rowK_mem hb
    exact .inl (by omega)
theorem allK_length (L : List (List (List UInt8))) (i : Nat) (h : i ≤ L.length) : (allK L i).length ≤ lenTT L i := by
  induction i with
  | zero => simp [allK]
  | succ i ih =>
    have hi : L[i]? = some (L.getD i []) := by rw [List.getD, List.getElem?_eq_getElem (by omega)]; rfl
    have h1 := ih (by omega)
    have h2 := rowK_length i (L.getD i []) (L.getD i []).length
    have h3 := lenTT_next hi
    have h4 : (L.getD i []).length ≤ szT (L.getD i []) := by unfold szT; omega
    simp only [allK, List.length_append]
    omega
def cellsF (L : List (List (List UInt8))) : List CE := allK L L.length
def okC (l : List CE) : Bool := decide (l.length ≤ 300) && l.all CE.good
/-- What SheetOfRows answers. -/
def sheetR (L : List (List (List UInt8))) : List CE := if okC (cellsF L) = true then cellsF L else []
/-- What is made on the way is ahead of the whole. -/
theorem rowK_pre (i : Nat) (l : List (List UInt8)) (j k : Nat) (h : j ≤ k) : rowK i l j <+: rowK i l k := by
  induction k with
  | zero =>
    obtain rfl : j = 0 := by omega
    exact List.prefix_refl _
  | succ k ih =>
    by_cases e : j = k + 1
    · subst e; exact List.prefix_refl _
    · exact (ih (by omega)).trans (List.prefix_append _ _)
theorem allK_pre (L : List (List (List UInt8))) (j k : Nat) (h : j ≤ k) : allK L j <+: allK L k := by
  induction k with
  | zero =>
    obtain rfl : j = 0 := by omega
    exact List.prefix_refl _
  | succ k ih =>
    by_cases e : j = k + 1
    · subst e; exact List.prefix_refl _
    · exact (ih (by omega)).trans (List.prefix_append _ _)
theorem part_pre (L : List (List (List UInt8))) (i j : Nat) (hi : i < L.length) (hj : j ≤ (L.getD i []).length) : allK L i ++ rowK i (L.getD i []) j <+: cellsF L := by
  refine List.IsPrefix.trans ?_ (allK_pre L (i + 1) L.length (by omega))
  show _ <+: allK L i ++ rowK i (L.getD i []) (L.getD i []).length
  exact (List.prefix_append_right_inj _).2 (rowK_pre i _ j _ hj)
/-- More than may be, or one that is not good: nothing is answered. -/
theorem sheetR_bad {L : List (List (List UInt8))} {m : List CE} (h : m <+: cellsF L) (hb : okC m = false) : sheetR L = [] := by
  unfold sheetR
  rw [if_neg]
  intro ho
  unfold okC at ho hb
  simp only [Bool.and_eq_true, decide_eq_true_eq, List.all_eq_true] at ho
  obtain ⟨t, ht⟩ := h
  have : (decide (m.length ≤ 300) && m.all CE.good) = true := by
    simp only [Bool.and_eq_true, decide_eq_true_eq, List.all_eq_true]
    exact ⟨by have := ho.1; rw [← ht, List.length_append] at this; omega, fun x hx => ho.2 x (by rw [← ht]; exact List.mem_append_left _ hx)⟩
  rw [hb] at this
  cases this
theorem okC_snoc (m : List CE) (e : CE) (h : okC m = true) : okC (m ++ [e]) = (!(m.length == 300) && e.good) := by
  unfold okC at h ⊢
  simp only [Bool.and_eq_true, decide_eq_true_eq] at h
  rw [List.all_append, h.2, List.length_append]
  by_cases h3 : m.length = 300
  · simp [h3]
  · have : m.length + 1 ≤ 300 := by omega
    simp [h3, this]

end Go.Proofs.Ytichaheefailoaa
