/-
  Working days, plain.
-/
import Derived.Test.YthmdfephafpdnaaBase
namespace Go.Proofs.Ythmdfephafpdnaa

def wkd (d : Int) : Bool := decide ((d + 5) % 7 < 5)
/-- Working days from the Monday of day 0's week on. -/
def aheadW (d : Int) : Int := (d + 5) / 7 * 5 + (if (d + 5) % 7 < 5 then (d + 5) % 7 else 5)
theorem aheadW_next (d : Int) : aheadW (d + 1) = aheadW d + (if wkd d = true then 1 else 0) := by
  unfold aheadW wkd
  simp only [decide_eq_true_eq]
  split <;> split <;> omega
theorem aheadW_week (d k : Int) : aheadW (d + 7 * k) = aheadW d + 5 * k := by
  unfold aheadW
  split <;> split <;> omega
theorem aheadW_near (d : Int) : 5 * d ≤ 7 * aheadW d ∧ 7 * aheadW d ≤ 5 * d + 50 := by
  unfold aheadW
  split <;> omega

def okD (a b f : Int) : Bool := decide (a ≤ f) && decide (f ≤ b) && wkd f
/-- Free days that are counted, among the first so many; one told twice is counted once. -/
def cntD (a b : Int) (l : List Int) : Nat → Int
  | 0 => 0
  | i + 1 => cntD a b l i + (if (l.take i).contains (l.getD i 0) = false ∧ okD a b (l.getD i 0) = true then 1 else 0)
theorem cntD_bounds (a b : Int) (l : List Int) : ∀ i : Nat, 0 ≤ cntD a b l i ∧ cntD a b l i ≤ i
  | 0 => by simp [cntD]
  | i + 1 => by
    have := cntD_bounds a b l i
    unfold cntD
    split <;> omega
/-- What is counted is what is left when each is told once. -/
theorem cntD_list (a b : Int) (l : List Int) : ∀ i : Nat, i ≤ l.length → ∃ F : List Int, F.Nodup ∧ (∀ x, x ∈ F ↔ x ∈ l.take i) ∧ cntD a b l i = (F.filter (okD a b)).length
  | 0, _ => ⟨[], by simp, by simp, by simp [cntD]⟩
  | i + 1, hi => by
    obtain ⟨F, h1, h2, h3⟩ := cntD_list a b l i (by omega)
    have hx : l.take (i + 1) = l.take i ++ [l.getD i 0] := by
      rw [List.take_succ_eq_append_getElem (by omega)]
      simp [List.getD, List.getElem?_eq_getElem (show i < l.length by omega)]
    unfold cntD
    by_cases hc : (l.take i).contains (l.getD i 0) = true
    · refine ⟨F, h1, fun x => ?_, ?_⟩
      · rw [hx, List.mem_append, h2]
        constructor
        · exact .inl
        · rintro (h | h)
          · exact h
          · rw [List.mem_singleton] at h
            rw [h]
            exact List.contains_iff_mem.1 hc
      · rw [if_neg (by rw [hc]; simp), h3]
        omega
    · have hn : l.getD i 0 ∉ l.take i := fun h => hc (List.contains_iff_mem.2 h)
      refine ⟨l.getD i 0 :: F, List.nodup_cons.2 ⟨fun h => hn ((h2 _).1 h), h1⟩, fun x => ?_, ?_⟩
      · rw [hx, List.mem_append, List.mem_cons, List.mem_singleton, h2]
        constructor
        · rintro (h | h)
          · exact .inr h
          · exact .inl h
        · rintro (h | h)
          · exact .inr h
          · exact .inl h
      · simp only [Bool.not_eq_true] at hc
        rw [List.filter_cons, h3]
        by_cases hk : okD a b (l.getD i 0) = true
        · rw [if_pos ⟨hc, hk⟩, if_pos hk, List.length_cons]
          omega
        · rw [if_neg (fun h => hk h.2), if_neg hk]
          omega

end Go.Proofs.Ythmdfephafpdnaa
