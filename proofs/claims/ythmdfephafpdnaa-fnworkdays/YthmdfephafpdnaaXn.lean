/-
  Working days: members alone count; told backwards; a span cut in two.
-/
import Derived.Test.YthmdfephafpdnaaWs
import Derived.Test.YthmdfephafpdnaaWm
namespace Go.Proofs.Ythmdfephafpdnaa

theorem cntD_members (a b : Int) {l l' : List Int} (h : ∀ x, x ∈ l ↔ x ∈ l') : cntD a b l l.length = cntD a b l' l'.length := by
  obtain ⟨F, h1, h2, h3⟩ := cntD_list a b l l.length (Nat.le_refl _)
  obtain ⟨G, g1, g2, g3⟩ := cntD_list a b l' l'.length (Nat.le_refl _)
  rw [h3, g3]
  congr 1
  refine len_eq_of (h1.filter _) (g1.filter _) fun x => ?_
  rw [List.mem_filter, List.mem_filter, h2, g2, List.take_length, List.take_length, h]
theorem workR_members (a b : Int) {l l' : List Int} (h : ∀ x, x ∈ l ↔ x ∈ l') (h1 : l.length ≤ 1000) (h2 : l'.length ≤ 1000) : workR a b l = workR a b l' := by
  unfold workR workN
  rw [cntD_members a b h, cntD_members b a h]
  simp only [h1, h2]
theorem workR_back (a b : Int) (l : List Int) (h : a ≠ b) : workR b a l = -workR a b l := by
  unfold workR
  by_cases hg : (goodDay a ∧ goodDay b) ∧ l.length ≤ 1000
  · rw [if_pos hg, if_pos ⟨⟨hg.1.2, hg.1.1⟩, hg.2⟩]
    split <;> split <;> omega
  · rw [if_neg hg, if_neg (fun k => hg ⟨⟨k.1.2, k.1.1⟩, k.2⟩)]
    rfl
theorem cntD_cut (a m b : Int) (l : List Int) (h1 : a ≤ m) (h2 : m < b) : ∀ i : Nat, cntD a m l i + cntD (m + 1) b l i = cntD a b l i
  | 0 => by simp [cntD]
  | i + 1 => by
    have ih := cntD_cut a m b l h1 h2 i
    unfold cntD okD
    generalize (l.take i).contains (l.getD i 0) = k
    generalize wkd (l.getD i 0) = q
    generalize l.getD i 0 = f
    cases k <;> cases q <;> simp
    · exact ih
    · split <;> split <;> split <;> omega
    · exact ih
    · exact ih
theorem workR_cut (a m b : Int) (l : List Int) (h1 : a ≤ m) (h2 : m < b) (ha : goodDay a) (hb : goodDay b) (hl : l.length ≤ 1000) : workR a m l + workR (m + 1) b l = workR a b l := by
  have hm : goodDay m := ⟨by have := ha.1; omega, by have := hb.2; omega⟩
  have hm1 : goodDay (m + 1) := ⟨by have := ha.1; omega, by have := hb.2; omega⟩
  unfold workR
  rw [if_pos (show (goodDay a ∧ goodDay m) ∧ l.length ≤ 1000 from ⟨⟨ha, hm⟩, hl⟩), if_pos (show (goodDay (m + 1) ∧ goodDay b) ∧ l.length ≤ 1000 from ⟨⟨hm1, hb⟩, hl⟩), if_pos (show (goodDay a ∧ goodDay b) ∧ l.length ≤ 1000 from ⟨⟨ha, hb⟩, hl⟩), if_neg (show ¬ m < a by omega), if_neg (show ¬ b < m + 1 by omega), if_neg (show ¬ b < a by omega)]
  have := cntD_cut a m b l h1 h2 l.length
  unfold workN
  omega
theorem workR_bounds (a b : Int) (l : List Int) : -100000000 ≤ workR a b l ∧ workR a b l ≤ 100000000 := by
  unfold workR
  split
  · rename_i h
    obtain ⟨⟨⟨a0, a1⟩, b0, b1⟩, hl⟩ := h
    have n1 := aheadW_near (a + 1)
    have n2 := aheadW_near b
    have n3 := cntD_bounds b a l l.length
    have m1 := aheadW_near (b + 1)
    have m2 := aheadW_near a
    have m3 := cntD_bounds a b l l.length
    unfold workN
    split <;> omega
  · omega

end Go.Proofs.Ythmdfephafpdnaa
