/-
  Chapter 6: Compare: what both answer.
-/
import Derived.Test.YtchpieciifhplaaGreatDoorV6r
namespace Go.Proofs.YtchpieciifhplaaGreatDoor
open Go.RowKit

def bk (k k' : Int) : Int := if k ≠ 0 then k else if k' = 1 then 1 else if k' = 2 then 2 else if k' = 3 then 3 else 0
def bt (k : Int) (t : List UInt8) (k' : Int) : List UInt8 := if k = 0 ∧ k' = 3 then falseT else t
theorem beside_eq {k : Int} {n : Bool} {d x : Int} {t : List UInt8} (hg : goodV k n d x t = true) (k' : Int) : besideV k n d x t k' = valV (bk k k') n d x (bt k t k') ∧ goodV (bk k k') n d x (bt k t k') = true := by
  by_cases h0 : k = 0
  · subst h0
    obtain ⟨rfl, rfl, rfl⟩ := goodV_zero hg (by decide)
    obtain rfl := goodV_empty hg
    unfold besideV bk bt
    by_cases h1 : k' = 1
    · subst h1; exact ⟨rfl, by decide⟩
    · by_cases h2 : k' = 2
      · subst h2; exact ⟨rfl, by decide⟩
      · by_cases h3 : k' = 3
        · subst h3; exact ⟨rfl, by decide⟩
        · simp [h1, h2, h3]
          decide
  · unfold besideV bk bt
    simp [h0, hg]
theorem bt_len {t : List UInt8} (k k' : Int) (hl : t.length ≤ 2000000) : (bt k t k').length ≤ 2000000 := by
  unfold bt
  split
  · decide
  · exact hl
theorem bk_four {k : Int} (k' : Int) (h : k ≠ 4) : bk k k' ≠ 4 := by
  unfold bk
  split
  · exact h
  · split
    · decide
    · split
      · decide
      · split <;> decide
/-- What Compare answers. -/
def compareV (k : Int) (n : Bool) (d x : Int) (t : List UInt8) (k' : Int) (n' : Bool) (d' x' : Int) (t' : List UInt8) : Int :=
  if goodV k n d x t = true ∧ goodV k' n' d' x' t' = true ∧ k ≠ 4 ∧ k' ≠ 4 then cmpR (bk k k') n d x (bt k t k') (bk k' k) n' d' x' (bt k' t' k) else 2
theorem upC_bool {u : List UInt8} (h : boolB u = true) : u.map upC = u := by
  have : u = [84, 82, 85, 69] ∨ u = [70, 65, 76, 83, 69] := by simpa [boolB] using h
  rcases this with rfl | rfl <;> decide
theorem or_cmpR {p : Int} {q : Bool} {r s : Int} {u : List UInt8} {p' : Int} {q' : Bool} {r' s' : Int} {u' : List UInt8} (g : goodV p q r s u = true) (g' : goodV p' q' r' s' u' = true) (h4 : p ≠ 4) :
    orR [cmpI p p', cmpDec q r s q' r' s', Lib.compareBytes (u.map upC) (u'.map upC)] = cmpR p q r s u p' q' r' s' u' := by
  by_cases hp : p = p'
  · subst hp
    have c0 : cmpI p p = 0 := by unfold cmpI; simp
    rw [orR, if_pos c0]
    by_cases h1 : p = 1
    · subst h1
      obtain ⟨ga, rfl⟩ := goodV_num g
      obtain ⟨gb, rfl⟩ := goodV_num g'
      rw [cmpDec_good ga gb]
      simp [orR, cmpR, Lib.compareBytes]
      intro h; exact h.symm
    · obtain ⟨rfl, rfl, rfl⟩ := goodV_zero g h1
      obtain ⟨rfl, rfl, rfl⟩ := goodV_zero g' h1
      have z0 : cmpDec false 0 0 false 0 0 = 0 := by decide
      rw [orR, if_pos z0]
      have e : orR [Lib.compareBytes (u.map upC) (u'.map upC)] = Lib.compareBytes (u.map upC) (u'.map upC) := by
        unfold orR
        split
        · next h => rw [h]; rfl
        · rfl
      rw [e]
      by_cases h2 : p = 2
      · subst h2; simp [cmpR]
      · by_cases h3 : p = 3
        · subst h3
          have b1 : boolB u = true := by simpa [goodV, zeroD] using g
          have b2 : boolB u' = true := by simpa [goodV, zeroD] using g'
          rw [upC_bool b1, upC_bool b2]
          simp [cmpR]
        · by_cases h0 : p = 0
          · subst h0
            obtain rfl := goodV_empty g
            obtain rfl := goodV_empty g'
            simp [cmpR, Lib.compareBytes]
          · simp [goodV, h1, h2, h3, h0, h4] at g
  · have c1 : cmpI p p' = if p < p' then -1 else 1 := by
      unfold cmpI
      by_cases hl : p < p'
      · simp [hl]
      · have : p' < p := by omega
        simp [hl, this]
    have c2 : cmpI p p' ≠ 0 := by rw [c1]; split <;> decide
    rw [orR, if_neg c2, c1]
    simp [cmpR, hp]

end Go.Proofs.YtchpieciifhplaaGreatDoor

