/-
  Chapter 6: what values show is plain, and short; what operators make.
-/
import Derived.Test.YtbebmjiopijheaaDoorV6h
namespace Go.Proofs.YtbebmjiopijheaaDoor
open Go.RowKit

theorem shown_dec (u : Nat) : (Lib.decDigits u).all shownC = true := by
  induction u using Nat.strongRecOn with
  | ind u ih =>
    rw [Lib.decDigits]
    split
    · next h =>
      have : shownC (UInt8.ofNat (48 + u)) = true := by
        have e : (UInt8.ofNat (48 + u)).toNat = 48 + u := by rw [UInt8.toNat_ofNat']; omega
        unfold shownC
        rw [e]
        exact decide_eq_true (by omega)
      rw [List.all_cons, this]; rfl
    · next h =>
      have e : (UInt8.ofNat (48 + u % 10)).toNat = 48 + u % 10 := by rw [UInt8.toNat_ofNat']; omega
      have : shownC (UInt8.ofNat (48 + u % 10)) = true := by
        unfold shownC
        rw [e]
        exact decide_eq_true (by omega)
      rw [List.all_append, ih (u / 10) (by omega), List.all_cons, this]; rfl
theorem shown_rep (k : Nat) : (List.replicate k (48 : UInt8)).all shownC = true := by
  rw [List.all_eq_true]
  intro c hc
  rw [(List.mem_replicate.1 hc).2]
  decide
theorem shown_take {D : List UInt8} (h : D.all shownC = true) (k : Nat) : (D.take k).all shownC = true := by
  rw [List.all_eq_true] at h ⊢
  exact fun c hc => h c (List.mem_of_mem_take hc)
theorem shown_drop {D : List UInt8} (h : D.all shownC = true) (k : Nat) : (D.drop k).all shownC = true := by
  rw [List.all_eq_true] at h ⊢
  exact fun c hc => h c (List.mem_of_mem_drop hc)
theorem shown_sizeT {D : List UInt8} (h : D.all shownC = true) (x : Int) : (sizeT D x).all shownC = true := by
  have t := fun k => shown_take h k
  have p := fun k => shown_drop h k
  have c46 : shownC 46 = true := by decide
  have c48 : shownC 48 = true := by decide
  have c69 : shownC 69 = true := by decide
  have c45 : shownC 45 = true := by decide
  have c43 : shownC 43 = true := by decide
  unfold sizeT
  split
  · rw [List.all_append, h, shown_rep]; rfl
  · split
    · rw [List.all_append, t, List.all_cons, c46, p]; rfl
    · split
      · rw [List.all_cons, c48, List.all_cons, c46, List.all_append, shown_rep, h]; rfl
      · have a1 : (if 1 < D.length then 46 :: D.drop 1 else ([] : List UInt8)).all shownC = true := by
          split
          · rw [List.all_cons, c46, p]; rfl
          · rfl
        have a2 : (if (D.length : Int) - 1 + x < 0 then 69 :: 45 :: Lib.decDigits (-((D.length : Int) - 1 + x)).toNat else 69 :: 43 :: Lib.decDigits ((D.length : Int) - 1 + x).toNat).all shownC = true := by
          split
          · rw [List.all_cons, c69, List.all_cons, c45, shown_dec]; rfl
          · rw [List.all_cons, c69, List.all_cons, c43, shown_dec]; rfl
        rw [List.all_append, List.all_append, t, a1, a2]; rfl
theorem shown_textT (n : Bool) (d x : Int) : (textT n d x).all shownC = true := by
  unfold textT
  split
  · split
    · decide
    · rw [List.all_append, shown_sizeT (shown_dec _)]
      cases n <;> decide
  · rfl
theorem textT_len (n : Bool) (d x : Int) : (textT n d x).length ≤ 2000 := by
  unfold textT
  split
  · next hg =>
    split
    · decide
    · next hd =>
      have hgd : 0 < d ∧ d < 1000000000000000 ∧ ¬ d % 10 = 0 ∧ -300 ≤ x ∧ x ≤ 300 := by simpa [goodB, hd] using hg
      have hl := sizeT_len (dec_len hgd.1 hgd.2.1).2 hgd.2.2.2.1 hgd.2.2.2.2
      rw [List.length_append]
      cases n <;> simp <;> omega
  · simp
/-- What a good value shows is plain, and short. -/
theorem showT_plain {k : Int} {n : Bool} {d x : Int} {t : List UInt8} (hg : goodV k n d x t = true) : (showT k n d x t).all shownC = true ∧ (showT k n d x t).length ≤ 2000 := by
  unfold showT
  split
  · exact ⟨rfl, by simp⟩
  · next h0 =>
    split
    · exact ⟨shown_textT _ _ _, by have := textT_len n d x; omega⟩
    · next h1 =>
      simp only [goodV, h1, h0, if_false, Bool.and_eq_true] at hg
      have hr := hg.2
      split at hr
      · have : t.all shownC = true ∧ t.length ≤ 1000 := by simpa [printN] using hr
        exact ⟨this.1, by omega⟩
      · split at hr
        · have : t = [84, 82, 85, 69] ∨ t = [70, 65, 76, 83, 69] := by simpa [boolB] using hr
          rcases this with rfl | rfl <;> exact ⟨by decide, by decide⟩
        · split at hr
          · have hm : t ∈ errL := by
              unfold memB at hr
              rw [List.any_eq_true] at hr
              obtain ⟨u, hu, he⟩ := hr
              have : u = t := by simpa using he
              rw [← this]; exact hu
            have : ∀ u ∈ errL, u.all shownC = true ∧ u.length ≤ 2000 := by decide
            exact this t hm
          · cases hr

end Go.Proofs.YtbebmjiopijheaaDoor

