/-
  What is put is good.
-/
import Derived.Test.YtpeobfkenekmhaaDoorMg13
import Derived.Test.YtpeobfkenekmhaaDoorImE
import Derived.Test.YtpeobfkenekmhaaDoorMg14
namespace Go.Proofs.YtpeobfkenekmhaaDoor
open Go.RowKit

/-- What put gives is good, or it is none. -/
theorem strip_bd {P : Nat} (e : Int) : (P ≠ 0 → (strip P e).1 % 10 ≠ 0) ∧ (strip P e).1 ≤ P := by
  induction P using Nat.strongRecOn generalizing e with
  | ind P ih =>
    by_cases h : P ≠ 0 ∧ P % 10 = 0
    · rw [strip_ten h.1 h.2]
      obtain ⟨h1, h2⟩ := ih (P / 10) (by omega) (e + 1)
      exact ⟨fun _ => h1 (by omega), by omega⟩
    · rw [strip]
      simp only [h, dite_false]
      exact ⟨fun h0 => by omega, Nat.le_refl _⟩
theorem fit_ok {neg : Bool} {P : Nat} {e : Int} (hP : P ≤ 1000000000000000) (h : (fitR neg P e).ok = true) : goodB (fitR neg P e).neg (fitR neg P e).d (fitR neg P e).e = true := by
  unfold fitR at h ⊢
  split
  · rfl
  · rename_i h0
    simp only [h0, if_false] at h
    split
    · rename_i h1; simp [h1] at h
    · split
      · rfl
      · rename_i h1 h2
        obtain ⟨hm, hl⟩ := strip_bd (P := P) e
        have hm' := hm h0
        unfold goodB
        simp only
        have hne : ((strip P e).1 : Int) ≠ 0 := by omega
        rw [if_neg hne]
        have : (strip P e).1 ≠ 1000000000000000 := by omega
        simp
        omega
theorem put_ok {neg : Bool} {P : Nat} {e : Int} {more : Bool} (h : (putR neg P e more).ok = true) : goodB (putR neg P e more).neg (putR neg P e more).d (putR neg P e more).e = true := by
  unfold putR at h ⊢
  split
  · rename_i h15
    rw [if_pos h15] at h
    exact fit_ok (rnd_lt h15) h
  · rename_i h15
    rw [if_neg h15] at h
    refine fit_ok ?_ h
    have h1 := (nd_dig P).1
    have h2 := pow10_le (show nd P ≤ 15 by omega)
    have e15 : (10 : Nat) ^ 15 = 1000000000000000 := by decide
    omega

end Go.Proofs.YtpeobfkenekmhaaDoor

