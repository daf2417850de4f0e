/-
  Roots: where a number is good and not below 0 its root is one.
-/
import Derived.Test.YtpeobfkenekmhaaDoorSqM
namespace Go.Proofs.YtpeobfkenekmhaaDoor
open Go.RowKit

theorem strip_up (P : Nat) (e : Int) : (strip P e).2 ≤ e + (nd P : Int) := by
  induction P using Nat.strongRecOn generalizing e with
  | ind P ih =>
    by_cases h : P ≠ 0 ∧ P % 10 = 0
    · rw [strip_ten h.1 h.2, nd_pos h.1]
      have := ih (P / 10) (by omega) (e + 1)
      omega
    · rw [strip]
      simp only [h, dite_false]
      omega
theorem fit_is {neg : Bool} {P : Nat} {e : Int} (h : e + (nd P : Int) ≤ 300) : (fitR neg P e).ok = true := by
  have := strip_up P e
  unfold fitR
  split
  · rfl
  · rw [if_neg (by omega)]
    split <;> rfl
theorem put_is {neg : Bool} {P : Nat} {e : Int} {m : Bool} (h : e + (nd P : Int) ≤ 200) : (putR neg P e m).ok = true := by
  unfold putR
  split
  · rename_i hn
    refine fit_is ?_
    have hb : rndM 0 P (nd P - 15) m ≤ 10 ^ 15 := by
      have h1 := (nd_dig P).1
      have h2 : P / 10 ^ (nd P - 15) < 10 ^ 15 := by
        rw [Nat.div_lt_iff_lt_mul (ten_pow_pos _), ← Nat.pow_add]
        have : 15 + (nd P - 15) = nd P := by omega
        rw [this]
        exact h1
      unfold rndM
      split <;> omega
    have hn2 : nd (rndM 0 P (nd P - 15) m) ≤ 16 := nd_le (by omega)
    omega
  · exact fit_is (by omega)

theorem sqrt4 (n : Bool) (d e : Int) (a1 : -9223372036854775808 ≤ d) (a2 : d ≤ 9223372036854775807) : ∃ R : DR, R.ok = (goodB n d e && !n) ∧
    (∀ w, Calls Tryd.prog 6 #[.agg #[.bool n, .int .i64 d, .int .i64 e]] w fun r w' => r = .returned (resV R) ∧ Ext w w') ∧
    (∀ w, Tens w → Calls Tryd.prog 5 #[.agg #[.bool n, .int .i64 d, .int .i64 e]] w fun r w' => r = .returned (resV R) ∧ Ext w w') := by
  by_cases hg : goodB n d e = false ∨ n = true
  · refine ⟨badR, ?_, fun w => sqrtS_bad n d e w hg, fun w hT => sqrtI_bad n d e w a1 a2 hT hg⟩
    rcases hg with hg | hg <;> simp [badR, hg]
  · have hg' : goodB n d e = true ∧ n = false := by
      cases h1 : goodB n d e
      · exact absurd (.inl h1) hg
      · cases h2 : n
        · exact ⟨rfl, rfl⟩
        · exact absurd (.inr h2) hg
    obtain ⟨ga, rfl⟩ := hg'
    obtain ⟨g0, g1, g2, g3⟩ := good_bd ga
    obtain ⟨A, rfl⟩ := Int.eq_ofNat_of_zero_le g0
    have n15 : nd A ≤ 15 := nd_le (by omega)
    obtain ⟨eo, xo, ho⟩ : ∃ (eo : Int) (xo : Nat), (e % 2 = 0 ∧ eo = e ∧ xo = A) ∨ (e % 2 ≠ 0 ∧ eo = e - 1 ∧ xo = A * 10) := by
      by_cases h : e % 2 = 0
      · exact ⟨e, A, .inl ⟨h, rfl, rfl⟩⟩
      · exact ⟨e - 1, A * 10, .inr ⟨h, rfl, rfl⟩⟩
    obtain ⟨u, hu⟩ : ∃ u : Nat, ((e - ((38 - nd A : Nat) : Int)) % 2 = 0 ∧ u = 38 - nd A) ∨ ((e - ((38 - nd A : Nat) : Int)) % 2 ≠ 0 ∧ u + 1 = 38 - nd A) := by
      by_cases h : (e - ((38 - nd A : Nat) : Int)) % 2 = 0
      · exact ⟨38 - nd A, .inl ⟨h, rfl⟩⟩
      · exact ⟨37 - nd A, .inr ⟨h, by omega⟩⟩
    obtain ⟨N, hN⟩ := root_is (xo * 10 ^ 40)
    obtain ⟨M, hM⟩ := root_is (A * 10 ^ u)
    have hNb : N < 10 ^ 40 := by
      have h1 := hN.1
      rcases Nat.lt_or_ge N (10 ^ 40) with h | h
      · exact h
      · exfalso
        have h2 : 10 ^ 40 * 10 ^ 40 ≤ N * N := Nat.mul_le_mul h h
        have h3 : xo * 10 ^ 40 < 10 ^ 40 * 10 ^ 40 := Nat.mul_lt_mul_of_pos_right (by omega) (ten_pow_pos 40)
        exact absurd (Nat.le_trans h2 h1) (by omega)
    refine ⟨putR false N (eo / 2 - 20) (decide (N * N ≠ xo * 10 ^ 40)), ?_, fun w => sqrtS_good A e eo xo N w ga ho hN, fun w hT => ?_⟩
    · rw [ga]
      refine put_is ?_
      have := nd_le hNb
      omega
    · have hs := sqrt_same (A := A) (N := N) (M := M) (u := u) (e := e) (eo := eo) (xo := xo) (by omega) (fun h0 => ?_) ho (by omega) (by omega) hN hM
      · rw [hs]
        exact sqrtI_good A u M e w ga hu hM hT
      · exact (good_nought ga (by omega)).1

end Go.Proofs.YtpeobfkenekmhaaDoor

