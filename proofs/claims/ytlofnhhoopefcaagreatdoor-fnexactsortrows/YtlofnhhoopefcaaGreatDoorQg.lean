/-
  Chapter 11: Runs, of the program.
-/
import Derived.Test.YtlofnhhoopefcaaGreatDoorQf
namespace Go.Proofs.YtlofnhhoopefcaaGreatDoor
open Go.RowKit

theorem good_dims {r c : Int} {l : List VT} (h : goodG r c l = true) : ∃ R C : Nat, r = R ∧ c = C ∧ l.length = R * C ∧ R * C ≤ 2000 ∧ 1 ≤ R ∧ 1 ≤ C ∧ R ≤ 2000 ∧ C ≤ 2000 := by
 have hg := goodG_all h
 have hs : 1 ≤ r ∧ 1 ≤ c ∧ r * c ≤ 2000 ∧ (l.length : Int) = r * c := of_decide_eq_true hg.1
 obtain ⟨R, rfl⟩ := Int.eq_ofNat_of_zero_le (show 0 ≤ r by omega)
 obtain ⟨C, rfl⟩ := Int.eq_ofNat_of_zero_le (show 0 ≤ c by omega)
 have e : ((R * C : Nat) : Int) = (R : Int) * (C : Int) := by simp
 refine ⟨R, C, rfl, rfl, ?_, ?_, ?_, ?_, ?_, ?_⟩ <;> omega
end Go.Proofs.YtlofnhhoopefcaaGreatDoor

