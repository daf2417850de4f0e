/-
  Chapter 11: slices.IndexFunc and slices.DeleteFunc over a row of numbers, by any function that only makes memory.
-/
import Derived.Test.YtlofnhhoopefcaaGreatDoorQb
import Derived.Lib.SlKept
import Derived.Shelf.SlicesE.Compact
import Derived.Lib.SliceRun
import Derived.Laws.IdiomCopy
namespace Go.Proofs.YtlofnhhoopefcaaGreatDoor
open Go.RowKit

/-- What stands in a row while others are struck. -/
structure Kept (l : List Nat) (p : Nat → Bool) (j i : Nat) (M : List Nat) : Prop where
 len : M.length = l.length
 lt : i < j
 le : j ≤ l.length
 ahead : M.take i = (l.take j).filter fun x => !p x
 rest : ∀ t, j ≤ t → M[t]? = l[t]?
theorem Kept.start {l : List Nat} {p : Nat → Bool} {k : Nat} (hk : k < l.length) (hp : ∀ x, l[k]? = some x → p x = true) (ha : ∀ j x, j < k → l[j]? = some x → p x = false) : Kept l p (k + 1) k l := by
 refine ⟨rfl, Nat.lt_succ_self _, hk, ?_, fun _ _ => rfl⟩
 rw [List.take_add_one, List.getElem?_eq_getElem hk, List.filter_append]
 have e1 : (l.take k).filter (fun x => !p x) = l.take k := by
  rw [List.filter_eq_self]
  intro x hx
  obtain ⟨j, hj, rfl⟩ := List.getElem_of_mem hx
  rw [List.length_take] at hj
  rw [List.getElem_take, ha j _ (by omega) (List.getElem?_eq_getElem (by omega))]
  rfl
 rw [e1]
 have := hp _ (List.getElem?_eq_getElem hk)
 simp [this]
theorem Kept.keep {l : List Nat} {p : Nat → Bool} {j i x : Nat} {M : List Nat} (K : Kept l p j i M) (hx : l[j]? = some x) (hp : p x = false) : Kept l p (j + 1) (i + 1) (M.set i x) := by
 have hj : j < l.length := (List.getElem?_eq_some_iff.1 hx).1
 have h1 := K.lt
 have h2 := K.len
 refine ⟨by simp [K.len], by omega, hj, ?_, fun t ht => ?_⟩
 ·
  have e1 : (l.take (j + 1)).filter (fun x => !p x) = (l.take j).filter (fun x => !p x) ++ [x] := by
   rw [List.take_add_one, hx, List.filter_append]
   simp [hp]
  have e2 : (M.set i x).take (i + 1) = M.take i ++ [x] := by
   rw [List.take_add_one, List.getElem?_set_self (by omega), List.take_set_of_le (Nat.le_refl _)]
   rfl
  rw [e1, e2, K.ahead]
 ·
  rw [List.getElem?_set_ne (by omega)]
  exact K.rest t (by omega)
theorem Kept.skip {l : List Nat} {p : Nat → Bool} {j i x : Nat} {M : List Nat} (K : Kept l p j i M) (hx : l[j]? = some x) (hp : p x = true) : Kept l p (j + 1) i M := by
 have hj : j < l.length := (List.getElem?_eq_some_iff.1 hx).1
 refine ⟨K.len, Nat.lt_succ_of_lt K.lt, hj, ?_, fun t ht => K.rest t (by omega)⟩
 rw [List.take_add_one, hx, List.filter_append, ← K.ahead]
 simp [hp]
end Go.Proofs.YtlofnhhoopefcaaGreatDoor

