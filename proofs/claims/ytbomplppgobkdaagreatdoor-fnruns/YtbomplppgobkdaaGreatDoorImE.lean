/-
  The program's put.
-/
import Derived.Test.YtbomplppgobkdaaGreatDoorMg20
namespace Go.Proofs.YtbomplppgobkdaaGreatDoor
open Go.RowKit

theorem Box4.far {w : World} {b : Nat} {v0 v1 v2 v3 : Value} (h : Box4 w b v0 v1 v2 v3) {p : Addr} (hp : p.block ≠ b) (u : Value) : Box4 (w.setCell p u) b v0 v1 v2 v3 := by
  obtain ⟨⟨h0, h1, h2, h3⟩, f0, f1, f2, f3⟩ := h
  have ne : ∀ i, p ≠ ⟨b, i, none⟩ := fun i e => hp (congrArg Addr.block e)
  refine ⟨⟨?_, ?_, ?_, ?_⟩, ?_, ?_, ?_, ?_⟩
  · rw [World.cell?_setCell_other _ _ _ _ (ne 0)]; exact h0
  · rw [World.cell?_setCell_other _ _ _ _ (ne 1)]; exact h1
  · rw [World.cell?_setCell_other _ _ _ _ (ne 2)]; exact h2
  · rw [World.cell?_setCell_other _ _ _ _ (ne 3)]; exact h3
  · rw [World.frozen?_setCell]; exact f0
  · rw [World.frozen?_setCell]; exact f1
  · rw [World.frozen?_setCell]; exact f2
  · rw [World.frozen?_setCell]; exact f3
theorem rnd_lt {P : Nat} {more : Bool} (h : 15 < nd P) : rndM 0 P (nd P - 15) more ≤ 1000000000000000 := by
  unfold rndM
  have h1 : P / 10 ^ (nd P - 15) < 10 ^ 15 := by
    refine Nat.div_lt_of_lt_mul ?_
    rw [← Nat.pow_add, show nd P - 15 + 15 = nd P by omega]
    exact (nd_dig P).1
  have e : (10 : Nat) ^ 15 = 1000000000000000 := by decide
  split <;> omega

end Go.Proofs.YtbomplppgobkdaaGreatDoor

