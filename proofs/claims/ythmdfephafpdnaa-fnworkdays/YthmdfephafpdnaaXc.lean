/-
  The reader of choices beside memory that grows.
-/
import Derived.Test.YthmdfephafpdnaaCurE
import Derived.OwnWalk
import Derived.Laws.OwnMore
namespace Go.Proofs.Ythmdfephafpdnaa
open Go.RowKit

theorem Cur.base_le {w : World} {b base K : Nat} (h : Cur w b base K) : base ≤ b := by obtain ⟨_, _, _, _, _, _, _, _, _, _, _, hb⟩ := h; exact hb
theorem Only.of_grown {w w' : World} {g : Nat} (h : w.grownBy w' (some g)) : Only g w w' := ⟨h.os, h.tape, h.output, h.size, fun k hk hl => h.block k hl (fun e => hk (by cases e; rfl))⟩
theorem ext_grown {w w' : World} (h : w.grownBy w' none) : Ext w w' := ⟨h.os, h.tape, h.output, h.size, fun k hk => h.block k hk (fun e => by cases e)⟩
theorem Only.to_grown {w w' : World} {g : Nat} (h : Only g w w') : w.grownBy w' (some g) := ⟨h.os, h.tape, h.output, h.size, fun k hk hne => h.block k (fun e => hne (by rw [e])) hk⟩
theorem Only.box3 {b k : Nat} {w w' : World} {v0 v1 v2 : Value} (h : Only b w w') (hk : k ≠ b) (B : Box3 w k v0 v1 v2) : Box3 w' k v0 v1 v2 := by
  have hlt := World.block_lt_of_cell? _ _ B.1.1
  have hf : ∀ j, w'.frozen? ⟨k, j, none⟩ = w.frozen? ⟨k, j, none⟩ := fun j => by
    unfold World.frozen?
    rw [h.block k hk hlt]
  exact ⟨⟨h.cell hk B.1.1, h.cell hk B.1.2.1, h.cell hk B.1.2.2⟩, (hf 0).trans B.2.1, (hf 1).trans B.2.2.1, (hf 2).trans B.2.2.2⟩
theorem Cur.grown {w w' : World} {b base K : Nat} {row : Option Nat} (h : Cur w b base K) (hg : w.grownBy w' row) (hr : ∀ r, row = some r → r ≠ b ∧ base ≤ r) : Cur w' b base K := by
  cases row with
  | none => exact h.ext (ext_grown hg)
  | some g =>
    obtain ⟨hgb, hbg⟩ := hr g rfl
    have o := Only.of_grown hg
    obtain ⟨v, k, a, s, B, hc, r⟩ := h
    exact ⟨v, k, a, s, o.box3 (fun e => hgb e.symm) B, hc.only o hbg, r⟩
theorem Only.grown {w w1 w' : World} {b : Nat} {row : Option Nat} (h : Only b w w1) (hg : w1.grownBy w' row) (hr : ∀ r, row = some r → w.heap.size ≤ r) : Only b w w' :=
  ⟨hg.os.trans h.os, hg.tape.trans h.tape, hg.output.trans h.output, Nat.le_trans h.size hg.size, fun k hk hl => (hg.block k (Nat.lt_of_lt_of_le hl h.size) (fun e => by have := hr k e.symm; omega)).trans (h.block k hk hl)⟩
theorem cell_grown {w w' : World} {row : Option Nat} {k j : Nat} {v : Value} (hg : w.grownBy w' row) (hr : ∀ r, row = some r → r ≠ k) (hc : w.cell? ⟨k, j, none⟩ = some v) : w'.cell? ⟨k, j, none⟩ = some v := by
  cases row with
  | none => exact cell_later (ext_grown hg) hc
  | some g => exact (Only.of_grown hg).cell (fun e => hr g rfl e.symm) hc


end Go.Proofs.Ythmdfephafpdnaa
