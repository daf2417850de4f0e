/-
  The reader of choices beside other memory.
-/
import Derived.Test.YthdjlhhedkfibaaDoorCur
namespace Go.Proofs.YthdjlhhedkfibaaDoor
open Go.RowKit

theorem Only.setNew {b g i : Nat} {w w' : World} (h : Only b w w') (hg : w.heap.size ≤ g) (u : Value) : Only b w (w'.setCell ⟨g, i, none⟩ u) := by
  refine ⟨h.os, h.tape, h.output, ?_, fun k hk hl => ?_⟩
  · have := h.size
    simpa [World.setCell] using this
  · rw [Below.heap_setCell _ _ _ _ (by show k ≠ g; omega)]
    exact h.block k hk hl
theorem addr_offc {b g i j : Nat} (h : b ≠ g) : (⟨g, i, none⟩ : Addr) ≠ ⟨b, j, none⟩ := fun e => h (by cases e; rfl)
theorem Box3.farc {w : World} {b g i : Nat} {v0 v1 v2 : Value} (h : Box3 w b v0 v1 v2) (hb : b ≠ g) (u : Value) : Box3 (w.setCell ⟨g, i, none⟩ u) b v0 v1 v2 := by
  obtain ⟨⟨q0, q1, q2⟩, f0, f1, f2⟩ := h
  refine ⟨⟨?_, ?_, ?_⟩, ?_, ?_, ?_⟩
  · rw [World.cell?_setCell_other _ _ _ _ (addr_offc hb)]; exact q0
  · rw [World.cell?_setCell_other _ _ _ _ (addr_offc hb)]; exact q1
  · rw [World.cell?_setCell_other _ _ _ _ (addr_offc hb)]; exact q2
  · simp [World.frozen?_setCell, f0]
  · simp [World.frozen?_setCell, f1]
  · simp [World.frozen?_setCell, f2]
theorem Cur.far {w : World} {b base K g i : Nat} (h : Cur w b base K) (hb : b ≠ g) (hg : base ≤ g) (u : Value) : Cur (w.setCell ⟨g, i, none⟩ u) b base K := by
  obtain ⟨v, k, a, s, B, hc, r⟩ := h
  exact ⟨v, k, a, s, B.farc hb u, hc.only (b := g) ((Only.refl g w).set u) hg, r⟩

/-- The reader as it is made. -/
theorem Cur.made (w : World) (v : Value) (n base : Nat) (t : TypeId) (hc : CodeIn w base v n) (hn : n ≤ 1048576) (hb : base ≤ w.heap.size) : Cur (w.alloc (.cells #[v, .int .i64 0, .int .u64 0] t)) w.heap.size base 0 :=
  ⟨v, n, 0, 0, Box3.made w _ _ _ _, hc.only (b := w.heap.size) (Only.of_ext (x1 _ _)) hb, hn, by omega, by omega, by omega, by omega, hb⟩

end Go.Proofs.YthdjlhhedkfibaaDoor
