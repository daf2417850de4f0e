/-
  Chapter 14: ReadSeparated, of the program.
-/
import Derived.Test.YtkjbeciiecljgaaDoorRd13
namespace Go.Proofs.YtkjbeciiecljgaaDoor
open Go.RowKit

theorem Sen.flt {w : World} {a1 a2 a3 : Addr} (h : Sen w a1 a2 a3) : Flt w 92 (.pointer (some a1)) 92 (.pointer (some a2)) := ⟨h.v1, h.v2⟩
theorem box3_puts {w : World} {b : Nat} {v0 v1 v2 : Value} (h : Box3 w b v0 v1 v2) (u0 u1 u2 : Value) : Box3 (((w.setCell ⟨b, 0, none⟩ u0).setCell ⟨b, 1, none⟩ u1).setCell ⟨b, 2, none⟩ u2) b u0 u1 u2 := by
  obtain ⟨⟨a0, a1, a2⟩, f0, f1, f2⟩ := h
  have k : ∀ (W : World) (i j : Nat) (u x : Value), i ≠ j → W.cell? ⟨b, j, none⟩ = some x → (W.setCell ⟨b, i, none⟩ u).cell? ⟨b, j, none⟩ = some x := fun W i j u x hij hx => by
    rw [World.cell?_setCell_other _ _ _ _ (fun e => hij (by cases e; rfl))]; exact hx
  refine ⟨⟨?_, ?_, ?_⟩, by simp only [World.frozen?_setCell]; exact f0, by simp only [World.frozen?_setCell]; exact f1, by simp only [World.frozen?_setCell]; exact f2⟩
  · exact k _ 2 0 _ _ (by decide) (k _ 1 0 _ _ (by decide) (World.cell?_setCell_same _ _ _ a0))
  · exact k _ 2 1 _ _ (by decide) (World.cell?_setCell_same _ _ _ (k _ 0 1 _ _ (by decide) a1))
  · exact World.cell?_setCell_same _ _ _ (k _ 1 2 _ _ (by decide) (k _ 0 2 _ _ (by decide) a2))
set_option maxRecDepth 8000 in
set_option maxHeartbeats 1000000 in
theorem sepRangeI (t mk : List UInt8) (a1 a2 a3 : Addr) (w : World) (hn : 20000 < t.length ∨ isMk mk = false) (hs : Sen w a1 a2 a3) (hg : ErrT w) :
    Calls Tryd.prog 5 #[sV t, sV mk] w fun e w' => e = .returned (.agg #[.int .i64 3, .int .i64 0, .slice none 0 0]) ∧ Ext w w' := by
  have A0 := vec_made w [.int .i64 0, .int .i64 0, .slice none 0 0] 24
  have X0 := x1 w (.cells #[.int .i64 0, .int .i64 0, .slice none 0 0] 24)
  change Vec (w.alloc (.cells #[.int .i64 0, .int .i64 0, .slice none 0 0] 24)) _ _ at A0
  have C1 := readRange t mk _ _ _ hn (cell_later X0 hs.v3)
  have HS : Hid (Sen (w.alloc (.cells #[.int .i64 0, .int .i64 0, .slice none 0 0] 24)) a1 a2 a3 ∧ ErrT (w.alloc (.cells #[.int .i64 0, .int .i64 0, .slice none 0 0] 24)) ∧ Ext w (w.alloc (.cells #[.int .i64 0, .int .i64 0, .slice none 0 0] 24)) ∧ Vec (w.alloc (.cells #[.int .i64 0, .int .i64 0, .slice none 0 0] 24)) w.heap.size [.int .i64 0, .int .i64 0, .slice none 0 0]) := ⟨hs.later X0, cell_later X0 hg, X0, A0⟩
  clear hs hg hn X0 A0
  go_enter Tryd.func5, Tryd.ntmps5
  go_wp2_with fail
  refine C1.mono ?_
  rintro _ w1 ⟨rfl, e1⟩
  have C2 := errRange14 a1 a2 a3 w1 (HS.out.1.later e1)
  clear C1
  go_wp2_with fail
  refine C2.mono ?_
  rintro _ w2 ⟨rfl, e2⟩
  have C3 := placeMiss (.pointer (some a3)) w2 (cell_later (xt e1 e2) HS.out.2.1)
  clear C2
  go_wp2_with fail
  refine C3.mono ?_
  rintro _ w3 ⟨rfl, e3⟩
  have A3 := HS.out.2.2.2.later (xt (xt e1 e2) e3)
  have HX : Hid (Ext w (((w3.setCell ⟨w.heap.size, 0, none⟩ (.int .i64 3)).setCell ⟨w.heap.size, 1, none⟩ (.int .i64 0)).setCell ⟨w.heap.size, 2, none⟩ (.slice none 0 0)) ∧ Box3 (((w3.setCell ⟨w.heap.size, 0, none⟩ (.int .i64 3)).setCell ⟨w.heap.size, 1, none⟩ (.int .i64 0)).setCell ⟨w.heap.size, 2, none⟩ (.slice none 0 0)) w.heap.size (.int .i64 3) (.int .i64 0) (.slice none 0 0)) :=
    ⟨xset (xset (xset (xt HS.out.2.2.1 (xt (xt e1 e2) e3)) (p := ⟨w.heap.size, 0, none⟩) (Nat.le_refl _) _) (p := ⟨w.heap.size, 1, none⟩) (Nat.le_refl _) _) (p := ⟨w.heap.size, 2, none⟩) (Nat.le_refl _) _,
      box3_puts ⟨⟨(A3 0 _ rfl).1, (A3 1 _ rfl).1, (A3 2 _ rfl).1⟩, (A3 0 _ rfl).2, (A3 1 _ rfl).2, (A3 2 _ rfl).2⟩ _ _ _⟩
  obtain ⟨c0, f0⟩ := A3 0 _ rfl
  obtain ⟨c1, f1⟩ := A3 1 _ rfl
  obtain ⟨c2, f2⟩ := A3 2 _ rfl
  clear C3 e1 e2 e3 A3
  go_wp2_with fail
  obtain ⟨XE, ⟨d0, d1, d2⟩, _⟩ := HX.out
  exact bodyPost_ret (v := .agg #[.int .i64 3, .int .i64 0, .slice none 0 0]) (by simp [results, Tryd.results5, go_sem, d0, d1, d2]) rfl ⟨rfl, XE⟩
end Go.Proofs.YtkjbeciiecljgaaDoor
