/-
  One handed over: Measure.
-/
import Derived.Test.YtemmeglmcbehfaaDoorY2a
namespace Go.Proofs.YtemmeglmcbehfaaDoor
open Go.RowKit

set_option maxRecDepth 8000 in
set_option maxHeartbeats 2000000 in
theorem toMeasure (cl : Int) (fd : Int) (w : World) :
    Calls Tryd.prog 33 #[measureV cl fd] w fun e w' => e = .returned (measureV cl fd) ∧ Ext w w' := by
  have X1 := x1 w (.cells #[.int .i64 cl, .int .i64 fd] 72)
  have B1 := vec_made w [.int .i64 cl, .int .i64 fd] 72
  obtain ⟨wa, ha⟩ : ∃ wa, w.alloc (.cells #[.int .i64 cl, .int .i64 fd] 72) = wa := ⟨_, rfl⟩
  have B2 := vec_made wa [.int .i64 0, .int .i64 0] 49
  have X2 := x1 wa (.cells #[.int .i64 0, .int .i64 0] 49)
  obtain ⟨wb, hb⟩ : ∃ wb, wa.alloc (.cells #[.int .i64 0, .int .i64 0] 49) = wb := ⟨_, rfl⟩
  have B3 := vec_made wb [.int .i64 0, .int .i64 0] 49
  have X3 := x1 wb (.cells #[.int .i64 0, .int .i64 0] 49)
  have sa : wa.heap.size = w.heap.size + 1 := by rw [← ha, World.size_alloc]
  have sb : wb.heap.size = w.heap.size + 1 + 1 := by rw [← hb, World.size_alloc, sa]
  change Vec (w.alloc (.cells #[.int .i64 cl, .int .i64 fd] 72)) _ _ at B1
  change Vec (wa.alloc (.cells #[.int .i64 0, .int .i64 0] 49)) _ _ at B2
  change Vec (wb.alloc (.cells #[.int .i64 0, .int .i64 0] 49)) _ _ at B3
  rw [ha] at X1 B1
  rw [hb] at X2 B2
  rw [sa] at B2
  rw [sb] at B3
  have X := xt (xt X1 X2) X3
  have B1 := (B1.later X2).later X3
  have B2 := B2.later X3
  clear X1 X2 X3
  obtain ⟨wc, hc⟩ : ∃ wc, wb.alloc (.cells #[.int .i64 0, .int .i64 0] 49) = wc := ⟨_, rfl⟩
  rw [hc] at B1 B2 B3 X
  obtain ⟨wd1, hd1⟩ : ∃ wd, ((wc.setCell ⟨w.heap.size + 1 + 1, 0, none⟩ (.int .i64 cl)).setCell ⟨w.heap.size + 1 + 1, 1, none⟩ (.int .i64 fd)) = wd := ⟨_, rfl⟩
  have D11 := ((((B1).far (p := ⟨w.heap.size + 1 + 1, 0, none⟩) (by show w.heap.size + 1 + 1 ≠ _; omega) (.int .i64 cl))).far (p := ⟨w.heap.size + 1 + 1, 1, none⟩) (by show w.heap.size + 1 + 1 ≠ _; omega) (.int .i64 fd))
  have D21 := ((((B2).far (p := ⟨w.heap.size + 1 + 1, 0, none⟩) (by show w.heap.size + 1 + 1 ≠ _; omega) (.int .i64 cl))).far (p := ⟨w.heap.size + 1 + 1, 1, none⟩) (by show w.heap.size + 1 + 1 ≠ _; omega) (.int .i64 fd))
  have D31 : Vec ((wc.setCell ⟨w.heap.size + 1 + 1, 0, none⟩ (.int .i64 cl)).setCell ⟨w.heap.size + 1 + 1, 1, none⟩ (.int .i64 fd)) (w.heap.size + 1 + 1) [.int .i64 cl, .int .i64 fd] := ((((B3).put 0 (by simp) (.int .i64 cl))).put 1 (by simp) (.int .i64 fd))
  have XD1 := (xset ((xset (X) (p := ⟨w.heap.size + 1 + 1, 0, none⟩) (by show _ ≤ w.heap.size + 1 + 1; omega) (.int .i64 cl))) (p := ⟨w.heap.size + 1 + 1, 1, none⟩) (by show _ ≤ w.heap.size + 1 + 1; omega) (.int .i64 fd))
  rw [hd1] at D11 D21 D31 XD1
  have a0 := (B1 0 _ rfl).1
  have a1 := (B1 1 _ rfl).1
  have k0 := (B3 0 _ rfl).1
  have l0 := (B3 0 _ rfl).2
  have k1 := (B3 1 _ rfl).1
  have l1 := (B3 1 _ rfl).2
  have q0 := (D31 0 _ rfl).1
  have q1 := (D31 1 _ rfl).1
  have b0 := (D21 0 _ rfl).1
  have b1 := (D21 1 _ rfl).1
  have g0' := (D21 0 _ rfl).2
  have g1' := (D21 1 _ rfl).2
  obtain ⟨wy, hy⟩ : ∃ wy, ((wd1.setCell ⟨w.heap.size + 1, 0, none⟩ (.int .i64 cl)).setCell ⟨w.heap.size + 1, 1, none⟩ (.int .i64 fd)) = wy := ⟨_, rfl⟩
  have G2 : Vec ((wd1.setCell ⟨w.heap.size + 1, 0, none⟩ (.int .i64 cl)).setCell ⟨w.heap.size + 1, 1, none⟩ (.int .i64 fd)) (w.heap.size + 1) [.int .i64 cl, .int .i64 fd] := ((((D21).put 0 (by simp) (.int .i64 cl))).put 1 (by simp) (.int .i64 fd))
  have FX := (xset ((xset (XD1) (p := ⟨w.heap.size + 1, 0, none⟩) (by show _ ≤ w.heap.size + 1; omega) (.int .i64 cl))) (p := ⟨w.heap.size + 1, 1, none⟩) (by show _ ≤ w.heap.size + 1; omega) (.int .i64 fd))
  rw [hy] at G2 FX
  have fd0 := (G2 0 _ rfl).1
  have fd1 := (G2 1 _ rfl).1
  clear G2 D11 D21 D31 B1 B2 B3
  go_enter Tryd.func33, Tryd.ntmps33
  go_wp2_with fail
  exact bodyPost_ret (v := measureV cl fd) (by simp [results, Tryd.results33, go_sem, fd0, fd1]) rfl ⟨rfl, FX⟩

end Go.Proofs.YtemmeglmcbehfaaDoor
