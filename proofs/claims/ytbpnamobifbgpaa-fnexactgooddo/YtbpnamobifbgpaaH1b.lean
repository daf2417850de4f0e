/-
  One handed over: Change.
-/
import Derived.Test.YtbpnamobifbgpaaH1a
namespace Go.Proofs.Ytbpnamobifbgpaa
open Go.RowKit

set_option maxRecDepth 8000 in
set_option maxHeartbeats 2000000 in
theorem toChange (r : Int) (c : Int) (t : List UInt8) (w : World) :
    Calls Try.prog 12 #[changeV r c t] w fun e w' => e = .returned (changeV r c t) ∧ Ext w w' := by
  have X1 := x1 w (.cells #[.int .i64 r, .int .i64 c, sV t] 23)
  have B1 := vec_made w [.int .i64 r, .int .i64 c, sV t] 23
  obtain ⟨wa, ha⟩ : ∃ wa, w.alloc (.cells #[.int .i64 r, .int .i64 c, sV t] 23) = wa := ⟨_, rfl⟩
  have B2 := vec_made wa [.int .i64 0, .int .i64 0, sV []] 30
  have X2 := x1 wa (.cells #[.int .i64 0, .int .i64 0, sV []] 30)
  obtain ⟨wb, hb⟩ : ∃ wb, wa.alloc (.cells #[.int .i64 0, .int .i64 0, sV []] 30) = wb := ⟨_, rfl⟩
  have B3 := vec_made wb [.int .i64 0, .int .i64 0, sV []] 30
  have X3 := x1 wb (.cells #[.int .i64 0, .int .i64 0, sV []] 30)
  have sa : wa.heap.size = w.heap.size + 1 := by rw [← ha, World.size_alloc]
  have sb : wb.heap.size = w.heap.size + 1 + 1 := by rw [← hb, World.size_alloc, sa]
  change Vec (w.alloc (.cells #[.int .i64 r, .int .i64 c, sV t] 23)) _ _ at B1
  change Vec (wa.alloc (.cells #[.int .i64 0, .int .i64 0, sV []] 30)) _ _ at B2
  change Vec (wb.alloc (.cells #[.int .i64 0, .int .i64 0, sV []] 30)) _ _ at B3
  rw [ha] at X1 B1
  rw [hb] at X2 B2
  rw [sa] at B2
  rw [sb] at B3
  have X := xt (xt X1 X2) X3
  have B1 := (B1.later X2).later X3
  have B2 := B2.later X3
  clear X1 X2 X3
  obtain ⟨wc, hc⟩ : ∃ wc, wb.alloc (.cells #[.int .i64 0, .int .i64 0, sV []] 30) = wc := ⟨_, rfl⟩
  rw [hc] at B1 B2 B3 X
  obtain ⟨wd1, hd1⟩ : ∃ wd, (((wc.setCell ⟨w.heap.size + 1 + 1, 0, none⟩ (.int .i64 r)).setCell ⟨w.heap.size + 1 + 1, 1, none⟩ (.int .i64 c)).setCell ⟨w.heap.size + 1 + 1, 2, none⟩ (sV t)) = wd := ⟨_, rfl⟩
  have D11 := ((((((B1).far (p := ⟨w.heap.size + 1 + 1, 0, none⟩) (by show w.heap.size + 1 + 1 ≠ _; omega) (.int .i64 r))).far (p := ⟨w.heap.size + 1 + 1, 1, none⟩) (by show w.heap.size + 1 + 1 ≠ _; omega) (.int .i64 c))).far (p := ⟨w.heap.size + 1 + 1, 2, none⟩) (by show w.heap.size + 1 + 1 ≠ _; omega) (sV t))
  have D21 := ((((((B2).far (p := ⟨w.heap.size + 1 + 1, 0, none⟩) (by show w.heap.size + 1 + 1 ≠ _; omega) (.int .i64 r))).far (p := ⟨w.heap.size + 1 + 1, 1, none⟩) (by show w.heap.size + 1 + 1 ≠ _; omega) (.int .i64 c))).far (p := ⟨w.heap.size + 1 + 1, 2, none⟩) (by show w.heap.size + 1 + 1 ≠ _; omega) (sV t))
  have D31 : Vec (((wc.setCell ⟨w.heap.size + 1 + 1, 0, none⟩ (.int .i64 r)).setCell ⟨w.heap.size + 1 + 1, 1, none⟩ (.int .i64 c)).setCell ⟨w.heap.size + 1 + 1, 2, none⟩ (sV t)) (w.heap.size + 1 + 1) [.int .i64 r, .int .i64 c, sV t] := ((((((B3).put 0 (by simp) (.int .i64 r))).put 1 (by simp) (.int .i64 c))).put 2 (by simp) (sV t))
  have XD1 := (xset ((xset ((xset (X) (p := ⟨w.heap.size + 1 + 1, 0, none⟩) (by show _ ≤ w.heap.size + 1 + 1; omega) (.int .i64 r))) (p := ⟨w.heap.size + 1 + 1, 1, none⟩) (by show _ ≤ w.heap.size + 1 + 1; omega) (.int .i64 c))) (p := ⟨w.heap.size + 1 + 1, 2, none⟩) (by show _ ≤ w.heap.size + 1 + 1; omega) (sV t))
  rw [hd1] at D11 D21 D31 XD1
  have a0 := (B1 0 _ rfl).1
  have a1 := (B1 1 _ rfl).1
  have a2 := (B1 2 _ rfl).1
  have k0 := (B3 0 _ rfl).1
  have l0 := (B3 0 _ rfl).2
  have k1 := (B3 1 _ rfl).1
  have l1 := (B3 1 _ rfl).2
  have k2 := (B3 2 _ rfl).1
  have l2 := (B3 2 _ rfl).2
  have q0 := (D31 0 _ rfl).1
  have q1 := (D31 1 _ rfl).1
  have q2 := (D31 2 _ rfl).1
  have b0 := (D21 0 _ rfl).1
  have b1 := (D21 1 _ rfl).1
  have b2 := (D21 2 _ rfl).1
  have g0' := (D21 0 _ rfl).2
  have g1' := (D21 1 _ rfl).2
  have g2' := (D21 2 _ rfl).2
  obtain ⟨wy, hy⟩ : ∃ wy, (((wd1.setCell ⟨w.heap.size + 1, 0, none⟩ (.int .i64 r)).setCell ⟨w.heap.size + 1, 1, none⟩ (.int .i64 c)).setCell ⟨w.heap.size + 1, 2, none⟩ (sV t)) = wy := ⟨_, rfl⟩
  have G2 : Vec (((wd1.setCell ⟨w.heap.size + 1, 0, none⟩ (.int .i64 r)).setCell ⟨w.heap.size + 1, 1, none⟩ (.int .i64 c)).setCell ⟨w.heap.size + 1, 2, none⟩ (sV t)) (w.heap.size + 1) [.int .i64 r, .int .i64 c, sV t] := ((((((D21).put 0 (by simp) (.int .i64 r))).put 1 (by simp) (.int .i64 c))).put 2 (by simp) (sV t))
  have FX := (xset ((xset ((xset (XD1) (p := ⟨w.heap.size + 1, 0, none⟩) (by show _ ≤ w.heap.size + 1; omega) (.int .i64 r))) (p := ⟨w.heap.size + 1, 1, none⟩) (by show _ ≤ w.heap.size + 1; omega) (.int .i64 c))) (p := ⟨w.heap.size + 1, 2, none⟩) (by show _ ≤ w.heap.size + 1; omega) (sV t))
  rw [hy] at G2 FX
  have fd0 := (G2 0 _ rfl).1
  have fd1 := (G2 1 _ rfl).1
  have fd2 := (G2 2 _ rfl).1
  clear G2 D11 D21 D31 B1 B2 B3
  go_enter Try.func12, Try.ntmps12
  go_wp2_with fail
  exact bodyPost_ret (v := changeV r c t) (by simp [results, Try.results12, go_sem, fd0, fd1, fd2]) rfl ⟨rfl, FX⟩

end Go.Proofs.Ytbpnamobifbgpaa
