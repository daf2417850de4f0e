/-
  One handed over: Shown.
-/
import Derived.Test.YtbipmeldmgpknaaS8a
namespace Go.Proofs.Ytbipmeldmgpknaa
open Go.RowKit

set_option maxRecDepth 8000 in
set_option maxHeartbeats 2000000 in
theorem toShown (r : Int) (c : Int) (k : Int) (n : Bool) (d : Int) (x : Int) (t : List UInt8) (q : Bool) (w : World) :
    Calls Try.prog 14 #[shownV r c k n d x t q] w fun e w' => e = .returned (shownV r c k n d x t q) ∧ Ext w w' := by
  have X1 := x1 w (.cells #[.int .i64 r, .int .i64 c, .int .i64 k, .bool n, .int .i64 d, .int .i64 x, sV t, .bool q] 36)
  have B1 := vec_made w [.int .i64 r, .int .i64 c, .int .i64 k, .bool n, .int .i64 d, .int .i64 x, sV t, .bool q] 36
  obtain ⟨wa, ha⟩ : ∃ wa, w.alloc (.cells #[.int .i64 r, .int .i64 c, .int .i64 k, .bool n, .int .i64 d, .int .i64 x, sV t, .bool q] 36) = wa := ⟨_, rfl⟩
  have B2 := vec_made wa [.int .i64 0, .int .i64 0, .int .i64 0, .bool false, .int .i64 0, .int .i64 0, sV [], .bool false] 42
  have X2 := x1 wa (.cells #[.int .i64 0, .int .i64 0, .int .i64 0, .bool false, .int .i64 0, .int .i64 0, sV [], .bool false] 42)
  obtain ⟨wb, hb⟩ : ∃ wb, wa.alloc (.cells #[.int .i64 0, .int .i64 0, .int .i64 0, .bool false, .int .i64 0, .int .i64 0, sV [], .bool false] 42) = wb := ⟨_, rfl⟩
  have B3 := vec_made wb [.int .i64 0, .int .i64 0, .int .i64 0, .bool false, .int .i64 0, .int .i64 0, sV [], .bool false] 42
  have X3 := x1 wb (.cells #[.int .i64 0, .int .i64 0, .int .i64 0, .bool false, .int .i64 0, .int .i64 0, sV [], .bool false] 42)
  have sa : wa.heap.size = w.heap.size + 1 := by rw [← ha, World.size_alloc]
  have sb : wb.heap.size = w.heap.size + 1 + 1 := by rw [← hb, World.size_alloc, sa]
  change Vec (w.alloc (.cells #[.int .i64 r, .int .i64 c, .int .i64 k, .bool n, .int .i64 d, .int .i64 x, sV t, .bool q] 36)) _ _ at B1
  change Vec (wa.alloc (.cells #[.int .i64 0, .int .i64 0, .int .i64 0, .bool false, .int .i64 0, .int .i64 0, sV [], .bool false] 42)) _ _ at B2
  change Vec (wb.alloc (.cells #[.int .i64 0, .int .i64 0, .int .i64 0, .bool false, .int .i64 0, .int .i64 0, sV [], .bool false] 42)) _ _ at B3
  rw [ha] at X1 B1
  rw [hb] at X2 B2
  rw [sa] at B2
  rw [sb] at B3
  have X := xt (xt X1 X2) X3
  have B1 := (B1.later X2).later X3
  have B2 := B2.later X3
  clear X1 X2 X3
  obtain ⟨wc, hc⟩ : ∃ wc, wb.alloc (.cells #[.int .i64 0, .int .i64 0, .int .i64 0, .bool false, .int .i64 0, .int .i64 0, sV [], .bool false] 42) = wc := ⟨_, rfl⟩
  rw [hc] at B1 B2 B3 X
  obtain ⟨wd1, hd1⟩ : ∃ wd, ((wc.setCell ⟨w.heap.size + 1 + 1, 0, none⟩ (.int .i64 r)).setCell ⟨w.heap.size + 1 + 1, 1, none⟩ (.int .i64 c)) = wd := ⟨_, rfl⟩
  have D11 := ((((B1).far (p := ⟨w.heap.size + 1 + 1, 0, none⟩) (by show w.heap.size + 1 + 1 ≠ _; omega) (.int .i64 r))).far (p := ⟨w.heap.size + 1 + 1, 1, none⟩) (by show w.heap.size + 1 + 1 ≠ _; omega) (.int .i64 c))
  have D21 := ((((B2).far (p := ⟨w.heap.size + 1 + 1, 0, none⟩) (by show w.heap.size + 1 + 1 ≠ _; omega) (.int .i64 r))).far (p := ⟨w.heap.size + 1 + 1, 1, none⟩) (by show w.heap.size + 1 + 1 ≠ _; omega) (.int .i64 c))
  have D31 : Vec ((wc.setCell ⟨w.heap.size + 1 + 1, 0, none⟩ (.int .i64 r)).setCell ⟨w.heap.size + 1 + 1, 1, none⟩ (.int .i64 c)) (w.heap.size + 1 + 1) [.int .i64 r, .int .i64 c, .int .i64 0, .bool false, .int .i64 0, .int .i64 0, sV [], .bool false] := ((((B3).put 0 (by simp) (.int .i64 r))).put 1 (by simp) (.int .i64 c))
  have XD1 := (xset ((xset (X) (p := ⟨w.heap.size + 1 + 1, 0, none⟩) (by show _ ≤ w.heap.size + 1 + 1; omega) (.int .i64 r))) (p := ⟨w.heap.size + 1 + 1, 1, none⟩) (by show _ ≤ w.heap.size + 1 + 1; omega) (.int .i64 c))
  rw [hd1] at D11 D21 D31 XD1
  have a0 := (B1 0 _ rfl).1
  have a1 := (B1 1 _ rfl).1
  have a2 := (B1 2 _ rfl).1
  have a3 := (B1 3 _ rfl).1
  have a4 := (B1 4 _ rfl).1
  have a5 := (B1 5 _ rfl).1
  have a6 := (B1 6 _ rfl).1
  have y2 := (D11 2 _ rfl).1
  have y3 := (D11 3 _ rfl).1
  have y4 := (D11 4 _ rfl).1
  have y5 := (D11 5 _ rfl).1
  have y6 := (D11 6 _ rfl).1
  have k0 := (B3 0 _ rfl).1
  have l0 := (B3 0 _ rfl).2
  have k1 := (B3 1 _ rfl).1
  have l1 := (B3 1 _ rfl).2
  go_enter Try.func14, Try.ntmps14
  go_wp2_with fail
  clear a0 a1 a2 a3 a4 a5 a6 y2 y3 y4 y5 y6 k0 l0 k1 l1 hd1 ha hb hc sa sb
  refine (toValue k n d x t _).mono ?_
  rintro e w1 ⟨rfl, e1⟩
  have E11 := D11.later e1
  have E21 := D21.later e1
  have E31 := D31.later e1
  have XE1 := xt XD1 e1
  clear D11 D21 D31 XD1 e1 B1 B2 B3 X
  obtain ⟨wd2, hd2⟩ : ∃ wd, ((((((w1.setCell ⟨w.heap.size + 1 + 1, 2, none⟩ (.int .i64 k)).setCell ⟨w.heap.size + 1 + 1, 3, none⟩ (.bool n)).setCell ⟨w.heap.size + 1 + 1, 4, none⟩ (.int .i64 d)).setCell ⟨w.heap.size + 1 + 1, 5, none⟩ (.int .i64 x)).setCell ⟨w.heap.size + 1 + 1, 6, none⟩ (sV t)).setCell ⟨w.heap.size + 1 + 1, 7, none⟩ (.bool q)) = wd := ⟨_, rfl⟩
  have D12 := ((((((((((((E11).far (p := ⟨w.heap.size + 1 + 1, 2, none⟩) (by show w.heap.size + 1 + 1 ≠ _; omega) (.int .i64 k))).far (p := ⟨w.heap.size + 1 + 1, 3, none⟩) (by show w.heap.size + 1 + 1 ≠ _; omega) (.bool n))).far (p := ⟨w.heap.size + 1 + 1, 4, none⟩) (by show w.heap.size + 1 + 1 ≠ _; omega) (.int .i64 d))).far (p := ⟨w.heap.size + 1 + 1, 5, none⟩) (by show w.heap.size + 1 + 1 ≠ _; omega) (.int .i64 x))).far (p := ⟨w.heap.size + 1 + 1, 6, none⟩) (by show w.heap.size + 1 + 1 ≠ _; omega) (sV t))).far (p := ⟨w.heap.size + 1 + 1, 7, none⟩) (by show w.heap.size + 1 + 1 ≠ _; omega) (.bool q))
  have D22 := ((((((((((((E21).far (p := ⟨w.heap.size + 1 + 1, 2, none⟩) (by show w.heap.size + 1 + 1 ≠ _; omega) (.int .i64 k))).far (p := ⟨w.heap.size + 1 + 1, 3, none⟩) (by show w.heap.size + 1 + 1 ≠ _; omega) (.bool n))).far (p := ⟨w.heap.size + 1 + 1, 4, none⟩) (by show w.heap.size + 1 + 1 ≠ _; omega) (.int .i64 d))).far (p := ⟨w.heap.size + 1 + 1, 5, none⟩) (by show w.heap.size + 1 + 1 ≠ _; omega) (.int .i64 x))).far (p := ⟨w.heap.size + 1 + 1, 6, none⟩) (by show w.heap.size + 1 + 1 ≠ _; omega) (sV t))).far (p := ⟨w.heap.size + 1 + 1, 7, none⟩) (by show w.heap.size + 1 + 1 ≠ _; omega) (.bool q))
  have D32 : Vec ((((((w1.setCell ⟨w.heap.size + 1 + 1, 2, none⟩ (.int .i64 k)).setCell ⟨w.heap.size + 1 + 1, 3, none⟩ (.bool n)).setCell ⟨w.heap.size + 1 + 1, 4, none⟩ (.int .i64 d)).setCell ⟨w.heap.size + 1 + 1, 5, none⟩ (.int .i64 x)).setCell ⟨w.heap.size + 1 + 1, 6, none⟩ (sV t)).setCell ⟨w.heap.size + 1 + 1, 7, none⟩ (.bool q)) (w.heap.size + 1 + 1) [.int .i64 r, .int .i64 c, .int .i64 k, .bool n, .int .i64 d, .int .i64 x, sV t, .bool q] := ((((((((((((E31).put 2 (by simp) (.int .i64 k))).put 3 (by simp) (.bool n))).put 4 (by simp) (.int .i64 d))).put 5 (by simp) (.int .i64 x))).put 6 (by simp) (sV t))).put 7 (by simp) (.bool q))
  have XD2 := (xset ((xset ((xset ((xset ((xset ((xset (XE1) (p := ⟨w.heap.size + 1 + 1, 2, none⟩) (by show _ ≤ w.heap.size + 1 + 1; omega) (.int .i64 k))) (p := ⟨w.heap.size + 1 + 1, 3, none⟩) (by show _ ≤ w.heap.size + 1 + 1; omega) (.bool n))) (p := ⟨w.heap.size + 1 + 1, 4, none⟩) (by show _ ≤ w.heap.size + 1 + 1; omega) (.int .i64 d))) (p := ⟨w.heap.size + 1 + 1, 5, none⟩) (by show _ ≤ w.heap.size + 1 + 1; omega) (.int .i64 x))) (p := ⟨w.heap.size + 1 + 1, 6, none⟩) (by show _ ≤ w.heap.size + 1 + 1; omega) (sV t))) (p := ⟨w.heap.size + 1 + 1, 7, none⟩) (by show _ ≤ w.heap.size + 1 + 1; omega) (.bool q))
  rw [hd2] at D12 D22 D32 XD2
  have a2 := (E11 2 _ rfl).1
  have a3 := (E11 3 _ rfl).1
  have a4 := (E11 4 _ rfl).1
  have a5 := (E11 5 _ rfl).1
  have a6 := (E11 6 _ rfl).1
  have a7 := (E11 7 _ rfl).1
  have k2 := (E31 2 _ rfl).1
  have l2 := (E31 2 _ rfl).2
  have k3 := (E31 3 _ rfl).1
  have l3 := (E31 3 _ rfl).2
  have k4 := (E31 4 _ rfl).1
  have l4 := (E31 4 _ rfl).2
  have k5 := (E31 5 _ rfl).1
  have l5 := (E31 5 _ rfl).2
  have k6 := (E31 6 _ rfl).1
  have l6 := (E31 6 _ rfl).2
  have k7 := (E31 7 _ rfl).1
  have l7 := (E31 7 _ rfl).2
  have q0 := (D32 0 _ rfl).1
  have q1 := (D32 1 _ rfl).1
  have q2 := (D32 2 _ rfl).1
  have q3 := (D32 3 _ rfl).1
  have q4 := (D32 4 _ rfl).1
  have q5 := (D32 5 _ rfl).1
  have q6 := (D32 6 _ rfl).1
  have q7 := (D32 7 _ rfl).1
  have b0 := (D22 0 _ rfl).1
  have b1 := (D22 1 _ rfl).1
  have b2 := (D22 2 _ rfl).1
  have b3 := (D22 3 _ rfl).1
  have b4 := (D22 4 _ rfl).1
  have b5 := (D22 5 _ rfl).1
  have b6 := (D22 6 _ rfl).1
  have b7 := (D22 7 _ rfl).1
  have g0' := (D22 0 _ rfl).2
  have g1' := (D22 1 _ rfl).2
  have g2' := (D22 2 _ rfl).2
  have g3' := (D22 3 _ rfl).2
  have g4' := (D22 4 _ rfl).2
  have g5' := (D22 5 _ rfl).2
  have g6' := (D22 6 _ rfl).2
  have g7' := (D22 7 _ rfl).2
  obtain ⟨wy, hy⟩ : ∃ wy, ((((((((wd2.setCell ⟨w.heap.size + 1, 0, none⟩ (.int .i64 r)).setCell ⟨w.heap.size + 1, 1, none⟩ (.int .i64 c)).setCell ⟨w.heap.size + 1, 2, none⟩ (.int .i64 k)).setCell ⟨w.heap.size + 1, 3, none⟩ (.bool n)).setCell ⟨w.heap.size + 1, 4, none⟩ (.int .i64 d)).setCell ⟨w.heap.size + 1, 5, none⟩ (.int .i64 x)).setCell ⟨w.heap.size + 1, 6, none⟩ (sV t)).setCell ⟨w.heap.size + 1, 7, none⟩ (.bool q)) = wy := ⟨_, rfl⟩
  have G2 : Vec ((((((((wd2.setCell ⟨w.heap.size + 1, 0, none⟩ (.int .i64 r)).setCell ⟨w.heap.size + 1, 1, none⟩ (.int .i64 c)).setCell ⟨w.heap.size + 1, 2, none⟩ (.int .i64 k)).setCell ⟨w.heap.size + 1, 3, none⟩ (.bool n)).setCell ⟨w.heap.size + 1, 4, none⟩ (.int .i64 d)).setCell ⟨w.heap.size + 1, 5, none⟩ (.int .i64 x)).setCell ⟨w.heap.size + 1, 6, none⟩ (sV t)).setCell ⟨w.heap.size + 1, 7, none⟩ (.bool q)) (w.heap.size + 1) [.int .i64 r, .int .i64 c, .int .i64 k, .bool n, .int .i64 d, .int .i64 x, sV t, .bool q] := ((((((((((((((((D22).put 0 (by simp) (.int .i64 r))).put 1 (by simp) (.int .i64 c))).put 2 (by simp) (.int .i64 k))).put 3 (by simp) (.bool n))).put 4 (by simp) (.int .i64 d))).put 5 (by simp) (.int .i64 x))).put 6 (by simp) (sV t))).put 7 (by simp) (.bool q))
  have FX := (xset ((xset ((xset ((xset ((xset ((xset ((xset ((xset (XD2) (p := ⟨w.heap.size + 1, 0, none⟩) (by show _ ≤ w.heap.size + 1; omega) (.int .i64 r))) (p := ⟨w.heap.size + 1, 1, none⟩) (by show _ ≤ w.heap.size + 1; omega) (.int .i64 c))) (p := ⟨w.heap.size + 1, 2, none⟩) (by show _ ≤ w.heap.size + 1; omega) (.int .i64 k))) (p := ⟨w.heap.size + 1, 3, none⟩) (by show _ ≤ w.heap.size + 1; omega) (.bool n))) (p := ⟨w.heap.size + 1, 4, none⟩) (by show _ ≤ w.heap.size + 1; omega) (.int .i64 d))) (p := ⟨w.heap.size + 1, 5, none⟩) (by show _ ≤ w.heap.size + 1; omega) (.int .i64 x))) (p := ⟨w.heap.size + 1, 6, none⟩) (by show _ ≤ w.heap.size + 1; omega) (sV t))) (p := ⟨w.heap.size + 1, 7, none⟩) (by show _ ≤ w.heap.size + 1; omega) (.bool q))
  rw [hy] at G2 FX
  have fd0 := (G2 0 _ rfl).1
  have fd1 := (G2 1 _ rfl).1
  have fd2 := (G2 2 _ rfl).1
  have fd3 := (G2 3 _ rfl).1
  have fd4 := (G2 4 _ rfl).1
  have fd5 := (G2 5 _ rfl).1
  have fd6 := (G2 6 _ rfl).1
  have fd7 := (G2 7 _ rfl).1
  clear G2 D12 D22 D32 E11 E21 E31
  go_wp2_with fail
  exact bodyPost_ret (v := shownV r c k n d x t q) (by simp [results, Try.results14, go_sem, fd0, fd1, fd2, fd3, fd4, fd5, fd6, fd7]) rfl ⟨rfl, FX⟩

end Go.Proofs.Ytbipmeldmgpknaa
