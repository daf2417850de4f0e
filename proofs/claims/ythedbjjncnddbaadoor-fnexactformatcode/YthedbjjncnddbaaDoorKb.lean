/-
  One handed over: Format.
-/
import Derived.Test.YthedbjjncnddbaaDoorKa
namespace Go.Proofs.YthedbjjncnddbaaDoor
open Go.RowKit

set_option maxRecDepth 8000 in
set_option maxHeartbeats 2000000 in
theorem toFormat (ng : Bool) (bf : List UInt8) (af : List UInt8) (wh : Int) (pl : Int) (mb : Int) (gr : Bool) (tm : Int) (dt : List UInt8) (w : World) :
    Calls Tryd.prog 21 #[formatV ng bf af wh pl mb gr tm dt] w fun e w' => e = .returned (formatV ng bf af wh pl mb gr tm dt) ∧ Ext w w' := by
  have X1 := x1 w (.cells #[.bool ng, sV bf, sV af, .int .i64 wh, .int .i64 pl, .int .i64 mb, .bool gr, .int .i64 tm, sV dt] 41)
  have B1 := vec_made w [.bool ng, sV bf, sV af, .int .i64 wh, .int .i64 pl, .int .i64 mb, .bool gr, .int .i64 tm, sV dt] 41
  obtain ⟨wa, ha⟩ : ∃ wa, w.alloc (.cells #[.bool ng, sV bf, sV af, .int .i64 wh, .int .i64 pl, .int .i64 mb, .bool gr, .int .i64 tm, sV dt] 41) = wa := ⟨_, rfl⟩
  have B2 := vec_made wa [.bool false, sV [], sV [], .int .i64 0, .int .i64 0, .int .i64 0, .bool false, .int .i64 0, sV []] 33
  have X2 := x1 wa (.cells #[.bool false, sV [], sV [], .int .i64 0, .int .i64 0, .int .i64 0, .bool false, .int .i64 0, sV []] 33)
  obtain ⟨wb, hb⟩ : ∃ wb, wa.alloc (.cells #[.bool false, sV [], sV [], .int .i64 0, .int .i64 0, .int .i64 0, .bool false, .int .i64 0, sV []] 33) = wb := ⟨_, rfl⟩
  have B3 := vec_made wb [.bool false, sV [], sV [], .int .i64 0, .int .i64 0, .int .i64 0, .bool false, .int .i64 0, sV []] 33
  have X3 := x1 wb (.cells #[.bool false, sV [], sV [], .int .i64 0, .int .i64 0, .int .i64 0, .bool false, .int .i64 0, sV []] 33)
  have sa : wa.heap.size = w.heap.size + 1 := by rw [← ha, World.size_alloc]
  have sb : wb.heap.size = w.heap.size + 1 + 1 := by rw [← hb, World.size_alloc, sa]
  change Vec (w.alloc (.cells #[.bool ng, sV bf, sV af, .int .i64 wh, .int .i64 pl, .int .i64 mb, .bool gr, .int .i64 tm, sV dt] 41)) _ _ at B1
  change Vec (wa.alloc (.cells #[.bool false, sV [], sV [], .int .i64 0, .int .i64 0, .int .i64 0, .bool false, .int .i64 0, sV []] 33)) _ _ at B2
  change Vec (wb.alloc (.cells #[.bool false, sV [], sV [], .int .i64 0, .int .i64 0, .int .i64 0, .bool false, .int .i64 0, sV []] 33)) _ _ at B3
  rw [ha] at X1 B1
  rw [hb] at X2 B2
  rw [sa] at B2
  rw [sb] at B3
  have X := xt (xt X1 X2) X3
  have B1 := (B1.later X2).later X3
  have B2 := B2.later X3
  clear X1 X2 X3
  obtain ⟨wc, hc⟩ : ∃ wc, wb.alloc (.cells #[.bool false, sV [], sV [], .int .i64 0, .int .i64 0, .int .i64 0, .bool false, .int .i64 0, sV []] 33) = wc := ⟨_, rfl⟩
  rw [hc] at B1 B2 B3 X
  obtain ⟨wd1, hd1⟩ : ∃ wd, (((((((((wc.setCell ⟨w.heap.size + 1 + 1, 0, none⟩ (.bool ng)).setCell ⟨w.heap.size + 1 + 1, 1, none⟩ (sV bf)).setCell ⟨w.heap.size + 1 + 1, 2, none⟩ (sV af)).setCell ⟨w.heap.size + 1 + 1, 3, none⟩ (.int .i64 wh)).setCell ⟨w.heap.size + 1 + 1, 4, none⟩ (.int .i64 pl)).setCell ⟨w.heap.size + 1 + 1, 5, none⟩ (.int .i64 mb)).setCell ⟨w.heap.size + 1 + 1, 6, none⟩ (.bool gr)).setCell ⟨w.heap.size + 1 + 1, 7, none⟩ (.int .i64 tm)).setCell ⟨w.heap.size + 1 + 1, 8, none⟩ (sV dt)) = wd := ⟨_, rfl⟩
  have D11 := ((((((((((((((((((B1).far (p := ⟨w.heap.size + 1 + 1, 0, none⟩) (by show w.heap.size + 1 + 1 ≠ _; omega) (.bool ng))).far (p := ⟨w.heap.size + 1 + 1, 1, none⟩) (by show w.heap.size + 1 + 1 ≠ _; omega) (sV bf))).far (p := ⟨w.heap.size + 1 + 1, 2, none⟩) (by show w.heap.size + 1 + 1 ≠ _; omega) (sV af))).far (p := ⟨w.heap.size + 1 + 1, 3, none⟩) (by show w.heap.size + 1 + 1 ≠ _; omega) (.int .i64 wh))).far (p := ⟨w.heap.size + 1 + 1, 4, none⟩) (by show w.heap.size + 1 + 1 ≠ _; omega) (.int .i64 pl))).far (p := ⟨w.heap.size + 1 + 1, 5, none⟩) (by show w.heap.size + 1 + 1 ≠ _; omega) (.int .i64 mb))).far (p := ⟨w.heap.size + 1 + 1, 6, none⟩) (by show w.heap.size + 1 + 1 ≠ _; omega) (.bool gr))).far (p := ⟨w.heap.size + 1 + 1, 7, none⟩) (by show w.heap.size + 1 + 1 ≠ _; omega) (.int .i64 tm))).far (p := ⟨w.heap.size + 1 + 1, 8, none⟩) (by show w.heap.size + 1 + 1 ≠ _; omega) (sV dt))
  have D21 := ((((((((((((((((((B2).far (p := ⟨w.heap.size + 1 + 1, 0, none⟩) (by show w.heap.size + 1 + 1 ≠ _; omega) (.bool ng))).far (p := ⟨w.heap.size + 1 + 1, 1, none⟩) (by show w.heap.size + 1 + 1 ≠ _; omega) (sV bf))).far (p := ⟨w.heap.size + 1 + 1, 2, none⟩) (by show w.heap.size + 1 + 1 ≠ _; omega) (sV af))).far (p := ⟨w.heap.size + 1 + 1, 3, none⟩) (by show w.heap.size + 1 + 1 ≠ _; omega) (.int .i64 wh))).far (p := ⟨w.heap.size + 1 + 1, 4, none⟩) (by show w.heap.size + 1 + 1 ≠ _; omega) (.int .i64 pl))).far (p := ⟨w.heap.size + 1 + 1, 5, none⟩) (by show w.heap.size + 1 + 1 ≠ _; omega) (.int .i64 mb))).far (p := ⟨w.heap.size + 1 + 1, 6, none⟩) (by show w.heap.size + 1 + 1 ≠ _; omega) (.bool gr))).far (p := ⟨w.heap.size + 1 + 1, 7, none⟩) (by show w.heap.size + 1 + 1 ≠ _; omega) (.int .i64 tm))).far (p := ⟨w.heap.size + 1 + 1, 8, none⟩) (by show w.heap.size + 1 + 1 ≠ _; omega) (sV dt))
  have D31 : Vec (((((((((wc.setCell ⟨w.heap.size + 1 + 1, 0, none⟩ (.bool ng)).setCell ⟨w.heap.size + 1 + 1, 1, none⟩ (sV bf)).setCell ⟨w.heap.size + 1 + 1, 2, none⟩ (sV af)).setCell ⟨w.heap.size + 1 + 1, 3, none⟩ (.int .i64 wh)).setCell ⟨w.heap.size + 1 + 1, 4, none⟩ (.int .i64 pl)).setCell ⟨w.heap.size + 1 + 1, 5, none⟩ (.int .i64 mb)).setCell ⟨w.heap.size + 1 + 1, 6, none⟩ (.bool gr)).setCell ⟨w.heap.size + 1 + 1, 7, none⟩ (.int .i64 tm)).setCell ⟨w.heap.size + 1 + 1, 8, none⟩ (sV dt)) (w.heap.size + 1 + 1) [.bool ng, sV bf, sV af, .int .i64 wh, .int .i64 pl, .int .i64 mb, .bool gr, .int .i64 tm, sV dt] := ((((((((((((((((((B3).put 0 (by simp) (.bool ng))).put 1 (by simp) (sV bf))).put 2 (by simp) (sV af))).put 3 (by simp) (.int .i64 wh))).put 4 (by simp) (.int .i64 pl))).put 5 (by simp) (.int .i64 mb))).put 6 (by simp) (.bool gr))).put 7 (by simp) (.int .i64 tm))).put 8 (by simp) (sV dt))
  have XD1 := (xset ((xset ((xset ((xset ((xset ((xset ((xset ((xset ((xset (X) (p := ⟨w.heap.size + 1 + 1, 0, none⟩) (by show _ ≤ w.heap.size + 1 + 1; omega) (.bool ng))) (p := ⟨w.heap.size + 1 + 1, 1, none⟩) (by show _ ≤ w.heap.size + 1 + 1; omega) (sV bf))) (p := ⟨w.heap.size + 1 + 1, 2, none⟩) (by show _ ≤ w.heap.size + 1 + 1; omega) (sV af))) (p := ⟨w.heap.size + 1 + 1, 3, none⟩) (by show _ ≤ w.heap.size + 1 + 1; omega) (.int .i64 wh))) (p := ⟨w.heap.size + 1 + 1, 4, none⟩) (by show _ ≤ w.heap.size + 1 + 1; omega) (.int .i64 pl))) (p := ⟨w.heap.size + 1 + 1, 5, none⟩) (by show _ ≤ w.heap.size + 1 + 1; omega) (.int .i64 mb))) (p := ⟨w.heap.size + 1 + 1, 6, none⟩) (by show _ ≤ w.heap.size + 1 + 1; omega) (.bool gr))) (p := ⟨w.heap.size + 1 + 1, 7, none⟩) (by show _ ≤ w.heap.size + 1 + 1; omega) (.int .i64 tm))) (p := ⟨w.heap.size + 1 + 1, 8, none⟩) (by show _ ≤ w.heap.size + 1 + 1; omega) (sV dt))
  rw [hd1] at D11 D21 D31 XD1
  have a0 := (B1 0 _ rfl).1
  have a1 := (B1 1 _ rfl).1
  have a2 := (B1 2 _ rfl).1
  have a3 := (B1 3 _ rfl).1
  have a4 := (B1 4 _ rfl).1
  have a5 := (B1 5 _ rfl).1
  have a6 := (B1 6 _ rfl).1
  have a7 := (B1 7 _ rfl).1
  have a8 := (B1 8 _ rfl).1
  have k0 := (B3 0 _ rfl).1
  have l0 := (B3 0 _ rfl).2
  have k1 := (B3 1 _ rfl).1
  have l1 := (B3 1 _ rfl).2
  have k2 := (B3 2 _ rfl).1
  have l2 := (B3 2 _ rfl).2
  have k3 := (B3 3 _ rfl).1
  have l3 := (B3 3 _ rfl).2
  have k4 := (B3 4 _ rfl).1
  have l4 := (B3 4 _ rfl).2
  have k5 := (B3 5 _ rfl).1
  have l5 := (B3 5 _ rfl).2
  have k6 := (B3 6 _ rfl).1
  have l6 := (B3 6 _ rfl).2
  have k7 := (B3 7 _ rfl).1
  have l7 := (B3 7 _ rfl).2
  have k8 := (B3 8 _ rfl).1
  have l8 := (B3 8 _ rfl).2
  have q0 := (D31 0 _ rfl).1
  have q1 := (D31 1 _ rfl).1
  have q2 := (D31 2 _ rfl).1
  have q3 := (D31 3 _ rfl).1
  have q4 := (D31 4 _ rfl).1
  have q5 := (D31 5 _ rfl).1
  have q6 := (D31 6 _ rfl).1
  have q7 := (D31 7 _ rfl).1
  have q8 := (D31 8 _ rfl).1
  have b0 := (D21 0 _ rfl).1
  have b1 := (D21 1 _ rfl).1
  have b2 := (D21 2 _ rfl).1
  have b3 := (D21 3 _ rfl).1
  have b4 := (D21 4 _ rfl).1
  have b5 := (D21 5 _ rfl).1
  have b6 := (D21 6 _ rfl).1
  have b7 := (D21 7 _ rfl).1
  have b8 := (D21 8 _ rfl).1
  have g0' := (D21 0 _ rfl).2
  have g1' := (D21 1 _ rfl).2
  have g2' := (D21 2 _ rfl).2
  have g3' := (D21 3 _ rfl).2
  have g4' := (D21 4 _ rfl).2
  have g5' := (D21 5 _ rfl).2
  have g6' := (D21 6 _ rfl).2
  have g7' := (D21 7 _ rfl).2
  have g8' := (D21 8 _ rfl).2
  obtain ⟨wy, hy⟩ : ∃ wy, (((((((((wd1.setCell ⟨w.heap.size + 1, 0, none⟩ (.bool ng)).setCell ⟨w.heap.size + 1, 1, none⟩ (sV bf)).setCell ⟨w.heap.size + 1, 2, none⟩ (sV af)).setCell ⟨w.heap.size + 1, 3, none⟩ (.int .i64 wh)).setCell ⟨w.heap.size + 1, 4, none⟩ (.int .i64 pl)).setCell ⟨w.heap.size + 1, 5, none⟩ (.int .i64 mb)).setCell ⟨w.heap.size + 1, 6, none⟩ (.bool gr)).setCell ⟨w.heap.size + 1, 7, none⟩ (.int .i64 tm)).setCell ⟨w.heap.size + 1, 8, none⟩ (sV dt)) = wy := ⟨_, rfl⟩
  have G2 : Vec (((((((((wd1.setCell ⟨w.heap.size + 1, 0, none⟩ (.bool ng)).setCell ⟨w.heap.size + 1, 1, none⟩ (sV bf)).setCell ⟨w.heap.size + 1, 2, none⟩ (sV af)).setCell ⟨w.heap.size + 1, 3, none⟩ (.int .i64 wh)).setCell ⟨w.heap.size + 1, 4, none⟩ (.int .i64 pl)).setCell ⟨w.heap.size + 1, 5, none⟩ (.int .i64 mb)).setCell ⟨w.heap.size + 1, 6, none⟩ (.bool gr)).setCell ⟨w.heap.size + 1, 7, none⟩ (.int .i64 tm)).setCell ⟨w.heap.size + 1, 8, none⟩ (sV dt)) (w.heap.size + 1) [.bool ng, sV bf, sV af, .int .i64 wh, .int .i64 pl, .int .i64 mb, .bool gr, .int .i64 tm, sV dt] := ((((((((((((((((((D21).put 0 (by simp) (.bool ng))).put 1 (by simp) (sV bf))).put 2 (by simp) (sV af))).put 3 (by simp) (.int .i64 wh))).put 4 (by simp) (.int .i64 pl))).put 5 (by simp) (.int .i64 mb))).put 6 (by simp) (.bool gr))).put 7 (by simp) (.int .i64 tm))).put 8 (by simp) (sV dt))
  have FX := (xset ((xset ((xset ((xset ((xset ((xset ((xset ((xset ((xset (XD1) (p := ⟨w.heap.size + 1, 0, none⟩) (by show _ ≤ w.heap.size + 1; omega) (.bool ng))) (p := ⟨w.heap.size + 1, 1, none⟩) (by show _ ≤ w.heap.size + 1; omega) (sV bf))) (p := ⟨w.heap.size + 1, 2, none⟩) (by show _ ≤ w.heap.size + 1; omega) (sV af))) (p := ⟨w.heap.size + 1, 3, none⟩) (by show _ ≤ w.heap.size + 1; omega) (.int .i64 wh))) (p := ⟨w.heap.size + 1, 4, none⟩) (by show _ ≤ w.heap.size + 1; omega) (.int .i64 pl))) (p := ⟨w.heap.size + 1, 5, none⟩) (by show _ ≤ w.heap.size + 1; omega) (.int .i64 mb))) (p := ⟨w.heap.size + 1, 6, none⟩) (by show _ ≤ w.heap.size + 1; omega) (.bool gr))) (p := ⟨w.heap.size + 1, 7, none⟩) (by show _ ≤ w.heap.size + 1; omega) (.int .i64 tm))) (p := ⟨w.heap.size + 1, 8, none⟩) (by show _ ≤ w.heap.size + 1; omega) (sV dt))
  rw [hy] at G2 FX
  have fd0 := (G2 0 _ rfl).1
  have fd1 := (G2 1 _ rfl).1
  have fd2 := (G2 2 _ rfl).1
  have fd3 := (G2 3 _ rfl).1
  have fd4 := (G2 4 _ rfl).1
  have fd5 := (G2 5 _ rfl).1
  have fd6 := (G2 6 _ rfl).1
  have fd7 := (G2 7 _ rfl).1
  have fd8 := (G2 8 _ rfl).1
  clear G2 D11 D21 D31 B1 B2 B3
  go_enter Tryd.func21, Tryd.ntmps21
  go_wp2_with fail
  exact bodyPost_ret (v := formatV ng bf af wh pl mb gr tm dt) (by simp [results, Tryd.results21, go_sem, fd0, fd1, fd2, fd3, fd4, fd5, fd6, fd7, fd8]) rfl ⟨rfl, FX⟩

end Go.Proofs.YthedbjjncnddbaaDoor
