/-
  Several texts in one: N7b, N7c.
-/
import Derived.Test.YtcjjobciokfehaaGreatDoorMg3
import Derived.Test.YtcjjobciokfehaaGreatDoorMg19
import Derived.Test.YtcjjobciokfehaaGreatDoorMg1
import Derived.Deep.RegionHeld3
namespace Go.Proofs.YtcjjobciokfehaaGreatDoor
open Go.RowKit

set_option maxRecDepth 8000 in
set_option maxHeartbeats 2000000 in
theorem toNode (k : Int) (t : List UInt8) (n : Bool) (d : Int) (x : Int) (r : Int) (c : Int) (f : Bool) (g : Bool) (r2 : Int) (c2 : Int) (f2 : Bool) (g2 : Bool) (q : Int) (w : World) :
  Calls Tryz.prog 24 #[nodV k t n d x r c f g r2 c2 f2 g2 q] w fun e w' => e = .returned (nodV k t n d x r c f g r2 c2 f2 g2 q) ∧ Ext w w' := by
 have X1 := x1 w (.cells #[.int .i64 k, sV t, .bool n, .int .i64 d, .int .i64 x, .int .i64 r, .int .i64 c, .bool f, .bool g, .int .i64 r2, .int .i64 c2, .bool f2, .bool g2, .int .i64 q] 44)
 have B1 := vec_made w [.int .i64 k, sV t, .bool n, .int .i64 d, .int .i64 x, .int .i64 r, .int .i64 c, .bool f, .bool g, .int .i64 r2, .int .i64 c2, .bool f2, .bool g2, .int .i64 q] 44
 obtain ⟨wa, ha⟩ : ∃ wa, w.alloc (.cells #[.int .i64 k, sV t, .bool n, .int .i64 d, .int .i64 x, .int .i64 r, .int .i64 c, .bool f, .bool g, .int .i64 r2, .int .i64 c2, .bool f2, .bool g2, .int .i64 q] 44) = wa := ⟨_, rfl⟩
 have B2 := vec_made wa [.int .i64 0, sV [], .bool false, .int .i64 0, .int .i64 0, .int .i64 0, .int .i64 0, .bool false, .bool false, .int .i64 0, .int .i64 0, .bool false, .bool false, .int .i64 0] 48
 have X2 := x1 wa (.cells #[.int .i64 0, sV [], .bool false, .int .i64 0, .int .i64 0, .int .i64 0, .int .i64 0, .bool false, .bool false, .int .i64 0, .int .i64 0, .bool false, .bool false, .int .i64 0] 48)
 obtain ⟨wb, hb⟩ : ∃ wb, wa.alloc (.cells #[.int .i64 0, sV [], .bool false, .int .i64 0, .int .i64 0, .int .i64 0, .int .i64 0, .bool false, .bool false, .int .i64 0, .int .i64 0, .bool false, .bool false, .int .i64 0] 48) = wb := ⟨_, rfl⟩
 have B3 := vec_made wb [.int .i64 0, sV [], .bool false, .int .i64 0, .int .i64 0, .int .i64 0, .int .i64 0, .bool false, .bool false, .int .i64 0, .int .i64 0, .bool false, .bool false, .int .i64 0] 48
 have X3 := x1 wb (.cells #[.int .i64 0, sV [], .bool false, .int .i64 0, .int .i64 0, .int .i64 0, .int .i64 0, .bool false, .bool false, .int .i64 0, .int .i64 0, .bool false, .bool false, .int .i64 0] 48)
 have sa : wa.heap.size = w.heap.size + 1 := by rw [← ha, World.size_alloc]
 have sb : wb.heap.size = w.heap.size + 1 + 1 := by rw [← hb, World.size_alloc, sa]
 change Vec (w.alloc (.cells #[.int .i64 k, sV t, .bool n, .int .i64 d, .int .i64 x, .int .i64 r, .int .i64 c, .bool f, .bool g, .int .i64 r2, .int .i64 c2, .bool f2, .bool g2, .int .i64 q] 44)) _ _ at B1
 change Vec (wa.alloc (.cells #[.int .i64 0, sV [], .bool false, .int .i64 0, .int .i64 0, .int .i64 0, .int .i64 0, .bool false, .bool false, .int .i64 0, .int .i64 0, .bool false, .bool false, .int .i64 0] 48)) _ _ at B2
 change Vec (wb.alloc (.cells #[.int .i64 0, sV [], .bool false, .int .i64 0, .int .i64 0, .int .i64 0, .int .i64 0, .bool false, .bool false, .int .i64 0, .int .i64 0, .bool false, .bool false, .int .i64 0] 48)) _ _ at B3
 rw [ha] at X1 B1
 rw [hb] at X2 B2
 rw [sa] at B2
 rw [sb] at B3
 have X := xt (xt X1 X2) X3
 have B1 := (B1.later X2).later X3
 have B2 := B2.later X3
 clear X1 X2 X3
 obtain ⟨wc, hc⟩ : ∃ wc, wb.alloc (.cells #[.int .i64 0, sV [], .bool false, .int .i64 0, .int .i64 0, .int .i64 0, .int .i64 0, .bool false, .bool false, .int .i64 0, .int .i64 0, .bool false, .bool false, .int .i64 0] 48) = wc := ⟨_, rfl⟩
 rw [hc] at B1 B2 B3 X
 obtain ⟨wd1, hd1⟩ : ∃ wd, ((wc.setCell ⟨w.heap.size + 1 + 1, 0, none⟩ (.int .i64 k)).setCell ⟨w.heap.size + 1 + 1, 1, none⟩ (sV t)) = wd := ⟨_, rfl⟩
 have D11 := ((((B1).far (p := ⟨w.heap.size + 1 + 1, 0, none⟩) (by show w.heap.size + 1 + 1 ≠ _; omega) (.int .i64 k))).far (p := ⟨w.heap.size + 1 + 1, 1, none⟩) (by show w.heap.size + 1 + 1 ≠ _; omega) (sV t))
 have D21 := ((((B2).far (p := ⟨w.heap.size + 1 + 1, 0, none⟩) (by show w.heap.size + 1 + 1 ≠ _; omega) (.int .i64 k))).far (p := ⟨w.heap.size + 1 + 1, 1, none⟩) (by show w.heap.size + 1 + 1 ≠ _; omega) (sV t))
 have D31 : Vec ((wc.setCell ⟨w.heap.size + 1 + 1, 0, none⟩ (.int .i64 k)).setCell ⟨w.heap.size + 1 + 1, 1, none⟩ (sV t)) (w.heap.size + 1 + 1) [.int .i64 k, sV t, .bool false, .int .i64 0, .int .i64 0, .int .i64 0, .int .i64 0, .bool false, .bool false, .int .i64 0, .int .i64 0, .bool false, .bool false, .int .i64 0] := ((((B3).put 0 (by simp) (.int .i64 k))).put 1 (by simp) (sV t))
 have XD1 := (xset ((xset (X) (p := ⟨w.heap.size + 1 + 1, 0, none⟩) (by show _ ≤ w.heap.size + 1 + 1; omega) (.int .i64 k))) (p := ⟨w.heap.size + 1 + 1, 1, none⟩) (by show _ ≤ w.heap.size + 1 + 1; omega) (sV t))
 rw [hd1] at D11 D21 D31 XD1
 have a0 := (B1 0 _ rfl).1
 have a1 := (B1 1 _ rfl).1
 have a2 := (B1 2 _ rfl).1
 have a3 := (B1 3 _ rfl).1
 have a4 := (B1 4 _ rfl).1
 have y2 := (D11 2 _ rfl).1
 have y3 := (D11 3 _ rfl).1
 have y4 := (D11 4 _ rfl).1
 have k0 := (B3 0 _ rfl).1
 have l0 := (B3 0 _ rfl).2
 have k1 := (B3 1 _ rfl).1
 have l1 := (B3 1 _ rfl).2
 go_enter Tryz.func24, Tryz.ntmps24
 go_wp2_with fail
 clear a0 a1 a2 a3 a4 y2 y3 y4 k0 l0 k1 l1 hd1 ha hb hc sa sb
 refine (toDec n d x _).mono ?_
 rintro e w1 ⟨rfl, e1⟩
 have E11 := D11.later e1
 have E21 := D21.later e1
 have E31 := D31.later e1
 have XE1 := xt XD1 e1
 clear D11 D21 D31 XD1 e1 B1 B2 B3 X
 obtain ⟨wd2, hd2⟩ : ∃ wd, (((w1.setCell ⟨w.heap.size + 1 + 1, 2, none⟩ (.bool n)).setCell ⟨w.heap.size + 1 + 1, 3, none⟩ (.int .i64 d)).setCell ⟨w.heap.size + 1 + 1, 4, none⟩ (.int .i64 x)) = wd := ⟨_, rfl⟩
 have D12 := ((((((E11).far (p := ⟨w.heap.size + 1 + 1, 2, none⟩) (by show w.heap.size + 1 + 1 ≠ _; omega) (.bool n))).far (p := ⟨w.heap.size + 1 + 1, 3, none⟩) (by show w.heap.size + 1 + 1 ≠ _; omega) (.int .i64 d))).far (p := ⟨w.heap.size + 1 + 1, 4, none⟩) (by show w.heap.size + 1 + 1 ≠ _; omega) (.int .i64 x))
 have D22 := ((((((E21).far (p := ⟨w.heap.size + 1 + 1, 2, none⟩) (by show w.heap.size + 1 + 1 ≠ _; omega) (.bool n))).far (p := ⟨w.heap.size + 1 + 1, 3, none⟩) (by show w.heap.size + 1 + 1 ≠ _; omega) (.int .i64 d))).far (p := ⟨w.heap.size + 1 + 1, 4, none⟩) (by show w.heap.size + 1 + 1 ≠ _; omega) (.int .i64 x))
 have D32 : Vec (((w1.setCell ⟨w.heap.size + 1 + 1, 2, none⟩ (.bool n)).setCell ⟨w.heap.size + 1 + 1, 3, none⟩ (.int .i64 d)).setCell ⟨w.heap.size + 1 + 1, 4, none⟩ (.int .i64 x)) (w.heap.size + 1 + 1) [.int .i64 k, sV t, .bool n, .int .i64 d, .int .i64 x, .int .i64 0, .int .i64 0, .bool false, .bool false, .int .i64 0, .int .i64 0, .bool false, .bool false, .int .i64 0] := ((((((E31).put 2 (by simp) (.bool n))).put 3 (by simp) (.int .i64 d))).put 4 (by simp) (.int .i64 x))
 have XD2 := (xset ((xset ((xset (XE1) (p := ⟨w.heap.size + 1 + 1, 2, none⟩) (by show _ ≤ w.heap.size + 1 + 1; omega) (.bool n))) (p := ⟨w.heap.size + 1 + 1, 3, none⟩) (by show _ ≤ w.heap.size + 1 + 1; omega) (.int .i64 d))) (p := ⟨w.heap.size + 1 + 1, 4, none⟩) (by show _ ≤ w.heap.size + 1 + 1; omega) (.int .i64 x))
 rw [hd2] at D12 D22 D32 XD2
 have a2 := (E11 2 _ rfl).1
 have a3 := (E11 3 _ rfl).1
 have a4 := (E11 4 _ rfl).1
 have a5 := (E11 5 _ rfl).1
 have a6 := (E11 6 _ rfl).1
 have a7 := (E11 7 _ rfl).1
 have a8 := (E11 8 _ rfl).1
 have y5 := (D12 5 _ rfl).1
 have y6 := (D12 6 _ rfl).1
 have y7 := (D12 7 _ rfl).1
 have y8 := (D12 8 _ rfl).1
 have k2 := (E31 2 _ rfl).1
 have l2 := (E31 2 _ rfl).2
 have k3 := (E31 3 _ rfl).1
 have l3 := (E31 3 _ rfl).2
 have k4 := (E31 4 _ rfl).1
 have l4 := (E31 4 _ rfl).2
 go_wp2_with fail
 clear a2 a3 a4 a5 a6 a7 a8 y5 y6 y7 y8 k2 l2 k3 l3 k4 l4 hd2
 refine (toRef r c f g _).mono ?_
 rintro e w2 ⟨rfl, e2⟩
 have E12 := D12.later e2
 have E22 := D22.later e2
 have E32 := D32.later e2
 have XE2 := xt XD2 e2
 clear D12 D22 D32 XD2 e2 E11 E21 E31 XE1
 obtain ⟨wd3, hd3⟩ : ∃ wd, ((((w2.setCell ⟨w.heap.size + 1 + 1, 5, none⟩ (.int .i64 r)).setCell ⟨w.heap.size + 1 + 1, 6, none⟩ (.int .i64 c)).setCell ⟨w.heap.size + 1 + 1, 7, none⟩ (.bool f)).setCell ⟨w.heap.size + 1 + 1, 8, none⟩ (.bool g)) = wd := ⟨_, rfl⟩
 have D13 := ((((((((E12).far (p := ⟨w.heap.size + 1 + 1, 5, none⟩) (by show w.heap.size + 1 + 1 ≠ _; omega) (.int .i64 r))).far (p := ⟨w.heap.size + 1 + 1, 6, none⟩) (by show w.heap.size + 1 + 1 ≠ _; omega) (.int .i64 c))).far (p := ⟨w.heap.size + 1 + 1, 7, none⟩) (by show w.heap.size + 1 + 1 ≠ _; omega) (.bool f))).far (p := ⟨w.heap.size + 1 + 1, 8, none⟩) (by show w.heap.size + 1 + 1 ≠ _; omega) (.bool g))
 have D23 := ((((((((E22).far (p := ⟨w.heap.size + 1 + 1, 5, none⟩) (by show w.heap.size + 1 + 1 ≠ _; omega) (.int .i64 r))).far (p := ⟨w.heap.size + 1 + 1, 6, none⟩) (by show w.heap.size + 1 + 1 ≠ _; omega) (.int .i64 c))).far (p := ⟨w.heap.size + 1 + 1, 7, none⟩) (by show w.heap.size + 1 + 1 ≠ _; omega) (.bool f))).far (p := ⟨w.heap.size + 1 + 1, 8, none⟩) (by show w.heap.size + 1 + 1 ≠ _; omega) (.bool g))
 have D33 : Vec ((((w2.setCell ⟨w.heap.size + 1 + 1, 5, none⟩ (.int .i64 r)).setCell ⟨w.heap.size + 1 + 1, 6, none⟩ (.int .i64 c)).setCell ⟨w.heap.size + 1 + 1, 7, none⟩ (.bool f)).setCell ⟨w.heap.size + 1 + 1, 8, none⟩ (.bool g)) (w.heap.size + 1 + 1) [.int .i64 k, sV t, .bool n, .int .i64 d, .int .i64 x, .int .i64 r, .int .i64 c, .bool f, .bool g, .int .i64 0, .int .i64 0, .bool false, .bool false, .int .i64 0] := ((((((((E32).put 5 (by simp) (.int .i64 r))).put 6 (by simp) (.int .i64 c))).put 7 (by simp) (.bool f))).put 8 (by simp) (.bool g))
 have XD3 := (xset ((xset ((xset ((xset (XE2) (p := ⟨w.heap.size + 1 + 1, 5, none⟩) (by show _ ≤ w.heap.size + 1 + 1; omega) (.int .i64 r))) (p := ⟨w.heap.size + 1 + 1, 6, none⟩) (by show _ ≤ w.heap.size + 1 + 1; omega) (.int .i64 c))) (p := ⟨w.heap.size + 1 + 1, 7, none⟩) (by show _ ≤ w.heap.size + 1 + 1; omega) (.bool f))) (p := ⟨w.heap.size + 1 + 1, 8, none⟩) (by show _ ≤ w.heap.size + 1 + 1; omega) (.bool g))
 rw [hd3] at D13 D23 D33 XD3
 have a5 := (E12 5 _ rfl).1
 have a6 := (E12 6 _ rfl).1
 have a7 := (E12 7 _ rfl).1
 have a8 := (E12 8 _ rfl).1
 have a9 := (E12 9 _ rfl).1
 have a10 := (E12 10 _ rfl).1
 have a11 := (E12 11 _ rfl).1
 have a12 := (E12 12 _ rfl).1
 have y9 := (D13 9 _ rfl).1
 have y10 := (D13 10 _ rfl).1
 have y11 := (D13 11 _ rfl).1
 have y12 := (D13 12 _ rfl).1
 have k5 := (E32 5 _ rfl).1
 have l5 := (E32 5 _ rfl).2
 have k6 := (E32 6 _ rfl).1
 have l6 := (E32 6 _ rfl).2
 have k7 := (E32 7 _ rfl).1
 have l7 := (E32 7 _ rfl).2
 have k8 := (E32 8 _ rfl).1
 have l8 := (E32 8 _ rfl).2
 go_wp2_with fail
 clear a5 a6 a7 a8 a9 a10 a11 a12 y9 y10 y11 y12 k5 l5 k6 l6 k7 l7 k8 l8 hd3
 refine (toRef r2 c2 f2 g2 _).mono ?_
 rintro e w3 ⟨rfl, e3⟩
 have E13 := D13.later e3
 have E23 := D23.later e3
 have E33 := D33.later e3
 have XE3 := xt XD3 e3
 clear D13 D23 D33 XD3 e3 E12 E22 E32 XE2
 obtain ⟨wd4, hd4⟩ : ∃ wd, (((((w3.setCell ⟨w.heap.size + 1 + 1, 9, none⟩ (.int .i64 r2)).setCell ⟨w.heap.size + 1 + 1, 10, none⟩ (.int .i64 c2)).setCell ⟨w.heap.size + 1 + 1, 11, none⟩ (.bool f2)).setCell ⟨w.heap.size + 1 + 1, 12, none⟩ (.bool g2)).setCell ⟨w.heap.size + 1 + 1, 13, none⟩ (.int .i64 q)) = wd := ⟨_, rfl⟩
 have D14 := ((((((((((E13).far (p := ⟨w.heap.size + 1 + 1, 9, none⟩) (by show w.heap.size + 1 + 1 ≠ _; omega) (.int .i64 r2))).far (p := ⟨w.heap.size + 1 + 1, 10, none⟩) (by show w.heap.size + 1 + 1 ≠ _; omega) (.int .i64 c2))).far (p := ⟨w.heap.size + 1 + 1, 11, none⟩) (by show w.heap.size + 1 + 1 ≠ _; omega) (.bool f2))).far (p := ⟨w.heap.size + 1 + 1, 12, none⟩) (by show w.heap.size + 1 + 1 ≠ _; omega) (.bool g2))).far (p := ⟨w.heap.size + 1 + 1, 13, none⟩) (by show w.heap.size + 1 + 1 ≠ _; omega) (.int .i64 q))
 have D24 := ((((((((((E23).far (p := ⟨w.heap.size + 1 + 1, 9, none⟩) (by show w.heap.size + 1 + 1 ≠ _; omega) (.int .i64 r2))).far (p := ⟨w.heap.size + 1 + 1, 10, none⟩) (by show w.heap.size + 1 + 1 ≠ _; omega) (.int .i64 c2))).far (p := ⟨w.heap.size + 1 + 1, 11, none⟩) (by show w.heap.size + 1 + 1 ≠ _; omega) (.bool f2))).far (p := ⟨w.heap.size + 1 + 1, 12, none⟩) (by show w.heap.size + 1 + 1 ≠ _; omega) (.bool g2))).far (p := ⟨w.heap.size + 1 + 1, 13, none⟩) (by show w.heap.size + 1 + 1 ≠ _; omega) (.int .i64 q))
 have D34 : Vec (((((w3.setCell ⟨w.heap.size + 1 + 1, 9, none⟩ (.int .i64 r2)).setCell ⟨w.heap.size + 1 + 1, 10, none⟩ (.int .i64 c2)).setCell ⟨w.heap.size + 1 + 1, 11, none⟩ (.bool f2)).setCell ⟨w.heap.size + 1 + 1, 12, none⟩ (.bool g2)).setCell ⟨w.heap.size + 1 + 1, 13, none⟩ (.int .i64 q)) (w.heap.size + 1 + 1) [.int .i64 k, sV t, .bool n, .int .i64 d, .int .i64 x, .int .i64 r, .int .i64 c, .bool f, .bool g, .int .i64 r2, .int .i64 c2, .bool f2, .bool g2, .int .i64 q] := ((((((((((E33).put 9 (by simp) (.int .i64 r2))).put 10 (by simp) (.int .i64 c2))).put 11 (by simp) (.bool f2))).put 12 (by simp) (.bool g2))).put 13 (by simp) (.int .i64 q))
 have XD4 := (xset ((xset ((xset ((xset ((xset (XE3) (p := ⟨w.heap.size + 1 + 1, 9, none⟩) (by show _ ≤ w.heap.size + 1 + 1; omega) (.int .i64 r2))) (p := ⟨w.heap.size + 1 + 1, 10, none⟩) (by show _ ≤ w.heap.size + 1 + 1; omega) (.int .i64 c2))) (p := ⟨w.heap.size + 1 + 1, 11, none⟩) (by show _ ≤ w.heap.size + 1 + 1; omega) (.bool f2))) (p := ⟨w.heap.size + 1 + 1, 12, none⟩) (by show _ ≤ w.heap.size + 1 + 1; omega) (.bool g2))) (p := ⟨w.heap.size + 1 + 1, 13, none⟩) (by show _ ≤ w.heap.size + 1 + 1; omega) (.int .i64 q))
 rw [hd4] at D14 D24 D34 XD4
 have a9 := (E13 9 _ rfl).1
 have a10 := (E13 10 _ rfl).1
 have a11 := (E13 11 _ rfl).1
 have a12 := (E13 12 _ rfl).1
 have a13 := (E13 13 _ rfl).1
 have k9 := (E33 9 _ rfl).1
 have l9 := (E33 9 _ rfl).2
 have k10 := (E33 10 _ rfl).1
 have l10 := (E33 10 _ rfl).2
 have k11 := (E33 11 _ rfl).1
 have l11 := (E33 11 _ rfl).2
 have k12 := (E33 12 _ rfl).1
 have l12 := (E33 12 _ rfl).2
 have k13 := (E33 13 _ rfl).1
 have l13 := (E33 13 _ rfl).2
 have q0 := (D34 0 _ rfl).1
 have q1 := (D34 1 _ rfl).1
 have q2 := (D34 2 _ rfl).1
 have q3 := (D34 3 _ rfl).1
 have q4 := (D34 4 _ rfl).1
 have q5 := (D34 5 _ rfl).1
 have q6 := (D34 6 _ rfl).1
 have q7 := (D34 7 _ rfl).1
 have q8 := (D34 8 _ rfl).1
 have q9 := (D34 9 _ rfl).1
 have q10 := (D34 10 _ rfl).1
 have q11 := (D34 11 _ rfl).1
 have q12 := (D34 12 _ rfl).1
 have q13 := (D34 13 _ rfl).1
 have b0 := (D24 0 _ rfl).1
 have b1 := (D24 1 _ rfl).1
 have b2 := (D24 2 _ rfl).1
 have b3 := (D24 3 _ rfl).1
 have b4 := (D24 4 _ rfl).1
 have b5 := (D24 5 _ rfl).1
 have b6 := (D24 6 _ rfl).1
 have b7 := (D24 7 _ rfl).1
 have b8 := (D24 8 _ rfl).1
 have b9 := (D24 9 _ rfl).1
 have b10 := (D24 10 _ rfl).1
 have b11 := (D24 11 _ rfl).1
 have b12 := (D24 12 _ rfl).1
 have b13 := (D24 13 _ rfl).1
 have g0' := (D24 0 _ rfl).2
 have g1' := (D24 1 _ rfl).2
 have g2' := (D24 2 _ rfl).2
 have g3' := (D24 3 _ rfl).2
 have g4' := (D24 4 _ rfl).2
 have g5' := (D24 5 _ rfl).2
 have g6' := (D24 6 _ rfl).2
 have g7' := (D24 7 _ rfl).2
 have g8' := (D24 8 _ rfl).2
 have g9' := (D24 9 _ rfl).2
 have g10' := (D24 10 _ rfl).2
 have g11' := (D24 11 _ rfl).2
 have g12' := (D24 12 _ rfl).2
 have g13' := (D24 13 _ rfl).2
 obtain ⟨wy, hy⟩ : ∃ wy, ((((((((((((((wd4.setCell ⟨w.heap.size + 1, 0, none⟩ (.int .i64 k)).setCell ⟨w.heap.size + 1, 1, none⟩ (sV t)).setCell ⟨w.heap.size + 1, 2, none⟩ (.bool n)).setCell ⟨w.heap.size + 1, 3, none⟩ (.int .i64 d)).setCell ⟨w.heap.size + 1, 4, none⟩ (.int .i64 x)).setCell ⟨w.heap.size + 1, 5, none⟩ (.int .i64 r)).setCell ⟨w.heap.size + 1, 6, none⟩ (.int .i64 c)).setCell ⟨w.heap.size + 1, 7, none⟩ (.bool f)).setCell ⟨w.heap.size + 1, 8, none⟩ (.bool g)).setCell ⟨w.heap.size + 1, 9, none⟩ (.int .i64 r2)).setCell ⟨w.heap.size + 1, 10, none⟩ (.int .i64 c2)).setCell ⟨w.heap.size + 1, 11, none⟩ (.bool f2)).setCell ⟨w.heap.size + 1, 12, none⟩ (.bool g2)).setCell ⟨w.heap.size + 1, 13, none⟩ (.int .i64 q)) = wy := ⟨_, rfl⟩
 have G2 : Vec ((((((((((((((wd4.setCell ⟨w.heap.size + 1, 0, none⟩ (.int .i64 k)).setCell ⟨w.heap.size + 1, 1, none⟩ (sV t)).setCell ⟨w.heap.size + 1, 2, none⟩ (.bool n)).setCell ⟨w.heap.size + 1, 3, none⟩ (.int .i64 d)).setCell ⟨w.heap.size + 1, 4, none⟩ (.int .i64 x)).setCell ⟨w.heap.size + 1, 5, none⟩ (.int .i64 r)).setCell ⟨w.heap.size + 1, 6, none⟩ (.int .i64 c)).setCell ⟨w.heap.size + 1, 7, none⟩ (.bool f)).setCell ⟨w.heap.size + 1, 8, none⟩ (.bool g)).setCell ⟨w.heap.size + 1, 9, none⟩ (.int .i64 r2)).setCell ⟨w.heap.size + 1, 10, none⟩ (.int .i64 c2)).setCell ⟨w.heap.size + 1, 11, none⟩ (.bool f2)).setCell ⟨w.heap.size + 1, 12, none⟩ (.bool g2)).setCell ⟨w.heap.size + 1, 13, none⟩ (.int .i64 q)) (w.heap.size + 1) [.int .i64 k, sV t, .bool n, .int .i64 d, .int .i64 x, .int .i64 r, .int .i64 c, .bool f, .bool g, .int .i64 r2, .int .i64 c2, .bool f2, .bool g2, .int .i64 q] := ((((((((((((((((((((((((((((D24).put 0 (by simp) (.int .i64 k))).put 1 (by simp) (sV t))).put 2 (by simp) (.bool n))).put 3 (by simp) (.int .i64 d))).put 4 (by simp) (.int .i64 x))).put 5 (by simp) (.int .i64 r))).put 6 (by simp) (.int .i64 c))).put 7 (by simp) (.bool f))).put 8 (by simp) (.bool g))).put 9 (by simp) (.int .i64 r2))).put 10 (by simp) (.int .i64 c2))).put 11 (by simp) (.bool f2))).put 12 (by simp) (.bool g2))).put 13 (by simp) (.int .i64 q))
 have FX := (xset ((xset ((xset ((xset ((xset ((xset ((xset ((xset ((xset ((xset ((xset ((xset ((xset ((xset (XD4) (p := ⟨w.heap.size + 1, 0, none⟩) (by show _ ≤ w.heap.size + 1; omega) (.int .i64 k))) (p := ⟨w.heap.size + 1, 1, none⟩) (by show _ ≤ w.heap.size + 1; omega) (sV t))) (p := ⟨w.heap.size + 1, 2, none⟩) (by show _ ≤ w.heap.size + 1; omega) (.bool n))) (p := ⟨w.heap.size + 1, 3, none⟩) (by show _ ≤ w.heap.size + 1; omega) (.int .i64 d))) (p := ⟨w.heap.size + 1, 4, none⟩) (by show _ ≤ w.heap.size + 1; omega) (.int .i64 x))) (p := ⟨w.heap.size + 1, 5, none⟩) (by show _ ≤ w.heap.size + 1; omega) (.int .i64 r))) (p := ⟨w.heap.size + 1, 6, none⟩) (by show _ ≤ w.heap.size + 1; omega) (.int .i64 c))) (p := ⟨w.heap.size + 1, 7, none⟩) (by show _ ≤ w.heap.size + 1; omega) (.bool f))) (p := ⟨w.heap.size + 1, 8, none⟩) (by show _ ≤ w.heap.size + 1; omega) (.bool g))) (p := ⟨w.heap.size + 1, 9, none⟩) (by show _ ≤ w.heap.size + 1; omega) (.int .i64 r2))) (p := ⟨w.heap.size + 1, 10, none⟩) (by show _ ≤ w.heap.size + 1; omega) (.int .i64 c2))) (p := ⟨w.heap.size + 1, 11, none⟩) (by show _ ≤ w.heap.size + 1; omega) (.bool f2))) (p := ⟨w.heap.size + 1, 12, none⟩) (by show _ ≤ w.heap.size + 1; omega) (.bool g2))) (p := ⟨w.heap.size + 1, 13, none⟩) (by show _ ≤ w.heap.size + 1; omega) (.int .i64 q))
 rw [hy] at G2 FX
 have fd0 := (G2 0 _ rfl).1
 have fd1 := (G2 1 _ rfl).1
 have fd2 := (G2 2 _ rfl).1
 have fd3 := (G2 3 _ rfl).1
 have fd4 := (G2 4 _ rfl).1
 have fd5 := (G2 5 _ rfl).1
 have fd6 := (G2 6 _ rfl).1
 have fd7 := (G2 7 _ rfl).1
 have fd8 := (G2 8 _ rfl).1
 have fd9 := (G2 9 _ rfl).1
 have fd10 := (G2 10 _ rfl).1
 have fd11 := (G2 11 _ rfl).1
 have fd12 := (G2 12 _ rfl).1
 have fd13 := (G2 13 _ rfl).1
 clear G2 D14 D24 D34 E13 E23 E33
 go_wp2_with fail
 exact bodyPost_ret (v := nodV k t n d x r c f g r2 c2 f2 g2 q) (by simp [results, Tryz.results24, go_sem, fd0, fd1, fd2, fd3, fd4, fd5, fd6, fd7, fd8, fd9, fd10, fd11, fd12, fd13]) rfl ⟨rfl, FX⟩

set_option maxHeartbeats 1000000 in
theorem szNode (k : Int) (t : List UInt8) (n : Bool) (d : Int) (x : Int) (r : Int) (c : Int) (f : Bool) (g : Bool) (r2 : Int) (c2 : Int) (f2 : Bool) (g2 : Bool) (q : Int) (m : Int) (w : World) (h0 : 0 ≤ m) (h1 : m ≤ 1048576) (hl : (t.length : Int) ≤ 9223372036854775807) :
  Calls Tryz.prog 22 #[nodV k t n d x r c f g r2 c2 f2 g2 q, .int .i64 m] w fun e w' => e = .returned (.int .i64 (if m < t.length then -1 else m - t.length)) ∧ Ext w w' := by
 have X0 := x1 w (.cells #[.int .i64 k, sV t, .bool n, .int .i64 d, .int .i64 x, .int .i64 r, .int .i64 c, .bool f, .bool g, .int .i64 r2, .int .i64 c2, .bool f2, .bool g2, .int .i64 q] 44)
 obtain ⟨L, hL⟩ : ∃ L, t.length = L := ⟨_, rfl⟩
 have hs : (⟨t.toArray⟩ : ByteArray).size = L := hL
 rw [hL] at hl ⊢
 clear hL
 by_cases hm : m < L
 ·
  rw [if_pos hm]
  go_enter Tryz.func22, Tryz.ntmps22
  go_wp2_with fail
  go_ret
  exact ⟨rfl, X0⟩
 ·
  rw [if_neg hm]
  go_enter Tryz.func22, Tryz.ntmps22
  go_wp2_with fail
  go_ret
  exact ⟨ret_int (by first | rfl | omega), X0⟩
set_option maxRecDepth 8000 in
set_option maxHeartbeats 1000000 in
/-- How much room values take, as the law asks. -/
theorem szNodes (v : Value) (l : List NT) (m : Int) (w : World) (h : NodesIn w v l) (m0 : 0 ≤ m) (m1 : m ≤ 1048576) (hl : l.length ≤ 9223372036854775807) (ht : ∀ e ∈ l, e.t.length ≤ 9223372036854775807) :
  Calls Tryz.prog 6 #[v, .int .i64 m] w fun e w' => (∃ r : Int, e = .returned (.int .i64 r) ∧ -1 ≤ r ∧ r ≤ m ∧ (0 ≤ r → (l.length : Int) ≤ m ∧ ∀ q ∈ l, (q.t.length : Int) ≤ m)) ∧ Ext w w' := by
 obtain ⟨p, cap, rfl, hcap, hrow⟩ := h
 obtain ⟨n, hn⟩ : ∃ n, l.length = n := ⟨_, rfl⟩
 have HN : Hid (l.length = n) := hn
 rw [hn] at hcap hl hrow ⊢
 clear hn
 by_cases hb : m < n
 ·
  go_enter Tryz.func6, Tryz.ntmps6
  go_wp2_with fail
  go_ret
  exact ⟨⟨-1, rfl, by omega, by omega, fun h => by omega⟩, xr _⟩
 ·
  have HRow : Hid (0 < n → ∃ b o, p = some ⟨b, o, none⟩ ∧ RowN w b o l) := hrow
  have HT : Hid (∀ e ∈ l, e.t.length ≤ 9223372036854775807) := ht
  clear hrow ht
  go_enter Tryz.func6, Tryz.ntmps6
  go_wp2_with fail
  go_loopw [1, 5] (fun r i wr => ∃ (k : Nat) (z : Int), k ≤ n ∧ i = .int .i64 k ∧ r = .int .i64 z ∧ 0 ≤ z ∧ z ≤ m ∧ Hid (∀ q ∈ l.take k, (q.t.length : Int) ≤ m) ∧ Ext w wr) (fun _ i _ => n - (intOf i).toNat)
  case atStart => exact ⟨0, m - n, by omega, rfl, by go_num, by omega, by omega, by intro q hq; simp at hq, xr _⟩
  case round =>
   obtain ⟨k, z, hk, rfl, rfl, z0, z1, HA, X⟩ := hrel
   by_cases hlt : k < n
   ·
    obtain ⟨e, he⟩ : ∃ e, l[k]? = some e := ⟨_, List.getElem?_eq_getElem (by rw [HN.out]; exact hlt)⟩
    obtain ⟨b, o, rfl, hR⟩ := HRow.out (by omega)
    obtain ⟨a0, a1, a2, a3, a4, a5, a6, a7, a8, a9, a10, a11, a12, a13⟩ := (hR.later X).all he
    have hT := HT.out e (List.mem_of_getElem? he)
    have HE : Hid (l.take (k + 1) = l.take k ++ [e]) := by
     show _ = _
     rw [List.take_add_one, he]
     rfl
    obtain ⟨ek, et, en, ed, ex, er, ec, ef, eg, er2, ec2, ef2, eg2, eq⟩ := e
    have i2 : (k : Int) < (n : Int) := by omega
    clear hR he
    dsimp only at a0 a1 a2 a3 a4 a5 a6 a7 a8 a9 a10 a11 a12 a13 hT
    go_wp2_with fail
    refine (szNode ek et en ed ex er ec ef eg er2 ec2 ef2 eg2 eq z _ z0 (by omega) (by omega)).mono ?_
    rintro r w' ⟨rfl, E⟩
    by_cases hz : z < et.length
    ·
     rw [if_pos hz]
     clear a0 a1 a2 a3 a4 a5 a6 a7 a8 a9 a10 a11 a12 a13
     go_wp2_with fail
     go_ret
     exact ⟨⟨-1, rfl, by omega, by omega, fun h => by omega⟩, xt X E⟩
    ·
     rw [if_neg hz]
     obtain ⟨z', hz'⟩ : ∃ z' : Int, z - et.length = z' := ⟨_, rfl⟩
     have h0' : 0 ≤ z' := by omega
     have h1' : z' ≤ m := by omega
     have HL : Hid ((et.length : Int) ≤ m) := by show _ ≤ _; omega
     rw [hz']
     clear a0 a1 a2 a3 a4 a5 a6 a7 a8 a9 a10 a11 a12 a13 hz' hz hT
     go_wp2_with fail
     go_roundw
     case rel =>
      refine ⟨k + 1, z', by omega, by go_num, rfl, h0', h1', ?_, xt X E⟩
      intro q hq
      rw [HE.out] at hq
      rcases List.mem_append.1 hq with hq | hq
      ·
       exact HA.out q hq
      ·
       obtain rfl := List.mem_singleton.1 hq
       exact HL.out
     case measure => simp [intOf]; omega
   ·
    obtain rfl : k = n := by omega
    have HB : Hid (∀ q ∈ l, (q.t.length : Int) ≤ m) := by
     intro q hq
     refine HA.out q ?_
     rw [List.take_of_length_le (by rw [HN.out]; exact Nat.le_refl _)]
     exact hq
    clear HA
    go_wp2_with fail
    go_ret
    exact ⟨⟨z, rfl, by omega, by omega, fun _ => ⟨by omega, HB.out⟩⟩, X⟩

end Go.Proofs.YtcjjobciokfehaaGreatDoor

