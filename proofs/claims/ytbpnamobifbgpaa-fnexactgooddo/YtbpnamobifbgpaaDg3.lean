/-
  Chapter 16: operations handed over and measured; GoodDo's law.
-/
import Derived.Test.YtbpnamobifbgpaaDg2
namespace Go.Proofs.Ytbpnamobifbgpaa
open Go.RowKit

set_option maxHeartbeats 400000 in
theorem toTurnD (k a m : Int) (d : Bool) (w : World) :
    Calls Try.prog 13 #[tuV k a m d] w fun e w' => e = .returned (tuV k a m d) ∧ Ext w w' := by
  go_enter Try.func13, Try.ntmps13
  go_wp2
  exact bodyPost_ret (v := tuV k a m d) (by simp [results, Try.results13, go_sem]) rfl ⟨rfl, xa (xa (x1 _ _) _) _⟩

set_option maxHeartbeats 4000000 in
set_option maxRecDepth 8000 in
theorem toDo (k o r c : Int) (t : List UInt8) (a b m : Int) (d : Bool) (w : World) :
    Calls Try.prog 6 #[doV k o r c t a b m d] w fun e w' => e = .returned (doV k o r c t a b m d) ∧ Ext w w' := by
  have X1 := x1 w (.cells #[.int .i64 k, .int .i64 o, .int .i64 r, .int .i64 c, sV t, .int .i64 a, .int .i64 b, .int .i64 m, .bool d] 27)
  have B1 := vec_made w [.int .i64 k, .int .i64 o, .int .i64 r, .int .i64 c, sV t, .int .i64 a, .int .i64 b, .int .i64 m, .bool d] 27
  obtain ⟨wa, ha⟩ : ∃ wa, w.alloc (.cells #[.int .i64 k, .int .i64 o, .int .i64 r, .int .i64 c, sV t, .int .i64 a, .int .i64 b, .int .i64 m, .bool d] 27) = wa := ⟨_, rfl⟩
  have B2 := vec_made wa [.int .i64 0, .int .i64 0, .int .i64 0, .int .i64 0, sV [], .int .i64 0, .int .i64 0, .int .i64 0, .bool false] 33
  have X2 := x1 wa (.cells #[.int .i64 0, .int .i64 0, .int .i64 0, .int .i64 0, sV [], .int .i64 0, .int .i64 0, .int .i64 0, .bool false] 33)
  obtain ⟨wb, hb⟩ : ∃ wb, wa.alloc (.cells #[.int .i64 0, .int .i64 0, .int .i64 0, .int .i64 0, sV [], .int .i64 0, .int .i64 0, .int .i64 0, .bool false] 33) = wb := ⟨_, rfl⟩
  have B3 := vec_made wb [.int .i64 0, .int .i64 0, .int .i64 0, .int .i64 0, sV [], .int .i64 0, .int .i64 0, .int .i64 0, .bool false] 33
  have X3 := x1 wb (.cells #[.int .i64 0, .int .i64 0, .int .i64 0, .int .i64 0, sV [], .int .i64 0, .int .i64 0, .int .i64 0, .bool false] 33)
  have sa : wa.heap.size = w.heap.size + 1 := by rw [← ha, World.size_alloc]
  have sb : wb.heap.size = w.heap.size + 1 + 1 := by rw [← hb, World.size_alloc, sa]
  change Vec (w.alloc (.cells #[.int .i64 k, .int .i64 o, .int .i64 r, .int .i64 c, sV t, .int .i64 a, .int .i64 b, .int .i64 m, .bool d] 27)) _ _ at B1
  change Vec (wa.alloc (.cells #[.int .i64 0, .int .i64 0, .int .i64 0, .int .i64 0, sV [], .int .i64 0, .int .i64 0, .int .i64 0, .bool false] 33)) _ _ at B2
  change Vec (wb.alloc (.cells #[.int .i64 0, .int .i64 0, .int .i64 0, .int .i64 0, sV [], .int .i64 0, .int .i64 0, .int .i64 0, .bool false] 33)) _ _ at B3
  rw [ha] at X1 B1
  rw [hb] at X2 B2
  rw [sa] at B2
  rw [sb] at B3
  have X := xt (xt X1 X2) X3
  have B1 := (B1.later X2).later X3
  have B2 := B2.later X3
  clear X1 X2 X3
  obtain ⟨wc, hc⟩ : ∃ wc, wb.alloc (.cells #[.int .i64 0, .int .i64 0, .int .i64 0, .int .i64 0, sV [], .int .i64 0, .int .i64 0, .int .i64 0, .bool false] 33) = wc := ⟨_, rfl⟩
  rw [hc] at B1 B2 B3 X
  have n1 : w.heap.size + 1 + 1 ≠ w.heap.size := by omega
  have n2 : w.heap.size + 1 + 1 ≠ w.heap.size + 1 := by omega
  -- the first two fields
  have C1 := ((B1.far (p := ⟨w.heap.size + 1 + 1, 0, none⟩) n1 (.int .i64 k)).far (p := ⟨w.heap.size + 1 + 1, 1, none⟩) n1 (.int .i64 o))
  have C2 := ((B2.far (p := ⟨w.heap.size + 1 + 1, 0, none⟩) n2 (.int .i64 k)).far (p := ⟨w.heap.size + 1 + 1, 1, none⟩) n2 (.int .i64 o))
  have C3 := (B3.put 0 (by simp) (.int .i64 k))
  have k1' := (C3 1 _ rfl).1
  have l1' := (C3 1 _ rfl).2
  have C3 := C3.put 1 (by simp) (.int .i64 o)
  have Y := (xset (xset X (p := ⟨w.heap.size + 1 + 1, 0, none⟩) (by show _ ≤ w.heap.size + 1 + 1; omega) (.int .i64 k)) (p := ⟨w.heap.size + 1 + 1, 1, none⟩) (by show _ ≤ w.heap.size + 1 + 1; omega) (.int .i64 o))
  obtain ⟨wd, hd⟩ : ∃ wd, (wc.setCell ⟨w.heap.size + 1 + 1, 0, none⟩ (.int .i64 k)).setCell ⟨w.heap.size + 1 + 1, 1, none⟩ (.int .i64 o) = wd := ⟨_, rfl⟩
  have m1 : (wc.setCell ⟨w.heap.size + 1 + 1, 0, none⟩ (.int .i64 k)).cell? ⟨w.heap.size, 1, none⟩ = some (.int .i64 o) := ((B1.far (p := ⟨w.heap.size + 1 + 1, 0, none⟩) n1 (.int .i64 k)) 1 _ rfl).1
  rw [hd] at C1 C2 C3 Y
  have g0 := (B1 0 _ rfl).1
  have k0 := (B3 0 _ rfl).1
  have l0 := (B3 0 _ rfl).2
  have d2 := (C1 2 _ rfl).1
  have d3 := (C1 3 _ rfl).1
  have d4 := (C1 4 _ rfl).1
  clear B1 B2 B3
  go_enter Try.func6, Try.ntmps6
  go_wp2_with fail
  refine (toChange _ _ _ _).mono ?_
  rintro z w1 ⟨rfl, e1⟩
  replace C1 := C1.later e1
  replace C2 := C2.later e1
  replace C3 := C3.later e1
  replace Y := xt Y e1
  clear g0 k0 l0 d2 d3 d4 m1 k1' l1' hd
  have k2 := (C3 2 _ rfl).1
  have l2 := (C3 2 _ rfl).2
  have k3 := (C3 3 _ rfl).1
  have l3 := (C3 3 _ rfl).2
  have k4 := (C3 4 _ rfl).1
  have l4 := (C3 4 _ rfl).2
  have D1 := (((C1.far (p := ⟨w.heap.size + 1 + 1, 2, none⟩) n1 (.int .i64 r)).far (p := ⟨w.heap.size + 1 + 1, 3, none⟩) n1 (.int .i64 c)).far (p := ⟨w.heap.size + 1 + 1, 4, none⟩) n1 (sV t))
  have D2 := (((C2.far (p := ⟨w.heap.size + 1 + 1, 2, none⟩) n2 (.int .i64 r)).far (p := ⟨w.heap.size + 1 + 1, 3, none⟩) n2 (.int .i64 c)).far (p := ⟨w.heap.size + 1 + 1, 4, none⟩) n2 (sV t))
  have D3 := (((C3.put 2 (by simp) (.int .i64 r)).put 3 (by simp) (.int .i64 c)).put 4 (by simp) (sV t))
  have Y2 := (xset (xset (xset Y (p := ⟨w.heap.size + 1 + 1, 2, none⟩) (by show _ ≤ w.heap.size + 1 + 1; omega) (.int .i64 r)) (p := ⟨w.heap.size + 1 + 1, 3, none⟩) (by show _ ≤ w.heap.size + 1 + 1; omega) (.int .i64 c)) (p := ⟨w.heap.size + 1 + 1, 4, none⟩) (by show _ ≤ w.heap.size + 1 + 1; omega) (sV t))
  obtain ⟨we, he⟩ : ∃ we, ((w1.setCell ⟨w.heap.size + 1 + 1, 2, none⟩ (.int .i64 r)).setCell ⟨w.heap.size + 1 + 1, 3, none⟩ (.int .i64 c)).setCell ⟨w.heap.size + 1 + 1, 4, none⟩ (sV t) = we := ⟨_, rfl⟩
  rw [he] at D1 D2 D3 Y2
  have d5 := (D1 5 _ rfl).1
  have d6 := (D1 6 _ rfl).1
  have d7 := (D1 7 _ rfl).1
  have d8 := (D1 8 _ rfl).1
  clear C1 C2 C3 Y
  go_wp2_with fail
  refine (toTurnD _ _ _ _ _).mono ?_
  rintro z w2 ⟨rfl, e2⟩
  replace D1 := D1.later e2
  replace D2 := D2.later e2
  replace D3 := D3.later e2
  replace Y2 := xt Y2 e2
  clear d5 d6 d7 d8 k2 l2 k3 l3 k4 l4 he
  have k5 := (D3 5 _ rfl).1
  have l5 := (D3 5 _ rfl).2
  have k6 := (D3 6 _ rfl).1
  have l6 := (D3 6 _ rfl).2
  have k7 := (D3 7 _ rfl).1
  have l7 := (D3 7 _ rfl).2
  have k8 := (D3 8 _ rfl).1
  have l8 := (D3 8 _ rfl).2
  have E2 := ((((D2.far (p := ⟨w.heap.size + 1 + 1, 5, none⟩) n2 (.int .i64 a)).far (p := ⟨w.heap.size + 1 + 1, 6, none⟩) n2 (.int .i64 b)).far (p := ⟨w.heap.size + 1 + 1, 7, none⟩) n2 (.int .i64 m)).far (p := ⟨w.heap.size + 1 + 1, 8, none⟩) n2 (.bool d))
  have E3 := ((((D3.put 5 (by simp) (.int .i64 a)).put 6 (by simp) (.int .i64 b)).put 7 (by simp) (.int .i64 m)).put 8 (by simp) (.bool d))
  have Y3 := (xset (xset (xset (xset Y2 (p := ⟨w.heap.size + 1 + 1, 5, none⟩) (by show _ ≤ w.heap.size + 1 + 1; omega) (.int .i64 a)) (p := ⟨w.heap.size + 1 + 1, 6, none⟩) (by show _ ≤ w.heap.size + 1 + 1; omega) (.int .i64 b)) (p := ⟨w.heap.size + 1 + 1, 7, none⟩) (by show _ ≤ w.heap.size + 1 + 1; omega) (.int .i64 m)) (p := ⟨w.heap.size + 1 + 1, 8, none⟩) (by show _ ≤ w.heap.size + 1 + 1; omega) (.bool d))
  obtain ⟨wf, hf⟩ : ∃ wf, (((w2.setCell ⟨w.heap.size + 1 + 1, 5, none⟩ (.int .i64 a)).setCell ⟨w.heap.size + 1 + 1, 6, none⟩ (.int .i64 b)).setCell ⟨w.heap.size + 1 + 1, 7, none⟩ (.int .i64 m)).setCell ⟨w.heap.size + 1 + 1, 8, none⟩ (.bool d) = wf := ⟨_, rfl⟩
  rw [hf] at E2 E3 Y3
  clear D1 D2 D3 Y2
  have E3' : Vec wf (w.heap.size + 1 + 1) [.int .i64 k, .int .i64 o, .int .i64 r, .int .i64 c, sV t, .int .i64 a, .int .i64 b, .int .i64 m, .bool d] := E3
  have q0 := (E3' 0 _ rfl).1
  have q1 := (E3' 1 _ rfl).1
  have q2 := (E3' 2 _ rfl).1
  have q3 := (E3' 3 _ rfl).1
  have q4 := (E3' 4 _ rfl).1
  have q5 := (E3' 5 _ rfl).1
  have q6 := (E3' 6 _ rfl).1
  have q7 := (E3' 7 _ rfl).1
  have q8 := (E3' 8 _ rfl).1
  have s0 := (E2 0 _ rfl).1
  have s1 := (E2 1 _ rfl).1
  have s2 := (E2 2 _ rfl).1
  have s3 := (E2 3 _ rfl).1
  have s4 := (E2 4 _ rfl).1
  have s5 := (E2 5 _ rfl).1
  have s6 := (E2 6 _ rfl).1
  have s7 := (E2 7 _ rfl).1
  have s8 := (E2 8 _ rfl).1
  have f0 := (E2 0 _ rfl).2
  have f1 := (E2 1 _ rfl).2
  have f2 := (E2 2 _ rfl).2
  have f3 := (E2 3 _ rfl).2
  have f4 := (E2 4 _ rfl).2
  have f5 := (E2 5 _ rfl).2
  have f6 := (E2 6 _ rfl).2
  have f7 := (E2 7 _ rfl).2
  have f8 := (E2 8 _ rfl).2
  have G2 := (((((((((E2.put 0 (by simp) (.int .i64 k)).put 1 (by simp) (.int .i64 o)).put 2 (by simp) (.int .i64 r)).put 3 (by simp) (.int .i64 c)).put 4 (by simp) (sV t)).put 5 (by simp) (.int .i64 a)).put 6 (by simp) (.int .i64 b)).put 7 (by simp) (.int .i64 m)).put 8 (by simp) (.bool d))
  have FX := (xset (xset (xset (xset (xset (xset (xset (xset (xset Y3 (p := ⟨w.heap.size + 1, 0, none⟩) (by show _ ≤ w.heap.size + 1; omega) (.int .i64 k)) (p := ⟨w.heap.size + 1, 1, none⟩) (by show _ ≤ w.heap.size + 1; omega) (.int .i64 o)) (p := ⟨w.heap.size + 1, 2, none⟩) (by show _ ≤ w.heap.size + 1; omega) (.int .i64 r)) (p := ⟨w.heap.size + 1, 3, none⟩) (by show _ ≤ w.heap.size + 1; omega) (.int .i64 c)) (p := ⟨w.heap.size + 1, 4, none⟩) (by show _ ≤ w.heap.size + 1; omega) (sV t)) (p := ⟨w.heap.size + 1, 5, none⟩) (by show _ ≤ w.heap.size + 1; omega) (.int .i64 a)) (p := ⟨w.heap.size + 1, 6, none⟩) (by show _ ≤ w.heap.size + 1; omega) (.int .i64 b)) (p := ⟨w.heap.size + 1, 7, none⟩) (by show _ ≤ w.heap.size + 1; omega) (.int .i64 m)) (p := ⟨w.heap.size + 1, 8, none⟩) (by show _ ≤ w.heap.size + 1; omega) (.bool d))
  obtain ⟨wy, hy⟩ : ∃ wy, ((((((((wf.setCell ⟨w.heap.size + 1, 0, none⟩ (.int .i64 k)).setCell ⟨w.heap.size + 1, 1, none⟩ (.int .i64 o)).setCell ⟨w.heap.size + 1, 2, none⟩ (.int .i64 r)).setCell ⟨w.heap.size + 1, 3, none⟩ (.int .i64 c)).setCell ⟨w.heap.size + 1, 4, none⟩ (sV t)).setCell ⟨w.heap.size + 1, 5, none⟩ (.int .i64 a)).setCell ⟨w.heap.size + 1, 6, none⟩ (.int .i64 b)).setCell ⟨w.heap.size + 1, 7, none⟩ (.int .i64 m)).setCell ⟨w.heap.size + 1, 8, none⟩ (.bool d) = wy := ⟨_, rfl⟩
  rw [hy] at G2 FX
  have G2' : Vec wy (w.heap.size + 1) [.int .i64 k, .int .i64 o, .int .i64 r, .int .i64 c, sV t, .int .i64 a, .int .i64 b, .int .i64 m, .bool d] := G2
  have r0 := (G2' 0 _ rfl).1
  have r1 := (G2' 1 _ rfl).1
  have r2 := (G2' 2 _ rfl).1
  have r3 := (G2' 3 _ rfl).1
  have r4 := (G2' 4 _ rfl).1
  have r5 := (G2' 5 _ rfl).1
  have r6 := (G2' 6 _ rfl).1
  have r7 := (G2' 7 _ rfl).1
  have r8 := (G2' 8 _ rfl).1
  clear E2 E3 E3' G2 G2'
  go_wp2_with fail
  exact bodyPost_ret (v := doV k o r c t a b m d) (by simp [results, Try.results6, go_sem, r0, r1, r2, r3, r4, r5, r6, r7, r8]) rfl ⟨rfl, FX⟩

set_option maxHeartbeats 1000000 in
theorem szDo (k o r c : Int) (t : List UInt8) (a b m : Int) (d : Bool) (z : Int) (w : World) (h0 : 0 ≤ z) (h1 : z ≤ 1048576) (hl : (t.length : Int) ≤ 9223372036854775807) :
    Calls Try.prog 4 #[doV k o r c t a b m d, .int .i64 z] w fun e w' => e = .returned (.int .i64 (if z < t.length then -1 else z - t.length)) ∧ Ext w w' := by
  have C := fun W => szChange r c t z W h0 h1 hl
  have HQ : ∃ q : Int, (if z < t.length then -1 else z - t.length : Int) = q ∧ -1 ≤ q := ⟨_, rfl, by split <;> omega⟩
  obtain ⟨q, hq, hq0⟩ := HQ
  rw [hq] at C ⊢
  clear hq hl h0 h1
  have B1 := vec_made w [.int .i64 k, .int .i64 o, .int .i64 r, .int .i64 c, sV t, .int .i64 a, .int .i64 b, .int .i64 m, .bool d] 27
  have X1 := x1 w (.cells #[.int .i64 k, .int .i64 o, .int .i64 r, .int .i64 c, sV t, .int .i64 a, .int .i64 b, .int .i64 m, .bool d] 27)
  change Vec (w.alloc (.cells #[.int .i64 k, .int .i64 o, .int .i64 r, .int .i64 c, sV t, .int .i64 a, .int .i64 b, .int .i64 m, .bool d] 27)) _ _ at B1
  obtain ⟨wa, ha⟩ : ∃ wa, w.alloc (.cells #[.int .i64 k, .int .i64 o, .int .i64 r, .int .i64 c, sV t, .int .i64 a, .int .i64 b, .int .i64 m, .bool d] 27) = wa := ⟨_, rfl⟩
  rw [ha] at B1 X1
  have a2 := (B1 2 _ rfl).1
  have a3 := (B1 3 _ rfl).1
  have a4 := (B1 4 _ rfl).1
  go_enter Try.func4, Try.ntmps4
  go_wp2_with fail
  refine (C _).mono ?_
  rintro e w1 ⟨rfl, e1⟩
  by_cases hn : q < 0
  · obtain rfl : q = -1 := by omega
    go_wp2_with fail
    go_ret
    exact ⟨rfl, xt X1 e1⟩
  · have f0 : decide (q < 0) = false := decide_eq_false hn
    go_wp2_with fail
    go_ret
    exact ⟨rfl, xt X1 e1⟩

set_option maxHeartbeats 2000000 in
theorem lawGoodDo (k o r c : Int) (t : List UInt8) (a b m : Int) (d : Bool) (w : World) (hl : t.length ≤ 9223372036854775807) :
    Calls Try.prog 3 #[doV k o r c t a b m d] w fun e w' => e = .returned (.bool true) ∧ Ext w w' := by
  have C0 := fun W => szDo k o r c t a b m d 1048576 W (by omega) (by omega) (by omega)
  have C1 := fun W => toDo k o r c t a b m d W
  have HQ : ∃ q : Int, (if (1048576 : Int) < t.length then -1 else 1048576 - t.length : Int) = q ∧ -1 ≤ q ∧ (0 ≤ q → t.length ≤ 1048576) := ⟨_, rfl, by split <;> omega, by split <;> omega⟩
  obtain ⟨q, hq, hq0, hq1⟩ := HQ
  rw [hq] at C0
  have HL : Hid (0 ≤ q → t.length ≤ 1048576) := hq1
  clear hq hl hq1
  have B1 := vec_made w [.int .i64 k, .int .i64 o, .int .i64 r, .int .i64 c, sV t, .int .i64 a, .int .i64 b, .int .i64 m, .bool d] 27
  have X1 := x1 w (.cells #[.int .i64 k, .int .i64 o, .int .i64 r, .int .i64 c, sV t, .int .i64 a, .int .i64 b, .int .i64 m, .bool d] 27)
  change Vec (w.alloc (.cells #[.int .i64 k, .int .i64 o, .int .i64 r, .int .i64 c, sV t, .int .i64 a, .int .i64 b, .int .i64 m, .bool d] 27)) _ _ at B1
  obtain ⟨wa, ha⟩ : ∃ wa, w.alloc (.cells #[.int .i64 k, .int .i64 o, .int .i64 r, .int .i64 c, sV t, .int .i64 a, .int .i64 b, .int .i64 m, .bool d] 27) = wa := ⟨_, rfl⟩
  rw [ha] at B1 X1
  have a0 := (B1 0 _ rfl).1
  have a1 := (B1 1 _ rfl).1
  have a2 := (B1 2 _ rfl).1
  have a3 := (B1 3 _ rfl).1
  have a4 := (B1 4 _ rfl).1
  have a5 := (B1 5 _ rfl).1
  have a6 := (B1 6 _ rfl).1
  have a7 := (B1 7 _ rfl).1
  have a8 := (B1 8 _ rfl).1
  go_enter Try.func3, Try.ntmps3
  go_wp2_with fail
  refine (C0 _).mono ?_
  rintro e w1 ⟨rfl, e1⟩
  replace B1 := B1.later e1
  clear a0 a1 a2 a3 a4 a5 a6 a7 a8
  by_cases hn : q < 0
  · go_wp2_with fail
    go_ret
    exact ⟨rfl, xt X1 e1⟩
  · have f0 : decide (q < 0) = false := decide_eq_false hn
    have hL := HL.out (by omega)
    have C2 := fun W => goodDS k o r c t a b m d W (by omega)
    have C3 := fun W => goodDI k o r c t a b m d W (by omega)
    obtain ⟨g, hg⟩ : ∃ g, goodDB k o r c t a b m d = g := ⟨_, rfl⟩
    rw [hg] at C2 C3
    clear hg HL hL
    have a0 := (B1 0 _ rfl).1
    have a1 := (B1 1 _ rfl).1
    have a2 := (B1 2 _ rfl).1
    have a3 := (B1 3 _ rfl).1
    have a4 := (B1 4 _ rfl).1
    have a5 := (B1 5 _ rfl).1
    have a6 := (B1 6 _ rfl).1
    have a7 := (B1 7 _ rfl).1
    have a8 := (B1 8 _ rfl).1
    go_wp2_with fail
    refine (C1 _).mono ?_
    rintro e w2 ⟨rfl, e2⟩
    go_wp2_with fail
    refine (C2 _).mono ?_
    rintro e w3 ⟨rfl, e3⟩
    replace B1 := (B1.later e2).later e3
    clear a0 a1 a2 a3 a4 a5 a6 a7 a8
    have a0 := (B1 0 _ rfl).1
    have a1 := (B1 1 _ rfl).1
    have a2 := (B1 2 _ rfl).1
    have a3 := (B1 3 _ rfl).1
    have a4 := (B1 4 _ rfl).1
    have a5 := (B1 5 _ rfl).1
    have a6 := (B1 6 _ rfl).1
    have a7 := (B1 7 _ rfl).1
    have a8 := (B1 8 _ rfl).1
    go_wp2_with fail
    refine (C1 _).mono ?_
    rintro e w4 ⟨rfl, e4⟩
    go_wp2_with fail
    refine (C3 _).mono ?_
    rintro e w5 ⟨rfl, e5⟩
    have XX := xt (xt (xt (xt (xt X1 e1) e2) e3) e4) e5
    cases g
    all_goals go_wp2_with fail
    all_goals go_ret
    all_goals exact ⟨rfl, XX⟩

end Go.Proofs.Ytbpnamobifbgpaa
