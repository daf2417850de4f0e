/-
  Refs and places drawn; a text bent.
-/
import Derived.Test.YtifangkifpnnpaaGreatDoorZr
import Derived.Test.YtifangkifpnnpaaGreatDoorRs
import Derived.RegionTactic
import Derived.ChangeAlike
namespace Go.Proofs.YtifangkifpnnpaaGreatDoor
open Go.RowKit

set_option maxRecDepth 8000 in
set_option maxHeartbeats 4000000 in
theorem drawBy (v : Value) (n : Nat) (w : World) (hc : CodeIn w w.heap.size v n) (hn : n ≤ 1048576) :
    Calls Tryz.prog 4 #[v] w fun e w' => ∃ (r c : Int) (rf cf : Bool) (row col : Int), e = .returned (.tuple #[refV r c rf cf, .int .i64 row, .int .i64 col]) ∧ Ext w w' := by
  have X0 := x1 w (.cells #[.int .i64 0, .int .i64 0, .bool false, .bool false] 24)
  have V2 := Vec.made4 w (.int .i64 0) (.int .i64 0) (.bool false) (.bool false) 24
  have hc1 : CodeIn (w.alloc (.cells #[.int .i64 0, .int .i64 0, .bool false, .bool false] 24)) w.heap.size v n := hc.only (b := w.heap.size) (Only.of_ext X0) (Nat.le_refl _)
  have C0 := Cur.made (w.alloc (.cells #[.int .i64 0, .int .i64 0, .bool false, .bool false] 24)) v n w.heap.size 39 hc1 hn (by rw [World.size_alloc]; omega)
  have X1 := x1 (w.alloc (.cells #[.int .i64 0, .int .i64 0, .bool false, .bool false] 24)) (.cells #[v, .int .i64 0, .int .u64 0] 39)
  have V2 := V2.later X1
  rw [World.size_alloc] at C0
  have hv : ∃ p cap, v = .slice p n cap := by
    rcases hc with ⟨⟨p, cap, h⟩, rfl⟩ | ⟨pb, po, cap, _, h, _⟩
    · exact ⟨p, cap, h⟩
    · exact ⟨_, cap, h⟩
  have XW := xt X0 X1
  clear hc hc1 X0 X1
  obtain ⟨p, cap, rfl⟩ := hv
  go_enter Tryz.func4, Tryz.ntmps4
  go_wp2_with fail
  refine (refC (w.heap.size + 1) w.heap.size _ _ C0 (by omega)).mono ?_
  rintro e w1 ⟨r0, c0, f0, g0, K1, rfl, _, _, hK1, c1, o1⟩
  go_wp2_with fail
  refine (oddC (w.heap.size + 1) w.heap.size _ _ _ _ _ w1 c1 (by omega)).mono ?_
  rintro e w2 ⟨r, c, rf, cf, K2, rfl, hK2, c2, o2⟩
  have V2 := (o1.trans o2).vec (k := w.heap.size) (by omega) V2
  have O2 := o1.trans o2
  have V6 := Vec.made4 w2 (.int .i64 r) (.int .i64 c) (.bool rf) (.bool cf) 24
  have x3 := x1 w2 (.cells #[.int .i64 r, .int .i64 c, .bool rf, .bool cf] 24)
  have lt2 : w.heap.size + 1 < w2.heap.size := c2.lt
  have V2 := V2.later x3
  have c3 := c2.ext x3
  have O3 := O2.trans (Only.of_ext x3)
  clear c1 c2 o1 o2 x3 O2 C0
  go_wp2_with fail
  refine (refC (w.heap.size + 1) w.heap.size _ _ c3 (by omega)).mono ?_
  rintro e w4 ⟨r4, c4', f4, g4, K4, rfl, _, _, hK4, c4, o4⟩
  go_wp2_with fail
  refine (oddC (w.heap.size + 1) w.heap.size _ _ _ _ _ w4 c4 (by omega)).mono ?_
  rintro e w5 ⟨row, col, u, t, K5, rfl, hK5, c5, o5⟩
  have V2 := (o4.trans o5).vec (k := w.heap.size) (by omega) V2
  have V6 := (o4.trans o5).vec (k := w2.heap.size) (by omega) V6
  have O5 := O3.trans (o4.trans o5)
  have V7 := Vec.made4 w5 (.int .i64 row) (.int .i64 col) (.bool u) (.bool t) 24
  have x6 := x1 w5 (.cells #[.int .i64 row, .int .i64 col, .bool u, .bool t] 24)
  have lt5 : w2.heap.size < w5.heap.size := World.block_lt_of_cell? _ _ (V6 0 _ rfl).1
  have V2 := V2.later x6
  have V6 := V6.later x6
  have XE : Ext w (w5.alloc (.cells #[.int .i64 row, .int .i64 col, .bool u, .bool t] 24)) := xt (Only.ext XW O5 (by omega)) x6
  clear c3 c4 c5 o4 o5 O3 O5 x6 XW
  obtain ⟨w6, h6⟩ : ∃ w6, w5.alloc (.cells #[.int .i64 row, .int .i64 col, .bool u, .bool t] 24) = w6 := ⟨_, rfl⟩
  rw [h6] at V2 V6 V7 XE
  go_wp2_with fail
  clear h6
  obtain ⟨⟨a0, a1, a2, a3⟩, _⟩ := V6.box4
  obtain ⟨⟨b0, b1, b2, b3⟩, _⟩ := V7.box4
  obtain ⟨⟨m0, m1, m2, m3⟩, f0', f1', f2', f3'⟩ := V2.box4
  have n1 : (w.heap.size = w2.heap.size) = False := eq_false (by omega)
  have n2 : (w.heap.size = w5.heap.size) = False := eq_false (by omega)
  have n3 : (w2.heap.size = w.heap.size) = False := eq_false (by omega)
  have n4 : (w5.heap.size = w.heap.size) = False := eq_false (by omega)
  go_region
  all_goals go_wp2_with fail
  all_goals exact bodyPost_ret (v := .tuple #[refV r c rf cf, .int .i64 row, .int .i64 col]) (by simp [results, Tryz.results4, go_sem, m0, m1, m2, m3]) rfl ⟨r, c, rf, cf, row, col, rfl, by first | exact xd (Ext.set4 (o := 0) XE (Nat.le_refl _) _ _ _ _) | exact Ext.set4 (o := 0) (xd XE) (Nat.le_refl _) _ _ _ _ | exact Ext.set4 (o := 0) XE (Nat.le_refl _) _ _ _ _⟩

end Go.Proofs.YtifangkifpnnpaaGreatDoor
