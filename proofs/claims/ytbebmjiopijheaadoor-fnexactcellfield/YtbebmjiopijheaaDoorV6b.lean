/-
  Chapter 6: values handed over, measured, compared; the law of GoodValue.
-/
import Derived.Test.YtbebmjiopijheaaDoorV6a
namespace Go.Proofs.YtbebmjiopijheaaDoor
open Go.RowKit

/-- Stores in a row, from an offset on. -/
def setL (w : World) (b : Nat) : Nat → List Value → World
  | _, [] => w
  | o, v :: vs => setL (w.setCell ⟨b, o, none⟩ v) b (o + 1) vs
theorem Vec.farL {b k : Nat} {l : List Value} (hk : k ≠ b) : ∀ (us : List Value) (o : Nat) {w : World}, Vec w b l → Vec (setL w k o us) b l
  | [], _, _, h => h
  | u :: us, o, _, h => Vec.farL hk us (o + 1) (h.far hk u)
theorem Ext.setL {a : World} {b : Nat} (hb : a.heap.size ≤ b) : ∀ (us : List Value) (o : Nat) {w : World}, Ext a w → Ext a (setL w b o us)
  | [], _, _, h => h
  | u :: us, o, _, h => Ext.setL hb us (o + 1) (xset h hb u)
theorem Vec.put5 {w : World} {b : Nat} {v0 v1 v2 v3 v4 : Value} (h : Vec w b [v0, v1, v2, v3, v4]) (u0 u1 u2 u3 u4 : Value) : Vec (setL w b 0 [u0, u1, u2, u3, u4]) b [u0, u1, u2, u3, u4] :=
  ((((h.put 0 (by simp) u0).put 1 (by simp) u1).put 2 (by simp) u2).put 3 (by simp) u3).put 4 (by simp) u4

set_option maxRecDepth 8000 in
set_option maxHeartbeats 1000000 in
theorem toValue (k : Int) (n : Bool) (d x : Int) (t : List UInt8) (w : World) :
    Calls Tryd.prog 6 #[valV k n d x t] w fun e w' => e = .returned (valV k n d x t) ∧ Ext w w' := by
  have X1 := x1 w (.cells #[.int .i64 k, .bool n, .int .i64 d, .int .i64 x, sV t] 25)
  have B1 := vec_made w (valL k n d x t) 25
  obtain ⟨wa, ha⟩ : ∃ wa, w.alloc (.cells #[.int .i64 k, .bool n, .int .i64 d, .int .i64 x, sV t] 25) = wa := ⟨_, rfl⟩
  have B2 := vec_made wa (valL 0 false 0 0 []) 30
  have X2 := x1 wa (.cells #[.int .i64 0, .bool false, .int .i64 0, .int .i64 0, sV []] 30)
  obtain ⟨wb, hb⟩ : ∃ wb, wa.alloc (.cells #[.int .i64 0, .bool false, .int .i64 0, .int .i64 0, sV []] 30) = wb := ⟨_, rfl⟩
  have B3 := vec_made wb (valL 0 false 0 0 []) 30
  have X3 := x1 wb (.cells #[.int .i64 0, .bool false, .int .i64 0, .int .i64 0, sV []] 30)
  have sa : wa.heap.size = w.heap.size + 1 := by rw [← ha, World.size_alloc]
  have sb : wb.heap.size = w.heap.size + 1 + 1 := by rw [← hb, World.size_alloc, sa]
  change Vec (w.alloc (.cells #[.int .i64 k, .bool n, .int .i64 d, .int .i64 x, sV t] 25)) _ _ at B1
  change Vec (wa.alloc (.cells #[.int .i64 0, .bool false, .int .i64 0, .int .i64 0, sV []] 30)) _ _ at B2
  change Vec (wb.alloc (.cells #[.int .i64 0, .bool false, .int .i64 0, .int .i64 0, sV []] 30)) _ _ at B3
  rw [ha] at X1 B1
  rw [hb] at X2 B2
  rw [sa] at B2
  rw [sb] at B3
  have X := xt (xt X1 X2) X3
  have B1 := (B1.later X2).later X3
  have B2 := B2.later X3
  clear X1 X2 X3
  obtain ⟨wc, hc⟩ : ∃ wc, wb.alloc (.cells #[.int .i64 0, .bool false, .int .i64 0, .int .i64 0, sV []] 30) = wc := ⟨_, rfl⟩
  rw [hc] at B1 B2 B3 X
  have a0 := (B1 0 _ rfl).1
  have a1 := (B1 1 _ rfl).1
  have a2 := (B1 2 _ rfl).1
  have a3 := (B1 3 _ rfl).1
  have c0 := (B3 0 _ rfl).1
  have f0 := (B3 0 _ rfl).2
  go_enter Tryd.func6, Tryd.ntmps6
  go_wp2_with fail
  clear ha hb hc sa sb a0 a1 a2 a3 c0 f0
  refine (toDec n d x _).mono ?_
  rintro e w1 ⟨rfl, e1⟩
  have C1 := (B1.far (p := ⟨w.heap.size + 1 + 1, 0, none⟩) (by show w.heap.size + 1 + 1 ≠ _; omega) (.int .i64 k)).later e1
  have C2 := (B2.far (p := ⟨w.heap.size + 1 + 1, 0, none⟩) (by show w.heap.size + 1 + 1 ≠ _; omega) (.int .i64 k)).later e1
  have C3 : Vec w1 (w.heap.size + 1 + 1) (valL k false 0 0 []) := (B3.put 0 (by simp) (.int .i64 k)).later e1
  have X1 := xt (xset X (p := ⟨w.heap.size + 1 + 1, 0, none⟩) (by show _ ≤ w.heap.size + 1 + 1; omega) (.int .i64 k)) e1
  clear B1 B2 B3 X e1
  obtain ⟨wd, hd⟩ : ∃ wd, setL w1 (w.heap.size + 1 + 1) 1 [.bool n, .int .i64 d, .int .i64 x, sV t] = wd := ⟨_, rfl⟩
  have D2 := C2.farL (k := w.heap.size + 1 + 1) (by omega) [.bool n, .int .i64 d, .int .i64 x, sV t] 1
  have D3 : Vec (setL w1 (w.heap.size + 1 + 1) 1 [.bool n, .int .i64 d, .int .i64 x, sV t]) (w.heap.size + 1 + 1) (valL k n d x t) := (((C3.put 1 (by simp) (.bool n)).put 2 (by simp) (.int .i64 d)).put 3 (by simp) (.int .i64 x)).put 4 (by simp) (sV t)
  have Y := Ext.setL (b := w.heap.size + 1 + 1) (by omega) [.bool n, .int .i64 d, .int .i64 x, sV t] 1 X1
  rw [hd] at D2 D3 Y
  have hd : (((w1.setCell ⟨w.heap.size + 1 + 1, 1, none⟩ (.bool n)).setCell ⟨w.heap.size + 1 + 1, 2, none⟩ (.int .i64 d)).setCell ⟨w.heap.size + 1 + 1, 3, none⟩ (.int .i64 x)).setCell ⟨w.heap.size + 1 + 1, 4, none⟩ (sV t) = wd := hd
  have G2 := D2.put5 (.int .i64 k) (.bool n) (.int .i64 d) (.int .i64 x) (sV t)
  have Z := Ext.setL (b := w.heap.size + 1) (by omega) [.int .i64 k, .bool n, .int .i64 d, .int .i64 x, sV t] 0 Y
  obtain ⟨wy, hy⟩ : ∃ wy, setL wd (w.heap.size + 1) 0 [.int .i64 k, .bool n, .int .i64 d, .int .i64 x, sV t] = wy := ⟨_, rfl⟩
  rw [hy] at G2 Z
  have hy : ((((wd.setCell ⟨w.heap.size + 1, 0, none⟩ (.int .i64 k)).setCell ⟨w.heap.size + 1, 1, none⟩ (.bool n)).setCell ⟨w.heap.size + 1, 2, none⟩ (.int .i64 d)).setCell ⟨w.heap.size + 1, 3, none⟩ (.int .i64 x)).setCell ⟨w.heap.size + 1, 4, none⟩ (sV t) = wy := hy
  have a4 := (C1 4 _ rfl).1
  have k0 := (C3 0 _ rfl).1
  have k1 := (C3 1 _ rfl).1
  have k2 := (C3 2 _ rfl).1
  have k3 := (C3 3 _ rfl).1
  have k4 := (C3 4 _ rfl).1
  have f1 := (C3 1 _ rfl).2
  have f2 := (C3 2 _ rfl).2
  have f3 := (C3 3 _ rfl).2
  have f4 := (C3 4 _ rfl).2
  have m0 := (D3 0 _ rfl).1
  have m1 := (D3 1 _ rfl).1
  have m2 := (D3 2 _ rfl).1
  have m3 := (D3 3 _ rfl).1
  have m4 := (D3 4 _ rfl).1
  have b0 := (D2 0 _ rfl).1
  have b1 := (D2 1 _ rfl).1
  have b2 := (D2 2 _ rfl).1
  have b3 := (D2 3 _ rfl).1
  have b4 := (D2 4 _ rfl).1
  have g0 := (D2 0 _ rfl).2
  have g1 := (D2 1 _ rfl).2
  have g2 := (D2 2 _ rfl).2
  have g3 := (D2 3 _ rfl).2
  have g4 := (D2 4 _ rfl).2
  have d0 := (G2 0 _ rfl).1
  have d1 := (G2 1 _ rfl).1
  have d2 := (G2 2 _ rfl).1
  have d3 := (G2 3 _ rfl).1
  have d4 := (G2 4 _ rfl).1
  clear C1 C2 C3 D2 D3 G2 X1 Y
  go_wp2_with fail
  exact bodyPost_ret (v := valV k n d x t) (by simp [results, Tryd.results6, go_sem, d0, d1, d2, d3, d4]) rfl ⟨rfl, Z⟩

set_option maxHeartbeats 1000000 in
theorem szValue (k : Int) (n : Bool) (d x : Int) (t : List UInt8) (m : Int) (w : World) (h0 : 0 ≤ m) (h1 : m ≤ 1048576) (hl : (t.length : Int) ≤ 9223372036854775807) :
    Calls Tryd.prog 4 #[valV k n d x t, .int .i64 m] w fun e w' => e = .returned (.int .i64 (if m < t.length then -1 else m - t.length)) ∧ Ext w w' := by
  have X0 := x1 w (.cells #[.int .i64 k, .bool n, .int .i64 d, .int .i64 x, sV t] 25)
  obtain ⟨L, hL⟩ : ∃ L, t.length = L := ⟨_, rfl⟩
  have hs : (⟨t.toArray⟩ : ByteArray).size = L := hL
  rw [hL] at hl ⊢
  clear hL
  by_cases hm : m < L
  · rw [if_pos hm]
    go_enter Tryd.func4, Tryd.ntmps4
    go_wp2_with fail
    go_ret
    exact ⟨rfl, X0⟩
  · rw [if_neg hm]
    go_enter Tryd.func4, Tryd.ntmps4
    go_wp2_with fail
    go_ret
    exact ⟨ret_int (by first | rfl | omega), X0⟩

end Go.Proofs.YtbebmjiopijheaaDoor

