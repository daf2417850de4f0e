/-
  Areas handed over and compared; GoodArea, Normal on both sides.
-/
import Derived.Test.YtjoalcnedehfgaaRef
import Derived.Test.YtjoalcnedehfgaaVek
import Derived.Deep.RegionHeld3
namespace Go.Proofs.Ytjoalcnedehfgaa
open Go.RowKit

abbrev arV (r c : Int) (rf cf : Bool) (r' c' : Int) (rf' cf' : Bool) : Value := .agg #[.int .i64 r, .int .i64 c, .bool rf, .bool cf, .int .i64 r', .int .i64 c', .bool rf', .bool cf']
set_option maxRecDepth 8000 in
set_option maxHeartbeats 1000000 in
theorem toArea (r c : Int) (rf cf : Bool) (r' c' : Int) (rf' cf' : Bool) (w : World) :
    Calls Try.prog 16 #[arV r c rf cf r' c' rf' cf'] w fun e w' => e = .returned (arV r c rf cf r' c' rf' cf') ∧ Ext w w' := by
  have X1 := x1 w (.cells #[.int .i64 r, .int .i64 c, .bool rf, .bool cf, .int .i64 r', .int .i64 c', .bool rf', .bool cf'] 37)
  have B1 := Vec.made8 w (.int .i64 r) (.int .i64 c) (.bool rf) (.bool cf) (.int .i64 r') (.int .i64 c') (.bool rf') (.bool cf') 37
  obtain ⟨wa, ha⟩ : ∃ wa, w.alloc (.cells #[.int .i64 r, .int .i64 c, .bool rf, .bool cf, .int .i64 r', .int .i64 c', .bool rf', .bool cf'] 37) = wa := ⟨_, rfl⟩
  have B2 := Vec.made8 wa (.int .i64 0) (.int .i64 0) (.bool false) (.bool false) (.int .i64 0) (.int .i64 0) (.bool false) (.bool false) 39
  have X2 := x1 wa (.cells #[.int .i64 0, .int .i64 0, .bool false, .bool false, .int .i64 0, .int .i64 0, .bool false, .bool false] 39)
  obtain ⟨wb, hb⟩ : ∃ wb, wa.alloc (.cells #[.int .i64 0, .int .i64 0, .bool false, .bool false, .int .i64 0, .int .i64 0, .bool false, .bool false] 39) = wb := ⟨_, rfl⟩
  have B3 := Vec.made8 wb (.int .i64 0) (.int .i64 0) (.bool false) (.bool false) (.int .i64 0) (.int .i64 0) (.bool false) (.bool false) 39
  have X3 := x1 wb (.cells #[.int .i64 0, .int .i64 0, .bool false, .bool false, .int .i64 0, .int .i64 0, .bool false, .bool false] 39)
  have sa : wa.heap.size = w.heap.size + 1 := by rw [← ha, World.size_alloc]
  have sb : wb.heap.size = w.heap.size + 1 + 1 := by rw [← hb, World.size_alloc, sa]
  rw [ha] at X1 B1
  rw [hb] at X2 B2
  rw [sa] at B2
  rw [sb] at B3
  have X := xt (xt X1 X2) X3
  have B1 := (B1.later X2).later X3
  have B2 := B2.later X3
  clear X1 X2 X3
  obtain ⟨wc, hc⟩ : ∃ wc, wb.alloc (.cells #[.int .i64 0, .int .i64 0, .bool false, .bool false, .int .i64 0, .int .i64 0, .bool false, .bool false] 39) = wc := ⟨_, rfl⟩
  rw [hc] at B1 B2 B3 X
  obtain ⟨⟨⟨a0, a1, a2, a3⟩, a4, a5, a6, a7⟩, _⟩ := B1.box8
  go_enter Try.func16, Try.ntmps16
  go_wp2_with fail
  clear ha hb hc sa sb a0 a1 a2 a3 a4 a5 a6 a7
  refine (toRef r c rf cf wc).mono ?_
  rintro e w1 ⟨rfl, e1⟩
  have C1 := B1.later e1
  have C2 := B2.later e1
  have C3 := B3.later e1
  have X1 := xt X e1
  clear B1 B2 B3 e1 X
  obtain ⟨wd, hd⟩ : ∃ wd, set4 w1 (w.heap.size + 1 + 1) 0 (.int .i64 r) (.int .i64 c) (.bool rf) (.bool cf) = wd := ⟨_, rfl⟩
  have D1 := C1.far4 (k := w.heap.size + 1 + 1) (o := 0) (by omega) (.int .i64 r) (.int .i64 c) (.bool rf) (.bool cf)
  have D2 := C2.far4 (k := w.heap.size + 1 + 1) (o := 0) (by omega) (.int .i64 r) (.int .i64 c) (.bool rf) (.bool cf)
  have D3 := C3.put03 (.int .i64 r) (.int .i64 c) (.bool rf) (.bool cf)
  have Y := Ext.set4 (b := w.heap.size + 1 + 1) (o := 0) X1 (by omega) (.int .i64 r) (.int .i64 c) (.bool rf) (.bool cf)
  rw [hd] at D1 D2 D3 Y
  unfold set4 at hd
  obtain ⟨⟨⟨k0, k1, k2, k3⟩, k4, k5, k6, k7⟩, ⟨f0, f1, f2, f3⟩, f4, f5, f6, f7⟩ := C3.box8
  obtain ⟨⟨⟨a0, a1, a2, a3⟩, a4, a5, a6, a7⟩, _⟩ := D1.box8
  clear C1 C2 C3
  go_wp2_with fail
  clear a0 a1 a2 a3 a4 a5 a6 a7 f0 f1 f2 f3 f4 f5 f6 f7 k0 k1 k2 k3 k4 k5 k6 k7 hd
  refine (toRef r' c' rf' cf' _).mono ?_
  rintro e w2 ⟨rfl, e2⟩
  have E2 := D2.later e2
  have E3 := D3.later e2
  have Z := xt Y e2
  clear D1 D2 D3 Y e2 X1 B1 B2
  obtain ⟨wx, hx⟩ : ∃ wx, set4 w2 (w.heap.size + 1 + 1) 4 (.int .i64 r') (.int .i64 c') (.bool rf') (.bool cf') = wx := ⟨_, rfl⟩
  have F2 := E2.far4 (k := w.heap.size + 1 + 1) (o := 4) (by omega) (.int .i64 r') (.int .i64 c') (.bool rf') (.bool cf')
  have F3 := E3.put47 (.int .i64 r') (.int .i64 c') (.bool rf') (.bool cf')
  have Z1 := Ext.set4 (b := w.heap.size + 1 + 1) (o := 4) Z (by omega) (.int .i64 r') (.int .i64 c') (.bool rf') (.bool cf')
  rw [hx] at F2 F3 Z1
  unfold set4 at hx
  obtain ⟨wy, hy⟩ : ∃ wy, set8 wx (w.heap.size + 1) (.int .i64 r) (.int .i64 c) (.bool rf) (.bool cf) (.int .i64 r') (.int .i64 c') (.bool rf') (.bool cf') = wy := ⟨_, rfl⟩
  have G2 := F2.put8 (.int .i64 r) (.int .i64 c) (.bool rf) (.bool cf) (.int .i64 r') (.int .i64 c') (.bool rf') (.bool cf')
  have Z2 := Ext.set8 (b := w.heap.size + 1) Z1 (by omega) (.int .i64 r) (.int .i64 c) (.bool rf) (.bool cf) (.int .i64 r') (.int .i64 c') (.bool rf') (.bool cf')
  rw [hy] at G2 Z2
  unfold set8 set4 at hy
  obtain ⟨⟨⟨k0, k1, k2, k3⟩, k4, k5, k6, k7⟩, ⟨f0, f1, f2, f3⟩, f4, f5, f6, f7⟩ := E3.box8
  obtain ⟨⟨⟨m0, m1, m2, m3⟩, m4, m5, m6, m7⟩, _⟩ := F3.box8
  obtain ⟨⟨⟨a0, a1, a2, a3⟩, a4, a5, a6, a7⟩, ⟨g0, g1, g2, g3⟩, g4, g5, g6, g7⟩ := F2.box8
  obtain ⟨⟨⟨d0, d1, d2, d3⟩, d4, d5, d6, d7⟩, _⟩ := G2.box8
  clear E2 E3 F2 F3 G2 Z Z1
  go_wp2_with fail
  exact bodyPost_ret (v := arV r c rf cf r' c' rf' cf') (by simp [results, Try.results16, go_sem, d0, d1, d2, d3, d4, d5, d6, d7]) rfl ⟨rfl, Z2⟩
set_option maxRecDepth 8000 in
set_option maxHeartbeats 1000000 in
theorem eqArea_same (r c : Int) (rf cf : Bool) (r' c' : Int) (rf' cf' : Bool) (w : World) :
    Calls Try.prog 18 #[arV r c rf cf r' c' rf' cf', arV r c rf cf r' c' rf' cf'] w fun e w' => e = .returned (.bool true) ∧ Ext w w' := by
  have B1 := Vec.made8 w (.int .i64 r) (.int .i64 c) (.bool rf) (.bool cf) (.int .i64 r') (.int .i64 c') (.bool rf') (.bool cf') 39
  have B2 := Vec.made8 (w.alloc (.cells #[.int .i64 r, .int .i64 c, .bool rf, .bool cf, .int .i64 r', .int .i64 c', .bool rf', .bool cf'] 39)) (.int .i64 r) (.int .i64 c) (.bool rf) (.bool cf) (.int .i64 r') (.int .i64 c') (.bool rf') (.bool cf') 39
  have X := xa (x1 w (.cells #[.int .i64 r, .int .i64 c, .bool rf, .bool cf, .int .i64 r', .int .i64 c', .bool rf', .bool cf'] 39)) (.cells #[.int .i64 r, .int .i64 c, .bool rf, .bool cf, .int .i64 r', .int .i64 c', .bool rf', .bool cf'] 39)
  have B1 := B1.later (x1 _ (.cells #[.int .i64 r, .int .i64 c, .bool rf, .bool cf, .int .i64 r', .int .i64 c', .bool rf', .bool cf'] 39))
  rw [World.size_alloc] at B2
  go_enter Try.func18, Try.ntmps18
  go_wp2_with fail
  refine (eqRef_same _ _ _ _ _).mono ?_
  rintro e w1 ⟨rfl, e1⟩
  obtain ⟨⟨⟨a0, a1, a2, a3⟩, a4, a5, a6, a7⟩, _⟩ := (B1.later e1).box8
  obtain ⟨⟨⟨k0, k1, k2, k3⟩, k4, k5, k6, k7⟩, _⟩ := (B2.later e1).box8
  go_wp2_with fail
  refine (eqRef_same _ _ _ _ _).mono ?_
  rintro e w2 ⟨rfl, e2⟩
  go_wp2_with fail
  go_ret
  exact ⟨rfl, xt (xt X e1) e2⟩
/-- Whether an area is good. -/
def goodAB (r c r' c' : Int) : Bool := goodRB r c && goodRB r' c'
set_option maxRecDepth 8000 in
set_option maxHeartbeats 1000000 in
theorem goodAI (r c : Int) (rf cf : Bool) (r' c' : Int) (rf' cf' : Bool) (w : World) :
    Calls Try.prog 33 #[arV r c rf cf r' c' rf' cf'] w fun e w' => e = .returned (.bool (goodAB r c r' c')) ∧ Ext w w' := by
  have G1 := fun w => goodRI r c rf cf w
  have G2 := fun w => goodRI r' c' rf' cf' w
  have B1 := Vec.made8 w (.int .i64 r) (.int .i64 c) (.bool rf) (.bool cf) (.int .i64 r') (.int .i64 c') (.bool rf') (.bool cf') 39
  have X := x1 w (.cells #[.int .i64 r, .int .i64 c, .bool rf, .bool cf, .int .i64 r', .int .i64 c', .bool rf', .bool cf'] 39)
  unfold goodAB
  obtain ⟨p, hp⟩ : ∃ p, goodRB r c = p := ⟨_, rfl⟩
  obtain ⟨q, hq⟩ : ∃ q, goodRB r' c' = q := ⟨_, rfl⟩
  rw [hp] at G1 ⊢
  rw [hq] at G2 ⊢
  clear hp hq
  go_enter Try.func33, Try.ntmps33
  go_wp2_with fail
  refine (G1 _).mono ?_
  rintro e w1 ⟨rfl, e1⟩
  obtain ⟨⟨⟨a0, a1, a2, a3⟩, a4, a5, a6, a7⟩, _⟩ := (B1.later e1).box8
  cases p
  · go_wp2_with fail
    go_ret
    exact ⟨rfl, xt X e1⟩
  · go_wp2_with fail
    refine (G2 _).mono ?_
    rintro e w2 ⟨rfl, e2⟩
    go_wp2_with fail
    go_ret
    exact ⟨rfl, xt (xt X e1) e2⟩
set_option maxRecDepth 8000 in
set_option maxHeartbeats 1000000 in
theorem goodAS (r c : Int) (rf cf : Bool) (r' c' : Int) (rf' cf' : Bool) (w : World) :
    Calls Try.prog 29 #[arV r c rf cf r' c' rf' cf'] w fun e w' => e = .returned (.bool (goodAB r c r' c')) ∧ Ext w w' := by
  have G1 := fun w => goodRS r c rf cf w
  have G2 := fun w => goodRS r' c' rf' cf' w
  have B1 := Vec.made8 w (.int .i64 r) (.int .i64 c) (.bool rf) (.bool cf) (.int .i64 r') (.int .i64 c') (.bool rf') (.bool cf') 39
  have X := x1 w (.cells #[.int .i64 r, .int .i64 c, .bool rf, .bool cf, .int .i64 r', .int .i64 c', .bool rf', .bool cf'] 39)
  unfold goodAB
  obtain ⟨p, hp⟩ : ∃ p, goodRB r c = p := ⟨_, rfl⟩
  obtain ⟨q, hq⟩ : ∃ q, goodRB r' c' = q := ⟨_, rfl⟩
  rw [hp] at G1 ⊢
  rw [hq] at G2 ⊢
  clear hp hq
  go_enter Try.func29, Try.ntmps29
  go_wp2_with fail
  refine (G1 _).mono ?_
  rintro e w1 ⟨rfl, e1⟩
  obtain ⟨⟨⟨a0, a1, a2, a3⟩, a4, a5, a6, a7⟩, _⟩ := (B1.later e1).box8
  cases p
  · go_wp2_with fail
    go_ret
    exact ⟨rfl, xt X e1⟩
  · go_wp2_with fail
    refine (G2 _).mono ?_
    rintro e w2 ⟨rfl, e2⟩
    go_wp2_with fail
    go_ret
    exact ⟨rfl, xt (xt X e1) e2⟩

end Go.Proofs.Ytjoalcnedehfgaa
