/-
  Areas handed over and compared; GoodArea, Normal on both sides.
-/
import Derived.Test.YtdbiefpgoiofcaaRef
import Derived.Deep.RegionHeld3
namespace Go.Proofs.Ytdbiefpgoiofcaa
open Go.RowKit

abbrev arV (r c : Int) (rf cf : Bool) (r' c' : Int) (rf' cf' : Bool) : Value := .agg #[.int .i64 r, .int .i64 c, .bool rf, .bool cf, .int .i64 r', .int .i64 c', .bool rf', .bool cf']
/-- Eight cells of one block, none frozen. -/
def Box8 (w : World) (b : Nat) (v0 v1 v2 v3 v4 v5 v6 v7 : Value) : Prop :=
  ((w.cell? ⟨b, 0, none⟩ = some v0 ∧ w.cell? ⟨b, 1, none⟩ = some v1 ∧ w.cell? ⟨b, 2, none⟩ = some v2 ∧ w.cell? ⟨b, 3, none⟩ = some v3) ∧ w.cell? ⟨b, 4, none⟩ = some v4 ∧ w.cell? ⟨b, 5, none⟩ = some v5 ∧ w.cell? ⟨b, 6, none⟩ = some v6 ∧ w.cell? ⟨b, 7, none⟩ = some v7) ∧
  (w.frozen? ⟨b, 0, none⟩ = false ∧ w.frozen? ⟨b, 1, none⟩ = false ∧ w.frozen? ⟨b, 2, none⟩ = false ∧ w.frozen? ⟨b, 3, none⟩ = false) ∧ w.frozen? ⟨b, 4, none⟩ = false ∧ w.frozen? ⟨b, 5, none⟩ = false ∧ w.frozen? ⟨b, 6, none⟩ = false ∧ w.frozen? ⟨b, 7, none⟩ = false
theorem Box8.made (w : World) (v0 v1 v2 v3 v4 v5 v6 v7 : Value) (t : TypeId) : Box8 (w.alloc (.cells #[v0, v1, v2, v3, v4, v5, v6, v7] t)) w.heap.size v0 v1 v2 v3 v4 v5 v6 v7 := by
  refine ⟨⟨⟨?_, ?_, ?_, ?_⟩, ?_, ?_, ?_, ?_⟩, ⟨?_, ?_, ?_, ?_⟩, ?_, ?_, ?_, ?_⟩ <;> simp [go_sem]
theorem Box8.later {w w1 : World} {b : Nat} {v0 v1 v2 v3 v4 v5 v6 v7 : Value} (h : Box8 w b v0 v1 v2 v3 v4 v5 v6 v7) (hb : Ext w w1) : Box8 w1 b v0 v1 v2 v3 v4 v5 v6 v7 := by
  obtain ⟨⟨⟨a0, a1, a2, a3⟩, a4, a5, a6, a7⟩, ⟨f0, f1, f2, f3⟩, f4, f5, f6, f7⟩ := h
  exact ⟨⟨⟨cell_later hb a0, cell_later hb a1, cell_later hb a2, cell_later hb a3⟩, cell_later hb a4, cell_later hb a5, cell_later hb a6, cell_later hb a7⟩,
    ⟨frozen_later hb a0 f0, frozen_later hb a1 f1, frozen_later hb a2 f2, frozen_later hb a3 f3⟩, frozen_later hb a4 f4, frozen_later hb a5 f5, frozen_later hb a6 f6, frozen_later hb a7 f7⟩

/-- A row of cells of one block, none frozen. -/
def Vec (w : World) (b : Nat) (l : List Value) : Prop := ∀ i v, l[i]? = some v → w.cell? ⟨b, i, none⟩ = some v ∧ w.frozen? ⟨b, i, none⟩ = false
theorem Vec.later {w w1 : World} {b : Nat} {l : List Value} (h : Vec w b l) (hb : Ext w w1) : Vec w1 b l := fun i v hi => ⟨cell_later hb (h i v hi).1, frozen_later hb (h i v hi).1 (h i v hi).2⟩
theorem Vec.far {w : World} {b : Nat} {l : List Value} (h : Vec w b l) {p : Addr} (hp : p.block ≠ b) (u : Value) : Vec (w.setCell p u) b l := fun i v hi => by
  refine ⟨?_, by rw [World.frozen?_setCell]; exact (h i v hi).2⟩
  rw [World.cell?_setCell_other _ _ _ _ (fun e => hp (congrArg Addr.block e))]
  exact (h i v hi).1
theorem Vec.put {w : World} {b : Nat} {l : List Value} (h : Vec w b l) (i : Nat) (hi : i < l.length) (u : Value) : Vec (w.setCell ⟨b, i, none⟩ u) b (l.set i u) := fun j v hj => by
  refine ⟨?_, ?_⟩
  · by_cases e : j = i
    · subst e
      rw [List.getElem?_set_self hi] at hj
      cases hj
      exact World.cell?_setCell_same' _ _ _ (by rw [(h j l[j] (List.getElem?_eq_getElem hi)).1]; rfl)
    · rw [List.getElem?_set_ne (fun q => e q.symm)] at hj
      rw [World.cell?_setCell_other _ _ _ _ (fun q => e (congrArg Addr.off q).symm)]
      exact (h j v hj).1
  · rw [World.frozen?_setCell]
    by_cases e : j = i
    · subst e
      exact (h j l[j] (List.getElem?_eq_getElem hi)).2
    · rw [List.getElem?_set_ne (fun q => e q.symm)] at hj
      exact (h j v hj).2
theorem Vec.made8 (w : World) (v0 v1 v2 v3 v4 v5 v6 v7 : Value) (t : TypeId) : Vec (w.alloc (.cells #[v0, v1, v2, v3, v4, v5, v6, v7] t)) w.heap.size [v0, v1, v2, v3, v4, v5, v6, v7] := by
  obtain ⟨⟨⟨a0, a1, a2, a3⟩, a4, a5, a6, a7⟩, ⟨f0, f1, f2, f3⟩, f4, f5, f6, f7⟩ := Box8.made w v0 v1 v2 v3 v4 v5 v6 v7 t
  intro i v hi
  match i, hi with
  | 0, hi => cases hi; exact ⟨a0, f0⟩
  | 1, hi => cases hi; exact ⟨a1, f1⟩
  | 2, hi => cases hi; exact ⟨a2, f2⟩
  | 3, hi => cases hi; exact ⟨a3, f3⟩
  | 4, hi => cases hi; exact ⟨a4, f4⟩
  | 5, hi => cases hi; exact ⟨a5, f5⟩
  | 6, hi => cases hi; exact ⟨a6, f6⟩
  | 7, hi => cases hi; exact ⟨a7, f7⟩
theorem Vec.made4 (w : World) (v0 v1 v2 v3 : Value) (t : TypeId) : Vec (w.alloc (.cells #[v0, v1, v2, v3] t)) w.heap.size [v0, v1, v2, v3] := by
  obtain ⟨⟨a0, a1, a2, a3⟩, f0, f1, f2, f3⟩ := Box4.made w v0 v1 v2 v3 t
  intro i v hi
  match i, hi with
  | 0, hi => cases hi; exact ⟨a0, f0⟩
  | 1, hi => cases hi; exact ⟨a1, f1⟩
  | 2, hi => cases hi; exact ⟨a2, f2⟩
  | 3, hi => cases hi; exact ⟨a3, f3⟩
theorem Vec.box8 {w : World} {b : Nat} {v0 v1 v2 v3 v4 v5 v6 v7 : Value} (h : Vec w b [v0, v1, v2, v3, v4, v5, v6, v7]) : Box8 w b v0 v1 v2 v3 v4 v5 v6 v7 :=
  ⟨⟨⟨(h 0 _ rfl).1, (h 1 _ rfl).1, (h 2 _ rfl).1, (h 3 _ rfl).1⟩, (h 4 _ rfl).1, (h 5 _ rfl).1, (h 6 _ rfl).1, (h 7 _ rfl).1⟩, ⟨(h 0 _ rfl).2, (h 1 _ rfl).2, (h 2 _ rfl).2, (h 3 _ rfl).2⟩, (h 4 _ rfl).2, (h 5 _ rfl).2, (h 6 _ rfl).2, (h 7 _ rfl).2⟩
theorem Vec.box4 {w : World} {b : Nat} {v0 v1 v2 v3 : Value} (h : Vec w b [v0, v1, v2, v3]) : Box4 w b v0 v1 v2 v3 :=
  ⟨⟨(h 0 _ rfl).1, (h 1 _ rfl).1, (h 2 _ rfl).1, (h 3 _ rfl).1⟩, (h 0 _ rfl).2, (h 1 _ rfl).2, (h 2 _ rfl).2, (h 3 _ rfl).2⟩

/-- Four stores in a row from an offset on; eight from the first on. -/
def set4 (w : World) (b o : Nat) (u0 u1 u2 u3 : Value) : World := (((w.setCell ⟨b, o, none⟩ u0).setCell ⟨b, o + 1, none⟩ u1).setCell ⟨b, o + 2, none⟩ u2).setCell ⟨b, o + 3, none⟩ u3
theorem Vec.far4 {w : World} {b k o : Nat} {l : List Value} (h : Vec w b l) (hk : k ≠ b) (u0 u1 u2 u3 : Value) : Vec (set4 w k o u0 u1 u2 u3) b l :=
  (((h.far hk u0).far hk u1).far hk u2).far hk u3
theorem Ext.set4 {a w : World} {b o : Nat} (h : Ext a w) (hb : a.heap.size ≤ b) (u0 u1 u2 u3 : Value) : Ext a (set4 w b o u0 u1 u2 u3) :=
  xset (xset (xset (xset h hb u0) hb u1) hb u2) hb u3
theorem Vec.put03 {w : World} {b : Nat} {v0 v1 v2 v3 v4 v5 v6 v7 : Value} (h : Vec w b [v0, v1, v2, v3, v4, v5, v6, v7]) (u0 u1 u2 u3 : Value) : Vec (set4 w b 0 u0 u1 u2 u3) b [u0, u1, u2, u3, v4, v5, v6, v7] :=
  (((h.put 0 (by simp) u0).put 1 (by simp) u1).put 2 (by simp) u2).put 3 (by simp) u3
theorem Vec.put47 {w : World} {b : Nat} {v0 v1 v2 v3 v4 v5 v6 v7 : Value} (h : Vec w b [v0, v1, v2, v3, v4, v5, v6, v7]) (u0 u1 u2 u3 : Value) : Vec (set4 w b 4 u0 u1 u2 u3) b [v0, v1, v2, v3, u0, u1, u2, u3] :=
  (((h.put 4 (by simp) u0).put 5 (by simp) u1).put 6 (by simp) u2).put 7 (by simp) u3
theorem Vec.put4 {w : World} {b : Nat} {v0 v1 v2 v3 : Value} (h : Vec w b [v0, v1, v2, v3]) (u0 u1 u2 u3 : Value) : Vec (set4 w b 0 u0 u1 u2 u3) b [u0, u1, u2, u3] :=
  (((h.put 0 (by simp) u0).put 1 (by simp) u1).put 2 (by simp) u2).put 3 (by simp) u3
def set8 (w : World) (b : Nat) (u0 u1 u2 u3 u4 u5 u6 u7 : Value) : World := set4 (set4 w b 0 u0 u1 u2 u3) b 4 u4 u5 u6 u7
theorem Vec.put8 {w : World} {b : Nat} {v0 v1 v2 v3 v4 v5 v6 v7 : Value} (h : Vec w b [v0, v1, v2, v3, v4, v5, v6, v7]) (u0 u1 u2 u3 u4 u5 u6 u7 : Value) : Vec (set8 w b u0 u1 u2 u3 u4 u5 u6 u7) b [u0, u1, u2, u3, u4, u5, u6, u7] :=
  (h.put03 u0 u1 u2 u3).put47 u4 u5 u6 u7
theorem Vec.far8 {w : World} {b k : Nat} {l : List Value} (h : Vec w b l) (hk : k ≠ b) (u0 u1 u2 u3 u4 u5 u6 u7 : Value) : Vec (set8 w k u0 u1 u2 u3 u4 u5 u6 u7) b l := (h.far4 hk _ _ _ _).far4 hk _ _ _ _
theorem Ext.set8 {a w : World} {b : Nat} (h : Ext a w) (hb : a.heap.size ≤ b) (u0 u1 u2 u3 u4 u5 u6 u7 : Value) : Ext a (set8 w b u0 u1 u2 u3 u4 u5 u6 u7) := Ext.set4 (Ext.set4 h hb _ _ _ _) hb _ _ _ _

set_option maxRecDepth 8000 in
set_option maxHeartbeats 1000000 in
theorem toArea (r c : Int) (rf cf : Bool) (r' c' : Int) (rf' cf' : Bool) (w : World) :
    Calls Try.prog 16 #[arV r c rf cf r' c' rf' cf'] w fun e w' => e = .returned (arV r c rf cf r' c' rf' cf') ∧ Ext w w' := by
  have X1 := x1 w (.cells #[.int .i64 r, .int .i64 c, .bool rf, .bool cf, .int .i64 r', .int .i64 c', .bool rf', .bool cf'] 37)
  have B1 := Vec.made8 w (.int .i64 r) (.int .i64 c) (.bool rf) (.bool cf) (.int .i64 r') (.int .i64 c') (.bool rf') (.bool cf') 37
  obtain ⟨wa, ha⟩ : ∃ wa, w.alloc (.cells #[.int .i64 r, .int .i64 c, .bool rf, .bool cf, .int .i64 r', .int .i64 c', .bool rf', .bool cf'] 37) = wa := ⟨_, rfl⟩
  have B2 := Vec.made8 wa (.int .i64 0) (.int .i64 0) (.bool false) (.bool false) (.int .i64 0) (.int .i64 0) (.bool false) (.bool false) 39
  have X2 := x1 wa (.cells #[.int .i64 0, .int .i64 0, .bool false, .bool false, .int .i64 0, .int .i64 0, .bool false, .bool false] 39)
  obtain ⟨wb, hb⟩ : ∃ wb, wa.alloc (.cells #[.int .i64 0, .int .i64 0, .bool false, .bool false, .int .i64 0, .int .i64 0, .bool false, .bool false] 39) = wb := ⟨_, rfl⟩
  have B3 := Vec.made8 wb (.int .i64 0) (.int .i64 0) (.bool false) (.bool false) (.int .i64 0) (.int .i64 0) (.bool false) (.bool false) 39
  have X3 := x1 wb (.cells #[.int .i64 0, .int .i64 0, .bool false, .bool false, .int .i64 0, .int .i64 0, .bool false, .bool false] 39)
  have sa : wa.heap.size = w.heap.size + 1 := by rw [← ha, World.size_alloc]
  have sb : wb.heap.size = w.heap.size + 1 + 1 := by rw [← hb, World.size_alloc, sa]
  rw [ha] at X1 B1
  rw [hb] at X2 B2
  rw [sa] at B2
  rw [sb] at B3
  have X := xt (xt X1 X2) X3
  have B1 := (B1.later X2).later X3
  have B2 := B2.later X3
  clear X1 X2 X3
  obtain ⟨wc, hc⟩ : ∃ wc, wb.alloc (.cells #[.int .i64 0, .int .i64 0, .bool false, .bool false, .int .i64 0, .int .i64 0, .bool false, .bool false] 39) = wc := ⟨_, rfl⟩
  rw [hc] at B1 B2 B3 X
  obtain ⟨⟨⟨a0, a1, a2, a3⟩, a4, a5, a6, a7⟩, _⟩ := B1.box8
  go_enter Try.func16, Try.ntmps16
  go_wp2_with fail
  clear ha hb hc sa sb a0 a1 a2 a3 a4 a5 a6 a7
  refine (toRef r c rf cf wc).mono ?_
  rintro e w1 ⟨rfl, e1⟩
  have C1 := B1.later e1
  have C2 := B2.later e1
  have C3 := B3.later e1
  have X1 := xt X e1
  clear B1 B2 B3 e1 X
  obtain ⟨wd, hd⟩ : ∃ wd, set4 w1 (w.heap.size + 1 + 1) 0 (.int .i64 r) (.int .i64 c) (.bool rf) (.bool cf) = wd := ⟨_, rfl⟩
  have D1 := C1.far4 (k := w.heap.size + 1 + 1) (o := 0) (by omega) (.int .i64 r) (.int .i64 c) (.bool rf) (.bool cf)
  have D2 := C2.far4 (k := w.heap.size + 1 + 1) (o := 0) (by omega) (.int .i64 r) (.int .i64 c) (.bool rf) (.bool cf)
  have D3 := C3.put03 (.int .i64 r) (.int .i64 c) (.bool rf) (.bool cf)
  have Y := Ext.set4 (b := w.heap.size + 1 + 1) (o := 0) X1 (by omega) (.int .i64 r) (.int .i64 c) (.bool rf) (.bool cf)
  rw [hd] at D1 D2 D3 Y
  unfold set4 at hd
  obtain ⟨⟨⟨k0, k1, k2, k3⟩, k4, k5, k6, k7⟩, ⟨f0, f1, f2, f3⟩, f4, f5, f6, f7⟩ := C3.box8
  obtain ⟨⟨⟨a0, a1, a2, a3⟩, a4, a5, a6, a7⟩, _⟩ := D1.box8
  clear C1 C2 C3
  go_wp2_with fail
  clear a0 a1 a2 a3 a4 a5 a6 a7 f0 f1 f2 f3 f4 f5 f6 f7 k0 k1 k2 k3 k4 k5 k6 k7 hd
  refine (toRef r' c' rf' cf' _).mono ?_
  rintro e w2 ⟨rfl, e2⟩
  have E2 := D2.later e2
  have E3 := D3.later e2
  have Z := xt Y e2
  clear D1 D2 D3 Y e2 X1 B1 B2
  obtain ⟨wx, hx⟩ : ∃ wx, set4 w2 (w.heap.size + 1 + 1) 4 (.int .i64 r') (.int .i64 c') (.bool rf') (.bool cf') = wx := ⟨_, rfl⟩
  have F2 := E2.far4 (k := w.heap.size + 1 + 1) (o := 4) (by omega) (.int .i64 r') (.int .i64 c') (.bool rf') (.bool cf')
  have F3 := E3.put47 (.int .i64 r') (.int .i64 c') (.bool rf') (.bool cf')
  have Z1 := Ext.set4 (b := w.heap.size + 1 + 1) (o := 4) Z (by omega) (.int .i64 r') (.int .i64 c') (.bool rf') (.bool cf')
  rw [hx] at F2 F3 Z1
  unfold set4 at hx
  obtain ⟨wy, hy⟩ : ∃ wy, set8 wx (w.heap.size + 1) (.int .i64 r) (.int .i64 c) (.bool rf) (.bool cf) (.int .i64 r') (.int .i64 c') (.bool rf') (.bool cf') = wy := ⟨_, rfl⟩
  have G2 := F2.put8 (.int .i64 r) (.int .i64 c) (.bool rf) (.bool cf) (.int .i64 r') (.int .i64 c') (.bool rf') (.bool cf')
  have Z2 := Ext.set8 (b := w.heap.size + 1) Z1 (by omega) (.int .i64 r) (.int .i64 c) (.bool rf) (.bool cf) (.int .i64 r') (.int .i64 c') (.bool rf') (.bool cf')
  rw [hy] at G2 Z2
  unfold set8 set4 at hy
  obtain ⟨⟨⟨k0, k1, k2, k3⟩, k4, k5, k6, k7⟩, ⟨f0, f1, f2, f3⟩, f4, f5, f6, f7⟩ := E3.box8
  obtain ⟨⟨⟨m0, m1, m2, m3⟩, m4, m5, m6, m7⟩, _⟩ := F3.box8
  obtain ⟨⟨⟨a0, a1, a2, a3⟩, a4, a5, a6, a7⟩, ⟨g0, g1, g2, g3⟩, g4, g5, g6, g7⟩ := F2.box8
  obtain ⟨⟨⟨d0, d1, d2, d3⟩, d4, d5, d6, d7⟩, _⟩ := G2.box8
  clear E2 E3 F2 F3 G2 Z Z1
  go_wp2_with fail
  exact bodyPost_ret (v := arV r c rf cf r' c' rf' cf') (by simp [results, Try.results16, go_sem, d0, d1, d2, d3, d4, d5, d6, d7]) rfl ⟨rfl, Z2⟩
set_option maxRecDepth 8000 in
set_option maxHeartbeats 1000000 in
theorem eqArea_same (r c : Int) (rf cf : Bool) (r' c' : Int) (rf' cf' : Bool) (w : World) :
    Calls Try.prog 18 #[arV r c rf cf r' c' rf' cf', arV r c rf cf r' c' rf' cf'] w fun e w' => e = .returned (.bool true) ∧ Ext w w' := by
  have B1 := Vec.made8 w (.int .i64 r) (.int .i64 c) (.bool rf) (.bool cf) (.int .i64 r') (.int .i64 c') (.bool rf') (.bool cf') 39
  have B2 := Vec.made8 (w.alloc (.cells #[.int .i64 r, .int .i64 c, .bool rf, .bool cf, .int .i64 r', .int .i64 c', .bool rf', .bool cf'] 39)) (.int .i64 r) (.int .i64 c) (.bool rf) (.bool cf) (.int .i64 r') (.int .i64 c') (.bool rf') (.bool cf') 39
  have X := xa (x1 w (.cells #[.int .i64 r, .int .i64 c, .bool rf, .bool cf, .int .i64 r', .int .i64 c', .bool rf', .bool cf'] 39)) (.cells #[.int .i64 r, .int .i64 c, .bool rf, .bool cf, .int .i64 r', .int .i64 c', .bool rf', .bool cf'] 39)
  have B1 := B1.later (x1 _ (.cells #[.int .i64 r, .int .i64 c, .bool rf, .bool cf, .int .i64 r', .int .i64 c', .bool rf', .bool cf'] 39))
  rw [World.size_alloc] at B2
  go_enter Try.func18, Try.ntmps18
  go_wp2_with fail
  refine (eqRef_same _ _ _ _ _).mono ?_
  rintro e w1 ⟨rfl, e1⟩
  obtain ⟨⟨⟨a0, a1, a2, a3⟩, a4, a5, a6, a7⟩, _⟩ := (B1.later e1).box8
  obtain ⟨⟨⟨k0, k1, k2, k3⟩, k4, k5, k6, k7⟩, _⟩ := (B2.later e1).box8
  go_wp2_with fail
  refine (eqRef_same _ _ _ _ _).mono ?_
  rintro e w2 ⟨rfl, e2⟩
  go_wp2_with fail
  go_ret
  exact ⟨rfl, xt (xt X e1) e2⟩
/-- Whether an area is good. -/
def goodAB (r c r' c' : Int) : Bool := goodRB r c && goodRB r' c'
set_option maxRecDepth 8000 in
set_option maxHeartbeats 1000000 in
theorem goodAI (r c : Int) (rf cf : Bool) (r' c' : Int) (rf' cf' : Bool) (w : World) :
    Calls Try.prog 33 #[arV r c rf cf r' c' rf' cf'] w fun e w' => e = .returned (.bool (goodAB r c r' c')) ∧ Ext w w' := by
  have G1 := fun w => goodRI r c rf cf w
  have G2 := fun w => goodRI r' c' rf' cf' w
  have B1 := Vec.made8 w (.int .i64 r) (.int .i64 c) (.bool rf) (.bool cf) (.int .i64 r') (.int .i64 c') (.bool rf') (.bool cf') 39
  have X := x1 w (.cells #[.int .i64 r, .int .i64 c, .bool rf, .bool cf, .int .i64 r', .int .i64 c', .bool rf', .bool cf'] 39)
  unfold goodAB
  obtain ⟨p, hp⟩ : ∃ p, goodRB r c = p := ⟨_, rfl⟩
  obtain ⟨q, hq⟩ : ∃ q, goodRB r' c' = q := ⟨_, rfl⟩
  rw [hp] at G1 ⊢
  rw [hq] at G2 ⊢
  clear hp hq
  go_enter Try.func33, Try.ntmps33
  go_wp2_with fail
  refine (G1 _).mono ?_
  rintro e w1 ⟨rfl, e1⟩
  obtain ⟨⟨⟨a0, a1, a2, a3⟩, a4, a5, a6, a7⟩, _⟩ := (B1.later e1).box8
  cases p
  · go_wp2_with fail
    go_ret
    exact ⟨rfl, xt X e1⟩
  · go_wp2_with fail
    refine (G2 _).mono ?_
    rintro e w2 ⟨rfl, e2⟩
    go_wp2_with fail
    go_ret
    exact ⟨rfl, xt (xt X e1) e2⟩
set_option maxRecDepth 8000 in
set_option maxHeartbeats 1000000 in
theorem goodAS (r c : Int) (rf cf : Bool) (r' c' : Int) (rf' cf' : Bool) (w : World) :
    Calls Try.prog 29 #[arV r c rf cf r' c' rf' cf'] w fun e w' => e = .returned (.bool (goodAB r c r' c')) ∧ Ext w w' := by
  have G1 := fun w => goodRS r c rf cf w
  have G2 := fun w => goodRS r' c' rf' cf' w
  have B1 := Vec.made8 w (.int .i64 r) (.int .i64 c) (.bool rf) (.bool cf) (.int .i64 r') (.int .i64 c') (.bool rf') (.bool cf') 39
  have X := x1 w (.cells #[.int .i64 r, .int .i64 c, .bool rf, .bool cf, .int .i64 r', .int .i64 c', .bool rf', .bool cf'] 39)
  unfold goodAB
  obtain ⟨p, hp⟩ : ∃ p, goodRB r c = p := ⟨_, rfl⟩
  obtain ⟨q, hq⟩ : ∃ q, goodRB r' c' = q := ⟨_, rfl⟩
  rw [hp] at G1 ⊢
  rw [hq] at G2 ⊢
  clear hp hq
  go_enter Try.func29, Try.ntmps29
  go_wp2_with fail
  refine (G1 _).mono ?_
  rintro e w1 ⟨rfl, e1⟩
  obtain ⟨⟨⟨a0, a1, a2, a3⟩, a4, a5, a6, a7⟩, _⟩ := (B1.later e1).box8
  cases p
  · go_wp2_with fail
    go_ret
    exact ⟨rfl, xt X e1⟩
  · go_wp2_with fail
    refine (G2 _).mono ?_
    rintro e w2 ⟨rfl, e2⟩
    go_wp2_with fail
    go_ret
    exact ⟨rfl, xt (xt X e1) e2⟩

end Go.Proofs.Ytdbiefpgoiofcaa
