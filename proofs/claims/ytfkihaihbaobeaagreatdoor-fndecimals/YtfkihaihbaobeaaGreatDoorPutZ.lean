/-
  l1Put of whatever number.
-/
import Derived.Test.YtfkihaihbaobeaaGreatDoorPutS
namespace Go.Proofs.YtfkihaihbaobeaaGreatDoor
open Go.RowKit

theorem put_zero (sg : Bool) (e : Int) (more : Bool) : putR sg 0 e more = ⟨true, false, 0, 0⟩ := by
  unfold putR
  rw [nd_zero, if_neg (by decide)]
  unfold fitR
  rw [if_pos rfl]

set_option maxRecDepth 4000 in
set_option maxHeartbeats 2000000 in
theorem putS0 {v : Value} (e : Int) (more : Bool) (w : World) (h : ZV w v 0) :
    Calls Tryz.prog 22 #[v, .int .i64 e, .bool more] w fun r w' => r = .returned (.agg #[.bool true, .bool false, .int .i64 0, .int .i64 0]) ∧ Ext w w' := by
  obtain ⟨c0, c1, pa, na, ca, rfl⟩ := h.shape
  have NA : Hid (∀ w2, Ext w w2 → Calls Tryz.prog 54 #[.agg #[.int .i64 c0, .bool c1, .slice pa na ca]] w2 fun e w' => e = .returned (.bool false) ∧ Ext w2 w') := fun w2 x => neg_is false w2 (by decide) (h.later x)
  have AB : Hid (∀ w2, Ext w w2 → Calls Tryz.prog 55 #[.agg #[.int .i64 c0, .bool c1, .slice pa na ca]] w2 fun e w' => ∃ z0 z1 p n c, e = .returned (.agg #[.int .i64 z0, .bool z1, .slice p n c]) ∧ ZV w' (.agg #[.int .i64 z0, .bool z1, .slice p n c]) 0 ∧ Ext w2 w') := fun w2 x => by
    refine (abs_any w2 (h.later x)).mono ?_
    rintro e w' ⟨v', rfl, hz, hx⟩
    obtain ⟨z0, z1, p, n, c, rfl⟩ := hz.shape
    exact ⟨z0, z1, p, n, c, rfl, hz, hx⟩
  have DG : Hid (∀ (w2 : World) (v : Value), ZV w2 v 0 → Calls Tryz.prog 56 #[v] w2 fun e w' => e = .returned (.int .i64 1) ∧ Ext w2 w') := fun w2 v hv => digits_any w2 hv (by decide) 1 (by decide) (by decide)
  have ZR : Hid (∀ (w2 : World) (v : Value), ZV w2 v 0 → Calls Tryz.prog 44 #[v] w2 fun e w' => e = .returned (.bool true) ∧ Ext w2 w') := fun w2 v hv => zero_any w2 hv
  have Ba := (Box3.made w (.int .i64 c0) (.bool c1) (.slice pa na ca) 46).later (x1 _ (.cells #[.bool false, .bool false, .int .i64 0, .int .i64 0] 28))
  have Br := Box4.made (w.alloc (.cells #[.int .i64 c0, .bool c1, .slice pa na ca] 46)) (.bool false) (.bool false) (.int .i64 0) (.int .i64 0) 28
  have X0 := xa (x1 w (.cells #[.int .i64 c0, .bool c1, .slice pa na ca] 46)) (.cells #[.bool false, .bool false, .int .i64 0, .int .i64 0] 28)
  simp only [World.size_alloc] at Br
  clear h
  go_enter Tryz.func22, Tryz.ntmps22
  go_wp2_with fail
  refine (NA.out _ X0).mono ?_
  rintro r w1 ⟨rfl, x1'⟩
  have Ba' := Ba.later x1'
  obtain ⟨⟨p0, p1, p2⟩, _⟩ := Ba'
  go_wp2_with fail
  refine (AB.out _ (xt X0 x1')).mono ?_
  rintro r w2 ⟨z0, z1, z2, z3, z4, rfl, hz2, x2'⟩
  have B2 := (Ba.later x1').later x2'
  have ZP : ZIn (set3 w2 w.heap.size (.int .i64 z0) (.bool z1) (.slice z2 z3 z4)) w.heap.size 0 := ⟨_, _, _, _, _, B2.put _ _ _, hz2.set3 B2 _ _ _⟩
  have X2 := Ext.set3 (xt (xt X0 x1') x2') (b := w.heap.size) (Nat.le_refl _) (.int .i64 z0) (.bool z1) (.slice z2 z3 z4)
  have Br2 := (Br.later x1').later x2'
  have Br3 := ((Br2.far (p := ⟨w.heap.size, 0, none⟩) (show w.heap.size ≠ w.heap.size + 1 by omega) (.int .i64 z0)).far (p := ⟨w.heap.size, 1, none⟩) (show w.heap.size ≠ w.heap.size + 1 by omega) (.bool z1)).far (p := ⟨w.heap.size, 2, none⟩) (show w.heap.size ≠ w.heap.size + 1 by omega) (.slice z2 z3 z4)
  obtain ⟨⟨g0, g1, g2⟩, h0, h1, h2⟩ := B2
  obtain ⟨u2, hu2⟩ : ∃ u, set3 w2 w.heap.size (.int .i64 z0) (.bool z1) (.slice z2 z3 z4) = u := ⟨_, rfl⟩
  rw [hu2] at ZP X2
  unfold set3 at hu2
  rw [hu2] at Br3
  obtain ⟨y0, y1, y2, y3, y4, ⟨⟨i0, i1, i2⟩, _⟩, hy⟩ := ZP
  clear hz2 NA AB Ba Br Br2 X0 x1' x2' p0 p1 p2
  go_wp2_with fail
  refine (DG.out _ _ hy).mono ?_
  rintro r w3 ⟨rfl, x3'⟩
  replace Br3 := Br3.later x3'
  replace X2 := xt X2 x3'
  have hy3 := hy.later x3'
  have i3 := cell_later x3' i0
  have i4 := cell_later x3' i1
  have i5 := cell_later x3' i2
  clear hy g0 g1 g2 h0 h1 h2 hu2 DG x3' i0 i1 i2
  go_wp2_with fail
  refine (ZR.out _ _ hy3).mono ?_
  rintro r w4 ⟨rfl, x4'⟩
  replace Br3 := Br3.later x4'
  replace X2 := xt X2 x4'
  have hy4 := hy3.later x4'
  replace i3 := cell_later x4' i3
  replace i4 := cell_later x4' i4
  replace i5 := cell_later x4' i5
  clear hy3 x4'
  go_wp2_with fail
  refine (ZR.out _ _ hy4).mono ?_
  rintro r w5 ⟨rfl, x5'⟩
  obtain ⟨⟨m0, m1, m2, m3⟩, n0, n1, n2, n3⟩ := Br3.later x5'
  have XD := xt X2 x5'
  clear i3 i4 i5 hy4
  go_wp2_with fail
  exact bodyPost_ret (v := .agg #[.bool true, .bool false, .int .i64 0, .int .i64 0]) (by simp [results, Tryz.results22, go_sem, m0, m1, m2, m3]) rfl ⟨rfl, xset (xset (xset (xset XD (Nat.le_succ _) _) (Nat.le_succ _) _) (Nat.le_succ _) _) (Nat.le_succ _) _⟩

/-- l1Put, whatever it is put. -/
theorem put_spec {v : Value} {z : Int} (e : Int) (more : Bool) (w : World) (h : ZV w v z) (k : Nat) (hk : k ≤ 1000) (kz : (z.natAbs : Int) < 1000000000 ^ k) (e0 : -50000 ≤ e) (e1 : e ≤ 50000) (sg : Bool) (P : Nat) (hP : z.natAbs = P) (hs : z ≠ 0 → decide (z < 0) = sg) :
    Calls Tryz.prog 22 #[v, .int .i64 e, .bool more] w fun r w' => r = .returned (resV (putR sg P e more)) ∧ Ext w w' := by
  by_cases hz : z = 0
  · subst hz
    have : P = 0 := by rw [← hP]; rfl
    subst this
    rw [put_zero]
    exact putS0 e more w h
  · have := putS e more w h hz k hk kz e0 e1
    rw [hP, hs hz] at this
    exact this

/-- Four cells stored. -/
theorem Box4.put4 {w : World} {b : Nat} {v0 v1 v2 v3 : Value} (h : Box4 w b v0 v1 v2 v3) (u0 u1 u2 u3 : Value) : Box4 ((((w.setCell ⟨b, 0, none⟩ u0).setCell ⟨b, 1, none⟩ u1).setCell ⟨b, 2, none⟩ u2).setCell ⟨b, 3, none⟩ u3) b u0 u1 u2 u3 := by
  obtain ⟨⟨h0, h1, h2, h3⟩, f0, f1, f2, f3⟩ := h
  refine ⟨⟨?_, ?_, ?_, ?_⟩, ?_, ?_, ?_, ?_⟩ <;> simp [go_sem, h0, h1, h2, h3, f0, f1, f2, f3]

end Go.Proofs.YtfkihaihbaobeaaGreatDoor

