/-
  Hull on both sides.
-/
import Derived.Test.YtjoalcnedehfgaaHulI
import Derived.Deep.DeepCutAuto
namespace Go.Proofs.Ytjoalcnedehfgaa
open Go.RowKit

set_option maxRecDepth 8000 in
set_option maxHeartbeats 4000000 in
theorem hullS (r c : Int) (f g : Bool) (r' c' : Int) (f' g' : Bool) (s d : Int) (h k : Bool) (s' d' : Int) (h' k' : Bool) (w : World) :
    Calls Try.prog 41 #[arV r c f g r' c' f' g', arV s d h k s' d' h' k'] w fun e w' => e = .returned (hullB r c r' c' s d s' d') ∧ Ext w w' := by
  have B1 := Vec.made8 w (.int .i64 r) (.int .i64 c) (.bool f) (.bool g) (.int .i64 r') (.int .i64 c') (.bool f') (.bool g') 39
  have X1 := x1 w (.cells #[.int .i64 r, .int .i64 c, .bool f, .bool g, .int .i64 r', .int .i64 c', .bool f', .bool g'] 39)
  obtain ⟨wa, ha⟩ : ∃ wa, w.alloc (.cells #[.int .i64 r, .int .i64 c, .bool f, .bool g, .int .i64 r', .int .i64 c', .bool f', .bool g'] 39) = wa := ⟨_, rfl⟩
  have B2 := Vec.made8 wa (.int .i64 s) (.int .i64 d) (.bool h) (.bool k) (.int .i64 s') (.int .i64 d') (.bool h') (.bool k') 39
  have X2 := x1 wa (.cells #[.int .i64 s, .int .i64 d, .bool h, .bool k, .int .i64 s', .int .i64 d', .bool h', .bool k'] 39)
  obtain ⟨wb, hb⟩ : ∃ wb, wa.alloc (.cells #[.int .i64 s, .int .i64 d, .bool h, .bool k, .int .i64 s', .int .i64 d', .bool h', .bool k'] 39) = wb := ⟨_, rfl⟩
  have sa : wa.heap.size = w.heap.size + 1 := by rw [← ha, World.size_alloc]
  have sb : wb.heap.size = w.heap.size + 1 + 1 := by rw [← hb, World.size_alloc, sa]
  rw [ha] at X1 B1
  rw [hb] at X2 B2
  rw [sa] at B2
  have B3 := Vec.made8 wb (.int .i64 0) (.int .i64 0) (.bool false) (.bool false) (.int .i64 0) (.int .i64 0) (.bool false) (.bool false) 39
  have X3 := x1 wb (.cells #[.int .i64 0, .int .i64 0, .bool false, .bool false, .int .i64 0, .int .i64 0, .bool false, .bool false] 39)
  obtain ⟨wc, hc0⟩ : ∃ wc, wb.alloc (.cells #[.int .i64 0, .int .i64 0, .bool false, .bool false, .int .i64 0, .int .i64 0, .bool false, .bool false] 39) = wc := ⟨_, rfl⟩
  rw [sb] at B3
  have X := xt (xt X1 X2) X3
  have B1 := (B1.later X2).later X3
  have B2 := B2.later X3
  rw [hc0] at B1 B2 B3 X
  clear X1 X2 X3
  obtain ⟨⟨⟨a0, a1, a2, a3⟩, a4, a5, a6, a7⟩, _⟩ := B1.box8
  have G1 := fun w => goodAS r c f g r' c' f' g' w
  have G2 := fun w => goodAS s d h k s' d' h' k' w
  go_enter Try.func41, Try.ntmps41
  go_wp2_with fail
  clear a0 a1 a2 a3 a4 a5 a6 a7 ha hb hc0 sa sb
  refine (G1 _).mono ?_
  rintro e w1 ⟨rfl, e1⟩
  have B1 := B1.later e1
  have B2 := B2.later e1
  have B3 := B3.later e1
  have X := xt X e1
  clear G1 e1
  obtain ⟨⟨⟨a0, a1, a2, a3⟩, a4, a5, a6, a7⟩, _⟩ := B1.box8
  obtain ⟨⟨⟨b0, b1, b2, b3⟩, b4, b5, b6, b7⟩, _⟩ := B2.box8
  by_cases hA : goodAB r c r' c' = true
  · rw [hA]
    go_wp2_with fail
    refine (G2 _).mono ?_
    rintro e w2 ⟨rfl, e2⟩
    have B1 := B1.later e2
    have B2 := B2.later e2
    have B3 := B3.later e2
    have X := xt X e2
    clear G2 e2 a0 a1 a2 a3 a4 a5 a6 a7 b0 b1 b2 b3 b4 b5 b6 b7
    by_cases hB : goodAB s d s' d' = true
    · rw [hB]
      have HB : Hid (hullB r c r' c' s d s' d' = arV (lo (lo r r') (lo s s')) (lo (lo c c') (lo d d')) false false (hi (hi r r') (hi s s')) (hi (hi c c') (hi d d')) false false) := by show _ = _; unfold hullB; rw [if_pos ⟨hA, hB⟩]
      have N1 := fun w => l3Normal r c f g r' c' f' g' w
      have N2 := fun w => l3Normal s d h k s' d' h' k' w
      simp only [norV] at N1 N2
      obtain ⟨⟨⟨a0, a1, a2, a3⟩, a4, a5, a6, a7⟩, _⟩ := B1.box8
      clear hA hB
      go_wp2_with fail
      refine (N1 _).mono ?_
      rintro e w3 ⟨rfl, e3⟩
      have B1 := B1.later e3
      have B2 := B2.later e3
      have B3 := B3.later e3
      have X := xt X e3
      clear a0 a1 a2 a3 a4 a5 a6 a7 e3 N1
      obtain ⟨w4, hw4⟩ : ∃ wy, set8 w3 (w.heap.size) (.int .i64 (lo r r')) (.int .i64 (lo c c')) (.bool (loF r r' f f')) (.bool (loF c c' g g')) (.int .i64 (hi r r')) (.int .i64 (hi c c')) (.bool (hiF r r' f f')) (.bool (hiF c c' g g')) = wy := ⟨_, rfl⟩
      obtain ⟨⟨⟨k0, k1, k2, k3⟩, k4, k5, k6, k7⟩, ⟨f0, f1, f2, f3⟩, f4, f5, f6, f7⟩ := B1.box8
      have B1 := B1.put8 (.int .i64 (lo r r')) (.int .i64 (lo c c')) (.bool (loF r r' f f')) (.bool (loF c c' g g')) (.int .i64 (hi r r')) (.int .i64 (hi c c')) (.bool (hiF r r' f f')) (.bool (hiF c c' g g'))
      have B2 := B2.far8 (k := w.heap.size) (by omega) (.int .i64 (lo r r')) (.int .i64 (lo c c')) (.bool (loF r r' f f')) (.bool (loF c c' g g')) (.int .i64 (hi r r')) (.int .i64 (hi c c')) (.bool (hiF r r' f f')) (.bool (hiF c c' g g'))
      have B3 := B3.far8 (k := w.heap.size) (by omega) (.int .i64 (lo r r')) (.int .i64 (lo c c')) (.bool (loF r r' f f')) (.bool (loF c c' g g')) (.int .i64 (hi r r')) (.int .i64 (hi c c')) (.bool (hiF r r' f f')) (.bool (hiF c c' g g'))
      have X := Ext.set8 (b := w.heap.size) X (by omega) (.int .i64 (lo r r')) (.int .i64 (lo c c')) (.bool (loF r r' f f')) (.bool (loF c c' g g')) (.int .i64 (hi r r')) (.int .i64 (hi c c')) (.bool (hiF r r' f f')) (.bool (hiF c c' g g'))
      rw [hw4] at B1 B2 B3 X
      unfold set8 set4 at hw4
      obtain ⟨⟨⟨a0, a1, a2, a3⟩, a4, a5, a6, a7⟩, _⟩ := B2.box8
      go_wp2_with fail
      refine (N2 _).mono ?_
      rintro e w5 ⟨rfl, e5⟩
      have B1 := B1.later e5
      have B2 := B2.later e5
      have B3 := B3.later e5
      have X := xt X e5
      clear a0 a1 a2 a3 a4 a5 a6 a7 e5 N2 hw4 k0 k1 k2 k3 k4 k5 k6 k7 f0 f1 f2 f3 f4 f5 f6 f7
      obtain ⟨w6, hw6⟩ : ∃ wy, set8 w5 (w.heap.size + 1) (.int .i64 (lo s s')) (.int .i64 (lo d d')) (.bool (loF s s' h h')) (.bool (loF d d' k k')) (.int .i64 (hi s s')) (.int .i64 (hi d d')) (.bool (hiF s s' h h')) (.bool (hiF d d' k k')) = wy := ⟨_, rfl⟩
      obtain ⟨⟨⟨k0, k1, k2, k3⟩, k4, k5, k6, k7⟩, ⟨f0, f1, f2, f3⟩, f4, f5, f6, f7⟩ := B2.box8
      have B2 := B2.put8 (.int .i64 (lo s s')) (.int .i64 (lo d d')) (.bool (loF s s' h h')) (.bool (loF d d' k k')) (.int .i64 (hi s s')) (.int .i64 (hi d d')) (.bool (hiF s s' h h')) (.bool (hiF d d' k k'))
      have B1 := B1.far8 (k := w.heap.size + 1) (by omega) (.int .i64 (lo s s')) (.int .i64 (lo d d')) (.bool (loF s s' h h')) (.bool (loF d d' k k')) (.int .i64 (hi s s')) (.int .i64 (hi d d')) (.bool (hiF s s' h h')) (.bool (hiF d d' k k'))
      have B3 := B3.far8 (k := w.heap.size + 1) (by omega) (.int .i64 (lo s s')) (.int .i64 (lo d d')) (.bool (loF s s' h h')) (.bool (loF d d' k k')) (.int .i64 (hi s s')) (.int .i64 (hi d d')) (.bool (hiF s s' h h')) (.bool (hiF d d' k k'))
      have X := Ext.set8 (b := w.heap.size + 1) X (by omega) (.int .i64 (lo s s')) (.int .i64 (lo d d')) (.bool (loF s s' h h')) (.bool (loF d d' k k')) (.int .i64 (hi s s')) (.int .i64 (hi d d')) (.bool (hiF s s' h h')) (.bool (hiF d d' k k'))
      rw [hw6] at B2 B1 B3 X
      unfold set8 set4 at hw6
      have Y := xr w6
      go_upto_region 5 with fail
      clear hw6 k0 k1 k2 k3 k4 k5 k6 k7 f0 f1 f2 f3 f4 f5 f6 f7
      obtain ⟨⟨⟨a0, a1, a2, a3⟩, a4, a5, a6, a7⟩, _⟩ := B1.box8
      obtain ⟨⟨⟨b0, b1, b2, b3⟩, b4, b5, b6, b7⟩, _⟩ := B2.box8
      obtain ⟨⟨⟨m0, m1, m2, m3⟩, m4, m5, m6, m7⟩, ⟨f0, f1, f2, f3⟩, f4, f5, f6, f7⟩ := B3.box8
      have n1 : (w.heap.size = w.heap.size + 1 + 1) = False := eq_false (by omega)
      have n2 : (w.heap.size + 1 + 1 = w.heap.size) = False := eq_false (by omega)
      have n3 : (w.heap.size + 1 + 1 = w.heap.size + 1) = False := eq_false (by omega)
      go_region_held3 (fun w' => (w'.cell? ⟨w.heap.size, 0, none⟩ = some (.int .i64 (lo r r')) ∧ w'.cell? ⟨w.heap.size, 1, none⟩ = some (.int .i64 (lo c c')) ∧ w'.cell? ⟨w.heap.size, 4, none⟩ = some (.int .i64 (hi r r')) ∧ w'.cell? ⟨w.heap.size, 5, none⟩ = some (.int .i64 (hi c c'))) ∧ w'.cell? ⟨w.heap.size + 1, 0, none⟩ = some (.int .i64 (lo s s')) ∧ w'.cell? ⟨w.heap.size + 1, 1, none⟩ = some (.int .i64 (lo d d')) ∧ w'.cell? ⟨w.heap.size + 1, 4, none⟩ = some (.int .i64 (hi s s')) ∧ w'.cell? ⟨w.heap.size + 1, 5, none⟩ = some (.int .i64 (hi d d'))) (go_keep) (first
        | (go_at_call 32; refine (maxS _ _ _).mono ?_; rintro e w' ⟨rfl, rfl⟩)
        | (go_at_call 31; refine (minS _ _ _).mono ?_; rintro e w' ⟨rfl, rfl⟩)
        | (go_at_call 52; refine (areaS _ _ _ _ _).mono ?_; rintro e w7 ⟨rfl, e7⟩; have Y : Ext w6 w7 := (by first | exact xt Y e7 | exact xt (xd Y) e7); obtain ⟨⟨⟨a0, a1, a2, a3⟩, a4, a5, a6, a7⟩, _⟩ := (B1.later Y).box8; obtain ⟨⟨⟨b0, b1, b2, b3⟩, b4, b5, b6, b7⟩, _⟩ := (B2.later Y).box8; obtain ⟨⟨⟨m0, m1, m2, m3⟩, m4, m5, m6, m7⟩, ⟨f0, f1, f2, f3⟩, f4, f5, f6, f7⟩ := (B3.later Y).box8))
      all_goals
        obtain ⟨wy, hy⟩ : ∃ wy, set8 w7 (w.heap.size + 1 + 1) (.int .i64 (lo (lo r r') (lo s s'))) (.int .i64 (lo (lo c c') (lo d d'))) (.bool false) (.bool false) (.int .i64 (hi (hi r r') (hi s s'))) (.int .i64 (hi (hi c c') (hi d d'))) (.bool false) (.bool false) = wy := ⟨_, rfl⟩
        have GR := (B3.later Y).put8 (.int .i64 (lo (lo r r') (lo s s'))) (.int .i64 (lo (lo c c') (lo d d'))) (.bool false) (.bool false) (.int .i64 (hi (hi r r') (hi s s'))) (.int .i64 (hi (hi c c') (hi d d'))) (.bool false) (.bool false)
        have GZ := Ext.set8 (b := w.heap.size + 1 + 1) (xt X Y) (by omega) (.int .i64 (lo (lo r r') (lo s s'))) (.int .i64 (lo (lo c c') (lo d d'))) (.bool false) (.bool false) (.int .i64 (hi (hi r r') (hi s s'))) (.int .i64 (hi (hi c c') (hi d d'))) (.bool false) (.bool false)
        rw [hy] at GR GZ
        unfold set8 set4 at hy
        simp only [Nat.zero_add, Nat.reduceAdd] at hy
        rw [hy]
        clear hy
        obtain ⟨⟨⟨d0, d1, d2, d3⟩, d4, d5, d6, d7⟩, _⟩ := GR.box8
        go_wp2_with fail
        exact bodyPost_ret (v := arV (lo (lo r r') (lo s s')) (lo (lo c c') (lo d d')) false false (hi (hi r r') (hi s s')) (hi (hi c c') (hi d d')) false false) (by simp [results, Try.results41, go_sem, d0, d1, d2, d3, d4, d5, d6, d7]) rfl ⟨by rw [HB.out], GZ⟩
    · have hB' : goodAB s d s' d' = false := by simpa using hB
      rw [hB']
      have HB : Hid (hullB r c r' c' s d s' d' = arV 0 0 false false 0 0 false false) := by show _ = _; unfold hullB; rw [if_neg (fun q => by simp_all)]
      clear hA hB hB'
      obtain ⟨wy, hy⟩ : ∃ wy, set8 w2 (w.heap.size + 1 + 1) (.int .i64 0) (.int .i64 0) (.bool false) (.bool false) (.int .i64 0) (.int .i64 0) (.bool false) (.bool false) = wy := ⟨_, rfl⟩
      have GR := B3.put8 (.int .i64 0) (.int .i64 0) (.bool false) (.bool false) (.int .i64 0) (.int .i64 0) (.bool false) (.bool false)
      have GZ := Ext.set8 (b := w.heap.size + 1 + 1) X (by omega) (.int .i64 0) (.int .i64 0) (.bool false) (.bool false) (.int .i64 0) (.int .i64 0) (.bool false) (.bool false)
      obtain ⟨⟨⟨k0, k1, k2, k3⟩, k4, k5, k6, k7⟩, ⟨f0, f1, f2, f3⟩, f4, f5, f6, f7⟩ := B3.box8
      rw [hy] at GR GZ
      unfold set8 set4 at hy
      obtain ⟨⟨⟨d0, d1, d2, d3⟩, d4, d5, d6, d7⟩, _⟩ := GR.box8
      go_wp2_with fail
      exact bodyPost_ret (v := arV 0 0 false false 0 0 false false) (by simp [results, Try.results41, go_sem, d0, d1, d2, d3, d4, d5, d6, d7]) rfl ⟨by rw [HB.out], GZ⟩
  · have hA' : goodAB r c r' c' = false := by simpa using hA
    rw [hA']
    have HB : Hid (hullB r c r' c' s d s' d' = arV 0 0 false false 0 0 false false) := by show _ = _; unfold hullB; rw [if_neg (fun q => by simp_all)]
    clear hA hA' a0 a1 a2 a3 a4 a5 a6 a7 b0 b1 b2 b3 b4 b5 b6 b7 G2
    obtain ⟨wy, hy⟩ : ∃ wy, set8 w1 (w.heap.size + 1 + 1) (.int .i64 0) (.int .i64 0) (.bool false) (.bool false) (.int .i64 0) (.int .i64 0) (.bool false) (.bool false) = wy := ⟨_, rfl⟩
    have GR := B3.put8 (.int .i64 0) (.int .i64 0) (.bool false) (.bool false) (.int .i64 0) (.int .i64 0) (.bool false) (.bool false)
    have GZ := Ext.set8 (b := w.heap.size + 1 + 1) X (by omega) (.int .i64 0) (.int .i64 0) (.bool false) (.bool false) (.int .i64 0) (.int .i64 0) (.bool false) (.bool false)
    obtain ⟨⟨⟨k0, k1, k2, k3⟩, k4, k5, k6, k7⟩, ⟨f0, f1, f2, f3⟩, f4, f5, f6, f7⟩ := B3.box8
    rw [hy] at GR GZ
    unfold set8 set4 at hy
    obtain ⟨⟨⟨d0, d1, d2, d3⟩, d4, d5, d6, d7⟩, _⟩ := GR.box8
    go_wp2_with fail
    exact bodyPost_ret (v := arV 0 0 false false 0 0 false false) (by simp [results, Try.results41, go_sem, d0, d1, d2, d3, d4, d5, d6, d7]) rfl ⟨by rw [HB.out], GZ⟩

end Go.Proofs.Ytjoalcnedehfgaa
