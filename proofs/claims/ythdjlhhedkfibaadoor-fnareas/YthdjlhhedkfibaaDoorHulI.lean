/-
  Hull on both sides.
-/
import Derived.Test.YthdjlhhedkfibaaDoorHul
import Derived.Deep.DeepCutAuto
namespace Go.Proofs.YthdjlhhedkfibaaDoor
open Go.RowKit

/-- What Hull answers. -/
def hullB (r c r' c' s d s' d' : Int) : Value :=
  if goodAB r c r' c' = true ∧ goodAB s d s' d' = true then arV (lo (lo r r') (lo s s')) (lo (lo c c') (lo d d')) false false (hi (hi r r') (hi s s')) (hi (hi c c') (hi d d')) false false else arV 0 0 false false 0 0 false false
set_option maxRecDepth 8000 in
set_option maxHeartbeats 4000000 in
theorem hullI (r c : Int) (f g : Bool) (r' c' : Int) (f' g' : Bool) (s d : Int) (h k : Bool) (s' d' : Int) (h' k' : Bool) (w : World) :
    Calls Tryd.prog 11 #[arV r c f g r' c' f' g', arV s d h k s' d' h' k'] w fun e w' => e = .returned (hullB r c r' c' s d s' d') ∧ Ext w w' := by
  have B1 := Vec.made8 w (.int .i64 r) (.int .i64 c) (.bool f) (.bool g) (.int .i64 r') (.int .i64 c') (.bool f') (.bool g') 26
  have X1 := x1 w (.cells #[.int .i64 r, .int .i64 c, .bool f, .bool g, .int .i64 r', .int .i64 c', .bool f', .bool g'] 26)
  obtain ⟨wa, ha⟩ : ∃ wa, w.alloc (.cells #[.int .i64 r, .int .i64 c, .bool f, .bool g, .int .i64 r', .int .i64 c', .bool f', .bool g'] 26) = wa := ⟨_, rfl⟩
  have B2 := Vec.made8 wa (.int .i64 s) (.int .i64 d) (.bool h) (.bool k) (.int .i64 s') (.int .i64 d') (.bool h') (.bool k') 26
  have X2 := x1 wa (.cells #[.int .i64 s, .int .i64 d, .bool h, .bool k, .int .i64 s', .int .i64 d', .bool h', .bool k'] 26)
  obtain ⟨wb, hb⟩ : ∃ wb, wa.alloc (.cells #[.int .i64 s, .int .i64 d, .bool h, .bool k, .int .i64 s', .int .i64 d', .bool h', .bool k'] 26) = wb := ⟨_, rfl⟩
  have sa : wa.heap.size = w.heap.size + 1 := by rw [← ha, World.size_alloc]
  have sb : wb.heap.size = w.heap.size + 1 + 1 := by rw [← hb, World.size_alloc, sa]
  rw [ha] at X1 B1
  rw [hb] at X2 B2
  rw [sa] at B2
  have B3 := Vec.made8 wb (.int .i64 0) (.int .i64 0) (.bool false) (.bool false) (.int .i64 0) (.int .i64 0) (.bool false) (.bool false) 26
  have X3 := x1 wb (.cells #[.int .i64 0, .int .i64 0, .bool false, .bool false, .int .i64 0, .int .i64 0, .bool false, .bool false] 26)
  obtain ⟨wc, hc0⟩ : ∃ wc, wb.alloc (.cells #[.int .i64 0, .int .i64 0, .bool false, .bool false, .int .i64 0, .int .i64 0, .bool false, .bool false] 26) = wc := ⟨_, rfl⟩
  rw [sb] at B3
  have X := xt (xt X1 X2) X3
  have B1 := (B1.later X2).later X3
  have B2 := B2.later X3
  rw [hc0] at B1 B2 B3 X
  clear X1 X2 X3
  obtain ⟨⟨⟨a0, a1, a2, a3⟩, a4, a5, a6, a7⟩, _⟩ := B1.box8
  have G1 := fun w => goodAI r c f g r' c' f' g' w
  have G2 := fun w => goodAI s d h k s' d' h' k' w
  go_enter Tryd.func11, Tryd.ntmps11
  go_wp2_with fail
  clear a0 a1 a2 a3 a4 a5 a6 a7 ha hb hc0 sa sb
  refine (G1 _).mono ?_
  rintro e w1 ⟨rfl, e1⟩
  have B1 := B1.later e1
  have B2 := B2.later e1
  have B3 := B3.later e1
  have X := xt X e1
  clear G1 e1
  obtain ⟨⟨⟨a0, a1, a2, a3⟩, a4, a5, a6, a7⟩, _⟩ := B1.box8
  obtain ⟨⟨⟨b0, b1, b2, b3⟩, b4, b5, b6, b7⟩, _⟩ := B2.box8
  by_cases hA : goodAB r c r' c' = true
  · rw [hA]
    go_wp2_with fail
    refine (G2 _).mono ?_
    rintro e w2 ⟨rfl, e2⟩
    have B1 := B1.later e2
    have B2 := B2.later e2
    have B3 := B3.later e2
    have X := xt X e2
    clear G2 e2 a0 a1 a2 a3 a4 a5 a6 a7 b0 b1 b2 b3 b4 b5 b6 b7
    by_cases hB : goodAB s d s' d' = true
    · rw [hB]
      have HB : Hid (hullB r c r' c' s d s' d' = arV (lo (lo r r') (lo s s')) (lo (lo c c') (lo d d')) false false (hi (hi r r') (hi s s')) (hi (hi c c') (hi d d')) false false) := by show _ = _; unfold hullB; rw [if_pos ⟨hA, hB⟩]
      have Y := xr w2
      obtain ⟨⟨⟨a0, a1, a2, a3⟩, a4, a5, a6, a7⟩, _⟩ := B1.box8
      obtain ⟨⟨⟨b0, b1, b2, b3⟩, b4, b5, b6, b7⟩, _⟩ := B2.box8
      obtain ⟨⟨⟨m0, m1, m2, m3⟩, m4, m5, m6, m7⟩, ⟨f0, f1, f2, f3⟩, f4, f5, f6, f7⟩ := B3.box8
      have n1 : (w.heap.size = w.heap.size + 1 + 1) = False := eq_false (by omega)
      have n2 : (w.heap.size + 1 + 1 = w.heap.size) = False := eq_false (by omega)
      have n3 : (w.heap.size + 1 + 1 = w.heap.size + 1) = False := eq_false (by omega)
      go_upto_region 3 with fail
      go_region_held3 (fun w' => (w'.cell? ⟨w.heap.size, 0, none⟩ = some (.int .i64 r) ∧ w'.cell? ⟨w.heap.size, 1, none⟩ = some (.int .i64 c) ∧ w'.cell? ⟨w.heap.size, 2, none⟩ = some (.bool f) ∧ w'.cell? ⟨w.heap.size, 3, none⟩ = some (.bool g) ∧ w'.cell? ⟨w.heap.size, 4, none⟩ = some (.int .i64 r') ∧ w'.cell? ⟨w.heap.size, 5, none⟩ = some (.int .i64 c') ∧ w'.cell? ⟨w.heap.size, 6, none⟩ = some (.bool f') ∧ w'.cell? ⟨w.heap.size, 7, none⟩ = some (.bool g')) ∧ w'.cell? ⟨w.heap.size + 1, 0, none⟩ = some (.int .i64 s) ∧ w'.cell? ⟨w.heap.size + 1, 1, none⟩ = some (.int .i64 d) ∧ w'.cell? ⟨w.heap.size + 1, 2, none⟩ = some (.bool h) ∧ w'.cell? ⟨w.heap.size + 1, 3, none⟩ = some (.bool k) ∧ w'.cell? ⟨w.heap.size + 1, 4, none⟩ = some (.int .i64 s') ∧ w'.cell? ⟨w.heap.size + 1, 5, none⟩ = some (.int .i64 d') ∧ w'.cell? ⟨w.heap.size + 1, 6, none⟩ = some (.bool h') ∧ w'.cell? ⟨w.heap.size + 1, 7, none⟩ = some (.bool k')) (go_keep) (first
        | (go_at_call 21; refine (blockOf _ _ _ _ _ _ _ _ _ (by assumption)).mono ?_; rintro e w3 ⟨rfl, e3⟩; have Y : Ext w2 w3 := (by first | exact xt Y e3 | exact xt (xd Y) e3); obtain ⟨⟨⟨a0, a1, a2, a3⟩, a4, a5, a6, a7⟩, _⟩ := (B1.later Y).box8; obtain ⟨⟨⟨b0, b1, b2, b3⟩, b4, b5, b6, b7⟩, _⟩ := (B2.later Y).box8)
        | (go_at_call 29; refine (blockAround _ _ _ _ _ _ _ _ _).mono ?_; rintro e w3 ⟨rfl, e3⟩; have Y : Ext w2 w3 := (by first | exact xt Y e3 | exact xt (xd Y) e3); obtain ⟨⟨⟨a0, a1, a2, a3⟩, a4, a5, a6, a7⟩, _⟩ := (B1.later Y).box8; obtain ⟨⟨⟨b0, b1, b2, b3⟩, b4, b5, b6, b7⟩, _⟩ := (B2.later Y).box8)
        | (go_at_call 24; refine (blockArea _ _ _ _ _).mono ?_; rintro e w3 ⟨rfl, e3⟩; have Y : Ext w2 w3 := (by first | exact xt Y e3 | exact xt (xd Y) e3); obtain ⟨⟨⟨a0, a1, a2, a3⟩, a4, a5, a6, a7⟩, _⟩ := (B1.later Y).box8; obtain ⟨⟨⟨b0, b1, b2, b3⟩, b4, b5, b6, b7⟩, _⟩ := (B2.later Y).box8; obtain ⟨⟨⟨m0, m1, m2, m3⟩, m4, m5, m6, m7⟩, ⟨f0, f1, f2, f3⟩, f4, f5, f6, f7⟩ := (B3.later Y).box8))
      all_goals
        obtain ⟨wy, hy⟩ : ∃ wy, set8 w3 (w.heap.size + 1 + 1) (.int .i64 (lo (lo r r') (lo s s'))) (.int .i64 (lo (lo c c') (lo d d'))) (.bool false) (.bool false) (.int .i64 (hi (hi r r') (hi s s'))) (.int .i64 (hi (hi c c') (hi d d'))) (.bool false) (.bool false) = wy := ⟨_, rfl⟩
        have GR := (B3.later Y).put8 (.int .i64 (lo (lo r r') (lo s s'))) (.int .i64 (lo (lo c c') (lo d d'))) (.bool false) (.bool false) (.int .i64 (hi (hi r r') (hi s s'))) (.int .i64 (hi (hi c c') (hi d d'))) (.bool false) (.bool false)
        have GZ := Ext.set8 (b := w.heap.size + 1 + 1) (xt X Y) (by omega) (.int .i64 (lo (lo r r') (lo s s'))) (.int .i64 (lo (lo c c') (lo d d'))) (.bool false) (.bool false) (.int .i64 (hi (hi r r') (hi s s'))) (.int .i64 (hi (hi c c') (hi d d'))) (.bool false) (.bool false)
        rw [hy] at GR GZ
        unfold set8 set4 at hy
        simp only [Nat.zero_add, Nat.reduceAdd] at hy
        rw [hy]
        clear hy
        obtain ⟨⟨⟨d0, d1, d2, d3⟩, d4, d5, d6, d7⟩, _⟩ := GR.box8
        go_wp2_with fail
        exact bodyPost_ret (v := arV (lo (lo r r') (lo s s')) (lo (lo c c') (lo d d')) false false (hi (hi r r') (hi s s')) (hi (hi c c') (hi d d')) false false) (by simp [results, Tryd.results11, go_sem, d0, d1, d2, d3, d4, d5, d6, d7]) rfl ⟨by rw [HB.out], GZ⟩
    · have hB' : goodAB s d s' d' = false := by simpa using hB
      rw [hB']
      have HB : Hid (hullB r c r' c' s d s' d' = arV 0 0 false false 0 0 false false) := by show _ = _; unfold hullB; rw [if_neg (fun q => by simp_all)]
      clear hA hB hB'
      obtain ⟨wy, hy⟩ : ∃ wy, set8 w2 (w.heap.size + 1 + 1) (.int .i64 0) (.int .i64 0) (.bool false) (.bool false) (.int .i64 0) (.int .i64 0) (.bool false) (.bool false) = wy := ⟨_, rfl⟩
      have GR := B3.put8 (.int .i64 0) (.int .i64 0) (.bool false) (.bool false) (.int .i64 0) (.int .i64 0) (.bool false) (.bool false)
      have GZ := Ext.set8 (b := w.heap.size + 1 + 1) X (by omega) (.int .i64 0) (.int .i64 0) (.bool false) (.bool false) (.int .i64 0) (.int .i64 0) (.bool false) (.bool false)
      obtain ⟨⟨⟨k0, k1, k2, k3⟩, k4, k5, k6, k7⟩, ⟨f0, f1, f2, f3⟩, f4, f5, f6, f7⟩ := B3.box8
      rw [hy] at GR GZ
      unfold set8 set4 at hy
      obtain ⟨⟨⟨d0, d1, d2, d3⟩, d4, d5, d6, d7⟩, _⟩ := GR.box8
      go_wp2_with fail
      exact bodyPost_ret (v := arV 0 0 false false 0 0 false false) (by simp [results, Tryd.results11, go_sem, d0, d1, d2, d3, d4, d5, d6, d7]) rfl ⟨by rw [HB.out], GZ⟩
  · have hA' : goodAB r c r' c' = false := by simpa using hA
    rw [hA']
    have HB : Hid (hullB r c r' c' s d s' d' = arV 0 0 false false 0 0 false false) := by show _ = _; unfold hullB; rw [if_neg (fun q => by simp_all)]
    clear hA hA' a0 a1 a2 a3 a4 a5 a6 a7 b0 b1 b2 b3 b4 b5 b6 b7 G2
    obtain ⟨wy, hy⟩ : ∃ wy, set8 w1 (w.heap.size + 1 + 1) (.int .i64 0) (.int .i64 0) (.bool false) (.bool false) (.int .i64 0) (.int .i64 0) (.bool false) (.bool false) = wy := ⟨_, rfl⟩
    have GR := B3.put8 (.int .i64 0) (.int .i64 0) (.bool false) (.bool false) (.int .i64 0) (.int .i64 0) (.bool false) (.bool false)
    have GZ := Ext.set8 (b := w.heap.size + 1 + 1) X (by omega) (.int .i64 0) (.int .i64 0) (.bool false) (.bool false) (.int .i64 0) (.int .i64 0) (.bool false) (.bool false)
    obtain ⟨⟨⟨k0, k1, k2, k3⟩, k4, k5, k6, k7⟩, ⟨f0, f1, f2, f3⟩, f4, f5, f6, f7⟩ := B3.box8
    rw [hy] at GR GZ
    unfold set8 set4 at hy
    obtain ⟨⟨⟨d0, d1, d2, d3⟩, d4, d5, d6, d7⟩, _⟩ := GR.box8
    go_wp2_with fail
    exact bodyPost_ret (v := arV 0 0 false false 0 0 false false) (by simp [results, Tryd.results11, go_sem, d0, d1, d2, d3, d4, d5, d6, d7]) rfl ⟨by rw [HB.out], GZ⟩

end Go.Proofs.YthdjlhhedkfibaaDoor
