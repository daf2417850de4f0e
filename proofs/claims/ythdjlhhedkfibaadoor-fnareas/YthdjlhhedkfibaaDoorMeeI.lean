/-
  Meet, the program's.
-/
import Derived.Test.YthdjlhhedkfibaaDoorHul
import Derived.Deep.DeepCutAuto
namespace Go.Proofs.YthdjlhhedkfibaaDoor
open Go.RowKit

/-- What Meet answers. -/
def meetB (r c r' c' s d s' d' : Int) : Value :=
  if (goodAB r c r' c' = true ∧ goodAB s d s' d' = true) ∧ (decide ((hi (lo r r') (lo s s')) > (lo (hi r r') (hi s s'))) || decide ((hi (lo c c') (lo d d')) > (lo (hi c c') (hi d d')))) = false then .tuple #[arV (hi (lo r r') (lo s s')) (hi (lo c c') (lo d d')) false false (lo (hi r r') (hi s s')) (lo (hi c c') (hi d d')) false false, .bool true] else .tuple #[arV 0 0 false false 0 0 false false, .bool false]
set_option maxRecDepth 8000 in
set_option maxHeartbeats 4000000 in
theorem meetI (r c : Int) (f g : Bool) (r' c' : Int) (f' g' : Bool) (s d : Int) (h k : Bool) (s' d' : Int) (h' k' : Bool) (w : World) :
    Calls Tryd.prog 6 #[arV r c f g r' c' f' g', arV s d h k s' d' h' k'] w fun e w' => e = .returned (meetB r c r' c' s d s' d') ∧ Ext w w' := by
  have B1 := Vec.made8 w (.int .i64 r) (.int .i64 c) (.bool f) (.bool g) (.int .i64 r') (.int .i64 c') (.bool f') (.bool g') 26
  have X1 := x1 w (.cells #[.int .i64 r, .int .i64 c, .bool f, .bool g, .int .i64 r', .int .i64 c', .bool f', .bool g'] 26)
  obtain ⟨wa, ha⟩ : ∃ wa, w.alloc (.cells #[.int .i64 r, .int .i64 c, .bool f, .bool g, .int .i64 r', .int .i64 c', .bool f', .bool g'] 26) = wa := ⟨_, rfl⟩
  have B2 := Vec.made8 wa (.int .i64 s) (.int .i64 d) (.bool h) (.bool k) (.int .i64 s') (.int .i64 d') (.bool h') (.bool k') 26
  have X2 := x1 wa (.cells #[.int .i64 s, .int .i64 d, .bool h, .bool k, .int .i64 s', .int .i64 d', .bool h', .bool k'] 26)
  obtain ⟨wb, hb⟩ : ∃ wb, wa.alloc (.cells #[.int .i64 s, .int .i64 d, .bool h, .bool k, .int .i64 s', .int .i64 d', .bool h', .bool k'] 26) = wb := ⟨_, rfl⟩
  have sa : wa.heap.size = w.heap.size + 1 := by rw [← ha, World.size_alloc]
  have sb : wb.heap.size = w.heap.size + 1 + 1 := by rw [← hb, World.size_alloc, sa]
  rw [ha] at X1 B1
  rw [hb] at X2 B2
  rw [sa] at B2
  have B3 := Vec.made8 wb (.int .i64 0) (.int .i64 0) (.bool false) (.bool false) (.int .i64 0) (.int .i64 0) (.bool false) (.bool false) 26
  have X3 := x1 wb (.cells #[.int .i64 0, .int .i64 0, .bool false, .bool false, .int .i64 0, .int .i64 0, .bool false, .bool false] 26)
  obtain ⟨wc, hc0⟩ : ∃ wc, wb.alloc (.cells #[.int .i64 0, .int .i64 0, .bool false, .bool false, .int .i64 0, .int .i64 0, .bool false, .bool false] 26) = wc := ⟨_, rfl⟩
  rw [sb] at B3
  have X := xt (xt X1 X2) X3
  have B1 := (B1.later X2).later X3
  have B2 := B2.later X3
  rw [hc0] at B1 B2 B3 X
  clear X1 X2 X3
  obtain ⟨⟨⟨a0, a1, a2, a3⟩, a4, a5, a6, a7⟩, _⟩ := B1.box8
  have G1 := fun w => goodAI r c f g r' c' f' g' w
  have G2 := fun w => goodAI s d h k s' d' h' k' w
  go_enter Tryd.func6, Tryd.ntmps6
  go_wp2_with fail
  clear a0 a1 a2 a3 a4 a5 a6 a7 ha hb hc0 sa sb
  refine (G1 _).mono ?_
  rintro e w1 ⟨rfl, e1⟩
  have B1 := B1.later e1
  have B2 := B2.later e1
  have B3 := B3.later e1
  have X := xt X e1
  clear G1 e1
  obtain ⟨⟨⟨a0, a1, a2, a3⟩, a4, a5, a6, a7⟩, _⟩ := B1.box8
  obtain ⟨⟨⟨b0, b1, b2, b3⟩, b4, b5, b6, b7⟩, _⟩ := B2.box8
  by_cases hA : goodAB r c r' c' = true
  · rw [hA]
    go_wp2_with fail
    refine (G2 _).mono ?_
    rintro e w2 ⟨rfl, e2⟩
    have B1 := B1.later e2
    have B2 := B2.later e2
    have B3 := B3.later e2
    have X := xt X e2
    clear G2 e2 a0 a1 a2 a3 a4 a5 a6 a7 b0 b1 b2 b3 b4 b5 b6 b7
    by_cases hB : goodAB s d s' d' = true
    · rw [hB]
      obtain ⟨u1, h1⟩ : ∃ m, (hi (lo r r') (lo s s')) = m := ⟨_, rfl⟩
      obtain ⟨u2, h2⟩ : ∃ m, (lo (hi r r') (hi s s')) = m := ⟨_, rfl⟩
      obtain ⟨u3, h3⟩ : ∃ m, (hi (lo c c') (lo d d')) = m := ⟨_, rfl⟩
      obtain ⟨u4, h4⟩ : ∃ m, (lo (hi c c') (hi d d')) = m := ⟨_, rfl⟩
      have HM : Hid (meetB r c r' c' s d s' d' = if (decide (u1 > u2) || decide (u3 > u4)) = false then .tuple #[arV u1 u3 false false u2 u4 false false, .bool true] else .tuple #[arV 0 0 false false 0 0 false false, .bool false]) := by show _ = _; unfold meetB; rw [h1, h2, h3, h4]; simp only [hA, hB, and_self, true_and]
      have CM : ∀ w, Calls Tryd.prog 22 #[blV (lo r r') (hi r r') (lo c c') (hi c c'), blV (lo s s') (hi s s') (lo d d') (hi d d')] w fun e w' => e = .returned (blV u1 u2 u3 u4) ∧ Ext w w' := fun w => by
        have := blockCommon (lo r r') (hi r r') (lo c c') (hi c c') (lo s s') (hi s s') (lo d d') (hi d d') w
        rwa [h1, h2, h3, h4] at this
      have CM' : ∀ w, Calls Tryd.prog 22 #[blV (lo r r') (hi r r') (lo c c') (hi c c'), blV (lo s s') (hi s s') (lo d d') (hi d d')] w fun e w' => e = .returned (blV u1 u2 u3 u4) ∧ Ext w w' := CM
      obtain ⟨⟨⟨a0, a1, a2, a3⟩, a4, a5, a6, a7⟩, _⟩ := B1.box8
      obtain ⟨⟨⟨b0, b1, b2, b3⟩, b4, b5, b6, b7⟩, _⟩ := B2.box8
      have na := World.new_ne w2 _ a0
      have nb := World.new_ne w2 _ b0
      clear h1 h2 h3 h4
      go_upto_region 3 with fail
      go_cut [6] (fun v wc => ∃ b : Nat, v = .pointer (some ⟨b, 0, none⟩) ∧ Vec wc b [.int .i64 u1, .int .i64 u2, .int .i64 u3, .int .i64 u4] ∧ Ext w2 wc)
      case first =>
        go_region_held3 (fun w' => (w'.cell? ⟨w.heap.size, 0, none⟩ = some (.int .i64 r) ∧ w'.cell? ⟨w.heap.size, 1, none⟩ = some (.int .i64 c) ∧ w'.cell? ⟨w.heap.size, 2, none⟩ = some (.bool f) ∧ w'.cell? ⟨w.heap.size, 3, none⟩ = some (.bool g) ∧ w'.cell? ⟨w.heap.size, 4, none⟩ = some (.int .i64 r') ∧ w'.cell? ⟨w.heap.size, 5, none⟩ = some (.int .i64 c') ∧ w'.cell? ⟨w.heap.size, 6, none⟩ = some (.bool f') ∧ w'.cell? ⟨w.heap.size, 7, none⟩ = some (.bool g')) ∧ w'.cell? ⟨w.heap.size + 1, 0, none⟩ = some (.int .i64 s) ∧ w'.cell? ⟨w.heap.size + 1, 1, none⟩ = some (.int .i64 d) ∧ w'.cell? ⟨w.heap.size + 1, 2, none⟩ = some (.bool h) ∧ w'.cell? ⟨w.heap.size + 1, 3, none⟩ = some (.bool k) ∧ w'.cell? ⟨w.heap.size + 1, 4, none⟩ = some (.int .i64 s') ∧ w'.cell? ⟨w.heap.size + 1, 5, none⟩ = some (.int .i64 d') ∧ w'.cell? ⟨w.heap.size + 1, 6, none⟩ = some (.bool h') ∧ w'.cell? ⟨w.heap.size + 1, 7, none⟩ = some (.bool k')) (go_keep) (first
          | (go_at_call 21; refine (blockOf _ _ _ _ _ _ _ _ _ (by assumption)).mono ?_; first | (rintro e w4 ⟨rfl, e4⟩; have Yw4 : Ext w3 w4 := (by first | exact xt (xr _) e4 | exact xt (xd (xr _)) e4 | exact xt (x1 _ _) e4 | exact xt (xd (x1 _ _)) e4 | exact xt (xa (xd (xr _)) _) e4); have Z4 : Ext w2 w4 := (by exact xt Yw3 Yw4); obtain ⟨⟨⟨a0, a1, a2, a3⟩, a4, a5, a6, a7⟩, _⟩ := (B1.later Z4).box8; obtain ⟨⟨⟨b0, b1, b2, b3⟩, b4, b5, b6, b7⟩, _⟩ := (B2.later Z4).box8; have na := World.new_ne w4 _ a0; have nb := World.new_ne w4 _ b0; (first | (have RB := RB.later Yw4) | (have RB : Vec w4 w3.heap.size [.int .i64 0, .int .i64 0, .int .i64 0, .int .i64 0] := (by first | exact (Vec.made4 w3 (.int .i64 0) (.int .i64 0) (.int .i64 0) (.int .i64 0) 47).later (xt (xd (xr _)) e4) | exact (Vec.made4 w3 (.int .i64 0) (.int .i64 0) (.int .i64 0) (.int .i64 0) 47).later e4 | exact (Vec.made4 w3.drew (.int .i64 0) (.int .i64 0) (.int .i64 0) (.int .i64 0) 47).later e4)) | skip)) | (rintro e w3 ⟨rfl, e3⟩; have Yw3 : Ext w2 w3 := (by first | exact xt (xr _) e3 | exact xt (xd (xr _)) e3 | exact xt (x1 _ _) e3 | exact xt (xd (x1 _ _)) e3 | exact xt (xa (xd (xr _)) _) e3); obtain ⟨⟨⟨a0, a1, a2, a3⟩, a4, a5, a6, a7⟩, _⟩ := (B1.later Yw3).box8; obtain ⟨⟨⟨b0, b1, b2, b3⟩, b4, b5, b6, b7⟩, _⟩ := (B2.later Yw3).box8; have na := World.new_ne w3 _ a0; have nb := World.new_ne w3 _ b0; (first | (have RB : Vec w3 w2.heap.size [.int .i64 0, .int .i64 0, .int .i64 0, .int .i64 0] := (by first | exact (Vec.made4 w2 (.int .i64 0) (.int .i64 0) (.int .i64 0) (.int .i64 0) 47).later (xt (xd (xr _)) e3) | exact (Vec.made4 w2 (.int .i64 0) (.int .i64 0) (.int .i64 0) (.int .i64 0) 47).later e3 | exact (Vec.made4 w2.drew (.int .i64 0) (.int .i64 0) (.int .i64 0) (.int .i64 0) 47).later e3)) | skip)))
          | (go_at_call 22; refine (CM _).mono ?_; (rintro e w5 ⟨rfl, e5⟩; have Yw5 : Ext w4 w5 := (by first | exact xt (xr _) e5 | exact xt (xd (xr _)) e5 | exact xt (x1 _ _) e5 | exact xt (xd (x1 _ _)) e5 | exact xt (xa (xd (xr _)) _) e5); have Z5 : Ext w2 w5 := (by exact xt Z4 Yw5); obtain ⟨⟨⟨a0, a1, a2, a3⟩, a4, a5, a6, a7⟩, _⟩ := (B1.later Z5).box8; obtain ⟨⟨⟨b0, b1, b2, b3⟩, b4, b5, b6, b7⟩, _⟩ := (B2.later Z5).box8; have na := World.new_ne w5 _ a0; have nb := World.new_ne w5 _ b0; (first | (have RB := RB.later Yw5) | (have RB : Vec w5 w4.heap.size [.int .i64 0, .int .i64 0, .int .i64 0, .int .i64 0] := (by first | exact (Vec.made4 w4 (.int .i64 0) (.int .i64 0) (.int .i64 0) (.int .i64 0) 47).later (xt (xd (xr _)) e5) | exact (Vec.made4 w4 (.int .i64 0) (.int .i64 0) (.int .i64 0) (.int .i64 0) 47).later e5 | exact (Vec.made4 w4.drew (.int .i64 0) (.int .i64 0) (.int .i64 0) (.int .i64 0) 47).later e5)) | skip); (first | (obtain ⟨⟨m0, m1, m2, m3⟩, f0, f1, f2, f3⟩ := RB.box4) | skip))))
        · go_wp2_with fail
          go_meet
          case rel => exact ⟨_, rfl, Vec.made4 w5 (.int .i64 u1) (.int .i64 u2) (.int .i64 u3) (.int .i64 u4) 47, xa Z5 _⟩
        · go_wp2_with fail
          go_meet
          case rel => exact ⟨_, rfl, RB.put4 (.int .i64 u1) (.int .i64 u2) (.int .i64 u3) (.int .i64 u4), Ext.set4 (o := 0) (b := w4.heap.size) Z5 (Z4.size) (.int .i64 u1) (.int .i64 u2) (.int .i64 u3) (.int .i64 u4)⟩
        · go_wp2_with fail
          go_meet
          case rel => exact ⟨_, rfl, RB.put4 (.int .i64 u1) (.int .i64 u2) (.int .i64 u3) (.int .i64 u4), Ext.set4 (o := 0) (b := w3.heap.size) Z5 (Yw3.size) (.int .i64 u1) (.int .i64 u2) (.int .i64 u3) (.int .i64 u4)⟩
        · go_wp2_with fail
          go_meet
          case rel => exact ⟨_, rfl, RB.put4 (.int .i64 u1) (.int .i64 u2) (.int .i64 u3) (.int .i64 u4), Ext.set4 (o := 0) (b := w2.heap.size) Z5 (Nat.le_refl _) (.int .i64 u1) (.int .i64 u2) (.int .i64 u3) (.int .i64 u4)⟩
      case rest =>
        obtain ⟨b, rfl, P, e5⟩ := hcut
        have B3 := B3.later e5
        have X := xt X e5
        clear e5 a0 a1 a2 a3 a4 a5 a6 a7 b0 b1 b2 b3 b4 b5 b6 b7 na nb CM CM' B1 B2
        obtain ⟨⟨a0, a1, a2, a3⟩, _⟩ := P.box4
        have EM := fun w => blockEmpty u1 u2 u3 u4 w
        obtain ⟨q, hq⟩ : ∃ q, (decide (u1 > u2) || decide (u3 > u4)) = q := ⟨_, rfl⟩
        rw [hq] at EM HM
        clear hq hA hB
        go_wp2_with fail
        refine (EM _).mono ?_
        rintro e w6 ⟨rfl, e6⟩
        have B3 := B3.later e6
        have X := xt X e6
        have P := P.later e6
        clear e6 a0 a1 a2 a3 EM
        obtain ⟨⟨a0, a1, a2, a3⟩, _⟩ := P.box4
        cases q
        · go_wp2_with fail
          refine (blockArea _ _ _ _ _).mono ?_
          rintro e w7 ⟨rfl, e7⟩
          have B3 := B3.later e7
          have X := xt X e7
          clear a0 a1 a2 a3 P e7
          have HM' : Hid (meetB r c r' c' s d s' d' = .tuple #[arV u1 u3 false false u2 u4 false false, .bool true]) := by show _ = _; rw [HM.out]; rfl
          clear HM
          obtain ⟨wy, hy⟩ : ∃ wy, set8 w7 (w.heap.size + 1 + 1) (.int .i64 u1) (.int .i64 u3) (.bool false) (.bool false) (.int .i64 u2) (.int .i64 u4) (.bool false) (.bool false) = wy := ⟨_, rfl⟩
          have GR := B3.put8 (.int .i64 u1) (.int .i64 u3) (.bool false) (.bool false) (.int .i64 u2) (.int .i64 u4) (.bool false) (.bool false)
          have GZ := Ext.set8 (b := w.heap.size + 1 + 1) X (by omega) (.int .i64 u1) (.int .i64 u3) (.bool false) (.bool false) (.int .i64 u2) (.int .i64 u4) (.bool false) (.bool false)
          obtain ⟨⟨⟨k0, k1, k2, k3⟩, k4, k5, k6, k7⟩, ⟨f0, f1, f2, f3⟩, f4, f5, f6, f7⟩ := B3.box8
          rw [hy] at GR GZ
          unfold set8 set4 at hy
          obtain ⟨⟨⟨d0, d1, d2, d3⟩, d4, d5, d6, d7⟩, _⟩ := GR.box8
          go_wp2_with fail
          exact bodyPost_ret (v := .tuple #[arV u1 u3 false false u2 u4 false false, .bool true]) (by simp [results, Tryd.results6, go_sem, d0, d1, d2, d3, d4, d5, d6, d7]) rfl ⟨by rw [HM'.out], GZ⟩
        · have HM' : Hid (meetB r c r' c' s d s' d' = .tuple #[arV 0 0 false false 0 0 false false, .bool false]) := by show _ = _; rw [HM.out]; rfl
          clear HM
          obtain ⟨wy, hy⟩ : ∃ wy, set8 w6 (w.heap.size + 1 + 1) (.int .i64 0) (.int .i64 0) (.bool false) (.bool false) (.int .i64 0) (.int .i64 0) (.bool false) (.bool false) = wy := ⟨_, rfl⟩
          have GR := B3.put8 (.int .i64 0) (.int .i64 0) (.bool false) (.bool false) (.int .i64 0) (.int .i64 0) (.bool false) (.bool false)
          have GZ := Ext.set8 (b := w.heap.size + 1 + 1) X (by omega) (.int .i64 0) (.int .i64 0) (.bool false) (.bool false) (.int .i64 0) (.int .i64 0) (.bool false) (.bool false)
          obtain ⟨⟨⟨k0, k1, k2, k3⟩, k4, k5, k6, k7⟩, ⟨f0, f1, f2, f3⟩, f4, f5, f6, f7⟩ := B3.box8
          rw [hy] at GR GZ
          unfold set8 set4 at hy
          obtain ⟨⟨⟨d0, d1, d2, d3⟩, d4, d5, d6, d7⟩, _⟩ := GR.box8
          go_wp2_with fail
          exact bodyPost_ret (v := .tuple #[arV 0 0 false false 0 0 false false, .bool false]) (by simp [results, Tryd.results6, go_sem, d0, d1, d2, d3, d4, d5, d6, d7]) rfl ⟨by rw [HM'.out], GZ⟩
    · have hB' : goodAB s d s' d' = false := by simpa using hB
      rw [hB']
      have HB : Hid (meetB r c r' c' s d s' d' = .tuple #[arV 0 0 false false 0 0 false false, .bool false]) := by show _ = _; unfold meetB; rw [if_neg (fun q => by exact hB q.1.2)]
      clear hA hB hB'
      obtain ⟨wy, hy⟩ : ∃ wy, set8 w2 (w.heap.size + 1 + 1) (.int .i64 0) (.int .i64 0) (.bool false) (.bool false) (.int .i64 0) (.int .i64 0) (.bool false) (.bool false) = wy := ⟨_, rfl⟩
      have GR := B3.put8 (.int .i64 0) (.int .i64 0) (.bool false) (.bool false) (.int .i64 0) (.int .i64 0) (.bool false) (.bool false)
      have GZ := Ext.set8 (b := w.heap.size + 1 + 1) X (by omega) (.int .i64 0) (.int .i64 0) (.bool false) (.bool false) (.int .i64 0) (.int .i64 0) (.bool false) (.bool false)
      obtain ⟨⟨⟨k0, k1, k2, k3⟩, k4, k5, k6, k7⟩, ⟨f0, f1, f2, f3⟩, f4, f5, f6, f7⟩ := B3.box8
      rw [hy] at GR GZ
      unfold set8 set4 at hy
      obtain ⟨⟨⟨d0, d1, d2, d3⟩, d4, d5, d6, d7⟩, _⟩ := GR.box8
      go_wp2_with fail
      exact bodyPost_ret (v := .tuple #[arV 0 0 false false 0 0 false false, .bool false]) (by simp [results, Tryd.results6, go_sem, d0, d1, d2, d3, d4, d5, d6, d7]) rfl ⟨by rw [HB.out], GZ⟩
  · have hA' : goodAB r c r' c' = false := by simpa using hA
    rw [hA']
    have HB : Hid (meetB r c r' c' s d s' d' = .tuple #[arV 0 0 false false 0 0 false false, .bool false]) := by show _ = _; unfold meetB; rw [if_neg (fun q => by exact hA q.1.1)]
    clear hA hA' a0 a1 a2 a3 a4 a5 a6 a7 b0 b1 b2 b3 b4 b5 b6 b7 G2
    obtain ⟨wy, hy⟩ : ∃ wy, set8 w1 (w.heap.size + 1 + 1) (.int .i64 0) (.int .i64 0) (.bool false) (.bool false) (.int .i64 0) (.int .i64 0) (.bool false) (.bool false) = wy := ⟨_, rfl⟩
    have GR := B3.put8 (.int .i64 0) (.int .i64 0) (.bool false) (.bool false) (.int .i64 0) (.int .i64 0) (.bool false) (.bool false)
    have GZ := Ext.set8 (b := w.heap.size + 1 + 1) X (by omega) (.int .i64 0) (.int .i64 0) (.bool false) (.bool false) (.int .i64 0) (.int .i64 0) (.bool false) (.bool false)
    obtain ⟨⟨⟨k0, k1, k2, k3⟩, k4, k5, k6, k7⟩, ⟨f0, f1, f2, f3⟩, f4, f5, f6, f7⟩ := B3.box8
    rw [hy] at GR GZ
    unfold set8 set4 at hy
    obtain ⟨⟨⟨d0, d1, d2, d3⟩, d4, d5, d6, d7⟩, _⟩ := GR.box8
    go_wp2_with fail
    exact bodyPost_ret (v := .tuple #[arV 0 0 false false 0 0 false false, .bool false]) (by simp [results, Tryd.results6, go_sem, d0, d1, d2, d3, d4, d5, d6, d7]) rfl ⟨by rw [HB.out], GZ⟩

end Go.Proofs.YthdjlhhedkfibaaDoor
