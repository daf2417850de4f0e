/-
  FnExactWithout, walked.
-/
import Derived.Test.YthdjlhhedkfibaaDoorWp
import Derived.Test.YthdjlhhedkfibaaDoorWs2
namespace Go.Proofs.YthdjlhhedkfibaaDoor
open Go.RowKit

theorem woB_length (r c r' c' s d s' d' : Int) : (woB r c r' c' s d s' d').length ≤ 4 := by
  unfold woB
  split
  · split
    · simp
    · exact told_length _ 4
  · simp

set_option maxRecDepth 8000 in
set_option maxHeartbeats 4000000 in
theorem lawWithout (r c : Int) (f g : Bool) (r' c' : Int) (f' g' : Bool) (s d : Int) (h k : Bool) (s' d' : Int) (h' k' : Bool) (w : World) (hS : Sides w) :
    Calls Tryd.prog 4 #[arV r c f g r' c' f' g', arV s d h k s' d' h' k'] w fun e w' => e = .returned (.bool true) ∧ Ext w w' := by
  have HS := fun w => withoutS r c f g r' c' f' g' s d h k s' d' h' k' w
  have HI := fun w hS => withoutI r c f g r' c' f' g' s d h k s' d' h' k' w hS
  have hl := woB_length r c r' c' s d s' d'
  obtain ⟨l, hle⟩ : ∃ l, woB r c r' c' s d s' d' = l := ⟨_, rfl⟩
  rw [hle] at HS HI hl
  clear hle
  have B1 := Vec.made8 w (.int .i64 r) (.int .i64 c) (.bool f) (.bool g) (.int .i64 r') (.int .i64 c') (.bool f') (.bool g') 40
  have X1 := x1 w (.cells #[.int .i64 r, .int .i64 c, .bool f, .bool g, .int .i64 r', .int .i64 c', .bool f', .bool g'] 40)
  obtain ⟨wa, ha⟩ : ∃ wa, w.alloc (.cells #[.int .i64 r, .int .i64 c, .bool f, .bool g, .int .i64 r', .int .i64 c', .bool f', .bool g'] 40) = wa := ⟨_, rfl⟩
  have B2 := Vec.made8 wa (.int .i64 s) (.int .i64 d) (.bool h) (.bool k) (.int .i64 s') (.int .i64 d') (.bool h') (.bool k') 40
  have X2 := x1 wa (.cells #[.int .i64 s, .int .i64 d, .bool h, .bool k, .int .i64 s', .int .i64 d', .bool h', .bool k'] 40)
  obtain ⟨wb, hb⟩ : ∃ wb, wa.alloc (.cells #[.int .i64 s, .int .i64 d, .bool h, .bool k, .int .i64 s', .int .i64 d', .bool h', .bool k'] 40) = wb := ⟨_, rfl⟩
  have sa : wa.heap.size = w.heap.size + 1 := by rw [← ha, World.size_alloc]
  rw [ha] at X1 B1
  rw [hb] at X2 B2
  rw [sa] at B2
  have X := xt X1 X2
  have B1 := B1.later X2
  clear X1 X2
  obtain ⟨⟨⟨a0, a1, a2, a3⟩, a4, a5, a6, a7⟩, _⟩ := B1.box8
  obtain ⟨⟨⟨b0, b1, b2, b3⟩, b4, b5, b6, b7⟩, _⟩ := B2.box8
  go_enter Tryd.func4, Tryd.ntmps4
  go_upto_region 1 with fail
  clear ha hb sa
  have S1 := hS.later X
  go_cut [5] (fun v wc => Hid (OwnA wc wb.heap.size v l) ∧ Ext wb wc)
  case first =>
    go_region_held3 (fun w' => (w'.cell? ⟨w.heap.size, 0, none⟩ = some (.int .i64 r) ∧ w'.cell? ⟨w.heap.size, 1, none⟩ = some (.int .i64 c) ∧ w'.cell? ⟨w.heap.size, 2, none⟩ = some (.bool f) ∧ w'.cell? ⟨w.heap.size, 3, none⟩ = some (.bool g) ∧ w'.cell? ⟨w.heap.size, 4, none⟩ = some (.int .i64 r') ∧ w'.cell? ⟨w.heap.size, 5, none⟩ = some (.int .i64 c') ∧ w'.cell? ⟨w.heap.size, 6, none⟩ = some (.bool f') ∧ w'.cell? ⟨w.heap.size, 7, none⟩ = some (.bool g')) ∧ w'.cell? ⟨w.heap.size + 1, 0, none⟩ = some (.int .i64 s) ∧ w'.cell? ⟨w.heap.size + 1, 1, none⟩ = some (.int .i64 d) ∧ w'.cell? ⟨w.heap.size + 1, 2, none⟩ = some (.bool h) ∧ w'.cell? ⟨w.heap.size + 1, 3, none⟩ = some (.bool k) ∧ w'.cell? ⟨w.heap.size + 1, 4, none⟩ = some (.int .i64 s') ∧ w'.cell? ⟨w.heap.size + 1, 5, none⟩ = some (.int .i64 d') ∧ w'.cell? ⟨w.heap.size + 1, 6, none⟩ = some (.bool h') ∧ w'.cell? ⟨w.heap.size + 1, 7, none⟩ = some (.bool k')) (go_keep) (first
      | (go_at_call 15; refine (toArea _ _ _ _ _ _ _ _ _).mono ?_; first | (rintro e y2 ⟨rfl, e2⟩; have Z2 : Ext wb y2 := (by exact xt Z1 e2); obtain ⟨⟨⟨a0, a1, a2, a3⟩, a4, a5, a6, a7⟩, _⟩ := (B1.later Z2).box8; obtain ⟨⟨⟨b0, b1, b2, b3⟩, b4, b5, b6, b7⟩, _⟩ := (B2.later Z2).box8) | (rintro e y1 ⟨rfl, e1⟩; have Z1 : Ext wb y1 := (by first | exact xt (xr _) e1 | exact xt (xd (xr _)) e1); obtain ⟨⟨⟨a0, a1, a2, a3⟩, a4, a5, a6, a7⟩, _⟩ := (B1.later Z1).box8; obtain ⟨⟨⟨b0, b1, b2, b3⟩, b4, b5, b6, b7⟩, _⟩ := (B2.later Z1).box8))
      | (go_at_call 9; refine (HS _).mono ?_; rintro e y3 ⟨v3, rfl, own3, e3⟩; have Z3 : Ext wb y3 := (by exact xt Z2 e3); have own3' : Hid (OwnA y3 wb.heap.size v3 l) := (by exact own_base own3 Z2.size); clear own3; obtain ⟨⟨⟨a0, a1, a2, a3⟩, a4, a5, a6, a7⟩, _⟩ := (B1.later Z3).box8; obtain ⟨⟨⟨b0, b1, b2, b3⟩, b4, b5, b6, b7⟩, _⟩ := (B2.later Z3).box8))
    all_goals go_wp2_with fail
    all_goals go_meet
    case rel => exact ⟨own3', Z3⟩
  case rest =>
    rename World => wz
    obtain ⟨own0, e5⟩ := hcut
    have A0 : Hid (AreasAt wz wb.heap.size u5 l.length (flatA l)) := AreasAt.of_own own0.out (by omega)
    have B1 := B1.later e5
    have B2 := B2.later e5
    have X := xt X e5
    have S1 := S1.later e5
    clear own0 e5 a0 a1 a2 a3 a4 a5 a6 a7 b0 b1 b2 b3 b4 b5 b6 b7 HS
    obtain ⟨⟨⟨a0, a1, a2, a3⟩, a4, a5, a6, a7⟩, _⟩ := B1.box8
    obtain ⟨⟨⟨b0, b1, b2, b3⟩, b4, b5, b6, b7⟩, _⟩ := B2.box8
    go_upto_region 2 with fail
    go_cut [6] (fun v wd => Hid (OwnA wd wz.heap.size v l) ∧ Ext wz wd)
    case first =>
      go_region_held3 (fun w' => (w'.cell? ⟨w.heap.size, 0, none⟩ = some (.int .i64 r) ∧ w'.cell? ⟨w.heap.size, 1, none⟩ = some (.int .i64 c) ∧ w'.cell? ⟨w.heap.size, 2, none⟩ = some (.bool f) ∧ w'.cell? ⟨w.heap.size, 3, none⟩ = some (.bool g) ∧ w'.cell? ⟨w.heap.size, 4, none⟩ = some (.int .i64 r') ∧ w'.cell? ⟨w.heap.size, 5, none⟩ = some (.int .i64 c') ∧ w'.cell? ⟨w.heap.size, 6, none⟩ = some (.bool f') ∧ w'.cell? ⟨w.heap.size, 7, none⟩ = some (.bool g')) ∧ w'.cell? ⟨w.heap.size + 1, 0, none⟩ = some (.int .i64 s) ∧ w'.cell? ⟨w.heap.size + 1, 1, none⟩ = some (.int .i64 d) ∧ w'.cell? ⟨w.heap.size + 1, 2, none⟩ = some (.bool h) ∧ w'.cell? ⟨w.heap.size + 1, 3, none⟩ = some (.bool k) ∧ w'.cell? ⟨w.heap.size + 1, 4, none⟩ = some (.int .i64 s') ∧ w'.cell? ⟨w.heap.size + 1, 5, none⟩ = some (.int .i64 d') ∧ w'.cell? ⟨w.heap.size + 1, 6, none⟩ = some (.bool h') ∧ w'.cell? ⟨w.heap.size + 1, 7, none⟩ = some (.bool k')) (go_keep) (first
        | (go_at_call 15; refine (toArea _ _ _ _ _ _ _ _ _).mono ?_; first | (rintro e y2 ⟨rfl, e2⟩; have Z2 : Ext wz y2 := (by exact xt Z1 e2); obtain ⟨⟨⟨a0, a1, a2, a3⟩, a4, a5, a6, a7⟩, _⟩ := (B1.later Z2).box8; obtain ⟨⟨⟨b0, b1, b2, b3⟩, b4, b5, b6, b7⟩, _⟩ := (B2.later Z2).box8) | (rintro e y1 ⟨rfl, e1⟩; have Z1 : Ext wz y1 := (by first | exact xt (xr _) e1 | exact xt (xd (xr _)) e1); obtain ⟨⟨⟨a0, a1, a2, a3⟩, a4, a5, a6, a7⟩, _⟩ := (B1.later Z1).box8; obtain ⟨⟨⟨b0, b1, b2, b3⟩, b4, b5, b6, b7⟩, _⟩ := (B2.later Z1).box8))
        | (go_at_call 7; refine (HI _ (by first | exact S1.later Z2 | exact hS.later (xt X Z2))).mono ?_; rintro e y3 ⟨v3, rfl, own3, e3⟩; have Z3 : Ext wz y3 := (by exact xt Z2 e3); have own3' : Hid (OwnA y3 wz.heap.size v3 l) := (by exact own_base own3 Z2.size); clear own3; obtain ⟨⟨⟨a0, a1, a2, a3⟩, a4, a5, a6, a7⟩, _⟩ := (B1.later Z3).box8; obtain ⟨⟨⟨b0, b1, b2, b3⟩, b4, b5, b6, b7⟩, _⟩ := (B2.later Z3).box8))
      all_goals go_wp2_with fail
      all_goals go_meet
      case rel => exact ⟨own3', Z3⟩
    case rest =>
      rename World => wd
      obtain ⟨own1, Y⟩ := hcut
      have A1 : Hid (AreasAt wd wz.heap.size u6 l.length (flatA l)) := AreasAt.of_own own1.out (by omega)
      clear own1 a0 a1 a2 a3 a4 a5 a6 a7 b0 b1 b2 b3 b4 b5 b6 b7
      go_wp2_with fail
      refine (eqAreas wz.heap.size wb.heap.size _ _ l wd A1.out (A0.out.later Y)).mono ?_
      rintro e w1 ⟨rfl, e1⟩
      have A1 : Hid (AreasAt w1 wz.heap.size u6 l.length (flatA l)) := A1.out.later e1
      have Y := xt Y e1
      clear e1
      go_wp2_with fail
      refine (markAreas wz.heap.size _ l.length (flatA l) w1 A1.out).mono ?_
      rintro e w2 ⟨rfl, ⟨M, A2, hM⟩, e2⟩
      have A2 : Hid (AreasAt w2 wz.heap.size u6 l.length M) := A2
      have HM : Hid (Marked M l.length) := hM
      have Y : Ext wz w2 := Y.trans e2
      clear e2 hM A1
      obtain ⟨m, hm⟩ : ∃ m : Nat, 1 + l.length * 8 = m := ⟨_, rfl⟩
      have HL := fun w A => heldAreas wz.heap.size u6 l.length M w A HM.out
      rw [hm] at HL ⊢
      have hm0 : (0 : Int) ≤ (m : Int) := by omega
      go_wp2_with fail
      refine (HL w2 A2.out).mono ?_
      rintro e w3 ⟨rfl, rfl⟩
      have B1 := B1.later Y
      have B2 := B2.later Y
      have X := xt X Y
      have S2 := S1.later Y
      have A0 : Hid (AreasAt w3 wb.heap.size u5 l.length (flatA l)) := A0.out.later Y
      clear S1 Y
      obtain ⟨⟨⟨a0, a1, a2, a3⟩, a4, a5, a6, a7⟩, _⟩ := B1.box8
      obtain ⟨⟨⟨b0, b1, b2, b3⟩, b4, b5, b6, b7⟩, _⟩ := B2.box8
      go_upto_region 13 with fail
      go_cut [9] (fun v we => Hid (OwnA we w3.heap.size v l) ∧ Ext w3 we)
      case first =>
        go_region_held3 (fun w' => (w'.cell? ⟨w.heap.size, 0, none⟩ = some (.int .i64 r) ∧ w'.cell? ⟨w.heap.size, 1, none⟩ = some (.int .i64 c) ∧ w'.cell? ⟨w.heap.size, 2, none⟩ = some (.bool f) ∧ w'.cell? ⟨w.heap.size, 3, none⟩ = some (.bool g) ∧ w'.cell? ⟨w.heap.size, 4, none⟩ = some (.int .i64 r') ∧ w'.cell? ⟨w.heap.size, 5, none⟩ = some (.int .i64 c') ∧ w'.cell? ⟨w.heap.size, 6, none⟩ = some (.bool f') ∧ w'.cell? ⟨w.heap.size, 7, none⟩ = some (.bool g')) ∧ w'.cell? ⟨w.heap.size + 1, 0, none⟩ = some (.int .i64 s) ∧ w'.cell? ⟨w.heap.size + 1, 1, none⟩ = some (.int .i64 d) ∧ w'.cell? ⟨w.heap.size + 1, 2, none⟩ = some (.bool h) ∧ w'.cell? ⟨w.heap.size + 1, 3, none⟩ = some (.bool k) ∧ w'.cell? ⟨w.heap.size + 1, 4, none⟩ = some (.int .i64 s') ∧ w'.cell? ⟨w.heap.size + 1, 5, none⟩ = some (.int .i64 d') ∧ w'.cell? ⟨w.heap.size + 1, 6, none⟩ = some (.bool h') ∧ w'.cell? ⟨w.heap.size + 1, 7, none⟩ = some (.bool k')) (go_keep) (first
          | (go_at_call 15; refine (toArea _ _ _ _ _ _ _ _ _).mono ?_; first | (rintro e y2 ⟨rfl, e2⟩; have Z2 : Ext w3 y2 := (by exact xt Z1 e2); obtain ⟨⟨⟨a0, a1, a2, a3⟩, a4, a5, a6, a7⟩, _⟩ := (B1.later Z2).box8; obtain ⟨⟨⟨b0, b1, b2, b3⟩, b4, b5, b6, b7⟩, _⟩ := (B2.later Z2).box8) | (rintro e y1 ⟨rfl, e1⟩; have Z1 : Ext w3 y1 := (by first | exact xt (xr _) e1 | exact xt (xd (xr _)) e1); obtain ⟨⟨⟨a0, a1, a2, a3⟩, a4, a5, a6, a7⟩, _⟩ := (B1.later Z1).box8; obtain ⟨⟨⟨b0, b1, b2, b3⟩, b4, b5, b6, b7⟩, _⟩ := (B2.later Z1).box8))
          | (go_at_call 7; refine (HI _ (by first | exact S2.later Z2 | exact hS.later (xt X Z2))).mono ?_; rintro e y3 ⟨v3, rfl, own3, e3⟩; have Z3 : Ext w3 y3 := (by exact xt Z2 e3); have own3' : Hid (OwnA y3 w3.heap.size v3 l) := (by exact own_base own3 Z2.size); clear own3; obtain ⟨⟨⟨a0, a1, a2, a3⟩, a4, a5, a6, a7⟩, _⟩ := (B1.later Z3).box8; obtain ⟨⟨⟨b0, b1, b2, b3⟩, b4, b5, b6, b7⟩, _⟩ := (B2.later Z3).box8))
        all_goals go_wp2_with fail
        all_goals go_meet
        case rel => exact ⟨own3', Z3⟩
      case rest =>
        rename World => we
        obtain ⟨own2, Y⟩ := hcut
        have A3 : Hid (AreasAt we w3.heap.size u9 l.length (flatA l)) := AreasAt.of_own own2.out (by omega)
        clear own2 a0 a1 a2 a3 a4 a5 a6 a7 b0 b1 b2 b3 b4 b5 b6 b7
        go_wp2_with fail
        refine (eqAreas w3.heap.size wb.heap.size _ _ l we A3.out (A0.out.later Y)).mono ?_
        rintro e w4 ⟨rfl, e4⟩
        have Y := xt Y e4
        go_wp2_with fail
        refine (HL w4 (A2.out.later Y)).mono ?_
        rintro e w5 ⟨rfl, rfl⟩
        go_wp2_with fail
        all_goals go_ret
        all_goals exact ⟨rfl, xt X Y⟩

end Go.Proofs.YthdjlhhedkfibaaDoor
