/-
  FnExactMeet, walked.
-/
import Derived.Test.YtifangkifpnnpaaMeeS
import Derived.Deep.DeepCutAuto
namespace Go.Proofs.Ytifangkifpnnpaa
open Go.RowKit

theorem meetB_shape (r c r' c' s d s' d' : Int) : ∃ n1 n2 n3 n4 n5 n6 n7 n8 q, meetB r c r' c' s d s' d' = .tuple #[arV n1 n2 n3 n4 n5 n6 n7 n8, .bool q] := by
  unfold meetB
  split
  · exact ⟨_, _, _, _, _, _, _, _, _, rfl⟩
  · exact ⟨_, _, _, _, _, _, _, _, _, rfl⟩
set_option maxRecDepth 8000 in
set_option maxHeartbeats 4000000 in
theorem lawMeet (r c : Int) (f g : Bool) (r' c' : Int) (f' g' : Bool) (s d : Int) (h k : Bool) (s' d' : Int) (h' k' : Bool) (w : World) :
    Calls Try.prog 8 #[arV r c f g r' c' f' g', arV s d h k s' d' h' k'] w fun e w' => e = .returned (.bool true) ∧ Ext w w' := by
  obtain ⟨n1, n2, n3, n4, n5, n6, n7, n8, q, hn⟩ := meetB_shape r c r' c' s d s' d'
  have HS := fun w => meetS r c f g r' c' f' g' s d h k s' d' h' k' w
  have HI := fun w => meetI r c f g r' c' f' g' s d h k s' d' h' k' w
  rw [hn] at HS HI
  clear hn
  have B1 := Vec.made8 w (.int .i64 r) (.int .i64 c) (.bool f) (.bool g) (.int .i64 r') (.int .i64 c') (.bool f') (.bool g') 33
  have X1 := x1 w (.cells #[.int .i64 r, .int .i64 c, .bool f, .bool g, .int .i64 r', .int .i64 c', .bool f', .bool g'] 33)
  obtain ⟨wa, ha⟩ : ∃ wa, w.alloc (.cells #[.int .i64 r, .int .i64 c, .bool f, .bool g, .int .i64 r', .int .i64 c', .bool f', .bool g'] 33) = wa := ⟨_, rfl⟩
  have B2 := Vec.made8 wa (.int .i64 s) (.int .i64 d) (.bool h) (.bool k) (.int .i64 s') (.int .i64 d') (.bool h') (.bool k') 33
  have X2 := x1 wa (.cells #[.int .i64 s, .int .i64 d, .bool h, .bool k, .int .i64 s', .int .i64 d', .bool h', .bool k'] 33)
  obtain ⟨wb, hb⟩ : ∃ wb, wa.alloc (.cells #[.int .i64 s, .int .i64 d, .bool h, .bool k, .int .i64 s', .int .i64 d', .bool h', .bool k'] 33) = wb := ⟨_, rfl⟩
  have sa : wa.heap.size = w.heap.size + 1 := by rw [← ha, World.size_alloc]
  have sb : wb.heap.size = w.heap.size + 1 + 1 := by rw [← hb, World.size_alloc, sa]
  rw [ha] at X1 B1
  rw [hb] at X2 B2
  rw [sa] at B2
  have X := xt X1 X2
  have B1 := B1.later X2
  clear X1 X2
  obtain ⟨⟨⟨a0, a1, a2, a3⟩, a4, a5, a6, a7⟩, _⟩ := B1.box8
  obtain ⟨⟨⟨b0, b1, b2, b3⟩, b4, b5, b6, b7⟩, _⟩ := B2.box8
  go_enter Try.func8, Try.ntmps8
  go_upto_region 1 with fail
  clear ha hb sa sb
  have na := World.new_ne wb _ a0
  have nb := World.new_ne wb _ b0
  go_cut [5, 6] (fun v u wc => ∃ b : Nat, v = .pointer (some ⟨b, 0, none⟩) ∧ u = .bool q ∧ Vec wc b [.int .i64 n1, .int .i64 n2, .bool n3, .bool n4, .int .i64 n5, .int .i64 n6, .bool n7, .bool n8] ∧ Ext wb wc)
  case first =>
    go_region_held3 (fun w' => (w'.cell? ⟨w.heap.size, 0, none⟩ = some (.int .i64 r) ∧ w'.cell? ⟨w.heap.size, 1, none⟩ = some (.int .i64 c) ∧ w'.cell? ⟨w.heap.size, 2, none⟩ = some (.bool f) ∧ w'.cell? ⟨w.heap.size, 3, none⟩ = some (.bool g) ∧ w'.cell? ⟨w.heap.size, 4, none⟩ = some (.int .i64 r') ∧ w'.cell? ⟨w.heap.size, 5, none⟩ = some (.int .i64 c') ∧ w'.cell? ⟨w.heap.size, 6, none⟩ = some (.bool f') ∧ w'.cell? ⟨w.heap.size, 7, none⟩ = some (.bool g')) ∧ w'.cell? ⟨w.heap.size + 1, 0, none⟩ = some (.int .i64 s) ∧ w'.cell? ⟨w.heap.size + 1, 1, none⟩ = some (.int .i64 d) ∧ w'.cell? ⟨w.heap.size + 1, 2, none⟩ = some (.bool h) ∧ w'.cell? ⟨w.heap.size + 1, 3, none⟩ = some (.bool k) ∧ w'.cell? ⟨w.heap.size + 1, 4, none⟩ = some (.int .i64 s') ∧ w'.cell? ⟨w.heap.size + 1, 5, none⟩ = some (.int .i64 d') ∧ w'.cell? ⟨w.heap.size + 1, 6, none⟩ = some (.bool h') ∧ w'.cell? ⟨w.heap.size + 1, 7, none⟩ = some (.bool k')) (go_keep) (first
      | (go_at_call 18; refine (toArea _ _ _ _ _ _ _ _ _).mono ?_; first | (rintro e w4 ⟨rfl, e4⟩; have Yw4 : Ext w3 w4 := (by first | exact xt (xr _) e4 | exact xt (xd (xr _)) e4 | exact xt (x1 _ _) e4 | exact xt (xd (x1 _ _)) e4 | exact xt (xa (xd (xr _)) _) e4); have Z4 : Ext wb w4 := (by exact xt Yw3 Yw4); obtain ⟨⟨⟨a0, a1, a2, a3⟩, a4, a5, a6, a7⟩, _⟩ := (B1.later Z4).box8; obtain ⟨⟨⟨b0, b1, b2, b3⟩, b4, b5, b6, b7⟩, _⟩ := (B2.later Z4).box8; have na := World.new_ne w4 _ a0; have nb := World.new_ne w4 _ b0; (first | (have RB := RB.later Yw4) | (have RB : Vec w4 w3.heap.size [.int .i64 0, .int .i64 0, .bool false, .bool false, .int .i64 0, .int .i64 0, .bool false, .bool false] := (by first | exact (Vec.made8 w3 (.int .i64 0) (.int .i64 0) (.bool false) (.bool false) (.int .i64 0) (.int .i64 0) (.bool false) (.bool false) 36).later (xt (xd (xr _)) e4) | exact (Vec.made8 w3 (.int .i64 0) (.int .i64 0) (.bool false) (.bool false) (.int .i64 0) (.int .i64 0) (.bool false) (.bool false) 36).later e4 | exact (Vec.made8 w3.drew (.int .i64 0) (.int .i64 0) (.bool false) (.bool false) (.int .i64 0) (.int .i64 0) (.bool false) (.bool false) 36).later e4)) | skip)) | (rintro e w3 ⟨rfl, e3⟩; have Yw3 : Ext wb w3 := (by first | exact xt (xr _) e3 | exact xt (xd (xr _)) e3 | exact xt (x1 _ _) e3 | exact xt (xd (x1 _ _)) e3 | exact xt (xa (xd (xr _)) _) e3); obtain ⟨⟨⟨a0, a1, a2, a3⟩, a4, a5, a6, a7⟩, _⟩ := (B1.later Yw3).box8; obtain ⟨⟨⟨b0, b1, b2, b3⟩, b4, b5, b6, b7⟩, _⟩ := (B2.later Yw3).box8; have na := World.new_ne w3 _ a0; have nb := World.new_ne w3 _ b0; (first | (have RB : Vec w3 wb.heap.size [.int .i64 0, .int .i64 0, .bool false, .bool false, .int .i64 0, .int .i64 0, .bool false, .bool false] := (by first | exact (Vec.made8 wb (.int .i64 0) (.int .i64 0) (.bool false) (.bool false) (.int .i64 0) (.int .i64 0) (.bool false) (.bool false) 36).later (xt (xd (xr _)) e3) | exact (Vec.made8 wb (.int .i64 0) (.int .i64 0) (.bool false) (.bool false) (.int .i64 0) (.int .i64 0) (.bool false) (.bool false) 36).later e3 | exact (Vec.made8 wb.drew (.int .i64 0) (.int .i64 0) (.bool false) (.bool false) (.int .i64 0) (.int .i64 0) (.bool false) (.bool false) 36).later e3)) | skip)))
      | (go_at_call 23; refine (HS _).mono ?_; (rintro e w5 ⟨rfl, e5⟩; have Yw5 : Ext w4 w5 := (by first | exact xt (xr _) e5 | exact xt (xd (xr _)) e5 | exact xt (x1 _ _) e5 | exact xt (xd (x1 _ _)) e5 | exact xt (xa (xd (xr _)) _) e5); have Z5 : Ext wb w5 := (by exact xt Z4 Yw5); obtain ⟨⟨⟨a0, a1, a2, a3⟩, a4, a5, a6, a7⟩, _⟩ := (B1.later Z5).box8; obtain ⟨⟨⟨b0, b1, b2, b3⟩, b4, b5, b6, b7⟩, _⟩ := (B2.later Z5).box8; have na := World.new_ne w5 _ a0; have nb := World.new_ne w5 _ b0; (first | (have RB := RB.later Yw5) | (have RB : Vec w5 w4.heap.size [.int .i64 0, .int .i64 0, .bool false, .bool false, .int .i64 0, .int .i64 0, .bool false, .bool false] := (by first | exact (Vec.made8 w4 (.int .i64 0) (.int .i64 0) (.bool false) (.bool false) (.int .i64 0) (.int .i64 0) (.bool false) (.bool false) 36).later (xt (xd (xr _)) e5) | exact (Vec.made8 w4 (.int .i64 0) (.int .i64 0) (.bool false) (.bool false) (.int .i64 0) (.int .i64 0) (.bool false) (.bool false) 36).later e5 | exact (Vec.made8 w4.drew (.int .i64 0) (.int .i64 0) (.bool false) (.bool false) (.int .i64 0) (.int .i64 0) (.bool false) (.bool false) 36).later e5)) | skip); (first | (obtain ⟨⟨⟨m0, m1, m2, m3⟩, m4, m5, m6, m7⟩, ⟨f0, f1, f2, f3⟩, f4, f5, f6, f7⟩ := RB.box8) | skip))))
    all_goals
      go_wp2_with fail
      go_meet
      case rel => first | exact ⟨_, rfl, rfl, RB.put8 (.int .i64 n1) (.int .i64 n2) (.bool n3) (.bool n4) (.int .i64 n5) (.int .i64 n6) (.bool n7) (.bool n8), Ext.set8 Z5 (by first | exact Z4.size | exact Yw3.size | exact Nat.le_refl _) (.int .i64 n1) (.int .i64 n2) (.bool n3) (.bool n4) (.int .i64 n5) (.int .i64 n6) (.bool n7) (.bool n8)⟩ | exact ⟨_, rfl, rfl, Vec.made8 w5 (.int .i64 n1) (.int .i64 n2) (.bool n3) (.bool n4) (.int .i64 n5) (.int .i64 n6) (.bool n7) (.bool n8) 36, xa Z5 _⟩
  case rest =>
    obtain ⟨b, rfl, rfl, P, e5⟩ := hcut
    have B1 := B1.later e5
    have B2 := B2.later e5
    have X := xt X e5
    clear e5 a0 a1 a2 a3 a4 a5 a6 a7 b0 b1 b2 b3 b4 b5 b6 b7 HS na nb
    obtain ⟨⟨⟨a0, a1, a2, a3⟩, a4, a5, a6, a7⟩, _⟩ := B1.box8
    obtain ⟨⟨⟨b0, b1, b2, b3⟩, b4, b5, b6, b7⟩, _⟩ := B2.box8
    have na := World.new_ne wc _ a0
    have nb := World.new_ne wc _ b0
    go_upto_region 2 with fail
    go_cut [7, 8] (fun v u wd => ∃ b : Nat, v = .pointer (some ⟨b, 0, none⟩) ∧ u = .bool q ∧ Vec wd b [.int .i64 n1, .int .i64 n2, .bool n3, .bool n4, .int .i64 n5, .int .i64 n6, .bool n7, .bool n8] ∧ Ext wc wd)
    case first =>
      go_region_held3 (fun w' => (w'.cell? ⟨w.heap.size, 0, none⟩ = some (.int .i64 r) ∧ w'.cell? ⟨w.heap.size, 1, none⟩ = some (.int .i64 c) ∧ w'.cell? ⟨w.heap.size, 2, none⟩ = some (.bool f) ∧ w'.cell? ⟨w.heap.size, 3, none⟩ = some (.bool g) ∧ w'.cell? ⟨w.heap.size, 4, none⟩ = some (.int .i64 r') ∧ w'.cell? ⟨w.heap.size, 5, none⟩ = some (.int .i64 c') ∧ w'.cell? ⟨w.heap.size, 6, none⟩ = some (.bool f') ∧ w'.cell? ⟨w.heap.size, 7, none⟩ = some (.bool g')) ∧ w'.cell? ⟨w.heap.size + 1, 0, none⟩ = some (.int .i64 s) ∧ w'.cell? ⟨w.heap.size + 1, 1, none⟩ = some (.int .i64 d) ∧ w'.cell? ⟨w.heap.size + 1, 2, none⟩ = some (.bool h) ∧ w'.cell? ⟨w.heap.size + 1, 3, none⟩ = some (.bool k) ∧ w'.cell? ⟨w.heap.size + 1, 4, none⟩ = some (.int .i64 s') ∧ w'.cell? ⟨w.heap.size + 1, 5, none⟩ = some (.int .i64 d') ∧ w'.cell? ⟨w.heap.size + 1, 6, none⟩ = some (.bool h') ∧ w'.cell? ⟨w.heap.size + 1, 7, none⟩ = some (.bool k')) (go_keep) (first
        | (go_at_call 18; refine (toArea _ _ _ _ _ _ _ _ _).mono ?_; first | (rintro e w4 ⟨rfl, e4⟩; have Yw4 : Ext w3 w4 := (by first | exact xt (xr _) e4 | exact xt (xd (xr _)) e4 | exact xt (x1 _ _) e4 | exact xt (xd (x1 _ _)) e4 | exact xt (xa (xd (xr _)) _) e4); have Z4 : Ext wc w4 := (by exact xt Yw3 Yw4); obtain ⟨⟨⟨a0, a1, a2, a3⟩, a4, a5, a6, a7⟩, _⟩ := (B1.later Z4).box8; obtain ⟨⟨⟨b0, b1, b2, b3⟩, b4, b5, b6, b7⟩, _⟩ := (B2.later Z4).box8; have na := World.new_ne w4 _ a0; have nb := World.new_ne w4 _ b0; (first | (have RB := RB.later Yw4) | (have RB : Vec w4 w3.heap.size [.int .i64 0, .int .i64 0, .bool false, .bool false, .int .i64 0, .int .i64 0, .bool false, .bool false] := (by first | exact (Vec.made8 w3 (.int .i64 0) (.int .i64 0) (.bool false) (.bool false) (.int .i64 0) (.int .i64 0) (.bool false) (.bool false) 36).later (xt (xd (xr _)) e4) | exact (Vec.made8 w3 (.int .i64 0) (.int .i64 0) (.bool false) (.bool false) (.int .i64 0) (.int .i64 0) (.bool false) (.bool false) 36).later e4 | exact (Vec.made8 w3.drew (.int .i64 0) (.int .i64 0) (.bool false) (.bool false) (.int .i64 0) (.int .i64 0) (.bool false) (.bool false) 36).later e4)) | skip)) | (rintro e w3 ⟨rfl, e3⟩; have Yw3 : Ext wc w3 := (by first | exact xt (xr _) e3 | exact xt (xd (xr _)) e3 | exact xt (x1 _ _) e3 | exact xt (xd (x1 _ _)) e3 | exact xt (xa (xd (xr _)) _) e3); obtain ⟨⟨⟨a0, a1, a2, a3⟩, a4, a5, a6, a7⟩, _⟩ := (B1.later Yw3).box8; obtain ⟨⟨⟨b0, b1, b2, b3⟩, b4, b5, b6, b7⟩, _⟩ := (B2.later Yw3).box8; have na := World.new_ne w3 _ a0; have nb := World.new_ne w3 _ b0; (first | (have RB : Vec w3 wc.heap.size [.int .i64 0, .int .i64 0, .bool false, .bool false, .int .i64 0, .int .i64 0, .bool false, .bool false] := (by first | exact (Vec.made8 wc (.int .i64 0) (.int .i64 0) (.bool false) (.bool false) (.int .i64 0) (.int .i64 0) (.bool false) (.bool false) 36).later (xt (xd (xr _)) e3) | exact (Vec.made8 wc (.int .i64 0) (.int .i64 0) (.bool false) (.bool false) (.int .i64 0) (.int .i64 0) (.bool false) (.bool false) 36).later e3 | exact (Vec.made8 wc.drew (.int .i64 0) (.int .i64 0) (.bool false) (.bool false) (.int .i64 0) (.int .i64 0) (.bool false) (.bool false) 36).later e3)) | skip)))
        | (go_at_call 24; refine (HI _).mono ?_; (rintro e w5 ⟨rfl, e5⟩; have Yw5 : Ext w4 w5 := (by first | exact xt (xr _) e5 | exact xt (xd (xr _)) e5 | exact xt (x1 _ _) e5 | exact xt (xd (x1 _ _)) e5 | exact xt (xa (xd (xr _)) _) e5); have Z5 : Ext wc w5 := (by exact xt Z4 Yw5); obtain ⟨⟨⟨a0, a1, a2, a3⟩, a4, a5, a6, a7⟩, _⟩ := (B1.later Z5).box8; obtain ⟨⟨⟨b0, b1, b2, b3⟩, b4, b5, b6, b7⟩, _⟩ := (B2.later Z5).box8; have na := World.new_ne w5 _ a0; have nb := World.new_ne w5 _ b0; (first | (have RB := RB.later Yw5) | (have RB : Vec w5 w4.heap.size [.int .i64 0, .int .i64 0, .bool false, .bool false, .int .i64 0, .int .i64 0, .bool false, .bool false] := (by first | exact (Vec.made8 w4 (.int .i64 0) (.int .i64 0) (.bool false) (.bool false) (.int .i64 0) (.int .i64 0) (.bool false) (.bool false) 36).later (xt (xd (xr _)) e5) | exact (Vec.made8 w4 (.int .i64 0) (.int .i64 0) (.bool false) (.bool false) (.int .i64 0) (.int .i64 0) (.bool false) (.bool false) 36).later e5 | exact (Vec.made8 w4.drew (.int .i64 0) (.int .i64 0) (.bool false) (.bool false) (.int .i64 0) (.int .i64 0) (.bool false) (.bool false) 36).later e5)) | skip); (first | (obtain ⟨⟨⟨m0, m1, m2, m3⟩, m4, m5, m6, m7⟩, ⟨f0, f1, f2, f3⟩, f4, f5, f6, f7⟩ := RB.box8) | skip))))
      all_goals
        go_wp2_with fail
        go_meet
        case rel => first | exact ⟨_, rfl, rfl, RB.put8 (.int .i64 n1) (.int .i64 n2) (.bool n3) (.bool n4) (.int .i64 n5) (.int .i64 n6) (.bool n7) (.bool n8), Ext.set8 Z5 (by first | exact Z4.size | exact Yw3.size | exact Nat.le_refl _) (.int .i64 n1) (.int .i64 n2) (.bool n3) (.bool n4) (.int .i64 n5) (.int .i64 n6) (.bool n7) (.bool n8)⟩ | exact ⟨_, rfl, rfl, Vec.made8 w5 (.int .i64 n1) (.int .i64 n2) (.bool n3) (.bool n4) (.int .i64 n5) (.int .i64 n6) (.bool n7) (.bool n8) 36, xa Z5 _⟩
    case rest =>
      obtain ⟨b', rfl, rfl, Q, e6⟩ := hcut
      have P := P.later e6
      have X := xt X e6
      clear a0 a1 a2 a3 a4 a5 a6 a7 b0 b1 b2 b3 b4 b5 b6 b7 HI na nb B1 B2
      obtain ⟨⟨⟨a0, a1, a2, a3⟩, a4, a5, a6, a7⟩, _⟩ := P.box8
      obtain ⟨⟨⟨b0, b1, b2, b3⟩, b4, b5, b6, b7⟩, _⟩ := Q.box8
      go_wp2_with fail
      refine (eqArea_same _ _ _ _ _ _ _ _ _).mono ?_
      rintro e w7 ⟨rfl, e7⟩
      go_wp2_with fail
      all_goals go_ret
      all_goals exact ⟨rfl, xt X e7⟩

end Go.Proofs.Ytifangkifpnnpaa
