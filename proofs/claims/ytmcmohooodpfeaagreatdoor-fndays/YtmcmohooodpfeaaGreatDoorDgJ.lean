/-
  The program's text of a date.
-/
import Derived.Test.YtmcmohooodpfeaaGreatDoorDgI
import Derived.Test.YtmcmohooodpfeaaGreatDoorDatP
namespace Go.Proofs.YtmcmohooodpfeaaGreatDoor
open Go.RowKit

set_option maxHeartbeats 400000 in
theorem monthIt (n : Int) (w : World) :
    Calls Tryz.prog 33 #[.int .i64 n] w fun e w' => e = .returned (.bool (decide (1 ≤ n ∧ n ≤ 12))) ∧ w' = w := by
  go_enter Tryz.func33, Tryz.ntmps33
  go_wp2
  all_goals go_ret
  all_goals refine ⟨ret_bool ?_, rfl⟩
  all_goals simp_all
  all_goals (intros; omega)

set_option maxRecDepth 4000 in
set_option maxHeartbeats 1000000 in
theorem dtextI_no (y m d : Int) (w : World) (h : ¬ DText y m d) :
    Calls Tryz.prog 14 #[.agg #[.int .i64 y, .int .i64 m, .int .i64 d]] w fun e w' => e = .returned (.string ⟨#[]⟩) ∧ Ext w w' := by
  have C1 := fun w => yearI y w
  have C2 := fun w => monthIt m w
  by_cases hy : -5000 ≤ y ∧ y ≤ 9999
  · simp only [hy, and_self, decide_true] at C1
    by_cases hm : 1 ≤ m ∧ m ≤ 12
    · simp only [hm, and_self, decide_true] at C2
      by_cases d1 : d < 1
      · have f3 : decide (d < 1) = true := by simp; omega
        clear h hy hm d1
        go_enter Tryz.func14, Tryz.ntmps14
        go_wp2_with (first | (go_at_call 32; refine (C1 _).mono ?_; rintro e w' ⟨rfl, rfl⟩) | (go_at_call 33; refine (C2 _).mono ?_; rintro e w' ⟨rfl, rfl⟩))
        go_ret
        exact ⟨rfl, x1 _ _⟩
      · have f3 : decide (d < 1) = false := by simp; omega
        have f4 : decide (d > 31) = true := by unfold DText at h; simp; omega
        clear h hy hm d1
        go_enter Tryz.func14, Tryz.ntmps14
        go_wp2_with (first | (go_at_call 32; refine (C1 _).mono ?_; rintro e w' ⟨rfl, rfl⟩) | (go_at_call 33; refine (C2 _).mono ?_; rintro e w' ⟨rfl, rfl⟩))
        go_ret
        exact ⟨rfl, x1 _ _⟩
    · simp only [hm, decide_false] at C2
      clear h hy hm
      go_enter Tryz.func14, Tryz.ntmps14
      go_wp2_with (first | (go_at_call 32; refine (C1 _).mono ?_; rintro e w' ⟨rfl, rfl⟩) | (go_at_call 33; refine (C2 _).mono ?_; rintro e w' ⟨rfl, rfl⟩))
      go_ret
      exact ⟨rfl, x1 _ _⟩
  · simp only [hy, decide_false] at C1
    clear h hy
    go_enter Tryz.func14, Tryz.ntmps14
    go_wp2_with (first | (go_at_call 32; refine (C1 _).mono ?_; rintro e w' ⟨rfl, rfl⟩))
    go_ret
    exact ⟨rfl, x1 _ _⟩

set_option maxRecDepth 8000 in
set_option maxHeartbeats 2000000 in
theorem dtextI_neg (RP : RepC) (y m d : Int) (w0 w : World) (IT : ItoaC w0) (X : Ext w0 w) (h : DText y m d) (hn : y < 0) :
    Calls Tryz.prog 14 #[.agg #[.int .i64 y, .int .i64 m, .int .i64 d]] w fun e w' => e = .returned (.string (dateB y m d)) ∧ Ext w w' := by
    obtain ⟨hy, hm, hd⟩ := h
    have C1 := fun w => yearI y w
    have C2 := fun w => monthIt m w
    simp only [hy, and_self, decide_true] at C1
    simp only [hm, and_self, decide_true] at C2
    have f3 : decide (d < 1) = false := by simp; omega
    have f4 : decide (d > 31) = false := by simp; omega
    have B := Box3.made w (.int .i64 y) (.int .i64 m) (.int .i64 d) 26
    have X0 : Ext w0 (w.alloc (.cells #[.int .i64 y, .int .i64 m, .int .i64 d] 26)) := xa X _
    have CM := fun w x => padI RP m 2 w0 w IT x (by omega) (by omega) (by omega)
    have CD := fun w x => padI RP d 2 w0 w IT x (by omega) (by omega) (by omega)
    have CY := fun w x => padI RP (-y) 4 w0 w IT x (by omega) (by omega) (by omega)
    have sm := padB_size m 2 (by omega) (by omega) (by omega)
    have sd := padB_size d 2 (by omega) (by omega) (by omega)
    have sy := padB_size (-y) 4 (by omega) (by omega) (by omega)
    have HR : Hid (dateB y m d = ⟨#[45]⟩ ++ (padB (-y) 4 ++ ⟨#[45]⟩ ++ padB m 2 ++ ⟨#[45]⟩ ++ padB d 2)) := by show _ = _; unfold dateB; rw [if_pos hn]
    obtain ⟨b, hb⟩ : ∃ b, padB m 2 = b := ⟨_, rfl⟩
    obtain ⟨c, hcc⟩ : ∃ c, padB d 2 = c := ⟨_, rfl⟩
    obtain ⟨a, ha⟩ : ∃ a, padB (-y) 4 = a := ⟨_, rfl⟩
    rw [hb] at CM sm HR
    rw [hcc] at CD sd HR
    rw [ha] at CY sy HR
    have A1 : ∀ w' : World, (Op.stringOp .add a ⟨#[45]⟩).run Tryz.prog w' = .ok (.string (a ++ ⟨#[45]⟩)) w' := fun w' => run_string_add_sum w' _ _ (by have : (⟨#[45]⟩ : ByteArray).size = 1 := rfl; omega)
    have A2 : ∀ w' : World, (Op.stringOp .add (a ++ ⟨#[45]⟩) b).run Tryz.prog w' = .ok (.string (a ++ ⟨#[45]⟩ ++ b)) w' := fun w' => run_string_add_sum w' _ _ (by have : (⟨#[45]⟩ : ByteArray).size = 1 := rfl; simp only [ByteArray.size_append]; omega)
    have A3 : ∀ w' : World, (Op.stringOp .add (a ++ ⟨#[45]⟩ ++ b) ⟨#[45]⟩).run Tryz.prog w' = .ok (.string (a ++ ⟨#[45]⟩ ++ b ++ ⟨#[45]⟩)) w' := fun w' => run_string_add_sum w' _ _ (by have : (⟨#[45]⟩ : ByteArray).size = 1 := rfl; simp only [ByteArray.size_append]; omega)
    have A4 : ∀ w' : World, (Op.stringOp .add (a ++ ⟨#[45]⟩ ++ b ++ ⟨#[45]⟩) c).run Tryz.prog w' = .ok (.string (a ++ ⟨#[45]⟩ ++ b ++ ⟨#[45]⟩ ++ c)) w' := fun w' => run_string_add_sum w' _ _ (by have : (⟨#[45]⟩ : ByteArray).size = 1 := rfl; simp only [ByteArray.size_append]; omega)
    obtain ⟨g, hg⟩ : ∃ g : ByteArray, a ++ ⟨#[45]⟩ ++ b ++ ⟨#[45]⟩ ++ c = g := ⟨_, rfl⟩
    have sg : g.size ≤ 100 := by rw [← hg]; have : (⟨#[45]⟩ : ByteArray).size = 1 := rfl; simp only [ByteArray.size_append]; omega
    rw [hg] at A4 HR
    rw [HR.out]
    have hwy : IntKind.i64.wrap (-y) = -y := by rw [IntKind.wrap_i64]; omega
    have hmx : ¬ (-y < y) := by omega
    have hmy : y < -y := by omega
    clear HR hb hcc ha hg RP IT
    go_enter Tryz.func14, Tryz.ntmps14
    go_wp2_with (first | (go_at_call 32; refine (C1 _).mono ?_; rintro e w' ⟨rfl, rfl⟩) | (go_at_call 33; refine (C2 _).mono ?_; rintro e w' ⟨rfl, rfl⟩))
    go_cut [3] (fun v wc => v = .string g ∧ Box3 wc w.heap.size (.int .i64 y) (.int .i64 m) (.int .i64 d) ∧ Ext w wc)
    case first =>
      go_region_held3 (fun w' => w'.cell? ⟨w.heap.size, 0, none⟩ = some (.int .i64 y) ∧ w'.cell? ⟨w.heap.size, 1, none⟩ = some (.int .i64 m) ∧ w'.cell? ⟨w.heap.size, 2, none⟩ = some (.int .i64 d)) (go_keep) (first
        | (go_at_call_of 36 (Value.int IntKind.i64 m); refine (CM _ (by first | exact xt X0 (xd Y4) | exact xt X0 Y4 | exact xt X0 (xd Y3) | exact xt X0 Y3 | exact xt X0 (xd Y2) | exact xt X0 Y2 | exact xd X0 | exact X0)).mono ?_; rintro e w3 ⟨rfl, e3⟩; have Y3 : Ext (w.alloc (.cells #[.int .i64 y, .int .i64 m, .int .i64 d] 26)) w3 := (by first | exact xt (xd Y4) e3 | exact xt Y4 e3 | exact xt (xd Y2) e3 | exact xt Y2 e3 | exact xt (xd (xr _)) e3 | exact e3); obtain ⟨⟨k0, k1, k2⟩, _⟩ := B.later Y3)
        | (go_at_call_of 36 (Value.int IntKind.i64 d); refine (CD _ (by first | exact xt X0 (xd Y3) | exact xt X0 Y3 | exact xt X0 (xd Y2) | exact xt X0 Y2 | exact xd X0 | exact X0)).mono ?_; rintro e w4 ⟨rfl, e4⟩; have Y4 : Ext (w.alloc (.cells #[.int .i64 y, .int .i64 m, .int .i64 d] 26)) w4 := (by first | exact xt (xd Y3) e4 | exact xt Y3 e4 | exact xt (xd Y2) e4 | exact xt Y2 e4 | exact xt (xd (xr _)) e4 | exact e4); obtain ⟨⟨l0, l1, l2⟩, _⟩ := B.later Y4)
        | (go_at_call_of 36 (Value.int IntKind.i64 (-y)); refine (CY _ (by first | exact xt X0 (xd Y4) | exact xt X0 Y4 | exact xt X0 (xd Y3) | exact xt X0 Y3 | exact xd X0 | exact X0)).mono ?_; rintro e w5 ⟨rfl, e5⟩; have Y2 : Ext (w.alloc (.cells #[.int .i64 y, .int .i64 m, .int .i64 d] 26)) w5 := (by first | exact xt (xd Y4) e5 | exact xt Y4 e5 | exact xt (xd Y3) e5 | exact xt Y3 e5 | exact xt (xd (xr _)) e5 | exact e5); obtain ⟨⟨o0, o1, o2⟩, _⟩ := B.later Y2))
      all_goals go_wp2_with fail
      all_goals
        go_meet
        case rel => exact ⟨rfl, B.later Y4, xt (x1 _ _) Y4⟩
    case rest =>
      obtain ⟨rfl, Bc, Xc⟩ := hcut
      obtain ⟨⟨q0, q1, q2⟩, _⟩ := Bc
      clear C1 C2 f3 f4 A1 A2 A3 A4 CM CD CY B X0 X hmx hwy
      go_wp2_with fail
      go_ret
      exact ⟨rfl, Xc⟩

set_option maxRecDepth 8000 in
set_option maxHeartbeats 2000000 in
theorem dtextI_pos (RP : RepC) (y m d : Int) (w0 w : World) (IT : ItoaC w0) (X : Ext w0 w) (h : DText y m d) (hn : 0 ≤ y) :
    Calls Tryz.prog 14 #[.agg #[.int .i64 y, .int .i64 m, .int .i64 d]] w fun e w' => e = .returned (.string (dateB y m d)) ∧ Ext w w' := by
    obtain ⟨hy, hm, hd⟩ := h
    have C1 := fun w => yearI y w
    have C2 := fun w => monthIt m w
    simp only [hy, and_self, decide_true] at C1
    simp only [hm, and_self, decide_true] at C2
    have f3 : decide (d < 1) = false := by simp; omega
    have f4 : decide (d > 31) = false := by simp; omega
    have B := Box3.made w (.int .i64 y) (.int .i64 m) (.int .i64 d) 26
    have X0 : Ext w0 (w.alloc (.cells #[.int .i64 y, .int .i64 m, .int .i64 d] 26)) := xa X _
    have CM := fun w x => padI RP m 2 w0 w IT x (by omega) (by omega) (by omega)
    have CD := fun w x => padI RP d 2 w0 w IT x (by omega) (by omega) (by omega)
    have CY := fun w x => padI RP y 4 w0 w IT x (by omega) (by omega) (by omega)
    have sm := padB_size m 2 (by omega) (by omega) (by omega)
    have sd := padB_size d 2 (by omega) (by omega) (by omega)
    have sy := padB_size y 4 (by omega) (by omega) (by omega)
    have HR : Hid (dateB y m d = padB y 4 ++ ⟨#[45]⟩ ++ padB m 2 ++ ⟨#[45]⟩ ++ padB d 2) := by show _ = _; unfold dateB; rw [if_neg (by omega)]
    obtain ⟨b, hb⟩ : ∃ b, padB m 2 = b := ⟨_, rfl⟩
    obtain ⟨c, hcc⟩ : ∃ c, padB d 2 = c := ⟨_, rfl⟩
    obtain ⟨a, ha⟩ : ∃ a, padB y 4 = a := ⟨_, rfl⟩
    rw [hb] at CM sm HR
    rw [hcc] at CD sd HR
    rw [ha] at CY sy HR
    have A1 : ∀ w' : World, (Op.stringOp .add a ⟨#[45]⟩).run Tryz.prog w' = .ok (.string (a ++ ⟨#[45]⟩)) w' := fun w' => run_string_add_sum w' _ _ (by have : (⟨#[45]⟩ : ByteArray).size = 1 := rfl; omega)
    have A2 : ∀ w' : World, (Op.stringOp .add (a ++ ⟨#[45]⟩) b).run Tryz.prog w' = .ok (.string (a ++ ⟨#[45]⟩ ++ b)) w' := fun w' => run_string_add_sum w' _ _ (by have : (⟨#[45]⟩ : ByteArray).size = 1 := rfl; simp only [ByteArray.size_append]; omega)
    have A3 : ∀ w' : World, (Op.stringOp .add (a ++ ⟨#[45]⟩ ++ b) ⟨#[45]⟩).run Tryz.prog w' = .ok (.string (a ++ ⟨#[45]⟩ ++ b ++ ⟨#[45]⟩)) w' := fun w' => run_string_add_sum w' _ _ (by have : (⟨#[45]⟩ : ByteArray).size = 1 := rfl; simp only [ByteArray.size_append]; omega)
    have A4 : ∀ w' : World, (Op.stringOp .add (a ++ ⟨#[45]⟩ ++ b ++ ⟨#[45]⟩) c).run Tryz.prog w' = .ok (.string (a ++ ⟨#[45]⟩ ++ b ++ ⟨#[45]⟩ ++ c)) w' := fun w' => run_string_add_sum w' _ _ (by have : (⟨#[45]⟩ : ByteArray).size = 1 := rfl; simp only [ByteArray.size_append]; omega)
    obtain ⟨g, hg⟩ : ∃ g : ByteArray, a ++ ⟨#[45]⟩ ++ b ++ ⟨#[45]⟩ ++ c = g := ⟨_, rfl⟩
    rw [hg] at A4 HR
    rw [HR.out]
    have hwy : IntKind.i64.wrap (-y) = -y := by rw [IntKind.wrap_i64]; omega
    have hmx : (y < -y) = False := eq_false (by omega)
    clear HR hb hcc ha hg RP IT
    go_enter Tryz.func14, Tryz.ntmps14
    go_wp2_with (first | (go_at_call 32; refine (C1 _).mono ?_; rintro e w' ⟨rfl, rfl⟩) | (go_at_call 33; refine (C2 _).mono ?_; rintro e w' ⟨rfl, rfl⟩))
    go_cut [3] (fun v wc => v = .string g ∧ Box3 wc w.heap.size (.int .i64 y) (.int .i64 m) (.int .i64 d) ∧ Ext w wc)
    case first =>
      go_region_held3 (fun w' => w'.cell? ⟨w.heap.size, 0, none⟩ = some (.int .i64 y) ∧ w'.cell? ⟨w.heap.size, 1, none⟩ = some (.int .i64 m) ∧ w'.cell? ⟨w.heap.size, 2, none⟩ = some (.int .i64 d)) (go_keep) (first
        | (go_at_call_of 36 (Value.int IntKind.i64 m); refine (CM _ (by first | exact xt X0 (xd Y4) | exact xt X0 Y4 | exact xt X0 (xd Y3) | exact xt X0 Y3 | exact xt X0 (xd Y2) | exact xt X0 Y2 | exact xd X0 | exact X0)).mono ?_; rintro e w3 ⟨rfl, e3⟩; have Y3 : Ext (w.alloc (.cells #[.int .i64 y, .int .i64 m, .int .i64 d] 26)) w3 := (by first | exact xt (xd Y4) e3 | exact xt Y4 e3 | exact xt (xd Y2) e3 | exact xt Y2 e3 | exact xt (xd (xr _)) e3 | exact e3); obtain ⟨⟨k0, k1, k2⟩, _⟩ := B.later Y3)
        | (go_at_call_of 36 (Value.int IntKind.i64 d); refine (CD _ (by first | exact xt X0 (xd Y3) | exact xt X0 Y3 | exact xt X0 (xd Y2) | exact xt X0 Y2 | exact xd X0 | exact X0)).mono ?_; rintro e w4 ⟨rfl, e4⟩; have Y4 : Ext (w.alloc (.cells #[.int .i64 y, .int .i64 m, .int .i64 d] 26)) w4 := (by first | exact xt (xd Y3) e4 | exact xt Y3 e4 | exact xt (xd Y2) e4 | exact xt Y2 e4 | exact xt (xd (xr _)) e4 | exact e4); obtain ⟨⟨l0, l1, l2⟩, _⟩ := B.later Y4)
        | (go_at_call_of 36 (Value.int IntKind.i64 y); refine (CY _ (by first | exact xt X0 (xd Y4) | exact xt X0 Y4 | exact xt X0 (xd Y3) | exact xt X0 Y3 | exact xd X0 | exact X0)).mono ?_; rintro e w5 ⟨rfl, e5⟩; have Y2 : Ext (w.alloc (.cells #[.int .i64 y, .int .i64 m, .int .i64 d] 26)) w5 := (by first | exact xt (xd Y4) e5 | exact xt Y4 e5 | exact xt (xd Y3) e5 | exact xt Y3 e5 | exact xt (xd (xr _)) e5 | exact e5); obtain ⟨⟨o0, o1, o2⟩, _⟩ := B.later Y2))
      all_goals go_wp2_with fail
      all_goals
        go_meet
        case rel => exact ⟨rfl, B.later Y4, xt (x1 _ _) Y4⟩
    case rest =>
      obtain ⟨rfl, Bc, Xc⟩ := hcut
      obtain ⟨⟨q0, q1, q2⟩, _⟩ := Bc
      clear C1 C2 f3 f4 A1 A2 A3 A4 CM CD CY B X0 X hmx hwy
      go_wp2_with fail
      go_ret
      exact ⟨rfl, Xc⟩

end Go.Proofs.YtmcmohooodpfeaaGreatDoor
