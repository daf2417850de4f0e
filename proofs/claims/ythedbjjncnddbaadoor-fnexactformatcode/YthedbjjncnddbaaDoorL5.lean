/-
  Chapter 10: pieces of codes, by the program.
-/
import Derived.Test.YthedbjjncnddbaaDoorL4
import Derived.Test.YthedbjjncnddbaaDoorShelc
import Derived.BigRegion
namespace Go.Proofs.YthedbjjncnddbaaDoor
open Go.RowKit

theorem extraK : Builder.Extra Tryd.prog layRepeat_ren := {
  sizeBuilder := by kernel_rfl
  liesBuilder := by kernel_rfl
  t5 := layRepeat.t5
  a5 := layRepeat.a5
  z5 := layRepeat.z5
  v5 := layRepeat.v5
  infoByte := by kernel_rfl
  cellsByte := by kernel_rfl
  sizeByte := by kernel_rfl
  neB5 := by decide }
theorem fRepeatK : layRepeat_ren.f 105 = 35 := by kernel_rfl
theorem repF_rep (c : UInt8) (n : Nat) : repF [c] n = List.replicate n c := by
  induction n with
  | zero => rfl
  | succ n ih => rw [List.replicate_succ', ← ih]; rfl
theorem repeatI (c : UInt8) (n : Nat) (hn : n ≤ 1000) (w : World) :
    Calls Tryd.prog 35 #[sV [c], .int .i64 (n : Int)] w fun e w' => e = .returned (sV (repF [c] n)) ∧ Ext w w' := by
  have h := Any.strings_Repeat layRepeat extraK ⟨#[c]⟩ n w (by omega) (by show 1 * n ≤ _; omega)
  rw [fRepeatK] at h
  refine h.mono fun e w' ⟨he, hw⟩ => ⟨?_, hw⟩
  rw [he, repF_rep]
  have e := Lib.repeatL_replicate c 1 n
  simp only [Nat.mul_one] at e
  rw [← e]
  rfl
set_option maxHeartbeats 1000000 in
theorem quoI (s : BL) (hs : s.length ≤ 2000000) (w : World) : Calls Tryd.prog 34 #[sV s] w fun e w' => e = .returned (sV (quoB s)) ∧ w' = w := by
  by_cases h : s = []
  · subst h
    go_enter Tryd.func34, Tryd.ntmps34
    go_wp2_with fail
    go_ret
    exact ⟨rfl, rfl⟩
  · have he : (s == []) = false := by rw [beq_eq_false_iff_ne]; exact h
    have HQ : Hid (quoB s = 34 :: (s ++ [34])) := quoB_not h
    have z := szB s
    go_enter Tryd.func34, Tryd.ntmps34
    go_wp2_with fail
    go_ret
    exact ⟨by rw [HQ.out]; simp only [app_str]; rfl, rfl⟩
theorem run_min4 (x y z u : Int) : ∃ m, (∀ W : World, (Builtin.min_ #[3, 3, 3, 3] 3 #[.int .i64 x, .int .i64 y, .int .i64 z, .int .i64 u]).run Tryd.prog W = .ok (.int .i64 m) W) ∧ (0 ≤ m ↔ (0 ≤ x ∧ 0 ≤ y ∧ 0 ≤ z ∧ 0 ≤ u)) := by
  refine ⟨(if u < (if z < (if y < x then y else x) then z else (if y < x then y else x)) then u else (if z < (if y < x then y else x) then z else (if y < x then y else x))), fun W => by simp [Builtin.min_, Builtin.min2], ?_⟩
  repeat' split
  all_goals omega
theorem run_max4 (x y z u : Int) : ∃ m, (∀ W : World, (Builtin.max_ #[3, 3, 3, 3] 3 #[.int .i64 x, .int .i64 y, .int .i64 z, .int .i64 u]).run Tryd.prog W = .ok (.int .i64 m) W) ∧ (m ≤ 9 ↔ (x ≤ 9 ∧ y ≤ 9 ∧ z ≤ 9 ∧ u ≤ 9)) := by
  refine ⟨(if u > (if z > (if y > x then y else x) then z else (if y > x then y else x)) then u else (if z > (if y > x then y else x) then z else (if y > x then y else x))), fun W => by simp [Builtin.max_, Builtin.max2], ?_⟩
  repeat' split
  all_goals omega
def cntB (f : KT) : Bool := decide (0 ≤ f.wh ∧ 0 ≤ f.pl ∧ 0 ≤ f.mb ∧ 0 ≤ f.tm ∧ f.wh ≤ 9 ∧ f.pl ≤ 9 ∧ f.mb ≤ 9 ∧ f.tm ≤ 9)
set_option maxRecDepth 8000 in
set_option maxHeartbeats 4000000 in
theorem cntI (f : KT) (w : World) : Calls Tryd.prog 22 #[.agg f.cells.toArray] w fun e w' => e = .returned (.bool (cntB f)) ∧ Ext w w' := by
  obtain ⟨ng, bf, af, wh, pl, mb, gr, tm, dt⟩ := f
  have V0 := vec_made w (KT.cells ⟨ng, bf, af, wh, pl, mb, gr, tm, dt⟩) 33
  have X0 := x1 w (.cells (KT.cells ⟨ng, bf, af, wh, pl, mb, gr, tm, dt⟩).toArray 33)
  obtain ⟨w0, hw0⟩ : ∃ w0, w.alloc (.cells (KT.cells ⟨ng, bf, af, wh, pl, mb, gr, tm, dt⟩).toArray 33) = w0 := ⟨_, rfl⟩
  rw [hw0] at V0 X0
  have hw0 : w.alloc (.cells #[.bool ng, sV bf, sV af, .int .i64 wh, .int .i64 pl, .int .i64 mb, .bool gr, .int .i64 tm, sV dt] 33) = w0 := hw0
  have a3 := (V0 3 _ rfl).1
  have a4 := (V0 4 _ rfl).1
  have a5 := (V0 5 _ rfl).1
  have a7 := (V0 7 _ rfl).1
  clear V0
  obtain ⟨mn, hmn, h1⟩ := run_min4 wh pl mb tm
  obtain ⟨mx, hmx, h2⟩ := run_max4 wh pl mb tm
  have HB : Hid (cntB ⟨ng, bf, af, wh, pl, mb, gr, tm, dt⟩ = (decide (0 ≤ mn) && decide (mx ≤ 9))) := by
    show _ = _
    unfold cntB
    rw [← Bool.decide_and]
    congr 1
    rw [h1, h2]
    dsimp only
    apply propext
    constructor
    · rintro ⟨q1, q2, q3, q4, q5, q6, q7, q8⟩; exact ⟨⟨q1, q2, q3, q4⟩, q5, q6, q7, q8⟩
    · rintro ⟨⟨q1, q2, q3, q4⟩, q5, q6, q7, q8⟩; exact ⟨q1, q2, q3, q4, q5, q6, q7, q8⟩
  obtain ⟨R, hR⟩ : ∃ R, cntB ⟨ng, bf, af, wh, pl, mb, gr, tm, dt⟩ = R := ⟨_, rfl⟩
  rw [hR] at HB ⊢
  clear hR h1 h2
  go_enter Tryd.func22, Tryd.ntmps22
  go_wp2_with fail
  go_quiet (fail)
  clear a3 a4 a5 a7 hmn hmx
  all_goals
    by_cases g1 : 0 ≤ mn
    · go_wp2_with fail
      go_ret
      exact ⟨ret_bool (by rw [HB.out, decide_eq_true g1, Bool.true_and]), xdNk X0 _⟩
    · have g2 : mn < 0 := by omega
      go_wp2_with fail
      go_ret
      exact ⟨ret_bool (by rw [HB.out, decide_eq_false (show ¬ 0 ≤ mn by omega), Bool.false_and]), xdNk X0 _⟩

end Go.Proofs.YthedbjjncnddbaaDoor
