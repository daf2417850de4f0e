/-
  The program's number in at least so many digits; the text of a date on both sides.
-/
import Derived.Test.YtmcmohooodpfeaaGreatDoorDgS
import Derived.Test.YtmcmohooodpfeaaGreatDoorDatS
import Derived.Deep.QuietTactic
import Derived.BigQuiet
import Derived.Deep.RegionWith
import Derived.Deep.RegionHeld3
import Derived.Deep.DeepCutAuto
namespace Go.Proofs.YtmcmohooodpfeaaGreatDoor
open Go.RowKit

theorem string_extL {s t : ByteArray} (h : s.data.toList = t.data.toList) : s = t := by
  cases s
  cases t
  simp only [ByteArray.mk.injEq]
  exact Array.toList_inj.1 h
def padB (n : Int) (k : Nat) : ByteArray := ⟨(padT n k).toArray⟩
theorem padB_list (n : Int) (k : Nat) : (padB n k).data.toList = padT n k := rfl
theorem padB_size (n : Int) (k : Nat) (n0 : 0 ≤ n) (n1 : n ≤ 9999) (hk : k ≤ 4) : (padB n k).size ≤ 20 := by
  rw [size_ofL (padB_list n k)]
  have := dec_lenD n0 n1
  simp [padT]
  omega

theorem digB (n : Int) (k : Nat) (w : World) (n0 : 0 ≤ n) (n1 : n ≤ 9999) (hk : k ≤ 4) :
    Calls Tryz.prog 64 #[.int .i64 n, .int .i64 k] w fun e w' => e = .returned (.string (padB n k)) ∧ Ext w w' := by
  refine (digS n k w n0 n1 hk).mono ?_
  rintro e w' ⟨s, rfl, hs, e1⟩
  rw [string_extL (hs.trans (padB_list n k).symm)]
  exact ⟨rfl, e1⟩

set_option maxRecDepth 4000 in
set_option maxHeartbeats 1000000 in
theorem padI (RP : RepC) (n : Int) (k : Nat) (w0 w : World) (IT : ItoaC w0) (X0 : Ext w0 w) (n0 : 0 ≤ n) (n1 : n ≤ 9999) (hk : k ≤ 4) :
    Calls Tryz.prog 36 #[.int .i64 n, .int .i64 k] w fun e w' => e = .returned (.string (padB n k)) ∧ Ext w w' := by
  have dl := dec_lenD n0 n1
  have hi : Hid (Lib.itoa n = Lib.decDigits n.toNat) := by show Lib.itoa n = _; unfold Lib.itoa; rw [if_neg (by omega)]
  go_enter Tryz.func36, Tryz.ntmps36
  go_wp2_with fail
  refine (IT n _ (by omega) (by omega) X0).mono ?_
  rintro e w1 ⟨t, rfl, ht, e1⟩
  rw [hi.out] at ht
  have hsz := size_ofL ht
  obtain ⟨L, hL⟩ : ∃ L, (Lib.decDigits n.toNat).length = L := ⟨_, rfl⟩
  have HS : Hid (t.data.toList = Lib.decDigits n.toNat) := ht
  have HL : Hid ((Lib.decDigits n.toNat).length = L) := hL
  rw [hL] at hsz dl
  clear hL ht n0 n1 IT hi
  obtain ⟨j, hj⟩ : ∃ j : Nat, k - L = j := ⟨_, rfl⟩
  have hj4 : j ≤ 4 := by omega
  have R : Hid (∀ w : World, Calls Tryz.prog 57 #[.string ⟨#[48]⟩, .int .i64 j] w fun e w' => ∃ s, e = .returned (.string s) ∧ s.data.toList = List.replicate j 48 ∧ Ext w w') := fun w => RP j w (by omega) (by omega)
  have HJ : Hid (k - L = j) := hj
  by_cases hlt : L < k
  · have hw : (j : Int) = (k : Int) - (L : Int) := by omega
    have hj0 : (0 : Int) < (k : Int) - (L : Int) := by omega
    rw [hw] at R
    clear hj RP hw
    go_wp2_with fail
    refine (R.out _).mono ?_
    rintro e w2 ⟨u, rfl, hu, e2⟩
    have usz := size_ofL hu
    rw [List.length_replicate] at usz
    have HU : Hid (u.data.toList = List.replicate j 48) := hu
    clear hu R
    go_wp2_with fail
    go_ret
    refine ⟨?_, xt e1 e2⟩
    rw [string_extL (s := u ++ t) (t := padB n k) (by rw [padB_list]; simp [padT, HS.out, HU.out, HL.out, HJ.out])]
    rfl
  · have hj0 : j = 0 := by omega
    subst hj0
    have R0 : Hid (∀ w : World, Calls Tryz.prog 57 #[.string ⟨#[48]⟩, .int .i64 0] w fun e w' => ∃ s, e = .returned (.string s) ∧ s.data.toList = List.replicate 0 48 ∧ Ext w w') := R.out
    clear hj RP R
    rcases Nat.lt_or_eq_of_le (show k ≤ L by omega) with g | g
    · have hw4 : (k : Int) - (L : Int) < 0 := by omega
      go_wp2_with fail
      refine (R0.out _).mono ?_
      rintro e w2 ⟨u, rfl, hu, e2⟩
      have usz := size_ofL hu
      rw [List.length_replicate] at usz
      have HU : Hid (u.data.toList = List.replicate 0 48) := hu
      clear hu R0
      go_wp2_with fail
      go_ret
      refine ⟨?_, xt e1 e2⟩
      rw [string_extL (s := u ++ t) (t := padB n k) (by rw [padB_list]; simp [padT, HS.out, HU.out, HL.out, HJ.out])]
      rfl
    · have hw4 : (k : Int) - (L : Int) = 0 := by omega
      go_wp2_with fail
      refine (R0.out _).mono ?_
      rintro e w2 ⟨u, rfl, hu, e2⟩
      have usz := size_ofL hu
      rw [List.length_replicate] at usz
      have HU : Hid (u.data.toList = List.replicate 0 48) := hu
      clear hu R0
      go_wp2_with fail
      go_ret
      refine ⟨?_, xt e1 e2⟩
      rw [string_extL (s := u ++ t) (t := padB n k) (by rw [padB_list]; simp [padT, HS.out, HU.out, HL.out, HJ.out])]
      rfl

/-- A date's text. -/
def dateB (y m d : Int) : ByteArray := if y < 0 then ⟨#[45]⟩ ++ (padB (-y) 4 ++ ⟨#[45]⟩ ++ padB m 2 ++ ⟨#[45]⟩ ++ padB d 2) else padB y 4 ++ ⟨#[45]⟩ ++ padB m 2 ++ ⟨#[45]⟩ ++ padB d 2
def DText (y m d : Int) : Prop := (-5000 ≤ y ∧ y ≤ 9999) ∧ (1 ≤ m ∧ m ≤ 12) ∧ 1 ≤ d ∧ d ≤ 31

set_option maxRecDepth 4000 in
set_option maxHeartbeats 1000000 in
theorem dtextS_no (y m d : Int) (w : World) (h : ¬ DText y m d) :
    Calls Tryz.prog 48 #[.agg #[.int .i64 y, .int .i64 m, .int .i64 d]] w fun e w' => e = .returned (.string ⟨#[]⟩) ∧ Ext w w' := by
  have C1 := fun w => yearS y w
  by_cases hy : -5000 ≤ y ∧ y ≤ 9999
  · simp only [hy, and_self, decide_true] at C1
    by_cases m1 : m < 1
    · have f1 : decide (m < 1) = true := by simp; omega
      clear h hy m1
      go_enter Tryz.func48, Tryz.ntmps48
      go_wp2_with (go_at_call 45; refine (C1 _).mono ?_; rintro e w' ⟨rfl, rfl⟩)
      go_ret
      exact ⟨rfl, x1 _ _⟩
    · have f1 : decide (m < 1) = false := by simp; omega
      by_cases m2 : 12 < m
      · have f2 : decide (m > 12) = true := by simp; omega
        clear h hy m1 m2
        go_enter Tryz.func48, Tryz.ntmps48
        go_wp2_with (go_at_call 45; refine (C1 _).mono ?_; rintro e w' ⟨rfl, rfl⟩)
        go_ret
        exact ⟨rfl, x1 _ _⟩
      · have f2 : decide (m > 12) = false := by simp; omega
        by_cases d1 : d < 1
        · have f3 : decide (d < 1) = true := by simp; omega
          clear h hy m1 m2 d1
          go_enter Tryz.func48, Tryz.ntmps48
          go_wp2_with (go_at_call 45; refine (C1 _).mono ?_; rintro e w' ⟨rfl, rfl⟩)
          go_ret
          exact ⟨rfl, x1 _ _⟩
        · have f3 : decide (d < 1) = false := by simp; omega
          have f4 : decide (d > 31) = true := by unfold DText at h; simp; omega
          clear h hy m1 m2 d1
          go_enter Tryz.func48, Tryz.ntmps48
          go_wp2_with (go_at_call 45; refine (C1 _).mono ?_; rintro e w' ⟨rfl, rfl⟩)
          go_ret
          exact ⟨rfl, x1 _ _⟩
  · simp only [hy, decide_false] at C1
    clear h hy
    go_enter Tryz.func48, Tryz.ntmps48
    go_wp2_with (go_at_call 45; refine (C1 _).mono ?_; rintro e w' ⟨rfl, rfl⟩)
    go_ret
    exact ⟨rfl, x1 _ _⟩

set_option maxRecDepth 8000 in
set_option maxHeartbeats 1000000 in
theorem dtextS_ok (y m d : Int) (w : World) (h : DText y m d) :
    Calls Tryz.prog 48 #[.agg #[.int .i64 y, .int .i64 m, .int .i64 d]] w fun e w' => e = .returned (.string (dateB y m d)) ∧ Ext w w' := by
  obtain ⟨hy, hm, hd⟩ := h
  have C1 := fun w => yearS y w
  simp only [hy, and_self, decide_true] at C1
  have f1 : decide (m < 1) = false := by simp; omega
  have f2 : decide (m > 12) = false := by simp; omega
  have f3 : decide (d < 1) = false := by simp; omega
  have f4 : decide (d > 31) = false := by simp; omega
  have B := Box3.made w (.int .i64 y) (.int .i64 m) (.int .i64 d) 26
  have CM := fun w => digB m 2 w (by omega) (by omega) (by omega)
  have CD := fun w => digB d 2 w (by omega) (by omega) (by omega)
  have sm := padB_size m 2 (by omega) (by omega) (by omega)
  have sd := padB_size d 2 (by omega) (by omega) (by omega)
  by_cases hn : y < 0
  · have CY := fun w => digB (-y) 4 w (by omega) (by omega) (by omega)
    have CN := fun w => digS_neg y w hn (by omega)
    have sy := padB_size (-y) 4 (by omega) (by omega) (by omega)
    have HR : Hid (dateB y m d = ⟨#[45]⟩ ++ (padB (-y) 4 ++ ⟨#[45]⟩ ++ padB m 2 ++ ⟨#[45]⟩ ++ padB d 2)) := by show _ = _; unfold dateB; rw [if_pos hn]
    obtain ⟨b, hb⟩ : ∃ b, padB m 2 = b := ⟨_, rfl⟩
    obtain ⟨c, hcc⟩ : ∃ c, padB d 2 = c := ⟨_, rfl⟩
    obtain ⟨a, ha⟩ : ∃ a, padB (-y) 4 = a := ⟨_, rfl⟩
    rw [hb] at CM sm HR
    rw [hcc] at CD sd HR
    rw [ha] at CY sy HR
    obtain ⟨g, hg⟩ : ∃ g : ByteArray, (⟨#[45]⟩ : ByteArray) ++ a = g := ⟨_, rfl⟩
    have A0 : ∀ w' : World, (Op.stringOp .add ⟨#[45]⟩ a).run Tryz.prog w' = .ok (.string g) w' := fun w' => by rw [← hg]; exact run_string_add_sum w' _ _ (by have : (⟨#[45]⟩ : ByteArray).size = 1 := rfl; omega)
    have sg : g.size ≤ 21 := by rw [← hg, ByteArray.size_append]; have : (⟨#[45]⟩ : ByteArray).size = 1 := rfl; omega
    have HG : Hid (g ++ ⟨#[45]⟩ ++ b ++ ⟨#[45]⟩ ++ c = ⟨#[45]⟩ ++ (a ++ ⟨#[45]⟩ ++ b ++ ⟨#[45]⟩ ++ c)) := by show _ = _; rw [← hg]; simp only [ByteArray.append_assoc]
    rw [HR.out, ← HG.out]
    clear hg HG
    have A1 : ∀ w' : World, (Op.stringOp .add g ⟨#[45]⟩).run Tryz.prog w' = .ok (.string (g ++ ⟨#[45]⟩)) w' := fun w' => run_string_add_sum w' _ _ (by have : (⟨#[45]⟩ : ByteArray).size = 1 := rfl; omega)
    have A2 : ∀ w' : World, (Op.stringOp .add (g ++ ⟨#[45]⟩) b).run Tryz.prog w' = .ok (.string (g ++ ⟨#[45]⟩ ++ b)) w' := fun w' => run_string_add_sum w' _ _ (by have : (⟨#[45]⟩ : ByteArray).size = 1 := rfl; simp only [ByteArray.size_append]; omega)
    have A3 : ∀ w' : World, (Op.stringOp .add (g ++ ⟨#[45]⟩ ++ b) ⟨#[45]⟩).run Tryz.prog w' = .ok (.string (g ++ ⟨#[45]⟩ ++ b ++ ⟨#[45]⟩)) w' := fun w' => run_string_add_sum w' _ _ (by have : (⟨#[45]⟩ : ByteArray).size = 1 := rfl; simp only [ByteArray.size_append]; omega)
    have A4 : ∀ w' : World, (Op.stringOp .add (g ++ ⟨#[45]⟩ ++ b ++ ⟨#[45]⟩) c).run Tryz.prog w' = .ok (.string (g ++ ⟨#[45]⟩ ++ b ++ ⟨#[45]⟩ ++ c)) w' := fun w' => run_string_add_sum w' _ _ (by have : (⟨#[45]⟩ : ByteArray).size = 1 := rfl; simp only [ByteArray.size_append]; omega)
    clear HR hb hcc ha
    have hwy : wrap64 (-y) = -y := by unfold wrap64; omega
    go_enter Tryz.func48, Tryz.ntmps48
    go_wp2_with (go_at_call 45; refine (C1 _).mono ?_; rintro e w' ⟨rfl, rfl⟩)
    refine (CN _).mono ?_
    rintro e w1 ⟨s0, rfl, e1⟩
    obtain ⟨⟨q0, q1, q2⟩, _⟩ := B.later e1
    go_wp2_with fail
    refine (CY _).mono ?_
    rintro e w2 ⟨rfl, e2⟩
    have B2 := B.later (xt e1 e2)
    clear q0 q1 q2
    have B2' := B2
    obtain ⟨⟨q0, q1, q2⟩, _⟩ := B2'
    go_wp2_with fail
    go_region_held3 (fun w' => w'.cell? ⟨w.heap.size, 1, none⟩ = some (.int .i64 m) ∧ w'.cell? ⟨w.heap.size, 2, none⟩ = some (.int .i64 d)) (go_keep) (first
      | (go_at_call_of 64 (Value.int IntKind.i64 m); refine (CM _).mono ?_; rintro e w3 ⟨rfl, e3⟩; have Y3 : Ext w2 w3 := (by first | exact xt (xd Y2) e3 | exact xt Y2 e3 | exact xt (xd (xr _)) e3 | exact e3); obtain ⟨⟨k0, k1, k2⟩, _⟩ := B2.later Y3)
      | (go_at_call_of 64 (Value.int IntKind.i64 d); refine (CD _).mono ?_; rintro e w4 ⟨rfl, e4⟩; have Y2 : Ext w2 w4 := (by first | exact xt (xd Y3) e4 | exact xt Y3 e4 | exact xt (xd (xr _)) e4 | exact e4); obtain ⟨⟨l0, l1, l2⟩, _⟩ := B2.later Y2))
    go_wp2_with fail
    go_ret
    exact ⟨rfl, xt (x1 _ _) (xt (xt e1 e2) Y2)⟩
  · have CY := fun w => digB y 4 w (by omega) (by omega) (by omega)
    have sy := padB_size y 4 (by omega) (by omega) (by omega)
    have HR : Hid (dateB y m d = padB y 4 ++ ⟨#[45]⟩ ++ padB m 2 ++ ⟨#[45]⟩ ++ padB d 2) := by show _ = _; unfold dateB; rw [if_neg hn]
    obtain ⟨b, hb⟩ : ∃ b, padB m 2 = b := ⟨_, rfl⟩
    obtain ⟨c, hcc⟩ : ∃ c, padB d 2 = c := ⟨_, rfl⟩
    obtain ⟨a, ha⟩ : ∃ a, padB y 4 = a := ⟨_, rfl⟩
    rw [hb] at CM sm HR
    rw [hcc] at CD sd HR
    rw [ha] at CY sy HR
    rw [HR.out]
    have A1 : ∀ w' : World, (Op.stringOp .add a ⟨#[45]⟩).run Tryz.prog w' = .ok (.string (a ++ ⟨#[45]⟩)) w' := fun w' => run_string_add_sum w' _ _ (by have : (⟨#[45]⟩ : ByteArray).size = 1 := rfl; omega)
    have A2 : ∀ w' : World, (Op.stringOp .add (a ++ ⟨#[45]⟩) b).run Tryz.prog w' = .ok (.string (a ++ ⟨#[45]⟩ ++ b)) w' := fun w' => run_string_add_sum w' _ _ (by have : (⟨#[45]⟩ : ByteArray).size = 1 := rfl; simp only [ByteArray.size_append]; omega)
    have A3 : ∀ w' : World, (Op.stringOp .add (a ++ ⟨#[45]⟩ ++ b) ⟨#[45]⟩).run Tryz.prog w' = .ok (.string (a ++ ⟨#[45]⟩ ++ b ++ ⟨#[45]⟩)) w' := fun w' => run_string_add_sum w' _ _ (by have : (⟨#[45]⟩ : ByteArray).size = 1 := rfl; simp only [ByteArray.size_append]; omega)
    have A4 : ∀ w' : World, (Op.stringOp .add (a ++ ⟨#[45]⟩ ++ b ++ ⟨#[45]⟩) c).run Tryz.prog w' = .ok (.string (a ++ ⟨#[45]⟩ ++ b ++ ⟨#[45]⟩ ++ c)) w' := fun w' => run_string_add_sum w' _ _ (by have : (⟨#[45]⟩ : ByteArray).size = 1 := rfl; simp only [ByteArray.size_append]; omega)
    clear HR hb hcc ha
    go_enter Tryz.func48, Tryz.ntmps48
    go_wp2_with (go_at_call 45; refine (C1 _).mono ?_; rintro e w' ⟨rfl, rfl⟩)
    refine (CY _).mono ?_
    rintro e w2 ⟨rfl, e1⟩
    have B2 := B.later e1
    have B2' := B2
    obtain ⟨⟨q0, q1, q2⟩, _⟩ := B2'
    go_wp2_with fail
    go_region_held3 (fun w' => w'.cell? ⟨w.heap.size, 1, none⟩ = some (.int .i64 m) ∧ w'.cell? ⟨w.heap.size, 2, none⟩ = some (.int .i64 d)) (go_keep) (first
      | (go_at_call_of 64 (Value.int IntKind.i64 m); refine (CM _).mono ?_; rintro e w3 ⟨rfl, e3⟩; have Y3 : Ext w2 w3 := (by first | exact xt (xd Y2) e3 | exact xt Y2 e3 | exact xt (xd (xr _)) e3 | exact e3); obtain ⟨⟨k0, k1, k2⟩, _⟩ := B2.later Y3)
      | (go_at_call_of 64 (Value.int IntKind.i64 d); refine (CD _).mono ?_; rintro e w4 ⟨rfl, e4⟩; have Y2 : Ext w2 w4 := (by first | exact xt (xd Y3) e4 | exact xt Y3 e4 | exact xt (xd (xr _)) e4 | exact e4); obtain ⟨⟨l0, l1, l2⟩, _⟩ := B2.later Y2))
    go_wp2_with fail
    go_ret
    exact ⟨rfl, xt (x1 _ _) (xt e1 Y2)⟩

end Go.Proofs.YtmcmohooodpfeaaGreatDoor
