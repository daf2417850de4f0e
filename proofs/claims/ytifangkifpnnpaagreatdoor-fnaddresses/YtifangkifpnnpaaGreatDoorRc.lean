/-
  RefTextBy on both sides, and the law.
-/
import Derived.Test.YtifangkifpnnpaaGreatDoorRb
namespace Go.Proofs.YtifangkifpnnpaaGreatDoor
open Go.RowKit

theorem notGood {r c : Int} (h : ¬ GoodR r c) : goodRB r c = false := by
  rw [← Bool.not_eq_true, goodRB_iff]
  exact h
set_option maxRecDepth 8000 in
set_option maxHeartbeats 1000000 in
theorem byTextI (r c : Int) (rf cf : Bool) (row col : Int) (w : World) {w0 : World} (IT : ItoaC w0) (X0 : Ext w0 w) :
    Calls Tryz.prog 6 #[refV r c rf cf, .int .i64 row, .int .i64 col] w fun e w' => e = .returned (.string (bs (byT r c rf cf row col))) ∧ Ext w w' := by
  have X := x1 w (.cells #[.int .i64 r, .int .i64 c, .bool rf, .bool cf] 24)
  go_enter Tryz.func6, Tryz.ntmps6
  go_wp2_with fail
  refine (seenFromI _ _ _ _ _ _ _).mono ?_
  rintro e w1 ⟨rfl, e1⟩
  have P := Vec.made8 w1 (.int .i64 r) (.int .i64 c) (.bool rf) (.bool cf) (.int .i64 row) (.int .i64 col) (.bool false) (.bool false) 45
  have X2 := xa (xt X e1) (.cells #[.int .i64 r, .int .i64 c, .bool rf, .bool cf, .int .i64 row, .int .i64 col, .bool false, .bool false] 45)
  clear X e1
  go_wp2_with fail
  refine (seenGoodI _ _ _ _ _ _ _).mono ?_
  rintro e w3 ⟨rfl, e3⟩
  have X3 := xt X2 e3
  obtain ⟨⟨⟨a0, a1, a2, a3⟩, a4, a5, a6, a7⟩, _⟩ := (P.later e3).box8
  clear P X2 e3
  by_cases hg : GoodR r c ∧ GoodR row col
  · have HR : Hid (byT r c rf cf row col = byL r c rf cf row col) := by show _ = _; unfold byT; rw [if_pos hg]
    rw [(goodRB_iff r c).2 hg.1, (goodRB_iff row col).2 hg.2]
    have TX := seenTextI r c rf cf row col w3 IT (xt X0 X3) hg.1 hg.2
    clear hg
    go_wp2_with fail
    refine TX.mono ?_
    rintro e w4 ⟨rfl, e4⟩
    go_wp2_with fail
    go_ret
    exact ⟨ret_str (by rw [HR.out]), xt X3 e4⟩
  · have HR : Hid (byT r c rf cf row col = []) := by show _ = _; unfold byT; rw [if_neg hg]
    have hb : (goodRB r c && goodRB row col) = false := by
      rw [Bool.and_eq_false_iff]
      by_cases h1 : GoodR r c
      · exact .inr (notGood (fun h2 => hg ⟨h1, h2⟩))
      · exact .inl (notGood h1)
    rw [hb]
    clear hg hb
    go_wp2_with fail
    go_ret
    exact ⟨ret_str (by rw [HR.out]; rfl), X3⟩

set_option maxRecDepth 8000 in
set_option maxHeartbeats 1000000 in
theorem placeS (row col : Int) (w : World) :
    Calls Tryz.prog 27 #[.int .i64 row, .int .i64 col] w fun e w' => e = .returned (.bool (goodRB row col)) ∧ Ext w w' := by
  go_enter Tryz.func27, Tryz.ntmps27
  go_wp2_with fail
  refine (goodRS _ _ _ _ _).mono ?_
  rintro e w1 ⟨rfl, e1⟩
  go_wp2_with fail
  go_ret
  exact ⟨rfl, e1⟩

set_option maxRecDepth 8000 in
set_option maxHeartbeats 1000000 in
theorem byTextS (r c : Int) (rf cf : Bool) (row col : Int) (w : World) :
    Calls Tryz.prog 8 #[refV r c rf cf, .int .i64 row, .int .i64 col] w fun e w' => e = .returned (.string (bs (byT r c rf cf row col))) ∧ Ext w w' := by
  have B := Box4.made w (.int .i64 r) (.int .i64 c) (.bool rf) (.bool cf) 24
  have X := x1 w (.cells #[.int .i64 r, .int .i64 c, .bool rf, .bool cf] 24)
  have G := fun w => goodRS r c rf cf w
  have PL := fun w => placeS row col w
  by_cases hg : GoodR r c
  · rw [(goodRB_iff r c).2 hg] at G
    by_cases hh : GoodR row col
    · rw [(goodRB_iff row col).2 hh] at PL
      obtain ⟨⟨r0, r1⟩, c0, c1⟩ := hg
      obtain ⟨⟨t0, t1⟩, d0, d1⟩ := hh
      have F1 : ∀ w', Calls Tryz.prog 28 #[.string ⟨#[82]⟩, .int .i64 r, .int .i64 row, .bool rf] w' fun e w'' => e = .returned (.string (bs ([82] ++ farL r row rf))) ∧ Ext w' w'' := fun w' => byS 82 r row rf w' r0 r1 t0 t1
      have F2 : ∀ w', Calls Tryz.prog 28 #[.string ⟨#[67]⟩, .int .i64 c, .int .i64 col, .bool cf] w' fun e w'' => e = .returned (.string (bs ([67] ++ farL c col cf))) ∧ Ext w' w'' := fun w' => byS 67 c col cf w' c0 (by omega) d0 (by omega)
      obtain ⟨k1, z1⟩ : ∃ k, (bs ([82] ++ farL r row rf)).size = k := ⟨_, rfl⟩
      obtain ⟨k2, z2⟩ : ∃ k, (bs ([67] ++ farL c col cf)).size = k := ⟨_, rfl⟩
      have l1 : k1 ≤ 8 := by rw [← z1, bs_size]; have := farL_len r0 r1 t0 t1 rf; simp; omega
      have l2 : k2 ≤ 8 := by rw [← z2, bs_size]; have := farL_len c0 (by omega) d0 (by omega) cf; simp; omega
      have HR : Hid (bs (byT r c rf cf row col) = bs ([82] ++ farL r row rf) ++ bs ([67] ++ farL c col cf)) := by
        show _ = _
        unfold byT
        rw [if_pos ⟨⟨⟨r0, r1⟩, c0, c1⟩, ⟨t0, t1⟩, d0, d1⟩, bs_app]
        simp [byL]
      obtain ⟨s1, e1'⟩ : ∃ s, bs ([82] ++ farL r row rf) = s := ⟨_, rfl⟩
      obtain ⟨s2, e2'⟩ : ∃ s, bs ([67] ++ farL c col cf) = s := ⟨_, rfl⟩
      rw [e1'] at F1 z1 HR
      rw [e2'] at F2 z2 HR
      have q1 : (9223372036854775807 < k1 + k2) = False := eq_false (by omega)
      clear r0 r1 c0 c1 t0 t1 d0 d1 e1' e2'
      go_enter Tryz.func8, Tryz.ntmps8
      go_wp2_with fail
      refine (G _).mono ?_
      rintro e w1 ⟨rfl, e1⟩
      go_wp2_with fail
      refine (PL _).mono ?_
      rintro e w2 ⟨rfl, e2⟩
      have B2 := (B.later e1).later e2
      have X2 := xt (xt X e1) e2
      have Y := xr w2
      obtain ⟨⟨a0, a1, a2, a3⟩, _⟩ := B2.later Y
      clear B X e1 e2 G PL
      go_wp2_with fail
      go_region_held3 (fun w' => w'.cell? ⟨w.heap.size, 0, none⟩ = some (.int .i64 r) ∧ w'.cell? ⟨w.heap.size, 1, none⟩ = some (.int .i64 c) ∧ w'.cell? ⟨w.heap.size, 2, none⟩ = some (.bool rf) ∧ w'.cell? ⟨w.heap.size, 3, none⟩ = some (.bool cf)) (go_keep) (first
        | (go_at_call_of 28 (Value.int IntKind.i64 r); refine (F1 _).mono ?_; rintro e w3 ⟨rfl, e3⟩; have Y : Ext w2 w3 := (by first | exact xt Y e3 | exact xt (xd Y) e3); obtain ⟨⟨a0, a1, a2, a3⟩, _⟩ := B2.later Y)
        | (go_at_call_of 28 (Value.int IntKind.i64 c); refine (F2 _).mono ?_; rintro e w3 ⟨rfl, e3⟩; have Y : Ext w2 w3 := (by first | exact xt Y e3 | exact xt (xd Y) e3); obtain ⟨⟨a0, a1, a2, a3⟩, _⟩ := B2.later Y))
      all_goals go_wp2_with fail
      all_goals go_ret
      all_goals exact ⟨ret_str HR.out.symm, xt X2 Y⟩
    · rw [notGood hh] at PL
      have HR : Hid (byT r c rf cf row col = []) := by show _ = _; unfold byT; rw [if_neg (fun q => hh q.2)]
      clear hg hh
      go_enter Tryz.func8, Tryz.ntmps8
      go_wp2_with fail
      refine (G _).mono ?_
      rintro e w1 ⟨rfl, e1⟩
      go_wp2_with fail
      refine (PL _).mono ?_
      rintro e w2 ⟨rfl, e2⟩
      go_wp2_with fail
      go_ret
      exact ⟨ret_str (by rw [HR.out]; rfl), xt (xt X e1) e2⟩
  · rw [notGood hg] at G
    have HR : Hid (byT r c rf cf row col = []) := by show _ = _; unfold byT; rw [if_neg (fun q => hg q.1)]
    clear hg
    go_enter Tryz.func8, Tryz.ntmps8
    go_wp2_with fail
    refine (G _).mono ?_
    rintro e w1 ⟨rfl, e1⟩
    go_wp2_with fail
    go_ret
    exact ⟨ret_str (by rw [HR.out]; rfl), xt X e1⟩


end Go.Proofs.YtifangkifpnnpaaGreatDoor
