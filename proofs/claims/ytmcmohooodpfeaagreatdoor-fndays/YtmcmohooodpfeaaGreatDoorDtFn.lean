/-
  DateOf and WeekOf on both sides.
-/
import Derived.Test.YtmcmohooodpfeaaGreatDoorSpeD
import Derived.Test.YtmcmohooodpfeaaGreatDoorWeekI
namespace Go.Proofs.YtmcmohooodpfeaaGreatDoor
open Go.RowKit

/-- What DateOf answers. -/
def DateRes (cal day y m d : Int) : Prop := if (cal = 1 ∨ cal = 2) ∧ -1000000 ≤ day ∧ day ≤ 1000000 then IsDt cal day y m d ∧ -20000 ≤ y ∧ y ≤ 20000 else y = 0 ∧ m = 0 ∧ d = 0
theorem DateRes.one {cal day y m d y' m' d' : Int} (h : DateRes cal day y m d) (h' : DateRes cal day y' m' d') : y = y' ∧ m = m' ∧ d = d' := by
  unfold DateRes at h h'
  split at h
  · rw [if_pos ‹_›] at h'
    exact h.1.one h'.1
  · rw [if_neg ‹_›] at h'
    omega

set_option maxHeartbeats 1000000 in
theorem DateOfI (cal day : Int) (w : World) (hM : Months w) (hC : Cals w) :
    Calls Tryz.prog 6 #[.int .i64 cal, .int .i64 day] w fun e w' => ∃ y m d, e = .returned (.agg #[.int .i64 y, .int .i64 m, .int .i64 d]) ∧ DateRes cal day y m d ∧ Ext w w' := by
  have X0 := x1 w (.cells #[.int .i64 0, .int .i64 0, .int .i64 0] 26)
  have B := Box3.made w (.int .i64 0) (.int .i64 0) (.int .i64 0) 26
  have C1 := fun w => calI cal w
  have C2 := fun w => dayI day w
  have M1 := hM.later X0
  have K1 := hC.later X0
  clear hM hC
  by_cases hc : cal = 1 ∨ cal = 2
  · by_cases hd : -1000000 ≤ day ∧ day ≤ 1000000
    · have HR : Hid (∀ y m d, IsDt cal day y m d ∧ -20000 ≤ y ∧ y ≤ 20000 → DateRes cal day y m d) := fun y m d h => by unfold DateRes; rw [if_pos ⟨hc, hd⟩]; exact h
      have D := dateAtI cal day _ M1 K1 hc (by omega) (by omega)
      simp only [hc, hd, and_self, decide_true] at C1 C2
      clear hc hd M1 K1
      go_enter Tryz.func6, Tryz.ntmps6
      go_wp2_with (first | (go_at_call 22; refine (C1 _).mono ?_; rintro e w' ⟨rfl, rfl⟩) | (go_at_call 23; refine (C2 _).mono ?_; rintro e w' ⟨rfl, rfl⟩) | (go_at_call 24; refine D.mono ?_; rintro e w1 ⟨y, m, d, rfl, hr, e1⟩; obtain ⟨⟨r0, r1, r2⟩, s0, s1, s2⟩ := B.later e1))
      exact bodyPost_ret (v := .agg #[.int .i64 y, .int .i64 m, .int .i64 d]) (by simp [results, Tryz.results6, go_sem, r0, r1, r2]) rfl ⟨y, m, d, rfl, HR.out y m d hr, xset (xset (xset (xt X0 e1) (Nat.le_refl _) _) (Nat.le_refl _) _) (Nat.le_refl _) _⟩
    · have HR : Hid (DateRes cal day 0 0 0) := by show DateRes _ _ _ _ _; unfold DateRes; rw [if_neg (fun h => hd h.2)]; exact ⟨rfl, rfl, rfl⟩
      simp only [hc, hd, decide_true, decide_false] at C1 C2
      clear hc hd M1 K1
      go_enter Tryz.func6, Tryz.ntmps6
      go_wp2_with (first | (go_at_call 22; refine (C1 _).mono ?_; rintro e w' ⟨rfl, rfl⟩) | (go_at_call 23; refine (C2 _).mono ?_; rintro e w' ⟨rfl, rfl⟩))
      exact bodyPost_ret (v := .agg #[.int .i64 0, .int .i64 0, .int .i64 0]) (by simp [results, Tryz.results6, go_sem]) rfl ⟨0, 0, 0, rfl, HR.out, by first | exact X0 | exact xset (xset (xset X0 (Nat.le_refl _) _) (Nat.le_refl _) _) (Nat.le_refl _) _⟩
  · have HR : Hid (DateRes cal day 0 0 0) := by show DateRes _ _ _ _ _; unfold DateRes; rw [if_neg (fun h => hc h.1)]; exact ⟨rfl, rfl, rfl⟩
    simp only [hc, decide_false] at C1
    clear hc M1 K1
    go_enter Tryz.func6, Tryz.ntmps6
    go_wp2_with (first | (go_at_call 22; refine (C1 _).mono ?_; rintro e w' ⟨rfl, rfl⟩))
    exact bodyPost_ret (v := .agg #[.int .i64 0, .int .i64 0, .int .i64 0]) (by simp [results, Tryz.results6, go_sem]) rfl ⟨0, 0, 0, rfl, HR.out, by first | exact X0 | exact xset (xset (xset X0 (Nat.le_refl _) _) (Nat.le_refl _) _) (Nat.le_refl _) _⟩

set_option maxHeartbeats 1000000 in
theorem DateOfS (cal day : Int) (w : World) :
    Calls Tryz.prog 7 #[.int .i64 cal, .int .i64 day] w fun e w' => ∃ y m d, e = .returned (.agg #[.int .i64 y, .int .i64 m, .int .i64 d]) ∧ DateRes cal day y m d ∧ Ext w w' := by
  have X0 := x1 w (.cells #[.int .i64 0, .int .i64 0, .int .i64 0] 26)
  have B := Box3.made w (.int .i64 0) (.int .i64 0) (.int .i64 0) 26
  have C1 := fun w => calS cal w
  have C2 := fun w => dayS day w
  by_cases hc : cal = 1 ∨ cal = 2
  · by_cases hd : -1000000 ≤ day ∧ day ≤ 1000000
    · have HR : Hid (∀ y m d, IsDt cal day y m d ∧ -20000 ≤ y ∧ y ≤ 20000 → DateRes cal day y m d) := fun y m d h => by unfold DateRes; rw [if_pos ⟨hc, hd⟩]; exact h
      have D := fun w => dateOfS cal day w hc (by omega) (by omega)
      simp only [hc, hd, and_self, decide_true] at C1 C2
      clear hc hd
      go_enter Tryz.func7, Tryz.ntmps7
      go_wp2_with (first | (go_at_call 25; refine (C1 _).mono ?_; rintro e w' ⟨rfl, rfl⟩) | (go_at_call 26; refine (C2 _).mono ?_; rintro e w' ⟨rfl, rfl⟩) | (go_at_call 27; refine (D _).mono ?_; rintro e w1 ⟨y, m, d, rfl, hr, e1⟩; obtain ⟨⟨r0, r1, r2⟩, s0, s1, s2⟩ := B.later e1))
      exact bodyPost_ret (v := .agg #[.int .i64 y, .int .i64 m, .int .i64 d]) (by simp [results, Tryz.results7, go_sem, r0, r1, r2]) rfl ⟨y, m, d, rfl, HR.out y m d hr, xset (xset (xset (xt X0 e1) (Nat.le_refl _) _) (Nat.le_refl _) _) (Nat.le_refl _) _⟩
    · have HR : Hid (DateRes cal day 0 0 0) := by show DateRes _ _ _ _ _; unfold DateRes; rw [if_neg (fun h => hd h.2)]; exact ⟨rfl, rfl, rfl⟩
      simp only [hc, hd, decide_true, decide_false] at C1 C2
      clear hc hd
      go_enter Tryz.func7, Tryz.ntmps7
      go_wp2_with (first | (go_at_call 25; refine (C1 _).mono ?_; rintro e w' ⟨rfl, rfl⟩) | (go_at_call 26; refine (C2 _).mono ?_; rintro e w' ⟨rfl, rfl⟩))
      exact bodyPost_ret (v := .agg #[.int .i64 0, .int .i64 0, .int .i64 0]) (by simp [results, Tryz.results7, go_sem]) rfl ⟨0, 0, 0, rfl, HR.out, by first | exact X0 | exact xset (xset (xset X0 (Nat.le_refl _) _) (Nat.le_refl _) _) (Nat.le_refl _) _⟩
  · have HR : Hid (DateRes cal day 0 0 0) := by show DateRes _ _ _ _ _; unfold DateRes; rw [if_neg (fun h => hc h.1)]; exact ⟨rfl, rfl, rfl⟩
    simp only [hc, decide_false] at C1
    clear hc
    go_enter Tryz.func7, Tryz.ntmps7
    go_wp2_with (first | (go_at_call 25; refine (C1 _).mono ?_; rintro e w' ⟨rfl, rfl⟩))
    exact bodyPost_ret (v := .agg #[.int .i64 0, .int .i64 0, .int .i64 0]) (by simp [results, Tryz.results7, go_sem]) rfl ⟨0, 0, 0, rfl, HR.out, by first | exact X0 | exact xset (xset (xset X0 (Nat.le_refl _) _) (Nat.le_refl _) _) (Nat.le_refl _) _⟩

theorem run_year (y m d : Int) (w : World) : (Instr.field 26 (.agg #[.int .i64 y, .int .i64 m, .int .i64 d]) 0).run Tryz.prog w = .ok (.int .i64 y) w := by
  unfold Instr.field
  go_simp
  rfl

/-- What WeekOf answers. -/
def WeekRes (day y k : Int) : Prop := if -1000000 ≤ day ∧ day ≤ 1000000 then (∃ m d, IsDt 1 (day - (day + 5) % 7 + 3) y m d) ∧ k = (day - (day + 5) % 7 + 3 - (ahead 1 y - 730485)) / 7 + 1 else y = 0 ∧ k = 0
theorem WeekRes.one {day y k y' k' : Int} (h : WeekRes day y k) (h' : WeekRes day y' k') : y = y' ∧ k = k' := by
  unfold WeekRes at h h'
  split at h
  · rw [if_pos ‹_›] at h'
    obtain ⟨⟨m, d, a⟩, b⟩ := h
    obtain ⟨⟨m', d', a'⟩, b'⟩ := h'
    have e := (a.one a').1
    subst e
    exact ⟨rfl, b.trans b'.symm⟩
  · rw [if_neg ‹_›] at h'
    omega
theorem IsDt.first_le {cal day y m d : Int} (h : IsDt cal day y m d) : ahead cal y - off cal ≤ day ∧ day < ahead cal y - off cal + 366 := by
  have a := h.holds
  have b := cum_le cal y (Nat.le_refl 12)
  obtain ⟨a1, a2⟩ := a
  rw [ahead_next] at a2
  omega

set_option maxRecDepth 8000 in
set_option maxHeartbeats 1000000 in
theorem WeekOfI (day : Int) (w : World) (hM : Months w) (hC : Cals w) :
    Calls Tryz.prog 12 #[.int .i64 day] w fun e w' => ∃ y k, e = .returned (.tuple #[.int .i64 y, .int .i64 k]) ∧ WeekRes day y k ∧ Ext w w' := by
  have C1 := fun w => dayI day w
  by_cases hd : -1000000 ≤ day ∧ day ≤ 1000000
  · have C2 := fun w => weekdayI day w
    rw [if_pos hd] at C2
    have hs : 0 ≤ (day + 5) % 7 ∧ (day + 5) % 7 < 7 := by omega
    have HR : Hid (∀ y k, (∃ m d, IsDt 1 (day - (day + 5) % 7 + 3) y m d) ∧ k = (day - (day + 5) % 7 + 3 - (ahead 1 y - 730485)) / 7 + 1 → WeekRes day y k) := fun y k h => by unfold WeekRes; rw [if_pos hd]; exact h
    obtain ⟨S, hS⟩ : ∃ S, (day + 5) % 7 = S := ⟨_, rfl⟩
    rw [hS] at C2 hs HR
    have D := dateAtI 1 (day - S + 3) w hM hC (.inl rfl) (by omega) (by omega)
    simp only [hd, and_self, decide_true] at C1
    have hw1 : wrap64 (day - S) = day - S := by unfold wrap64; omega
    have hw2 : wrap64 (day - S + 3) = day - S + 3 := by unfold wrap64; omega
    clear hS
    go_enter Tryz.func12, Tryz.ntmps12
    go_wp2_with (first | (go_at_call 23; refine (C1 _).mono ?_; rintro e w' ⟨rfl, rfl⟩) | (go_at_call 8; refine (C2 _).mono ?_; rintro e w' ⟨rfl, rfl⟩))
    refine D.mono ?_
    rintro e w1 ⟨y, m, d, rfl, ⟨hdt, y0, y1⟩, e1⟩
    have FL := hdt.first_le
    have RY := run_year y m d
    have EF : Hid (cnt 1 y 1 1 - off 1 = ahead 1 y - 730485) := by
      have e : cnt 1 y 1 1 = ahead 1 y := by
        have : (1 - 1 : Int).toNat = 0 := by decide
        unfold cnt
        rw [this]
        simp [cum]
      show _ = _
      rw [e]
      rfl
    have HDT : Hid (∃ m d, IsDt 1 (day - S + 3) y m d) := ⟨m, d, hdt⟩
    have C3 := fun w hM hC => dayAtI 1 y 1 1 w hM hC (.inl rfl) (by omega)
    rw [EF.out] at C3
    rw [show off 1 = 730485 from rfl] at FL
    obtain ⟨F, hF⟩ : ∃ F, ahead 1 y - 730485 = F := ⟨_, rfl⟩
    have HR' := HR.out y
    rw [hF] at C3 FL HR'
    have HR2 : Hid (∀ (k : Int), (∃ m d, IsDt 1 (day - S + 3) y m d) ∧ k = (day - S + 3 - F) / 7 + 1 → WeekRes day y k) := HR'
    clear HR HR' hF EF hdt D
    go_wp2_with fail
    refine (C3 _ (hM.later e1) (hC.later e1)).mono ?_
    rintro e w2 ⟨rfl, e2⟩
    have hw3 : wrap64 (day - S + 3 - F) = day - S + 3 - F := by unfold wrap64; omega
    clear C3
    go_wp2_with fail
    exact bodyPost_ret (v := .tuple #[.int .i64 y, .int .i64 ((day - S + 3 - F) / 7 + 1)]) (by simp [results, Tryz.results12, go_sem]) rfl ⟨y, _, rfl, HR2.out _ ⟨HDT.out, rfl⟩, xt e1 e2⟩
  · have HR : Hid (WeekRes day 0 0) := by show WeekRes _ _ _; unfold WeekRes; rw [if_neg hd]; exact ⟨rfl, rfl⟩
    simp only [hd, decide_false] at C1
    clear hd
    go_enter Tryz.func12, Tryz.ntmps12
    go_wp2_with (first | (go_at_call 23; refine (C1 _).mono ?_; rintro e w' ⟨rfl, rfl⟩))
    exact bodyPost_ret (v := .tuple #[.int .i64 0, .int .i64 0]) (by simp [results, Tryz.results12, go_sem]) rfl ⟨0, 0, rfl, HR.out, xr _⟩

set_option maxRecDepth 8000 in
set_option maxHeartbeats 1000000 in
theorem WeekOfS (day : Int) (w : World) :
    Calls Tryz.prog 13 #[.int .i64 day] w fun e w' => ∃ y k, e = .returned (.tuple #[.int .i64 y, .int .i64 k]) ∧ WeekRes day y k ∧ Ext w w' := by
  have C1 := fun w => dayS day w
  by_cases hd : -1000000 ≤ day ∧ day ≤ 1000000
  · have C2 := fun w => fmodS (day + 5) 7 w (by omega) (by omega) (by omega) (by omega)
    have hw0 : wrap64 (day + 5) = day + 5 := by unfold wrap64; omega
    have hs : 0 ≤ (day + 5) % 7 ∧ (day + 5) % 7 < 7 := by omega
    have HR : Hid (∀ y k, (∃ m d, IsDt 1 (day - (day + 5) % 7 + 3) y m d) ∧ k = (day - (day + 5) % 7 + 3 - (ahead 1 y - 730485)) / 7 + 1 → WeekRes day y k) := fun y k h => by unfold WeekRes; rw [if_pos hd]; exact h
    obtain ⟨S, hS⟩ : ∃ S, (day + 5) % 7 = S := ⟨_, rfl⟩
    rw [hS] at C2 hs HR
    have D := fun w => dateOfS 1 (day - S + 3) w (.inl rfl) (by omega) (by omega)
    simp only [hd, and_self, decide_true] at C1
    have hw1 : wrap64 (day - S) = day - S := by unfold wrap64; omega
    have hw2 : wrap64 (day - S + 3) = day - S + 3 := by unfold wrap64; omega
    clear hS
    go_enter Tryz.func13, Tryz.ntmps13
    go_wp2_with (first | (go_at_call 26; refine (C1 _).mono ?_; rintro e w' ⟨rfl, rfl⟩) | (go_at_call 29; refine (C2 _).mono ?_; rintro e w' ⟨rfl, rfl⟩))
    refine (D _).mono ?_
    rintro e w1 ⟨y, m, d, rfl, ⟨hdt, y0, y1⟩, e1⟩
    have FL := hdt.first_le
    have RY := run_year y m d
    have HDT : Hid (∃ m d, IsDt 1 (day - S + 3) y m d) := ⟨m, d, hdt⟩
    have C3 := fun w => firstS 1 y w (.inl rfl) (by omega) (by omega)
    rw [show off 1 = 730485 from rfl] at FL C3
    obtain ⟨F, hF⟩ : ∃ F, ahead 1 y - 730485 = F := ⟨_, rfl⟩
    have HR' := HR.out y
    rw [hF] at C3 FL HR'
    have HR2 : Hid (∀ (k : Int), (∃ m d, IsDt 1 (day - S + 3) y m d) ∧ k = (day - S + 3 - F) / 7 + 1 → WeekRes day y k) := HR'
    clear HR HR' hF hdt D
    go_wp2_with fail
    refine (C3 _).mono ?_
    rintro e w2 ⟨rfl, rfl⟩
    have hw3 : wrap64 (day - S + 3 - F) = day - S + 3 - F := by unfold wrap64; omega
    clear C3
    go_wp2_with fail
    exact bodyPost_ret (v := .tuple #[.int .i64 y, .int .i64 ((day - S + 3 - F) / 7 + 1)]) (by simp [results, Tryz.results13, go_sem]) rfl ⟨y, _, rfl, HR2.out _ ⟨HDT.out, rfl⟩, e1⟩
  · have HR : Hid (WeekRes day 0 0) := by show WeekRes _ _ _; unfold WeekRes; rw [if_neg hd]; exact ⟨rfl, rfl⟩
    simp only [hd, decide_false] at C1
    clear hd
    go_enter Tryz.func13, Tryz.ntmps13
    go_wp2_with (first | (go_at_call 26; refine (C1 _).mono ?_; rintro e w' ⟨rfl, rfl⟩))
    exact bodyPost_ret (v := .tuple #[.int .i64 0, .int .i64 0]) (by simp [results, Tryz.results13, go_sem]) rfl ⟨0, 0, rfl, HR.out, xr _⟩

end Go.Proofs.YtmcmohooodpfeaaGreatDoor
