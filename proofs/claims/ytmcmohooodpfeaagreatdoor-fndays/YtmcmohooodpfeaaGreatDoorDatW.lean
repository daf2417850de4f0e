/-
  DayOf of the specification; the program's dayAt, isDate, DayOf.
-/
import Derived.Test.YtmcmohooodpfeaaGreatDoorDatB
import Derived.Test.YtmcmohooodpfeaaGreatDoorDatV
namespace Go.Proofs.YtmcmohooodpfeaaGreatDoor
open Go.RowKit

open Classical in
/-- What DayOf answers. -/
noncomputable def dayP (cal y m d : Int) : Option Int :=
  if GoodDate cal y m d ∧ -1000000 ≤ ahead cal y + cum cal y (m - 1).toNat + (d - 1) - off cal ∧ ahead cal y + cum cal y (m - 1).toNat + (d - 1) - off cal ≤ 1000000 then some (ahead cal y + cum cal y (m - 1).toNat + (d - 1) - off cal) else none
def optV : Option Int → Value
  | some n => .tuple #[.int .i64 n, .bool true]
  | none => .tuple #[.int .i64 0, .bool false]

set_option maxHeartbeats 1000000 in
theorem dayS_any (cal y m d : Int) (w : World) :
    Calls Tryz.prog 49 #[.int .i64 cal, .agg #[.int .i64 y, .int .i64 m, .int .i64 d]] w fun e w' => e = .returned (optV (dayP cal y m d)) ∧ Ext w w' := by
  by_cases hg : GoodDate cal y m d
  · obtain ⟨n, hn⟩ : ∃ n : Nat, m = (n : Int) + 1 := ⟨(m - 1).toNat, by unfold GoodDate at hg; omega⟩
    have en : (m - 1).toNat = n := by omega
    have HP : Hid (dayP cal y m d = if -1000000 ≤ ahead cal y + cum cal y n + (d - 1) - off cal ∧ ahead cal y + cum cal y n + (d - 1) - off cal ≤ 1000000 then some (ahead cal y + cum cal y n + (d - 1) - off cal) else none) := by
      show dayP _ _ _ _ = _
      unfold dayP
      simp only [en, hg, true_and]
    subst hn
    have C := fun w => dayOfS_ok cal y d n w hg
    obtain ⟨Z, hZ⟩ : ∃ Z, ahead cal y + cum cal y n + (d - 1) - off cal = Z := ⟨_, rfl⟩
    rw [hZ] at C HP
    have C2 := fun w => dayS Z w
    clear hZ hg en
    by_cases hz : -1000000 ≤ Z ∧ Z ≤ 1000000
    · rw [if_pos hz] at HP
      simp only [hz, and_self, decide_true] at C2
      go_enter Tryz.func49, Tryz.ntmps49
      go_wp2_with (first | (go_at_call 43; refine (C _).mono ?_; rintro e w1 ⟨rfl, e1⟩) | (go_at_call 26; refine (C2 _).mono ?_; rintro e w' ⟨rfl, rfl⟩))
      exact bodyPost_ret (v := .tuple #[.int .i64 Z, .bool true]) (by simp [results, Tryz.results49, go_sem]) rfl ⟨by rw [HP.out]; rfl, xt (x1 _ _) e1⟩
    · rw [if_neg hz] at HP
      simp only [hz, decide_false] at C2
      go_enter Tryz.func49, Tryz.ntmps49
      go_wp2_with (first | (go_at_call 43; refine (C _).mono ?_; rintro e w1 ⟨rfl, e1⟩) | (go_at_call 26; refine (C2 _).mono ?_; rintro e w' ⟨rfl, rfl⟩))
      exact bodyPost_ret (v := .tuple #[.int .i64 0, .bool false]) (by simp [results, Tryz.results49, go_sem]) rfl ⟨by rw [HP.out]; rfl, xt (x1 _ _) e1⟩
  · have HP : Hid (dayP cal y m d = none) := by
      show dayP _ _ _ _ = _
      unfold dayP
      simp [hg]
    have C := fun w => dayOfS_no cal y m d w hg
    clear hg
    go_enter Tryz.func49, Tryz.ntmps49
    go_wp2_with (first | (go_at_call 43; refine (C _).mono ?_; rintro e w1 ⟨rfl, e1⟩))
    exact bodyPost_ret (v := .tuple #[.int .i64 0, .bool false]) (by simp [results, Tryz.results49, go_sem]) rfl ⟨by rw [HP.out]; rfl, xt (x1 _ _) e1⟩

set_option maxHeartbeats 1000000 in
theorem isDateI (cal y m d : Int) (w : World) (hM : Months w) (b : Bool) (hb : b = true ↔ GoodDate cal y m d) :
    Calls Tryz.prog 30 #[.int .i64 cal, .agg #[.int .i64 y, .int .i64 m, .int .i64 d]] w fun e w' => e = .returned (.bool b) ∧ Ext w w' := by
  have M1 := hM.later (x1 w (.cells #[.int .i64 y, .int .i64 m, .int .i64 d] 26))
  have C : ∀ n, Calls Tryz.prog 11 #[.int .i64 cal, .int .i64 y, .int .i64 m] ((w.alloc (.cells #[.int .i64 y, .int .i64 m, .int .i64 d] 26)).drewN n) fun e w' => e = .returned (.int .i64 (if (cal = 1 ∨ cal = 2) ∧ (-5000 ≤ y ∧ y ≤ 9999) ∧ 1 ≤ m ∧ m ≤ 12 then mlen cal y m else 0)) ∧ w' = ((w.alloc (.cells #[.int .i64 y, .int .i64 m, .int .i64 d] 26)).drewN n) :=
    fun n => monthDaysI cal y m _ (M1.later (xdN' (xr _) _))
  obtain ⟨D, hD⟩ : ∃ D, (if (cal = 1 ∨ cal = 2) ∧ (-5000 ≤ y ∧ y ≤ 9999) ∧ 1 ≤ m ∧ m ≤ 12 then mlen cal y m else 0) = D := ⟨_, rfl⟩
  rw [hD] at C
  have hg : GoodDate cal y m d ↔ 1 ≤ d ∧ d ≤ D := by
    rw [← hD]
    unfold GoodDate
    split
    · rename_i h; exact ⟨fun k => k.2.2.2, fun k => ⟨h.1, h.2.1, h.2.2, k⟩⟩
    · rename_i h; exact ⟨fun k => (h ⟨k.1, k.2.1, k.2.2.1⟩).elim, fun k => by omega⟩
  rw [hg] at hb
  clear hM M1 hD hg
  by_cases h1 : 1 ≤ d
  · have f1 : decide (d ≥ 1) = true := by simp; omega
    have f2 : Hid (decide (d ≤ D) = b) := by
      show decide (d ≤ D) = b
      by_cases k : d ≤ D
      · rw [hb.2 ⟨h1, k⟩]; simp [k]
      · cases b
        · simp [k]
        · exact (k (hb.1 rfl).2).elim
    clear hb h1
    go_enter Tryz.func30, Tryz.ntmps30
    go_wp2_with fail
    go_quiet (first | (go_at_call 11; exact Calls.quiet_of_same (C _)))
    go_wp2_with fail
    go_ret
    exact ⟨ret_bool f2.out, xdN' (x1 _ _) _⟩
  · have f1 : decide (d ≥ 1) = false := by simp; omega
    obtain rfl : b = false := by
      cases b
      · rfl
      · exact (h1 (hb.1 rfl).1).elim
    clear hb h1
    go_enter Tryz.func30, Tryz.ntmps30
    go_wp2_with fail
    go_quiet (fail)
    go_wp2_with fail
    go_ret
    exact ⟨rfl, xdN' (x1 _ _) _⟩

end Go.Proofs.YtmcmohooodpfeaaGreatDoor
