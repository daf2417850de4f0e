/-
  The specification's DayOf at a date.
-/
import Derived.Test.YtmcmohooodpfeaaGreatDoorDatU
namespace Go.Proofs.YtmcmohooodpfeaaGreatDoor
open Go.RowKit

theorem off_eq {cal : Int} (hc : cal = 1 ∨ cal = 2) : (if cal = 1 then (730485 : Int) else 730500) = off cal + if cal = 2 then 13 else 0 := by
  rcases hc with rfl | rfl <;> simp [off]

set_option maxHeartbeats 2000000 in
theorem dayOfS_ok (cal y d : Int) (n : Nat) (w : World) (h : GoodDate cal y ((n : Int) + 1) d) :
    Calls Tryz.prog 43 #[.int .i64 cal, .agg #[.int .i64 y, .int .i64 ((n : Int) + 1), .int .i64 d]] w fun e w' => e = .returned (.tuple #[.int .i64 (ahead cal y + cum cal y n + (d - 1) - off cal), .bool true]) ∧ Ext w w' := by
  obtain ⟨hc, hy, hm, hd1, hd2⟩ := h
  obtain ⟨m, hmm⟩ : ∃ m : Int, (n : Int) + 1 = m := ⟨_, rfl⟩
  have C1 := fun w => calS cal w
  have C2 := fun w => yearS y w
  have C3 : Hid (∀ (k : Nat) (w : World), k ≤ n → Calls Tryz.prog 46 #[.int .i64 cal, .int .i64 y, .int .i64 ((k : Int) + 1)] w fun e w' => e = .returned (.int .i64 (mlen cal y ((k : Int) + 1))) ∧ Ext w w') := fun k w hk => mlenS cal y _ w hc (by omega) (by omega) (by omega) (by omega)
  have C4 := fun w => daysS cal y w (by omega) (by omega)
  rw [off_eq hc] at C4
  have b1 := ahead_fitsS (cal := cal) (y := y) (by omega) (by omega)
  have o1 : Hid (730485 ≤ off cal ∧ off cal ≤ 730487) := by unfold off; split <;> constructor <;> omega
  simp only [hc, decide_true] at C1
  simp only [hy, and_self, decide_true] at C2
  have mp := mlen_pos cal y ((n : Int) + 1)
  have C5 := fun w => C3.out n w (Nat.le_refl _)
  obtain ⟨D, hD⟩ : ∃ D, mlen cal y ((n : Int) + 1) = D := ⟨_, rfl⟩
  rw [hD] at C5 hd2 mp
  rw [hmm] at C5 ⊢
  have HM : Hid ((n : Int) + 1 = m) := hmm
  obtain ⟨A, hA⟩ : ∃ A, ahead cal y = A := ⟨_, rfl⟩
  rw [hA] at C4 b1 ⊢
  have f1 : decide (m < 1) = false := by simp; omega
  have f2 : decide (m > 12) = false := by simp; omega
  have f3 : decide (d < 1) = false := by simp; omega
  have f4 : decide (d > D) = false := by simp; omega
  have HD : Hid (1 ≤ d ∧ d ≤ 31 ∧ n < 12) := ⟨hd1, by omega, by omega⟩
  have HC : Hid (cal = 1 ∨ cal = 2) := hc
  clear hc hy hm hd1 hd2 hD hA hmm mp
  have B := Box3.made w (.int .i64 y) (.int .i64 m) (.int .i64 d) 26
  go_enter Tryz.func43, Tryz.ntmps43
  go_wp2_with fail
  go_cut [42] (fun v wc => v = .bool false ∧ Box3 wc w.heap.size (.int .i64 y) (.int .i64 m) (.int .i64 d) ∧ Ext w wc)
  case first =>
    go_region_held3 (fun w' => w'.cell? ⟨w.heap.size, 0, none⟩ = some (.int .i64 y) ∧ w'.cell? ⟨w.heap.size, 1, none⟩ = some (.int .i64 m) ∧ w'.cell? ⟨w.heap.size, 2, none⟩ = some (.int .i64 d)) (go_keep) (first
      | (go_at_call 25; refine (C1 _).mono ?_; rintro e w' ⟨rfl, rfl⟩)
      | (go_at_call 45; refine (C2 _).mono ?_; rintro e w' ⟨rfl, rfl⟩)
      | (go_at_call 46; refine (C5 _).mono ?_; rintro e w1 ⟨rfl, e1⟩; have X1 : Ext w w1 := xt (by first | exact xd (xa (xr _) _) | exact xa (xr _) _) e1; have B1 := B.later (xt (by first | exact xd (xr _) | exact xr _) e1); have B1' := B1; obtain ⟨⟨r0, r1, r2⟩, _⟩ := B1'))
    all_goals go_wp2_with fail
    all_goals
      go_meet
      case rel => exact ⟨rfl, B1, X1⟩
  case rest =>
    obtain ⟨rfl, B1, X⟩ := hcut
    clear C1 C2 C5 f1 f2 f3 f4 B
    have B1' := B1
    obtain ⟨⟨r0, r1, r2⟩, _⟩ := B1'
    obtain ⟨O, hO⟩ : ∃ O, (off cal + if cal = 2 then 13 else 0) = O := ⟨_, rfl⟩
    have HO : Hid ((off cal + if cal = 2 then 13 else 0) = O) := hO
    have o2 : 730000 ≤ O ∧ O ≤ 731000 := by rw [← hO]; have := o1.out; split <;> omega
    rw [hO] at C4
    clear hO
    have hd := HD.out
    go_wp2_with fail
    go_quiet (first | (go_at_call 55; exact Calls.quiet_of_same (C4 _)))
    go_wp2_with fail
    have hm := HM.out
    go_loopw [6, 7] (fun a i wr => ∃ k : Nat, k ≤ n ∧ i = .int .i64 ((k : Int) + 1) ∧ a = .int .i64 (A - O + d - 1 + cum cal y k) ∧ Ext wc wr) (fun _ i _ => n + 1 - (intOf i).toNat)
    case atStart => exact ⟨0, by omega, rfl, by simp [cum], xdN' (xr _) _⟩
    case round =>
      obtain ⟨k, hk, rfl, rfl, X2⟩ := hrel
      obtain ⟨⟨q0, q1, q2⟩, _⟩ := B1.later X2
      have c0 := cum_nonneg cal y k
      have c1 := cum_le cal y (show k ≤ 12 by omega)
      by_cases hkn : k < n
      · have hkm : (k : Int) + 1 < m := by omega
        have cs : Hid (cum cal y (k + 1) = cum cal y k + mlen cal y ((k : Int) + 1)) := rfl
        have m1 := mlen_pos cal y ((k : Int) + 1)
        have ML := fun w => C3.out k w hk
        obtain ⟨C, hC⟩ : ∃ C, cum cal y k = C := ⟨_, rfl⟩
        obtain ⟨D', hD⟩ : ∃ D', mlen cal y ((k : Int) + 1) = D' := ⟨_, rfl⟩
        rw [hC] at c0 c1 cs ⊢
        rw [hD] at ML m1 cs
        clear hC hD hm C4
        go_wp2_with (go_at_call 46; refine (ML _).mono ?_; rintro e w' ⟨rfl, e3⟩)
        go_roundw
        case rel => exact ⟨k + 1, by omega, by go_num, by rw [cs.out]; go_num, xt X2 e3⟩
        case measure => simp [intOf]; omega
      · obtain rfl : k = n := by omega
        have hkm : ((k : Int) + 1 < m) = False := by simp; omega
        rcases HC.out with rfl | rfl
        · have ho := HO.out
          simp [off] at ho ⊢
          subst ho
          clear hm C4 C3
          go_wp2_with fail
          exact bodyPost_ret (v := .tuple #[.int .i64 (A + cum 1 y k + (d - 1) - 730485), .bool true]) (by simp [results, Tryz.results43, go_sem]; omega) rfl ⟨rfl, xt X X2⟩
        · have ho := HO.out
          simp [off] at ho ⊢
          subst ho
          clear hm C4 C3
          go_wp2_with fail
          exact bodyPost_ret (v := .tuple #[.int .i64 (A + cum 2 y k + (d - 1) - 730487), .bool true]) (by simp [results, Tryz.results43, go_sem]; omega) rfl ⟨rfl, xt X X2⟩

end Go.Proofs.YtmcmohooodpfeaaGreatDoor
