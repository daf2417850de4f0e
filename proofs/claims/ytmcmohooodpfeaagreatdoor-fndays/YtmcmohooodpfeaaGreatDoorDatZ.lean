/-
  The program's date of a day.
-/
import Derived.Test.YtmcmohooodpfeaaGreatDoorDatY
namespace Go.Proofs.YtmcmohooodpfeaaGreatDoor
open Go.RowKit

/-- Where the walk through the months stands. -/
def MonAt (cal y n left : Int) (k : Nat) : Prop := k ≤ 11 ∧ left = n - ahead cal y - cum cal y k ∧ 0 ≤ left
theorem MonAt.zero {cal y n : Int} (h : Holds cal y n) : MonAt cal y n (n - ahead cal y) 0 := ⟨by omega, by simp [cum], by have := h.1; omega⟩
theorem MonAt.next {cal y n left : Int} {k : Nat} (hh : Holds cal y n) (h : MonAt cal y n left k) (hl : mlen cal y ((k : Int) + 1) ≤ left) : MonAt cal y n (left - mlen cal y ((k : Int) + 1)) (k + 1) := by
  obtain ⟨h1, h2, h3⟩ := h
  have a := hh.2
  rw [ahead_next] at a
  have e := cum_succ cal y k
  refine ⟨?_, by omega, by omega⟩
  rcases Nat.lt_or_ge k 11 with g | g
  · omega
  · obtain rfl : k = 11 := by omega
    rw [show (12 : Nat) = 11 + 1 from rfl, e] at a
    omega
theorem MonAt.done {cal y day left : Int} {k : Nat} (h : MonAt cal y (day + off cal) left k) (hl : left < mlen cal y ((k : Int) + 1)) : IsDt cal day y ((k : Int) + 1) (left + 1) := by
  obtain ⟨h1, h2, h3⟩ := h
  have e : ((k : Int) + 1 - 1).toNat = k := by omega
  refine ⟨by omega, by omega, by omega, by omega, ?_⟩
  rw [e]
  omega
theorem MonAt.le {cal y n left : Int} {k : Nat} (hh : Holds cal y n) (h : MonAt cal y n left k) : left ≤ 366 := by
  obtain ⟨h1, h2, h3⟩ := h
  have a := hh.2
  rw [ahead_next] at a
  have b := cum_le cal y (Nat.le_refl 12)
  have c := cum_nonneg cal y k
  omega

set_option maxHeartbeats 2000000 in
theorem dateAtI (cal day : Int) (w : World) (hM : Months w) (hC : Cals w) (hc : cal = 1 ∨ cal = 2) (n0 : -1000100 ≤ day) (n1 : day ≤ 1000100) :
    Calls Tryz.prog 24 #[.int .i64 cal, .int .i64 day] w fun e w' => ∃ y m d, e = .returned (.agg #[.int .i64 y, .int .i64 m, .int .i64 d]) ∧ (IsDt cal day y m d ∧ -20000 ≤ y ∧ y ≤ 20000) ∧ Ext w w' := by
  have B := Box3.made w (.int .i64 0) (.int .i64 0) (.int .i64 0) 26
  have X0 := x1 w (.cells #[.int .i64 0, .int .i64 0, .int .i64 0] 26)
  have M1 := hM.later X0
  have K1 := hC.later X0
  have K' := K1
  have cz := cnt_zero
  have oc : off cal = 730485 ∨ off cal = 730487 := by rcases hc with rfl | rfl <;> simp [off]
  have MM : Hid (∀ (w : World), Months w → Calls Tryz.prog 51 #[.int .i64 cal, .agg #[.int .i64 (if cal = 1 then 2000 else 1999), .int .i64 (if cal = 1 then 1 else 12), .int .i64 (if cal = 1 then 1 else 19)]] w fun e w' => e = .returned (.int .i64 (off cal)) ∧ Ext w w') := by
    intro w h
    rcases hc with rfl | rfl
    · have := countedG 1 2000 1 1 w h (by omega)
      rw [cz.1] at this
      exact this
    · have := countedG 2 1999 12 19 w h (by omega)
      rw [cz.2] at this
      exact this
  have YH : Hid (∀ (w : World), Cals w → Calls Tryz.prog 52 #[.int .i64 cal, .int .i64 (day + off cal)] w fun e w' => ∃ y, e = .returned (.int .i64 y) ∧ (Holds cal y (day + off cal) ∧ -20000 ≤ y ∧ y ≤ 20000) ∧ Ext w w') := fun w h => yearI_any cal (day + off cal) w h hc (by omega) (by omega)
  have AH : Hid (∀ (y : Int) (w : World), -20000 ≤ y → y ≤ 20001 → Calls Tryz.prog 53 #[.int .i64 cal, .int .i64 y] w fun e w' => e = .returned (.int .i64 (ahead cal y)) ∧ w' = w) := fun y w h1 h2 => aheadI cal y w (by omega) (by omega)
  have ML : Hid (∀ (y : Int) (k : Nat) (w : World), k ≤ 11 → Months w → Calls Tryz.prog 34 #[.int .i64 cal, .int .i64 y, .int .i64 ((k : Int) + 1)] w fun e w' => e = .returned (.int .i64 (mlen cal y ((k : Int) + 1))) ∧ w' = w) := fun y k w h1 h2 => mlenI cal y ((k : Int) + 1) w (by omega) (by omega) h2
  have W1 : wrap64 (day + off cal) = day + off cal := by unfold wrap64; omega
  obtain ⟨⟨_, _, a2, a3, a4⟩, _, _, b2, b3, b4⟩ := K'
  obtain ⟨O, hO⟩ : ∃ O, off cal = O := ⟨_, rfl⟩
  have HO : Hid (off cal = O) := hO
  rw [hO] at MM YH W1 oc
  clear hM hC hO cz
  rcases hc with rfl | rfl
  · simp only [if_true] at MM
    clear b2 b3 b4
    go_enter Tryz.func24, Tryz.ntmps24
    go_wp2_with fail
    refine (MM.out _ M1).mono ?_
    rintro e w1 ⟨rfl, e1⟩
    go_wp2_with fail
    refine (YH.out _ (K1.later e1)).mono ?_
    rintro e w2 ⟨y, rfl, ⟨hh, y0, y1⟩, e2⟩
    go_wp2_with fail
    refine (AH.out _ _ y0 (by omega)).mono ?_
    rintro e w3 ⟨rfl, rfl⟩
    have af := ahead_fits (cal := 1) (y := y) (by omega) (by omega)
    have M3 := M1.later (xt e1 e2)
    obtain ⟨⟨r0, r1, r2⟩, s0, s1, s2⟩ := B.later (xt e1 e2)
    have Z0 : Hid (MonAt 1 y (day + O) (day + O - ahead 1 y) 0) := MonAt.zero hh
    have HH : Hid (Holds 1 y (day + O)) := hh
    have X3 : Ext w w3 := xt X0 (xt e1 e2)
    obtain ⟨A, hA⟩ : ∃ A, ahead 1 y = A := ⟨_, rfl⟩
    rw [hA] at af Z0 ⊢
    clear hA hh K1 M1 B e1 e2 AH YH MM W1
    go_wp2_with fail
    go_loop [5, 7] (fun a i => ∃ (k : Nat) (l : Int), i = .int .i64 ((k : Int) + 1) ∧ a = .int .i64 l ∧ k ≤ 11 ∧ Hid (MonAt 1 y (day + O) l k)) (fun _ i => 13 - (intOf i).toNat)
    case atStart => exact ⟨0, _, rfl, by go_num, by omega, Z0⟩
    case round =>
      obtain ⟨k, l, rfl, rfl, hk, HM⟩ := hrel
      have L := fun w h => ML.out y k w hk h
      have l1 := MonAt.le HH.out HM.out
      have l0 := HM.out.2.2
      have mp := mlen_pos 1 y ((k : Int) + 1)
      have HN := fun h => MonAt.next HH.out HM.out h
      have HD : Hid (l < mlen 1 y ((k : Int) + 1) → IsDt 1 day y ((k : Int) + 1) (l + 1)) := by
        have h := HM.out
        rw [← HO.out] at h
        exact fun g => h.done g
      obtain ⟨D, hD⟩ : ∃ D, mlen 1 y ((k : Int) + 1) = D := ⟨_, rfl⟩
      simp only [hD] at L HN HD mp
      have HN' : Hid (D ≤ l → MonAt 1 y (day + O) (l - D) (k + 1)) := HN
      clear hD HN af
      by_cases hl : D ≤ l
      · go_wp2_with (go_at_call 34; refine (L _ M3).mono ?_; rintro e w' ⟨rfl, rfl⟩)
        go_round
        case rel => exact ⟨k + 1, l - D, by go_num, by go_num, (HN'.out hl).1, HN'.out hl⟩
        case measure => simp [intOf]; omega
      · go_wp2_with (go_at_call 34; refine (L _ M3).mono ?_; rintro e w' ⟨rfl, rfl⟩)
        exact bodyPost_ret (v := .agg #[.int .i64 y, .int .i64 ((k : Int) + 1), .int .i64 (l + 1)]) (by simp [results, Tryz.results24, go_sem, r0, r1, r2]) rfl ⟨y, (k : Int) + 1, l + 1, rfl, ⟨HD.out (by omega), y0, y1⟩, xset (xset (xset X3 (Nat.le_refl _) _) (Nat.le_refl _) _) (Nat.le_refl _) _⟩
  · simp only [show ¬ ((2 : Int) = 1) by decide, if_false] at MM
    clear a2 a3 a4
    go_enter Tryz.func24, Tryz.ntmps24
    go_wp2_with fail
    refine (MM.out _ M1).mono ?_
    rintro e w1 ⟨rfl, e1⟩
    go_wp2_with fail
    refine (YH.out _ (K1.later e1)).mono ?_
    rintro e w2 ⟨y, rfl, ⟨hh, y0, y1⟩, e2⟩
    go_wp2_with fail
    refine (AH.out _ _ y0 (by omega)).mono ?_
    rintro e w3 ⟨rfl, rfl⟩
    have af := ahead_fits (cal := 2) (y := y) (by omega) (by omega)
    have M3 := M1.later (xt e1 e2)
    obtain ⟨⟨r0, r1, r2⟩, s0, s1, s2⟩ := B.later (xt e1 e2)
    have Z0 : Hid (MonAt 2 y (day + O) (day + O - ahead 2 y) 0) := MonAt.zero hh
    have HH : Hid (Holds 2 y (day + O)) := hh
    have X3 : Ext w w3 := xt X0 (xt e1 e2)
    obtain ⟨A, hA⟩ : ∃ A, ahead 2 y = A := ⟨_, rfl⟩
    rw [hA] at af Z0 ⊢
    clear hA hh K1 M1 B e1 e2 AH YH MM W1
    go_wp2_with fail
    go_loop [5, 7] (fun a i => ∃ (k : Nat) (l : Int), i = .int .i64 ((k : Int) + 1) ∧ a = .int .i64 l ∧ k ≤ 11 ∧ Hid (MonAt 2 y (day + O) l k)) (fun _ i => 13 - (intOf i).toNat)
    case atStart => exact ⟨0, _, rfl, by go_num, by omega, Z0⟩
    case round =>
      obtain ⟨k, l, rfl, rfl, hk, HM⟩ := hrel
      have L := fun w h => ML.out y k w hk h
      have l1 := MonAt.le HH.out HM.out
      have l0 := HM.out.2.2
      have mp := mlen_pos 2 y ((k : Int) + 1)
      have HN := fun h => MonAt.next HH.out HM.out h
      have HD : Hid (l < mlen 2 y ((k : Int) + 1) → IsDt 2 day y ((k : Int) + 1) (l + 1)) := by
        have h := HM.out
        rw [← HO.out] at h
        exact fun g => h.done g
      obtain ⟨D, hD⟩ : ∃ D, mlen 2 y ((k : Int) + 1) = D := ⟨_, rfl⟩
      simp only [hD] at L HN HD mp
      have HN' : Hid (D ≤ l → MonAt 2 y (day + O) (l - D) (k + 1)) := HN
      clear hD HN af
      by_cases hl : D ≤ l
      · go_wp2_with (go_at_call 34; refine (L _ M3).mono ?_; rintro e w' ⟨rfl, rfl⟩)
        go_round
        case rel => exact ⟨k + 1, l - D, by go_num, by go_num, (HN'.out hl).1, HN'.out hl⟩
        case measure => simp [intOf]; omega
      · go_wp2_with (go_at_call 34; refine (L _ M3).mono ?_; rintro e w' ⟨rfl, rfl⟩)
        exact bodyPost_ret (v := .agg #[.int .i64 y, .int .i64 ((k : Int) + 1), .int .i64 (l + 1)]) (by simp [results, Tryz.results24, go_sem, r0, r1, r2]) rfl ⟨y, (k : Int) + 1, l + 1, rfl, ⟨HD.out (by omega), y0, y1⟩, xset (xset (xset X3 (Nat.le_refl _) _) (Nat.le_refl _) _) (Nat.le_refl _) _⟩

end Go.Proofs.YtmcmohooodpfeaaGreatDoor
