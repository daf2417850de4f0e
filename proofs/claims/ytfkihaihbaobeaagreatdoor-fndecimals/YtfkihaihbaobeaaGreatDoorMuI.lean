/-
  The program's DecMul, DecOf.
-/
import Derived.Test.YtfkihaihbaobeaaGreatDoorImE
import Derived.Test.YtfkihaihbaobeaaGreatDoorSized
namespace Go.Proofs.YtfkihaihbaobeaaGreatDoor
open Go.RowKit

def badR : DR := ⟨false, false, 0, 0⟩
/-- What DecMul answers. -/
def mulR (na : Bool) (da ea : Int) (nb : Bool) (db eb : Int) : DR := if (goodB na da ea && goodB nb db eb) = true then putR (na != nb) (da.toNat * db.toNat) (ea + eb) false else badR
/-- What DecOf answers. -/
def ofR (d e : Int) : DR := if -1000 ≤ e ∧ e ≤ 1000 then putR (decide (d < 0)) d.natAbs e false else badR

set_option maxRecDepth 4000 in
set_option maxHeartbeats 2000000 in
theorem mulI (na nb : Bool) (da ea db eb : Int) (w : World) (a1 : -9223372036854775808 ≤ da) (a2 : da ≤ 9223372036854775807) (b1 : -9223372036854775808 ≤ db) (b2 : db ≤ 9223372036854775807) (hT : Tens w) :
    Calls Tryz.prog 6 #[.agg #[.bool na, .int .i64 da, .int .i64 ea], .agg #[.bool nb, .int .i64 db, .int .i64 eb]] w fun r w' => r = .returned (resV (mulR na da ea nb db eb)) ∧ Ext w w' := by
  obtain ⟨R, hR⟩ : ∃ R, mulR na da ea nb db eb = R := ⟨_, rfl⟩
  rw [hR]
  have X0 := xa (xa (x1 w (.cells #[.bool na, .int .i64 da, .int .i64 ea] 24)) (.cells #[.bool nb, .int .i64 db, .int .i64 eb] 24)) (.cells #[.bool false, .bool false, .int .i64 0, .int .i64 0] 28)
  have Ba := (Box3.made w (.bool na) (.int .i64 da) (.int .i64 ea) 24).later (xa (x1 _ (.cells #[.bool nb, .int .i64 db, .int .i64 eb] 24)) (.cells #[.bool false, .bool false, .int .i64 0, .int .i64 0] 28))
  have Bb := (Box3.made (w.alloc (.cells #[.bool na, .int .i64 da, .int .i64 ea] 24)) (.bool nb) (.int .i64 db) (.int .i64 eb) 24).later (x1 _ (.cells #[.bool false, .bool false, .int .i64 0, .int .i64 0] 28))
  have Br := Box4.made ((w.alloc (.cells #[.bool na, .int .i64 da, .int .i64 ea] 24)).alloc (.cells #[.bool nb, .int .i64 db, .int .i64 eb] 24)) (.bool false) (.bool false) (.int .i64 0) (.int .i64 0) 28
  simp only [World.size_alloc] at Bb Br
  have T := hT.later X0
  clear hT
  go_enter Tryz.func6, Tryz.ntmps6
  go_wp2_with fail
  cases ga : goodB na da ea
  · have HR : Hid (R = ⟨false, false, 0, 0⟩) := by rw [← hR]; unfold mulR; rw [ga]; rfl
    refine (goodI_is false na da ea _ a1 a2 T ga).mono ?_
    rintro r w1 ⟨rfl, x1'⟩
    obtain ⟨⟨m0, m1, m2, m3⟩, n0, n1, n2, n3⟩ := Br.later x1'
    clear ga hR
    go_wp2_with fail
    exact bodyPost_ret (v := .agg #[.bool false, .bool false, .int .i64 0, .int .i64 0]) (by simp [results, Tryz.results6, go_sem, m0, m1, m2, m3]) rfl ⟨by rw [HR.out], xset (xset (xset (xset (xt X0 x1') (by simp only; omega) _) (by simp only; omega) _) (by simp only; omega) _) (by simp only; omega) _⟩
  · refine (goodI_is true na da ea _ a1 a2 T ga).mono ?_
    rintro r w1 ⟨rfl, x1'⟩
    have Bb1 := Bb.later x1'
    have Bb1' := Bb1
    obtain ⟨⟨q0, q1, q2⟩, _⟩ := Bb1'
    go_wp2_with fail
    cases gb : goodB nb db eb
    · have HR : Hid (R = ⟨false, false, 0, 0⟩) := by rw [← hR]; unfold mulR; rw [ga, gb]; rfl
      refine (goodI_is false nb db eb _ b1 b2 (T.later x1') gb).mono ?_
      rintro r w2 ⟨rfl, x2'⟩
      obtain ⟨⟨m0, m1, m2, m3⟩, n0, n1, n2, n3⟩ := (Br.later x1').later x2'
      clear ga gb hR q0 q1 q2
      go_wp2_with fail
      exact bodyPost_ret (v := .agg #[.bool false, .bool false, .int .i64 0, .int .i64 0]) (by simp [results, Tryz.results6, go_sem, m0, m1, m2, m3]) rfl ⟨by rw [HR.out], xset (xset (xset (xset (xt (xt X0 x1') x2') (by simp only; omega) _) (by simp only; omega) _) (by simp only; omega) _) (by simp only; omega) _⟩
    · refine (goodI_is true nb db eb _ b1 b2 (T.later x1') gb).mono ?_
      rintro r w2 ⟨rfl, x2'⟩
      obtain ⟨ga0, ga1, ga2, ga3⟩ := good_bd ga
      obtain ⟨gb0, gb1, gb2, gb3⟩ := good_bd gb
      have HR : Hid (putR (na != nb) (da.toNat * db.toNat) (ea + eb) false = R) := by rw [← hR]; unfold mulR; rw [ga, gb]; rfl
      obtain ⟨A, rfl⟩ := Int.eq_ofNat_of_zero_le ga0
      obtain ⟨B, rfl⟩ := Int.eq_ofNat_of_zero_le gb0
      simp only [Int.toNat_natCast] at HR
      have PR : Hid (∀ w2, Calls Tryz.prog 20 #[.int .u64 A, .int .u64 B] w2 fun e w' => ∃ h l : Nat, e = .returned (.agg #[.int .u64 h, .int .u64 l]) ∧ WV (.agg #[.int .u64 h, .int .u64 l]) (A * B) ∧ Ext w2 w') := fun w2 => by
        refine (product_any A B (by omega) (by omega) w2).mono ?_
        rintro e w' ⟨v, rfl, hv, hx⟩
        have hv' := hv
        obtain ⟨h, l, rfl, _⟩ := hv'
        exact ⟨h, l, rfl, hv, hx⟩
      have PU : Hid (∀ w2 h l, Tens w2 → WV (.agg #[.int .u64 h, .int .u64 l]) (A * B) → Calls Tryz.prog 19 #[.bool (na != nb), .agg #[.int .u64 h, .int .u64 l], .int .i64 (ea + eb), .bool false] w2 fun r w' => r = .returned (resV R) ∧ Ext w2 w') := fun w2 h l hT hv => by
        rw [← HR.out]; exact put_any _ _ _ w2 hv (by omega) (by omega) hT
      have wA : IntKind.u64.wrap (A : Int) = (A : Int) := by rw [IntKind.wrap_u64]; omega
      have wB : IntKind.u64.wrap (B : Int) = (B : Int) := by rw [IntKind.wrap_u64]; omega
      have wE : IntKind.i64.wrap (ea + eb) = ea + eb := by rw [IntKind.wrap_i64]; omega
      have Ba2 := (Ba.later x1').later x2'
      have Bb2 := Bb1.later x2'
      have Br2 := (Br.later x1').later x2'
      have T2 := (T.later x1').later x2'
      have X2 := xt (xt X0 x1') x2'
      have Ba2' := Ba2
      have Bb2' := Bb2
      obtain ⟨⟨p0, p1, p2⟩, _⟩ := Ba2'
      obtain ⟨⟨p3, p4, p5⟩, _⟩ := Bb2'
      have xn : ((na != nb)) = !(na == nb) := rfl
      clear ga gb hR q0 q1 q2 Ba Bb Bb1 Br T X0 x1' x2' a1 a2 b1 b2 ga0 gb0 HR xn
      have nz0 : w.heap.size + 1 + 1 ≠ w.heap.size := by omega
      have nz1 : w.heap.size + 1 + 1 ≠ w.heap.size + 1 := by omega
      go_upto_region 3 with fail
      go_region_held3 (fun w' => (w'.cell? ⟨w.heap.size, 0, none⟩ = some (.bool na) ∧ w'.cell? ⟨w.heap.size, 1, none⟩ = some (.int .i64 A) ∧ w'.cell? ⟨w.heap.size, 2, none⟩ = some (.int .i64 ea)) ∧ w'.cell? ⟨w.heap.size + 1, 0, none⟩ = some (.bool nb) ∧ w'.cell? ⟨w.heap.size + 1, 1, none⟩ = some (.int .i64 B) ∧ w'.cell? ⟨w.heap.size + 1, 2, none⟩ = some (.int .i64 eb)) (go_keep) (first
        | (go_at_call 20; refine (PR.out _).mono ?_; rintro r w3 ⟨h, l, rfl, hW, e3⟩; have X3 : Ext w2 w3 := xt (xd (xr _)) e3; obtain ⟨⟨a30, a31, a32⟩, _⟩ := Ba2.later X3; obtain ⟨⟨b30, b31, b32⟩, _⟩ := Bb2.later X3)
        | (go_at_call 19; refine (PU.out _ _ _ (T2.later X3) hW).mono ?_; rintro r w4 ⟨rfl, e4⟩; have X4 : Ext w2 w4 := xt X3 e4; obtain ⟨⟨a40, a41, a42⟩, _⟩ := Ba2.later X4; obtain ⟨⟨b40, b41, b42⟩, _⟩ := Bb2.later X4; obtain ⟨⟨m0, m1, m2, m3⟩, n0, n1, n2, n3⟩ := Br2.later X4))
      all_goals
        go_wp2_with fail
        exact bodyPost_ret (v := resV R) (by simp [results, Tryz.results6, go_sem, m0, m1, m2, m3]) rfl ⟨rfl, xset (xset (xset (xset (xt X2 X4) (by simp only; omega) _) (by simp only; omega) _) (by simp only; omega) _) (by simp only; omega) _⟩

set_option maxRecDepth 4000 in
set_option maxHeartbeats 1000000 in
theorem within_any (n m : Int) (c : Bool) (w : World) (hc : decide (-m ≤ n ∧ n ≤ m) = c) (m0 : 0 ≤ m) (m1 : m ≤ 100000) :
    Calls Tryz.prog 37 #[.int .i64 n, .int .i64 m] w fun r w' => r = .returned (.bool c) ∧ w' = w := by
  have H : Hid (∀ b : Bool, (b = true ↔ -m ≤ n ∧ n ≤ m) → b = c) := fun b hb => by
    rw [← hc, Bool.eq_iff_iff, decide_eq_true_eq]; exact hb
  clear hc
  by_cases h1 : -m ≤ n
  · go_enter Tryz.func37, Tryz.ntmps37
    go_wp2
    all_goals go_ret
    all_goals exact ⟨ret_bool (H.out _ (by simp [h1])), rfl⟩
  · have h1' : n < -m := by omega
    go_enter Tryz.func37, Tryz.ntmps37
    go_wp2
    all_goals go_ret
    all_goals exact ⟨ret_bool (H.out _ (by simp; omega)), rfl⟩

end Go.Proofs.YtfkihaihbaobeaaGreatDoor

