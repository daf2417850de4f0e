/-
  Chapter 4: what is right of a node, of the specification: kinds 2, 3.
-/
import Derived.Test.YtcjjobciokfehaaGreatDoorMg19
namespace Go.Proofs.YtcjjobciokfehaaGreatDoor
open Go.RowKit

set_option maxRecDepth 8000 in
set_option maxHeartbeats 2000000 in
theorem rightS2 (t : List UInt8) (neg : Bool) (d : Int) (x : Int) (r : Int) (c : Int) (rf : Bool) (cf : Bool) (r2 : Int) (c2 : Int) (rf2 : Bool) (cf2 : Bool) (m : Int) (p : Option Addr) (kk cap : Nat) (many : Bool) (w : World) (hl : t.length ≤ 1048576) :
  Calls Tryz.prog 61 #[exV 2 t neg d x r c rf cf r2 c2 rf2 cf2 m (.slice p kk cap), .bool many] w fun e w' => e = .returned (.bool (decide (m = (kk : Int)) && (zeroDN neg d x && zeroRN r c rf cf && zeroRN r2 c2 rf2 cf2) && decide (kk = 0) && printB t)) ∧ Ext w w' := by
 have hU : True := by have _ := hl; trivial
 clear hU
 obtain ⟨Q, hQ⟩ : ∃ Q, (decide (m = (kk : Int)) && (zeroDN neg d x && zeroRN r c rf cf && zeroRN r2 c2 rf2 cf2) && decide (kk = 0) && printB t) = Q := ⟨_, rfl⟩
 have HQ : Hid ((decide (m = (kk : Int)) && (zeroDN neg d x && zeroRN r c rf cf && zeroRN r2 c2 rf2 cf2) && decide (kk = 0) && printB t) = Q) := hQ
 rw [hQ]
 clear hQ
 have X1 := x1 w (.cells #[.int .i64 2, sV t, .bool neg, .int .i64 d, .int .i64 x, .int .i64 r, .int .i64 c, .bool rf, .bool cf, .int .i64 r2, .int .i64 c2, .bool rf2, .bool cf2, .int .i64 m, .slice p kk cap] 51)
 obtain ⟨wa, ha⟩ : ∃ wa, w.alloc (.cells #[.int .i64 2, sV t, .bool neg, .int .i64 d, .int .i64 x, .int .i64 r, .int .i64 c, .bool rf, .bool cf, .int .i64 r2, .int .i64 c2, .bool rf2, .bool cf2, .int .i64 m, .slice p kk cap] 51) = wa := ⟨_, rfl⟩
 have VE := vec_made w [.int .i64 2, sV t, .bool neg, .int .i64 d, .int .i64 x, .int .i64 r, .int .i64 c, .bool rf, .bool cf, .int .i64 r2, .int .i64 c2, .bool rf2, .bool cf2, .int .i64 m, .slice p kk cap] 51
 change Vec (w.alloc (.cells #[.int .i64 2, sV t, .bool neg, .int .i64 d, .int .i64 x, .int .i64 r, .int .i64 c, .bool rf, .bool cf, .int .i64 r2, .int .i64 c2, .bool rf2, .bool cf2, .int .i64 m, .slice p kk cap] 51)) _ _ at VE
 have X2 := x1 wa (.cells #[.int .i64 2, sV t, .bool neg, .int .i64 d, .int .i64 x, .int .i64 r, .int .i64 c, .bool rf, .bool cf, .int .i64 r2, .int .i64 c2, .bool rf2, .bool cf2, .int .i64 m] 48)
 obtain ⟨wb, hb⟩ : ∃ wb, wa.alloc (.cells #[.int .i64 2, sV t, .bool neg, .int .i64 d, .int .i64 x, .int .i64 r, .int .i64 c, .bool rf, .bool cf, .int .i64 r2, .int .i64 c2, .bool rf2, .bool cf2, .int .i64 m] 48) = wb := ⟨_, rfl⟩
 have VN := vec_made wa [.int .i64 2, sV t, .bool neg, .int .i64 d, .int .i64 x, .int .i64 r, .int .i64 c, .bool rf, .bool cf, .int .i64 r2, .int .i64 c2, .bool rf2, .bool cf2, .int .i64 m] 48
 change Vec (wa.alloc (.cells #[.int .i64 2, sV t, .bool neg, .int .i64 d, .int .i64 x, .int .i64 r, .int .i64 c, .bool rf, .bool cf, .int .i64 r2, .int .i64 c2, .bool rf2, .bool cf2, .int .i64 m] 48)) _ _ at VN
 have sa : wa.heap.size = w.heap.size + 1 := by rw [← ha, World.size_alloc]
 rw [ha] at X1 VE
 rw [hb] at X2 VN
 rw [sa] at VN
 have VE2 := VE.later X2
 have X := xt X1 X2
 clear X1 X2
 by_cases q : m = (kk : Int)
 ·
  have HMK : Hid (decide (m = (kk : Int)) = true) := decide_eq_true q
  have gMK : (m != (kk : Int)) = false := by simp [q]
  clear q
  cases hBA : (zeroDN neg d x && zeroRN r c rf cf && zeroRN r2 c2 rf2 cf2)
  ·
   have HB : Hid (false = Q) := by show _ = _; first | (rw [← HQ.out, HMK.out, hBA]; rfl) | (rw [← HQ.out, HMK.out]; rfl)
   have a0 := (VE 0 _ rfl).1
   have a1 := (VE 1 _ rfl).1
   have a2 := (VE 2 _ rfl).1
   have a3 := (VE 3 _ rfl).1
   have a4 := (VE 4 _ rfl).1
   have a5 := (VE 5 _ rfl).1
   have a6 := (VE 6 _ rfl).1
   have a7 := (VE 7 _ rfl).1
   have a8 := (VE 8 _ rfl).1
   have a9 := (VE 9 _ rfl).1
   have a10 := (VE 10 _ rfl).1
   have a11 := (VE 11 _ rfl).1
   have a12 := (VE 12 _ rfl).1
   have a13 := (VE 13 _ rfl).1
   have a14 := (VE 14 _ rfl).1
   have d14 := (VE2 14 _ rfl).1
   have n0 := (VN 0 _ rfl).1
   have n1 := (VN 1 _ rfl).1
   have n2 := (VN 2 _ rfl).1
   have n3 := (VN 3 _ rfl).1
   have n4 := (VN 4 _ rfl).1
   have n5 := (VN 5 _ rfl).1
   have n6 := (VN 6 _ rfl).1
   have n7 := (VN 7 _ rfl).1
   have n8 := (VN 8 _ rfl).1
   have n9 := (VN 9 _ rfl).1
   have n10 := (VN 10 _ rfl).1
   have n11 := (VN 11 _ rfl).1
   have n12 := (VN 12 _ rfl).1
   have n13 := (VN 13 _ rfl).1
   go_enter Tryz.func61, Tryz.ntmps61
   go_wp2_with fail
   clear a0 a1 a2 a3 a4 a5 a6 a7 a8 a9 a10 a11 a12 a13 a14 d14
   refine (bareS _ _ _ _ _ _ _ _ _ _ _ _ _ _ _).mono ?_
   rintro e w1 ⟨rfl, e1⟩
   have V1 := VN.later e1
   have Y1 := xt X e1
   clear n0 n1 n2 n3 n4 n5 n6 n7 n8 n9 n10 n11 n12 n13
   have n1x0 := (V1 0 _ rfl).1
   have n1x1 := (V1 1 _ rfl).1
   have n1x2 := (V1 2 _ rfl).1
   have n1x3 := (V1 3 _ rfl).1
   have n1x4 := (V1 4 _ rfl).1
   have n1x5 := (V1 5 _ rfl).1
   have n1x6 := (V1 6 _ rfl).1
   have n1x7 := (V1 7 _ rfl).1
   have n1x8 := (V1 8 _ rfl).1
   have n1x9 := (V1 9 _ rfl).1
   have n1x10 := (V1 10 _ rfl).1
   have n1x11 := (V1 11 _ rfl).1
   have n1x12 := (V1 12 _ rfl).1
   have n1x13 := (V1 13 _ rfl).1
   rw [hBA]
   go_wp2_with fail
   go_ret
   exact ⟨ret_bool HB.out, Y1⟩
  ·
   by_cases q : kk = 0
   ·
    have HK0 : Hid (decide (kk = 0) = true) := decide_eq_true q
    have gK0 : ((kk : Int) == 0) = true := by simp [q]
    clear q
    cases hPR : printB t
    ·
     have HB : Hid (false = Q) := by show _ = _; first | (rw [← HQ.out, HMK.out, hBA, HK0.out, hPR]; rfl) | (rw [← HQ.out, HMK.out, hBA, HK0.out]; rfl)
     have a0 := (VE 0 _ rfl).1
     have a1 := (VE 1 _ rfl).1
     have a2 := (VE 2 _ rfl).1
     have a3 := (VE 3 _ rfl).1
     have a4 := (VE 4 _ rfl).1
     have a5 := (VE 5 _ rfl).1
     have a6 := (VE 6 _ rfl).1
     have a7 := (VE 7 _ rfl).1
     have a8 := (VE 8 _ rfl).1
     have a9 := (VE 9 _ rfl).1
     have a10 := (VE 10 _ rfl).1
     have a11 := (VE 11 _ rfl).1
     have a12 := (VE 12 _ rfl).1
     have a13 := (VE 13 _ rfl).1
     have a14 := (VE 14 _ rfl).1
     have d14 := (VE2 14 _ rfl).1
     have n0 := (VN 0 _ rfl).1
     have n1 := (VN 1 _ rfl).1
     have n2 := (VN 2 _ rfl).1
     have n3 := (VN 3 _ rfl).1
     have n4 := (VN 4 _ rfl).1
     have n5 := (VN 5 _ rfl).1
     have n6 := (VN 6 _ rfl).1
     have n7 := (VN 7 _ rfl).1
     have n8 := (VN 8 _ rfl).1
     have n9 := (VN 9 _ rfl).1
     have n10 := (VN 10 _ rfl).1
     have n11 := (VN 11 _ rfl).1
     have n12 := (VN 12 _ rfl).1
     have n13 := (VN 13 _ rfl).1
     go_enter Tryz.func61, Tryz.ntmps61
     go_wp2_with fail
     clear a0 a1 a2 a3 a4 a5 a6 a7 a8 a9 a10 a11 a12 a13 a14 d14
     refine (bareS _ _ _ _ _ _ _ _ _ _ _ _ _ _ _).mono ?_
     rintro e w1 ⟨rfl, e1⟩
     have V1 := VN.later e1
     have Y1 := xt X e1
     clear n0 n1 n2 n3 n4 n5 n6 n7 n8 n9 n10 n11 n12 n13
     have n1x0 := (V1 0 _ rfl).1
     have n1x1 := (V1 1 _ rfl).1
     have n1x2 := (V1 2 _ rfl).1
     have n1x3 := (V1 3 _ rfl).1
     have n1x4 := (V1 4 _ rfl).1
     have n1x5 := (V1 5 _ rfl).1
     have n1x6 := (V1 6 _ rfl).1
     have n1x7 := (V1 7 _ rfl).1
     have n1x8 := (V1 8 _ rfl).1
     have n1x9 := (V1 9 _ rfl).1
     have n1x10 := (V1 10 _ rfl).1
     have n1x11 := (V1 11 _ rfl).1
     have n1x12 := (V1 12 _ rfl).1
     have n1x13 := (V1 13 _ rfl).1
     rw [hBA]
     go_wp2_with fail
     refine (printS 200 t _ (by omega)).mono ?_
     rintro e w2 ⟨rfl, rfl⟩
     rw [show printN 200 t = false from hPR]
     go_wp2_with fail
     go_ret
     exact ⟨ret_bool HB.out, Y1⟩
    ·
     have HB : Hid (true = Q) := by show _ = _; first | (rw [← HQ.out, HMK.out, hBA, HK0.out, hPR]; rfl) | (rw [← HQ.out, HMK.out, hBA, HK0.out]; rfl)
     have a0 := (VE 0 _ rfl).1
     have a1 := (VE 1 _ rfl).1
     have a2 := (VE 2 _ rfl).1
     have a3 := (VE 3 _ rfl).1
     have a4 := (VE 4 _ rfl).1
     have a5 := (VE 5 _ rfl).1
     have a6 := (VE 6 _ rfl).1
     have a7 := (VE 7 _ rfl).1
     have a8 := (VE 8 _ rfl).1
     have a9 := (VE 9 _ rfl).1
     have a10 := (VE 10 _ rfl).1
     have a11 := (VE 11 _ rfl).1
     have a12 := (VE 12 _ rfl).1
     have a13 := (VE 13 _ rfl).1
     have a14 := (VE 14 _ rfl).1
     have d14 := (VE2 14 _ rfl).1
     have n0 := (VN 0 _ rfl).1
     have n1 := (VN 1 _ rfl).1
     have n2 := (VN 2 _ rfl).1
     have n3 := (VN 3 _ rfl).1
     have n4 := (VN 4 _ rfl).1
     have n5 := (VN 5 _ rfl).1
     have n6 := (VN 6 _ rfl).1
     have n7 := (VN 7 _ rfl).1
     have n8 := (VN 8 _ rfl).1
     have n9 := (VN 9 _ rfl).1
     have n10 := (VN 10 _ rfl).1
     have n11 := (VN 11 _ rfl).1
     have n12 := (VN 12 _ rfl).1
     have n13 := (VN 13 _ rfl).1
     go_enter Tryz.func61, Tryz.ntmps61
     go_wp2_with fail
     clear a0 a1 a2 a3 a4 a5 a6 a7 a8 a9 a10 a11 a12 a13 a14 d14
     refine (bareS _ _ _ _ _ _ _ _ _ _ _ _ _ _ _).mono ?_
     rintro e w1 ⟨rfl, e1⟩
     have V1 := VN.later e1
     have Y1 := xt X e1
     clear n0 n1 n2 n3 n4 n5 n6 n7 n8 n9 n10 n11 n12 n13
     have n1x0 := (V1 0 _ rfl).1
     have n1x1 := (V1 1 _ rfl).1
     have n1x2 := (V1 2 _ rfl).1
     have n1x3 := (V1 3 _ rfl).1
     have n1x4 := (V1 4 _ rfl).1
     have n1x5 := (V1 5 _ rfl).1
     have n1x6 := (V1 6 _ rfl).1
     have n1x7 := (V1 7 _ rfl).1
     have n1x8 := (V1 8 _ rfl).1
     have n1x9 := (V1 9 _ rfl).1
     have n1x10 := (V1 10 _ rfl).1
     have n1x11 := (V1 11 _ rfl).1
     have n1x12 := (V1 12 _ rfl).1
     have n1x13 := (V1 13 _ rfl).1
     rw [hBA]
     go_wp2_with fail
     refine (printS 200 t _ (by omega)).mono ?_
     rintro e w2 ⟨rfl, rfl⟩
     rw [show printN 200 t = true from hPR]
     go_wp2_with fail
     go_ret
     exact ⟨ret_bool HB.out, Y1⟩
   ·
    have HK0 : Hid (decide (kk = 0) = false) := decide_eq_false q
    have gK0 : ((kk : Int) == 0) = false := by simp; omega
    clear q
    have HB : Hid (false = Q) := by show _ = _; first | (rw [← HQ.out, HMK.out, hBA, HK0.out]; rfl) | (rw [← HQ.out, HMK.out, hBA]; rfl)
    have a0 := (VE 0 _ rfl).1
    have a1 := (VE 1 _ rfl).1
    have a2 := (VE 2 _ rfl).1
    have a3 := (VE 3 _ rfl).1
    have a4 := (VE 4 _ rfl).1
    have a5 := (VE 5 _ rfl).1
    have a6 := (VE 6 _ rfl).1
    have a7 := (VE 7 _ rfl).1
    have a8 := (VE 8 _ rfl).1
    have a9 := (VE 9 _ rfl).1
    have a10 := (VE 10 _ rfl).1
    have a11 := (VE 11 _ rfl).1
    have a12 := (VE 12 _ rfl).1
    have a13 := (VE 13 _ rfl).1
    have a14 := (VE 14 _ rfl).1
    have d14 := (VE2 14 _ rfl).1
    have n0 := (VN 0 _ rfl).1
    have n1 := (VN 1 _ rfl).1
    have n2 := (VN 2 _ rfl).1
    have n3 := (VN 3 _ rfl).1
    have n4 := (VN 4 _ rfl).1
    have n5 := (VN 5 _ rfl).1
    have n6 := (VN 6 _ rfl).1
    have n7 := (VN 7 _ rfl).1
    have n8 := (VN 8 _ rfl).1
    have n9 := (VN 9 _ rfl).1
    have n10 := (VN 10 _ rfl).1
    have n11 := (VN 11 _ rfl).1
    have n12 := (VN 12 _ rfl).1
    have n13 := (VN 13 _ rfl).1
    go_enter Tryz.func61, Tryz.ntmps61
    go_wp2_with fail
    clear a0 a1 a2 a3 a4 a5 a6 a7 a8 a9 a10 a11 a12 a13 a14 d14
    refine (bareS _ _ _ _ _ _ _ _ _ _ _ _ _ _ _).mono ?_
    rintro e w1 ⟨rfl, e1⟩
    have V1 := VN.later e1
    have Y1 := xt X e1
    clear n0 n1 n2 n3 n4 n5 n6 n7 n8 n9 n10 n11 n12 n13
    have n1x0 := (V1 0 _ rfl).1
    have n1x1 := (V1 1 _ rfl).1
    have n1x2 := (V1 2 _ rfl).1
    have n1x3 := (V1 3 _ rfl).1
    have n1x4 := (V1 4 _ rfl).1
    have n1x5 := (V1 5 _ rfl).1
    have n1x6 := (V1 6 _ rfl).1
    have n1x7 := (V1 7 _ rfl).1
    have n1x8 := (V1 8 _ rfl).1
    have n1x9 := (V1 9 _ rfl).1
    have n1x10 := (V1 10 _ rfl).1
    have n1x11 := (V1 11 _ rfl).1
    have n1x12 := (V1 12 _ rfl).1
    have n1x13 := (V1 13 _ rfl).1
    rw [hBA]
    go_wp2_with fail
    go_ret
    exact ⟨ret_bool HB.out, Y1⟩
 ·
  have HMK : Hid (decide (m = (kk : Int)) = false) := decide_eq_false q
  have gMK : (m != (kk : Int)) = true := by simpa using q
  have HB : Hid (false = Q) := by show _ = _; first | (rw [← HQ.out, HMK.out]; rfl) | (rw [← HQ.out]; rfl)
  have a0 := (VE 0 _ rfl).1
  have a1 := (VE 1 _ rfl).1
  have a2 := (VE 2 _ rfl).1
  have a3 := (VE 3 _ rfl).1
  have a4 := (VE 4 _ rfl).1
  have a5 := (VE 5 _ rfl).1
  have a6 := (VE 6 _ rfl).1
  have a7 := (VE 7 _ rfl).1
  have a8 := (VE 8 _ rfl).1
  have a9 := (VE 9 _ rfl).1
  have a10 := (VE 10 _ rfl).1
  have a11 := (VE 11 _ rfl).1
  have a12 := (VE 12 _ rfl).1
  have a13 := (VE 13 _ rfl).1
  have a14 := (VE 14 _ rfl).1
  have d14 := (VE2 14 _ rfl).1
  have n0 := (VN 0 _ rfl).1
  have n1 := (VN 1 _ rfl).1
  have n2 := (VN 2 _ rfl).1
  have n3 := (VN 3 _ rfl).1
  have n4 := (VN 4 _ rfl).1
  have n5 := (VN 5 _ rfl).1
  have n6 := (VN 6 _ rfl).1
  have n7 := (VN 7 _ rfl).1
  have n8 := (VN 8 _ rfl).1
  have n9 := (VN 9 _ rfl).1
  have n10 := (VN 10 _ rfl).1
  have n11 := (VN 11 _ rfl).1
  have n12 := (VN 12 _ rfl).1
  have n13 := (VN 13 _ rfl).1
  go_enter Tryz.func61, Tryz.ntmps61
  go_wp2_with fail
  clear a0 a1 a2 a3 a4 a5 a6 a7 a8 a9 a10 a11 a12 a13 a14 d14
  go_ret
  exact ⟨ret_bool HB.out, X⟩
set_option maxRecDepth 8000 in
set_option maxHeartbeats 2000000 in
theorem rightS3 (t : List UInt8) (neg : Bool) (d : Int) (x : Int) (r : Int) (c : Int) (rf : Bool) (cf : Bool) (r2 : Int) (c2 : Int) (rf2 : Bool) (cf2 : Bool) (m : Int) (p : Option Addr) (kk cap : Nat) (many : Bool) (w : World) (hl : t.length ≤ 1048576) :
  Calls Tryz.prog 61 #[exV 3 t neg d x r c rf cf r2 c2 rf2 cf2 m (.slice p kk cap), .bool many] w fun e w' => e = .returned (.bool (decide (m = (kk : Int)) && (zeroDN neg d x && zeroRN r c rf cf && zeroRN r2 c2 rf2 cf2) && decide (kk = 0) && boolB t)) ∧ Ext w w' := by
 have hU : True := by have _ := hl; trivial
 clear hU
 obtain ⟨Q, hQ⟩ : ∃ Q, (decide (m = (kk : Int)) && (zeroDN neg d x && zeroRN r c rf cf && zeroRN r2 c2 rf2 cf2) && decide (kk = 0) && boolB t) = Q := ⟨_, rfl⟩
 have HQ : Hid ((decide (m = (kk : Int)) && (zeroDN neg d x && zeroRN r c rf cf && zeroRN r2 c2 rf2 cf2) && decide (kk = 0) && boolB t) = Q) := hQ
 rw [hQ]
 clear hQ
 have X1 := x1 w (.cells #[.int .i64 3, sV t, .bool neg, .int .i64 d, .int .i64 x, .int .i64 r, .int .i64 c, .bool rf, .bool cf, .int .i64 r2, .int .i64 c2, .bool rf2, .bool cf2, .int .i64 m, .slice p kk cap] 51)
 obtain ⟨wa, ha⟩ : ∃ wa, w.alloc (.cells #[.int .i64 3, sV t, .bool neg, .int .i64 d, .int .i64 x, .int .i64 r, .int .i64 c, .bool rf, .bool cf, .int .i64 r2, .int .i64 c2, .bool rf2, .bool cf2, .int .i64 m, .slice p kk cap] 51) = wa := ⟨_, rfl⟩
 have VE := vec_made w [.int .i64 3, sV t, .bool neg, .int .i64 d, .int .i64 x, .int .i64 r, .int .i64 c, .bool rf, .bool cf, .int .i64 r2, .int .i64 c2, .bool rf2, .bool cf2, .int .i64 m, .slice p kk cap] 51
 change Vec (w.alloc (.cells #[.int .i64 3, sV t, .bool neg, .int .i64 d, .int .i64 x, .int .i64 r, .int .i64 c, .bool rf, .bool cf, .int .i64 r2, .int .i64 c2, .bool rf2, .bool cf2, .int .i64 m, .slice p kk cap] 51)) _ _ at VE
 have X2 := x1 wa (.cells #[.int .i64 3, sV t, .bool neg, .int .i64 d, .int .i64 x, .int .i64 r, .int .i64 c, .bool rf, .bool cf, .int .i64 r2, .int .i64 c2, .bool rf2, .bool cf2, .int .i64 m] 48)
 obtain ⟨wb, hb⟩ : ∃ wb, wa.alloc (.cells #[.int .i64 3, sV t, .bool neg, .int .i64 d, .int .i64 x, .int .i64 r, .int .i64 c, .bool rf, .bool cf, .int .i64 r2, .int .i64 c2, .bool rf2, .bool cf2, .int .i64 m] 48) = wb := ⟨_, rfl⟩
 have VN := vec_made wa [.int .i64 3, sV t, .bool neg, .int .i64 d, .int .i64 x, .int .i64 r, .int .i64 c, .bool rf, .bool cf, .int .i64 r2, .int .i64 c2, .bool rf2, .bool cf2, .int .i64 m] 48
 change Vec (wa.alloc (.cells #[.int .i64 3, sV t, .bool neg, .int .i64 d, .int .i64 x, .int .i64 r, .int .i64 c, .bool rf, .bool cf, .int .i64 r2, .int .i64 c2, .bool rf2, .bool cf2, .int .i64 m] 48)) _ _ at VN
 have sa : wa.heap.size = w.heap.size + 1 := by rw [← ha, World.size_alloc]
 rw [ha] at X1 VE
 rw [hb] at X2 VN
 rw [sa] at VN
 have VE2 := VE.later X2
 have X := xt X1 X2
 clear X1 X2
 by_cases q : m = (kk : Int)
 ·
  have HMK : Hid (decide (m = (kk : Int)) = true) := decide_eq_true q
  have gMK : (m != (kk : Int)) = false := by simp [q]
  clear q
  cases hBA : (zeroDN neg d x && zeroRN r c rf cf && zeroRN r2 c2 rf2 cf2)
  ·
   have HB : Hid (false = Q) := by show _ = _; first | (rw [← HQ.out, HMK.out, hBA]; rfl) | (rw [← HQ.out, HMK.out]; rfl)
   have a0 := (VE 0 _ rfl).1
   have a1 := (VE 1 _ rfl).1
   have a2 := (VE 2 _ rfl).1
   have a3 := (VE 3 _ rfl).1
   have a4 := (VE 4 _ rfl).1
   have a5 := (VE 5 _ rfl).1
   have a6 := (VE 6 _ rfl).1
   have a7 := (VE 7 _ rfl).1
   have a8 := (VE 8 _ rfl).1
   have a9 := (VE 9 _ rfl).1
   have a10 := (VE 10 _ rfl).1
   have a11 := (VE 11 _ rfl).1
   have a12 := (VE 12 _ rfl).1
   have a13 := (VE 13 _ rfl).1
   have a14 := (VE 14 _ rfl).1
   have d14 := (VE2 14 _ rfl).1
   have n0 := (VN 0 _ rfl).1
   have n1 := (VN 1 _ rfl).1
   have n2 := (VN 2 _ rfl).1
   have n3 := (VN 3 _ rfl).1
   have n4 := (VN 4 _ rfl).1
   have n5 := (VN 5 _ rfl).1
   have n6 := (VN 6 _ rfl).1
   have n7 := (VN 7 _ rfl).1
   have n8 := (VN 8 _ rfl).1
   have n9 := (VN 9 _ rfl).1
   have n10 := (VN 10 _ rfl).1
   have n11 := (VN 11 _ rfl).1
   have n12 := (VN 12 _ rfl).1
   have n13 := (VN 13 _ rfl).1
   go_enter Tryz.func61, Tryz.ntmps61
   go_wp2_with fail
   clear a0 a1 a2 a3 a4 a5 a6 a7 a8 a9 a10 a11 a12 a13 a14 d14
   refine (bareS _ _ _ _ _ _ _ _ _ _ _ _ _ _ _).mono ?_
   rintro e w1 ⟨rfl, e1⟩
   have V1 := VN.later e1
   have Y1 := xt X e1
   clear n0 n1 n2 n3 n4 n5 n6 n7 n8 n9 n10 n11 n12 n13
   have n1x0 := (V1 0 _ rfl).1
   have n1x1 := (V1 1 _ rfl).1
   have n1x2 := (V1 2 _ rfl).1
   have n1x3 := (V1 3 _ rfl).1
   have n1x4 := (V1 4 _ rfl).1
   have n1x5 := (V1 5 _ rfl).1
   have n1x6 := (V1 6 _ rfl).1
   have n1x7 := (V1 7 _ rfl).1
   have n1x8 := (V1 8 _ rfl).1
   have n1x9 := (V1 9 _ rfl).1
   have n1x10 := (V1 10 _ rfl).1
   have n1x11 := (V1 11 _ rfl).1
   have n1x12 := (V1 12 _ rfl).1
   have n1x13 := (V1 13 _ rfl).1
   rw [hBA]
   go_wp2_with fail
   go_ret
   exact ⟨ret_bool HB.out, Y1⟩
  ·
   by_cases q : kk = 0
   ·
    have HK0 : Hid (decide (kk = 0) = true) := decide_eq_true q
    have gK0 : ((kk : Int) == 0) = true := by simp [q]
    clear q
    obtain ⟨p1, hp1⟩ : ∃ p1, (t == [84, 82, 85, 69]) = p1 := ⟨_, rfl⟩
    obtain ⟨p2, hp2⟩ : ∃ p2, (t == [70, 65, 76, 83, 69]) = p2 := ⟨_, rfl⟩
    have hBO : boolB t = (p1 || p2) := by unfold boolB; rw [hp1, hp2]
    cases p1
    ·
     cases p2
     ·
      have HB : Hid (false = Q) := by show _ = _; first | (rw [← HQ.out, HMK.out, hBA, HK0.out, hBO]; rfl) | (rw [← HQ.out, HMK.out, hBA, HK0.out]; rfl)
      have a0 := (VE 0 _ rfl).1
      have a1 := (VE 1 _ rfl).1
      have a2 := (VE 2 _ rfl).1
      have a3 := (VE 3 _ rfl).1
      have a4 := (VE 4 _ rfl).1
      have a5 := (VE 5 _ rfl).1
      have a6 := (VE 6 _ rfl).1
      have a7 := (VE 7 _ rfl).1
      have a8 := (VE 8 _ rfl).1
      have a9 := (VE 9 _ rfl).1
      have a10 := (VE 10 _ rfl).1
      have a11 := (VE 11 _ rfl).1
      have a12 := (VE 12 _ rfl).1
      have a13 := (VE 13 _ rfl).1
      have a14 := (VE 14 _ rfl).1
      have d14 := (VE2 14 _ rfl).1
      have n0 := (VN 0 _ rfl).1
      have n1 := (VN 1 _ rfl).1
      have n2 := (VN 2 _ rfl).1
      have n3 := (VN 3 _ rfl).1
      have n4 := (VN 4 _ rfl).1
      have n5 := (VN 5 _ rfl).1
      have n6 := (VN 6 _ rfl).1
      have n7 := (VN 7 _ rfl).1
      have n8 := (VN 8 _ rfl).1
      have n9 := (VN 9 _ rfl).1
      have n10 := (VN 10 _ rfl).1
      have n11 := (VN 11 _ rfl).1
      have n12 := (VN 12 _ rfl).1
      have n13 := (VN 13 _ rfl).1
      go_enter Tryz.func61, Tryz.ntmps61
      go_wp2_with fail
      clear a0 a1 a2 a3 a4 a5 a6 a7 a8 a9 a10 a11 a12 a13 a14 d14
      refine (bareS _ _ _ _ _ _ _ _ _ _ _ _ _ _ _).mono ?_
      rintro e w1 ⟨rfl, e1⟩
      have V1 := VN.later e1
      have Y1 := xt X e1
      clear n0 n1 n2 n3 n4 n5 n6 n7 n8 n9 n10 n11 n12 n13
      have n1x0 := (V1 0 _ rfl).1
      have n1x1 := (V1 1 _ rfl).1
      have n1x2 := (V1 2 _ rfl).1
      have n1x3 := (V1 3 _ rfl).1
      have n1x4 := (V1 4 _ rfl).1
      have n1x5 := (V1 5 _ rfl).1
      have n1x6 := (V1 6 _ rfl).1
      have n1x7 := (V1 7 _ rfl).1
      have n1x8 := (V1 8 _ rfl).1
      have n1x9 := (V1 9 _ rfl).1
      have n1x10 := (V1 10 _ rfl).1
      have n1x11 := (V1 11 _ rfl).1
      have n1x12 := (V1 12 _ rfl).1
      have n1x13 := (V1 13 _ rfl).1
      rw [hBA]
      go_wp2_with fail
      go_ret
      exact ⟨ret_bool HB.out, Y1⟩
     ·
      have HB : Hid (true = Q) := by show _ = _; first | (rw [← HQ.out, HMK.out, hBA, HK0.out, hBO]; rfl) | (rw [← HQ.out, HMK.out, hBA, HK0.out]; rfl)
      have a0 := (VE 0 _ rfl).1
      have a1 := (VE 1 _ rfl).1
      have a2 := (VE 2 _ rfl).1
      have a3 := (VE 3 _ rfl).1
      have a4 := (VE 4 _ rfl).1
      have a5 := (VE 5 _ rfl).1
      have a6 := (VE 6 _ rfl).1
      have a7 := (VE 7 _ rfl).1
      have a8 := (VE 8 _ rfl).1
      have a9 := (VE 9 _ rfl).1
      have a10 := (VE 10 _ rfl).1
      have a11 := (VE 11 _ rfl).1
      have a12 := (VE 12 _ rfl).1
      have a13 := (VE 13 _ rfl).1
      have a14 := (VE 14 _ rfl).1
      have d14 := (VE2 14 _ rfl).1
      have n0 := (VN 0 _ rfl).1
      have n1 := (VN 1 _ rfl).1
      have n2 := (VN 2 _ rfl).1
      have n3 := (VN 3 _ rfl).1
      have n4 := (VN 4 _ rfl).1
      have n5 := (VN 5 _ rfl).1
      have n6 := (VN 6 _ rfl).1
      have n7 := (VN 7 _ rfl).1
      have n8 := (VN 8 _ rfl).1
      have n9 := (VN 9 _ rfl).1
      have n10 := (VN 10 _ rfl).1
      have n11 := (VN 11 _ rfl).1
      have n12 := (VN 12 _ rfl).1
      have n13 := (VN 13 _ rfl).1
      go_enter Tryz.func61, Tryz.ntmps61
      go_wp2_with fail
      clear a0 a1 a2 a3 a4 a5 a6 a7 a8 a9 a10 a11 a12 a13 a14 d14
      refine (bareS _ _ _ _ _ _ _ _ _ _ _ _ _ _ _).mono ?_
      rintro e w1 ⟨rfl, e1⟩
      have V1 := VN.later e1
      have Y1 := xt X e1
      clear n0 n1 n2 n3 n4 n5 n6 n7 n8 n9 n10 n11 n12 n13
      have n1x0 := (V1 0 _ rfl).1
      have n1x1 := (V1 1 _ rfl).1
      have n1x2 := (V1 2 _ rfl).1
      have n1x3 := (V1 3 _ rfl).1
      have n1x4 := (V1 4 _ rfl).1
      have n1x5 := (V1 5 _ rfl).1
      have n1x6 := (V1 6 _ rfl).1
      have n1x7 := (V1 7 _ rfl).1
      have n1x8 := (V1 8 _ rfl).1
      have n1x9 := (V1 9 _ rfl).1
      have n1x10 := (V1 10 _ rfl).1
      have n1x11 := (V1 11 _ rfl).1
      have n1x12 := (V1 12 _ rfl).1
      have n1x13 := (V1 13 _ rfl).1
      rw [hBA]
      go_wp2_with fail
      go_ret
      exact ⟨ret_bool HB.out, Y1⟩
    ·
     have HB : Hid (true = Q) := by show _ = _; first | (rw [← HQ.out, HMK.out, hBA, HK0.out, hBO]; rfl) | (rw [← HQ.out, HMK.out, hBA, HK0.out]; rfl)
     have a0 := (VE 0 _ rfl).1
     have a1 := (VE 1 _ rfl).1
     have a2 := (VE 2 _ rfl).1
     have a3 := (VE 3 _ rfl).1
     have a4 := (VE 4 _ rfl).1
     have a5 := (VE 5 _ rfl).1
     have a6 := (VE 6 _ rfl).1
     have a7 := (VE 7 _ rfl).1
     have a8 := (VE 8 _ rfl).1
     have a9 := (VE 9 _ rfl).1
     have a10 := (VE 10 _ rfl).1
     have a11 := (VE 11 _ rfl).1
     have a12 := (VE 12 _ rfl).1
     have a13 := (VE 13 _ rfl).1
     have a14 := (VE 14 _ rfl).1
     have d14 := (VE2 14 _ rfl).1
     have n0 := (VN 0 _ rfl).1
     have n1 := (VN 1 _ rfl).1
     have n2 := (VN 2 _ rfl).1
     have n3 := (VN 3 _ rfl).1
     have n4 := (VN 4 _ rfl).1
     have n5 := (VN 5 _ rfl).1
     have n6 := (VN 6 _ rfl).1
     have n7 := (VN 7 _ rfl).1
     have n8 := (VN 8 _ rfl).1
     have n9 := (VN 9 _ rfl).1
     have n10 := (VN 10 _ rfl).1
     have n11 := (VN 11 _ rfl).1
     have n12 := (VN 12 _ rfl).1
     have n13 := (VN 13 _ rfl).1
     go_enter Tryz.func61, Tryz.ntmps61
     go_wp2_with fail
     clear a0 a1 a2 a3 a4 a5 a6 a7 a8 a9 a10 a11 a12 a13 a14 d14
     refine (bareS _ _ _ _ _ _ _ _ _ _ _ _ _ _ _).mono ?_
     rintro e w1 ⟨rfl, e1⟩
     have V1 := VN.later e1
     have Y1 := xt X e1
     clear n0 n1 n2 n3 n4 n5 n6 n7 n8 n9 n10 n11 n12 n13
     have n1x0 := (V1 0 _ rfl).1
     have n1x1 := (V1 1 _ rfl).1
     have n1x2 := (V1 2 _ rfl).1
     have n1x3 := (V1 3 _ rfl).1
     have n1x4 := (V1 4 _ rfl).1
     have n1x5 := (V1 5 _ rfl).1
     have n1x6 := (V1 6 _ rfl).1
     have n1x7 := (V1 7 _ rfl).1
     have n1x8 := (V1 8 _ rfl).1
     have n1x9 := (V1 9 _ rfl).1
     have n1x10 := (V1 10 _ rfl).1
     have n1x11 := (V1 11 _ rfl).1
     have n1x12 := (V1 12 _ rfl).1
     have n1x13 := (V1 13 _ rfl).1
     rw [hBA]
     go_wp2_with fail
     go_ret
     exact ⟨ret_bool HB.out, Y1⟩
   ·
    have HK0 : Hid (decide (kk = 0) = false) := decide_eq_false q
    have gK0 : ((kk : Int) == 0) = false := by simp; omega
    clear q
    have HB : Hid (false = Q) := by show _ = _; first | (rw [← HQ.out, HMK.out, hBA, HK0.out]; rfl) | (rw [← HQ.out, HMK.out, hBA]; rfl)
    have a0 := (VE 0 _ rfl).1
    have a1 := (VE 1 _ rfl).1
    have a2 := (VE 2 _ rfl).1
    have a3 := (VE 3 _ rfl).1
    have a4 := (VE 4 _ rfl).1
    have a5 := (VE 5 _ rfl).1
    have a6 := (VE 6 _ rfl).1
    have a7 := (VE 7 _ rfl).1
    have a8 := (VE 8 _ rfl).1
    have a9 := (VE 9 _ rfl).1
    have a10 := (VE 10 _ rfl).1
    have a11 := (VE 11 _ rfl).1
    have a12 := (VE 12 _ rfl).1
    have a13 := (VE 13 _ rfl).1
    have a14 := (VE 14 _ rfl).1
    have d14 := (VE2 14 _ rfl).1
    have n0 := (VN 0 _ rfl).1
    have n1 := (VN 1 _ rfl).1
    have n2 := (VN 2 _ rfl).1
    have n3 := (VN 3 _ rfl).1
    have n4 := (VN 4 _ rfl).1
    have n5 := (VN 5 _ rfl).1
    have n6 := (VN 6 _ rfl).1
    have n7 := (VN 7 _ rfl).1
    have n8 := (VN 8 _ rfl).1
    have n9 := (VN 9 _ rfl).1
    have n10 := (VN 10 _ rfl).1
    have n11 := (VN 11 _ rfl).1
    have n12 := (VN 12 _ rfl).1
    have n13 := (VN 13 _ rfl).1
    go_enter Tryz.func61, Tryz.ntmps61
    go_wp2_with fail
    clear a0 a1 a2 a3 a4 a5 a6 a7 a8 a9 a10 a11 a12 a13 a14 d14
    refine (bareS _ _ _ _ _ _ _ _ _ _ _ _ _ _ _).mono ?_
    rintro e w1 ⟨rfl, e1⟩
    have V1 := VN.later e1
    have Y1 := xt X e1
    clear n0 n1 n2 n3 n4 n5 n6 n7 n8 n9 n10 n11 n12 n13
    have n1x0 := (V1 0 _ rfl).1
    have n1x1 := (V1 1 _ rfl).1
    have n1x2 := (V1 2 _ rfl).1
    have n1x3 := (V1 3 _ rfl).1
    have n1x4 := (V1 4 _ rfl).1
    have n1x5 := (V1 5 _ rfl).1
    have n1x6 := (V1 6 _ rfl).1
    have n1x7 := (V1 7 _ rfl).1
    have n1x8 := (V1 8 _ rfl).1
    have n1x9 := (V1 9 _ rfl).1
    have n1x10 := (V1 10 _ rfl).1
    have n1x11 := (V1 11 _ rfl).1
    have n1x12 := (V1 12 _ rfl).1
    have n1x13 := (V1 13 _ rfl).1
    rw [hBA]
    go_wp2_with fail
    go_ret
    exact ⟨ret_bool HB.out, Y1⟩
 ·
  have HMK : Hid (decide (m = (kk : Int)) = false) := decide_eq_false q
  have gMK : (m != (kk : Int)) = true := by simpa using q
  have HB : Hid (false = Q) := by show _ = _; first | (rw [← HQ.out, HMK.out]; rfl) | (rw [← HQ.out]; rfl)
  have a0 := (VE 0 _ rfl).1
  have a1 := (VE 1 _ rfl).1
  have a2 := (VE 2 _ rfl).1
  have a3 := (VE 3 _ rfl).1
  have a4 := (VE 4 _ rfl).1
  have a5 := (VE 5 _ rfl).1
  have a6 := (VE 6 _ rfl).1
  have a7 := (VE 7 _ rfl).1
  have a8 := (VE 8 _ rfl).1
  have a9 := (VE 9 _ rfl).1
  have a10 := (VE 10 _ rfl).1
  have a11 := (VE 11 _ rfl).1
  have a12 := (VE 12 _ rfl).1
  have a13 := (VE 13 _ rfl).1
  have a14 := (VE 14 _ rfl).1
  have d14 := (VE2 14 _ rfl).1
  have n0 := (VN 0 _ rfl).1
  have n1 := (VN 1 _ rfl).1
  have n2 := (VN 2 _ rfl).1
  have n3 := (VN 3 _ rfl).1
  have n4 := (VN 4 _ rfl).1
  have n5 := (VN 5 _ rfl).1
  have n6 := (VN 6 _ rfl).1
  have n7 := (VN 7 _ rfl).1
  have n8 := (VN 8 _ rfl).1
  have n9 := (VN 9 _ rfl).1
  have n10 := (VN 10 _ rfl).1
  have n11 := (VN 11 _ rfl).1
  have n12 := (VN 12 _ rfl).1
  have n13 := (VN 13 _ rfl).1
  go_enter Tryz.func61, Tryz.ntmps61
  go_wp2_with fail
  clear a0 a1 a2 a3 a4 a5 a6 a7 a8 a9 a10 a11 a12 a13 a14 d14
  go_ret
  exact ⟨ret_bool HB.out, X⟩

end Go.Proofs.YtcjjobciokfehaaGreatDoor

