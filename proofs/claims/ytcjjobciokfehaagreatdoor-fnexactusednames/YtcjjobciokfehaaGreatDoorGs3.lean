/-
  Chapter 4: what is right of a node, of the specification: other kinds; all kinds.
-/
import Derived.Test.YtcjjobciokfehaaGreatDoorFt1
import Derived.Test.YtcjjobciokfehaaGreatDoorFt2
import Derived.Test.YtcjjobciokfehaaGreatDoorFt3
import Derived.Test.YtcjjobciokfehaaGreatDoorFt4
import Derived.Test.YtcjjobciokfehaaGreatDoorFt5
import Derived.Test.YtcjjobciokfehaaGreatDoorFt6
import Derived.Test.YtcjjobciokfehaaGreatDoorFt7
import Derived.Test.YtcjjobciokfehaaGreatDoorFt8
import Derived.Test.YtcjjobciokfehaaGreatDoorGs2
import Derived.Test.YtcjjobciokfehaaGreatDoorMg31
namespace Go.Proofs.YtcjjobciokfehaaGreatDoor
open Go.RowKit

set_option maxRecDepth 8000 in
set_option maxHeartbeats 2000000 in
theorem rightSx (k : Int) (t : List UInt8) (neg : Bool) (d : Int) (x : Int) (r : Int) (c : Int) (rf : Bool) (cf : Bool) (r2 : Int) (c2 : Int) (rf2 : Bool) (cf2 : Bool) (m : Int) (p : Option Addr) (kk cap : Nat) (many : Bool) (w : World) (h1 : k ≠ 1) (h2 : k ≠ 2) (h3 : k ≠ 3) (h4 : k ≠ 4) (h5 : k ≠ 5) (h6 : k ≠ 6) (h7 : k ≠ 7) (h8 : k ≠ 8) (h9 : k ≠ 9) (h10 : k ≠ 10) (h11 : k ≠ 11) (h12 : k ≠ 12) (h13 : k ≠ 13) :
  Calls Tryz.prog 61 #[exV k t neg d x r c rf cf r2 c2 rf2 cf2 m (.slice p kk cap), .bool many] w fun e w' => e = .returned (.bool false) ∧ Ext w w' := by
 have X1 := x1 w (.cells #[.int .i64 k, sV t, .bool neg, .int .i64 d, .int .i64 x, .int .i64 r, .int .i64 c, .bool rf, .bool cf, .int .i64 r2, .int .i64 c2, .bool rf2, .bool cf2, .int .i64 m, .slice p kk cap] 51)
 obtain ⟨wa, ha⟩ : ∃ wa, w.alloc (.cells #[.int .i64 k, sV t, .bool neg, .int .i64 d, .int .i64 x, .int .i64 r, .int .i64 c, .bool rf, .bool cf, .int .i64 r2, .int .i64 c2, .bool rf2, .bool cf2, .int .i64 m, .slice p kk cap] 51) = wa := ⟨_, rfl⟩
 have VE := vec_made w [.int .i64 k, sV t, .bool neg, .int .i64 d, .int .i64 x, .int .i64 r, .int .i64 c, .bool rf, .bool cf, .int .i64 r2, .int .i64 c2, .bool rf2, .bool cf2, .int .i64 m, .slice p kk cap] 51
 change Vec (w.alloc (.cells #[.int .i64 k, sV t, .bool neg, .int .i64 d, .int .i64 x, .int .i64 r, .int .i64 c, .bool rf, .bool cf, .int .i64 r2, .int .i64 c2, .bool rf2, .bool cf2, .int .i64 m, .slice p kk cap] 51)) _ _ at VE
 have X2 := x1 wa (.cells #[.int .i64 k, sV t, .bool neg, .int .i64 d, .int .i64 x, .int .i64 r, .int .i64 c, .bool rf, .bool cf, .int .i64 r2, .int .i64 c2, .bool rf2, .bool cf2, .int .i64 m] 48)
 obtain ⟨wb, hb⟩ : ∃ wb, wa.alloc (.cells #[.int .i64 k, sV t, .bool neg, .int .i64 d, .int .i64 x, .int .i64 r, .int .i64 c, .bool rf, .bool cf, .int .i64 r2, .int .i64 c2, .bool rf2, .bool cf2, .int .i64 m] 48) = wb := ⟨_, rfl⟩
 have VN := vec_made wa [.int .i64 k, sV t, .bool neg, .int .i64 d, .int .i64 x, .int .i64 r, .int .i64 c, .bool rf, .bool cf, .int .i64 r2, .int .i64 c2, .bool rf2, .bool cf2, .int .i64 m] 48
 change Vec (wa.alloc (.cells #[.int .i64 k, sV t, .bool neg, .int .i64 d, .int .i64 x, .int .i64 r, .int .i64 c, .bool rf, .bool cf, .int .i64 r2, .int .i64 c2, .bool rf2, .bool cf2, .int .i64 m] 48)) _ _ at VN
 have sa : wa.heap.size = w.heap.size + 1 := by rw [← ha, World.size_alloc]
 rw [ha] at X1 VE
 rw [hb] at X2 VN
 rw [sa] at VN
 have VE2 := VE.later X2
 have X := xt X1 X2
 clear X1 X2
 by_cases q : m = (kk : Int)
 ·
  have gMK : (m != (kk : Int)) = false := by simp [q]
  clear q
  cases hBA : (zeroDN neg d x && zeroRN r c rf cf && zeroRN r2 c2 rf2 cf2)
  ·
   have a0 := (VE 0 _ rfl).1
   have a1 := (VE 1 _ rfl).1
   have a2 := (VE 2 _ rfl).1
   have a3 := (VE 3 _ rfl).1
   have a4 := (VE 4 _ rfl).1
   have a5 := (VE 5 _ rfl).1
   have a6 := (VE 6 _ rfl).1
   have a7 := (VE 7 _ rfl).1
   have a8 := (VE 8 _ rfl).1
   have a9 := (VE 9 _ rfl).1
   have a10 := (VE 10 _ rfl).1
   have a11 := (VE 11 _ rfl).1
   have a12 := (VE 12 _ rfl).1
   have a13 := (VE 13 _ rfl).1
   have a14 := (VE 14 _ rfl).1
   have d14 := (VE2 14 _ rfl).1
   have n0 := (VN 0 _ rfl).1
   have n1 := (VN 1 _ rfl).1
   have n2 := (VN 2 _ rfl).1
   have n3 := (VN 3 _ rfl).1
   have n4 := (VN 4 _ rfl).1
   have n5 := (VN 5 _ rfl).1
   have n6 := (VN 6 _ rfl).1
   have n7 := (VN 7 _ rfl).1
   have n8 := (VN 8 _ rfl).1
   have n9 := (VN 9 _ rfl).1
   have n10 := (VN 10 _ rfl).1
   have n11 := (VN 11 _ rfl).1
   have n12 := (VN 12 _ rfl).1
   have n13 := (VN 13 _ rfl).1
   go_enter Tryz.func61, Tryz.ntmps61
   go_wp2_with fail
   clear a0 a1 a2 a3 a4 a5 a6 a7 a8 a9 a10 a11 a12 a13 a14 d14
   refine (bareS _ _ _ _ _ _ _ _ _ _ _ _ _ _ _).mono ?_
   rintro e w1 ⟨rfl, e1⟩
   have V1 := VN.later e1
   have Y1 := xt X e1
   clear n0 n1 n2 n3 n4 n5 n6 n7 n8 n9 n10 n11 n12 n13
   rw [hBA]
   have b0 := (V1 0 _ rfl).1
   have b1 := (V1 1 _ rfl).1
   have b2 := (V1 2 _ rfl).1
   have b3 := (V1 3 _ rfl).1
   have b4 := (V1 4 _ rfl).1
   have b5 := (V1 5 _ rfl).1
   have b6 := (V1 6 _ rfl).1
   have b7 := (V1 7 _ rfl).1
   have b8 := (V1 8 _ rfl).1
   have b9 := (V1 9 _ rfl).1
   have b10 := (V1 10 _ rfl).1
   have b11 := (V1 11 _ rfl).1
   have b12 := (V1 12 _ rfl).1
   have b13 := (V1 13 _ rfl).1
   go_wp2_with fail
   go_ret
   exact ⟨rfl, Y1⟩
  ·
   have a0 := (VE 0 _ rfl).1
   have a1 := (VE 1 _ rfl).1
   have a2 := (VE 2 _ rfl).1
   have a3 := (VE 3 _ rfl).1
   have a4 := (VE 4 _ rfl).1
   have a5 := (VE 5 _ rfl).1
   have a6 := (VE 6 _ rfl).1
   have a7 := (VE 7 _ rfl).1
   have a8 := (VE 8 _ rfl).1
   have a9 := (VE 9 _ rfl).1
   have a10 := (VE 10 _ rfl).1
   have a11 := (VE 11 _ rfl).1
   have a12 := (VE 12 _ rfl).1
   have a13 := (VE 13 _ rfl).1
   have a14 := (VE 14 _ rfl).1
   have d14 := (VE2 14 _ rfl).1
   have n0 := (VN 0 _ rfl).1
   have n1 := (VN 1 _ rfl).1
   have n2 := (VN 2 _ rfl).1
   have n3 := (VN 3 _ rfl).1
   have n4 := (VN 4 _ rfl).1
   have n5 := (VN 5 _ rfl).1
   have n6 := (VN 6 _ rfl).1
   have n7 := (VN 7 _ rfl).1
   have n8 := (VN 8 _ rfl).1
   have n9 := (VN 9 _ rfl).1
   have n10 := (VN 10 _ rfl).1
   have n11 := (VN 11 _ rfl).1
   have n12 := (VN 12 _ rfl).1
   have n13 := (VN 13 _ rfl).1
   go_enter Tryz.func61, Tryz.ntmps61
   go_wp2_with fail
   clear a0 a1 a2 a3 a4 a5 a6 a7 a8 a9 a10 a11 a12 a13 a14 d14
   refine (bareS _ _ _ _ _ _ _ _ _ _ _ _ _ _ _).mono ?_
   rintro e w1 ⟨rfl, e1⟩
   have V1 := VN.later e1
   have Y1 := xt X e1
   clear n0 n1 n2 n3 n4 n5 n6 n7 n8 n9 n10 n11 n12 n13
   rw [hBA]
   have b0 := (V1 0 _ rfl).1
   have b1 := (V1 1 _ rfl).1
   have b2 := (V1 2 _ rfl).1
   have b3 := (V1 3 _ rfl).1
   have b4 := (V1 4 _ rfl).1
   have b5 := (V1 5 _ rfl).1
   have b6 := (V1 6 _ rfl).1
   have b7 := (V1 7 _ rfl).1
   have b8 := (V1 8 _ rfl).1
   have b9 := (V1 9 _ rfl).1
   have b10 := (V1 10 _ rfl).1
   have b11 := (V1 11 _ rfl).1
   have b12 := (V1 12 _ rfl).1
   have b13 := (V1 13 _ rfl).1
   go_wp2_with fail
   go_ret
   exact ⟨rfl, Y1⟩
 ·
  have gMK : (m != (kk : Int)) = true := by simp [q]
  clear q
  have a0 := (VE 0 _ rfl).1
  have a1 := (VE 1 _ rfl).1
  have a2 := (VE 2 _ rfl).1
  have a3 := (VE 3 _ rfl).1
  have a4 := (VE 4 _ rfl).1
  have a5 := (VE 5 _ rfl).1
  have a6 := (VE 6 _ rfl).1
  have a7 := (VE 7 _ rfl).1
  have a8 := (VE 8 _ rfl).1
  have a9 := (VE 9 _ rfl).1
  have a10 := (VE 10 _ rfl).1
  have a11 := (VE 11 _ rfl).1
  have a12 := (VE 12 _ rfl).1
  have a13 := (VE 13 _ rfl).1
  have a14 := (VE 14 _ rfl).1
  have d14 := (VE2 14 _ rfl).1
  have n0 := (VN 0 _ rfl).1
  have n1 := (VN 1 _ rfl).1
  have n2 := (VN 2 _ rfl).1
  have n3 := (VN 3 _ rfl).1
  have n4 := (VN 4 _ rfl).1
  have n5 := (VN 5 _ rfl).1
  have n6 := (VN 6 _ rfl).1
  have n7 := (VN 7 _ rfl).1
  have n8 := (VN 8 _ rfl).1
  have n9 := (VN 9 _ rfl).1
  have n10 := (VN 10 _ rfl).1
  have n11 := (VN 11 _ rfl).1
  have n12 := (VN 12 _ rfl).1
  have n13 := (VN 13 _ rfl).1
  go_enter Tryz.func61, Tryz.ntmps61
  go_wp2_with fail
  clear a0 a1 a2 a3 a4 a5 a6 a7 a8 a9 a10 a11 a12 a13 a14 d14
  go_ret
  exact ⟨rfl, X⟩
theorem whole20 : ∀ r ∈ List.range 21, 1 ≤ r → whole (Lib.decDigits r) = (r : Int) ∧ numL (Lib.decDigits r) = (r : Int) := by decide +kernel
theorem side_same (t : List UInt8) (kk : Nat) : side12 t kk = sidesB t (kk : Int) := by
 have hi : ∀ i : Nat, Lib.itoa (i : Int) = Lib.decDigits i := fun i => by unfold Lib.itoa; rw [if_neg (by omega)]; simp
 have key : ∀ r : Nat, 1 ≤ r → r ≤ 20 → t = Lib.decDigits r → side12 t kk = sidesB t (kk : Int) := fun r h1 h2 ht => by
  obtain ⟨w1, w2⟩ := whole20 r (List.mem_range.2 (by omega)) h1
  have q1 : whole t = (r : Int) := by rw [ht]; exact w1
  have q2 : numL t = (r : Int) := by rw [ht]; exact w2
  have q3 : (Lib.decDigits r == t) = true := by rw [ht]; simp
  have q4 : (t == Lib.decDigits r) = true := by rw [ht]; simp
  unfold side12 sidesB
  rw [q1, q2, hi r, Int.toNat_natCast, q3, q4]
  have a1 : decide ((r : Int) < 1) = false := decide_eq_false (by omega)
  have a2 : decide (20 < (r : Int)) = false := decide_eq_false (by omega)
  have a3 : decide (1 ≤ (r : Int)) = true := decide_eq_true (by omega)
  have a4 : decide ((r : Int) ≤ 20) = true := decide_eq_true (by omega)
  rw [a1, a2, a3, a4]
  have b1 : decide (kk < 1) = !decide (1 ≤ (kk : Int)) := by by_cases h : kk < 1 <;> simp [h] <;> omega
  have b2 : decide (100 < kk) = !decide ((kk : Int) ≤ 100) := by by_cases h : 100 < kk <;> simp [h] <;> omega
  rw [b1, b2]
  cases decide (1 ≤ (kk : Int)) <;> cases decide ((kk : Int) ≤ 100) <;> cases ((kk : Int).tmod (r : Int) == 0) <;> rfl
 cases h1 : side12 t kk with
 | true =>
  have h := h1
  unfold side12 at h
  simp only [Bool.not_eq_true', Bool.or_eq_false_iff, decide_eq_false_iff_not, Bool.not_eq_false'] at h
  obtain ⟨⟨⟨⟨⟨g1, g2⟩, g3⟩, _⟩, _⟩, _⟩ := h
  have g3' : Lib.decDigits (numL t).toNat = t := by simpa using g3
  rw [← h1]
  exact key (numL t).toNat (by omega) (by omega) g3'.symm
 | false =>
  cases h2 : sidesB t (kk : Int) with
  | false => rfl
  | true =>
   have h := h2
   unfold sidesB at h
   simp only [Bool.and_eq_true, decide_eq_true_eq, beq_iff_eq] at h
   obtain ⟨⟨⟨⟨g1, g2⟩, g3⟩, _⟩, _⟩ := h
   have g3' : t = Lib.decDigits (whole t).toNat := by
    obtain ⟨i, hw⟩ : ∃ i : Nat, whole t = (i : Int) := ⟨(whole t).toNat, by omega⟩
    rw [hw, hi i] at g3
    rw [hw, Int.toNat_natCast]
    exact g3
   have := key (whole t).toNat (by omega) (by omega) g3'
   rw [h1, h2] at this
   cases this
theorem rightAllS (x : NT) (p : Option Addr) (cap : Nat) (ks : List ET) (U : Nat → Prop) (many : Bool) (w : World) (hl : x.t.length ≤ 1048576) (hK : KidsS w U (.slice p ks.length cap) ks) (hU : ∀ k, U k → k < w.heap.size) :
  Calls Tryz.prog 61 #[x.ex (.slice p ks.length cap), .bool many] w fun e w' => e = .returned (.bool (rightE NT.good (.mk x ks) many)) ∧ Ext w w' := by
 have RE : rightE NT.good (.mk x ks) many = (decide (x.q = (ks.length : Int)) && x.good && (!decide (x.k = 13) || many) && (!decide (x.k = 12) || ks.all constE)) := rfl
 rw [RE]
 clear RE
 obtain ⟨kk, hkk⟩ : ∃ kk, ks.length = kk := ⟨_, rfl⟩
 rw [hkk] at hK ⊢
 unfold NT.good
 by_cases k1 : x.k = 1
 ·
  have h := rightS1 x.t x.n x.d x.x x.r x.c x.f x.g x.r2 x.c2 x.f2 x.g2 x.q p kk cap many w hl
  have e : (decide (x.q = (kk : Int)) && goodN x.k x.t x.n x.d x.x x.r x.c x.f x.g x.r2 x.c2 x.f2 x.g2 x.q && (!decide (x.k = 13) || many) && (!decide (x.k = 12) || ks.all constE)) = (decide (x.q = (kk : Int)) && decide (kk = 0) && (x.t == []) && goodB x.n x.d x.x && !x.n && zeroRN x.r x.c x.f x.g && zeroRN x.r2 x.c2 x.f2 x.g2) := by
   rw [k1]
   rw [Bool.eq_iff_iff]
   simp [goodN, zeroRN]
   grind
  rw [e]
  show Calls Tryz.prog 61 #[exV x.k x.t x.n x.d x.x x.r x.c x.f x.g x.r2 x.c2 x.f2 x.g2 x.q (.slice p kk cap), .bool many] w _
  rw [k1]
  exact h
 by_cases k2 : x.k = 2
 ·
  have h := rightS2 x.t x.n x.d x.x x.r x.c x.f x.g x.r2 x.c2 x.f2 x.g2 x.q p kk cap many w hl
  have e : (decide (x.q = (kk : Int)) && goodN x.k x.t x.n x.d x.x x.r x.c x.f x.g x.r2 x.c2 x.f2 x.g2 x.q && (!decide (x.k = 13) || many) && (!decide (x.k = 12) || ks.all constE)) = (decide (x.q = (kk : Int)) && (zeroDN x.n x.d x.x && zeroRN x.r x.c x.f x.g && zeroRN x.r2 x.c2 x.f2 x.g2) && decide (kk = 0) && printB x.t) := by
   rw [k2]
   rw [Bool.eq_iff_iff]
   simp [goodN, zeroDN, zeroRN]
   grind
  rw [e]
  show Calls Tryz.prog 61 #[exV x.k x.t x.n x.d x.x x.r x.c x.f x.g x.r2 x.c2 x.f2 x.g2 x.q (.slice p kk cap), .bool many] w _
  rw [k2]
  exact h
 by_cases k3 : x.k = 3
 ·
  have h := rightS3 x.t x.n x.d x.x x.r x.c x.f x.g x.r2 x.c2 x.f2 x.g2 x.q p kk cap many w hl
  have e : (decide (x.q = (kk : Int)) && goodN x.k x.t x.n x.d x.x x.r x.c x.f x.g x.r2 x.c2 x.f2 x.g2 x.q && (!decide (x.k = 13) || many) && (!decide (x.k = 12) || ks.all constE)) = (decide (x.q = (kk : Int)) && (zeroDN x.n x.d x.x && zeroRN x.r x.c x.f x.g && zeroRN x.r2 x.c2 x.f2 x.g2) && decide (kk = 0) && boolB x.t) := by
   rw [k3]
   rw [Bool.eq_iff_iff]
   simp [goodN, zeroDN, zeroRN]
   grind
  rw [e]
  show Calls Tryz.prog 61 #[exV x.k x.t x.n x.d x.x x.r x.c x.f x.g x.r2 x.c2 x.f2 x.g2 x.q (.slice p kk cap), .bool many] w _
  rw [k3]
  exact h
 by_cases k4 : x.k = 4
 ·
  have h := rightS4 x.t x.n x.d x.x x.r x.c x.f x.g x.r2 x.c2 x.f2 x.g2 x.q p kk cap many w hl
  have e : (decide (x.q = (kk : Int)) && goodN x.k x.t x.n x.d x.x x.r x.c x.f x.g x.r2 x.c2 x.f2 x.g2 x.q && (!decide (x.k = 13) || many) && (!decide (x.k = 12) || ks.all constE)) = (decide (x.q = (kk : Int)) && (zeroDN x.n x.d x.x && zeroRN x.r x.c x.f x.g && zeroRN x.r2 x.c2 x.f2 x.g2) && (decide (kk = 0) && memB errL x.t)) := by
   rw [k4]
   rw [Bool.eq_iff_iff]
   simp [goodN, zeroDN, zeroRN]
   grind
  rw [e]
  show Calls Tryz.prog 61 #[exV x.k x.t x.n x.d x.x x.r x.c x.f x.g x.r2 x.c2 x.f2 x.g2 x.q (.slice p kk cap), .bool many] w _
  rw [k4]
  exact h
 by_cases k5 : x.k = 5
 ·
  have h := rightS5 x.t x.n x.d x.x x.r x.c x.f x.g x.r2 x.c2 x.f2 x.g2 x.q p kk cap many w hl
  have e : (decide (x.q = (kk : Int)) && goodN x.k x.t x.n x.d x.x x.r x.c x.f x.g x.r2 x.c2 x.f2 x.g2 x.q && (!decide (x.k = 13) || many) && (!decide (x.k = 12) || ks.all constE)) = (decide (x.q = (kk : Int)) && decide (kk = 0) && (x.t == []) && goodRB x.r x.c && zeroDN x.n x.d x.x && zeroRN x.r2 x.c2 x.f2 x.g2) := by
   rw [k5]
   rw [Bool.eq_iff_iff]
   simp [goodN, zeroDN, zeroRN]
   grind
  rw [e]
  show Calls Tryz.prog 61 #[exV x.k x.t x.n x.d x.x x.r x.c x.f x.g x.r2 x.c2 x.f2 x.g2 x.q (.slice p kk cap), .bool many] w _
  rw [k5]
  exact h
 by_cases k6 : x.k = 6
 ·
  have h := rightS6 x.t x.n x.d x.x x.r x.c x.f x.g x.r2 x.c2 x.f2 x.g2 x.q p kk cap many w hl
  have e : (decide (x.q = (kk : Int)) && goodN x.k x.t x.n x.d x.x x.r x.c x.f x.g x.r2 x.c2 x.f2 x.g2 x.q && (!decide (x.k = 13) || many) && (!decide (x.k = 12) || ks.all constE)) = (decide (x.q = (kk : Int)) && decide (kk = 0) && (x.t == []) && goodRB x.r x.c && goodRB x.r2 x.c2 && zeroDN x.n x.d x.x) := by
   rw [k6]
   rw [Bool.eq_iff_iff]
   simp [goodN, zeroDN]
   grind
  rw [e]
  show Calls Tryz.prog 61 #[exV x.k x.t x.n x.d x.x x.r x.c x.f x.g x.r2 x.c2 x.f2 x.g2 x.q (.slice p kk cap), .bool many] w _
  rw [k6]
  exact h
 by_cases k7 : x.k = 7
 ·
  have h := rightS7 x.t x.n x.d x.x x.r x.c x.f x.g x.r2 x.c2 x.f2 x.g2 x.q p kk cap many w hl
  have e : (decide (x.q = (kk : Int)) && goodN x.k x.t x.n x.d x.x x.r x.c x.f x.g x.r2 x.c2 x.f2 x.g2 x.q && (!decide (x.k = 13) || many) && (!decide (x.k = 12) || ks.all constE)) = (decide (x.q = (kk : Int)) && (zeroDN x.n x.d x.x && zeroRN x.r x.c x.f x.g && zeroRN x.r2 x.c2 x.f2 x.g2) && decide (kk = 0) && nameB x.t) := by
   rw [k7]
   rw [Bool.eq_iff_iff]
   simp [goodN, zeroDN, zeroRN]
   grind
  rw [e]
  show Calls Tryz.prog 61 #[exV x.k x.t x.n x.d x.x x.r x.c x.f x.g x.r2 x.c2 x.f2 x.g2 x.q (.slice p kk cap), .bool many] w _
  rw [k7]
  exact h
 by_cases k8 : x.k = 8
 ·
  have h := rightS8 x.t x.n x.d x.x x.r x.c x.f x.g x.r2 x.c2 x.f2 x.g2 x.q p kk cap many w hl
  have e : (decide (x.q = (kk : Int)) && goodN x.k x.t x.n x.d x.x x.r x.c x.f x.g x.r2 x.c2 x.f2 x.g2 x.q && (!decide (x.k = 13) || many) && (!decide (x.k = 12) || ks.all constE)) = (decide (x.q = (kk : Int)) && (zeroDN x.n x.d x.x && zeroRN x.r x.c x.f x.g && zeroRN x.r2 x.c2 x.f2 x.g2) && decide (kk = 1) && (x.t == [])) := by
   rw [k8]
   rw [Bool.eq_iff_iff]
   simp [goodN, zeroDN, zeroRN]
   grind
  rw [e]
  show Calls Tryz.prog 61 #[exV x.k x.t x.n x.d x.x x.r x.c x.f x.g x.r2 x.c2 x.f2 x.g2 x.q (.slice p kk cap), .bool many] w _
  rw [k8]
  exact h
 by_cases k9 : x.k = 9
 ·
  have h := rightS9 x.t x.n x.d x.x x.r x.c x.f x.g x.r2 x.c2 x.f2 x.g2 x.q p kk cap many w hl
  have e : (decide (x.q = (kk : Int)) && goodN x.k x.t x.n x.d x.x x.r x.c x.f x.g x.r2 x.c2 x.f2 x.g2 x.q && (!decide (x.k = 13) || many) && (!decide (x.k = 12) || ks.all constE)) = (decide (x.q = (kk : Int)) && (zeroDN x.n x.d x.x && zeroRN x.r x.c x.f x.g && zeroRN x.r2 x.c2 x.f2 x.g2) && decide (kk = 1) && (x.t == [])) := by
   rw [k9]
   rw [Bool.eq_iff_iff]
   simp [goodN, zeroDN, zeroRN]
   grind
  rw [e]
  show Calls Tryz.prog 61 #[exV x.k x.t x.n x.d x.x x.r x.c x.f x.g x.r2 x.c2 x.f2 x.g2 x.q (.slice p kk cap), .bool many] w _
  rw [k9]
  exact h
 by_cases k10 : x.k = 10
 ·
  have h := rightS10 x.t x.n x.d x.x x.r x.c x.f x.g x.r2 x.c2 x.f2 x.g2 x.q p kk cap many w hl
  have e : (decide (x.q = (kk : Int)) && goodN x.k x.t x.n x.d x.x x.r x.c x.f x.g x.r2 x.c2 x.f2 x.g2 x.q && (!decide (x.k = 13) || many) && (!decide (x.k = 12) || ks.all constE)) = (decide (x.q = (kk : Int)) && (zeroDN x.n x.d x.x && zeroRN x.r x.c x.f x.g && zeroRN x.r2 x.c2 x.f2 x.g2) && (decide (kk = 2) && memB opsL x.t)) := by
   rw [k10]
   rw [Bool.eq_iff_iff]
   simp [goodN, zeroDN, zeroRN]
   grind
  rw [e]
  show Calls Tryz.prog 61 #[exV x.k x.t x.n x.d x.x x.r x.c x.f x.g x.r2 x.c2 x.f2 x.g2 x.q (.slice p kk cap), .bool many] w _
  rw [k10]
  exact h
 by_cases k11 : x.k = 11
 ·
  have h := rightS11 x.t x.n x.d x.x x.r x.c x.f x.g x.r2 x.c2 x.f2 x.g2 x.q p kk cap many w hl
  have e : (decide (x.q = (kk : Int)) && goodN x.k x.t x.n x.d x.x x.r x.c x.f x.g x.r2 x.c2 x.f2 x.g2 x.q && (!decide (x.k = 13) || many) && (!decide (x.k = 12) || ks.all constE)) = (decide (x.q = (kk : Int)) && (zeroDN x.n x.d x.x && zeroRN x.r x.c x.f x.g && zeroRN x.r2 x.c2 x.f2 x.g2) && (decide (kk ≤ 30) && (nameB x.t && (x.t.map upC == x.t)))) := by
   rw [k11]
   rw [Bool.eq_iff_iff]
   simp [goodN, zeroDN, zeroRN]
   grind
  rw [e]
  show Calls Tryz.prog 61 #[exV x.k x.t x.n x.d x.x x.r x.c x.f x.g x.r2 x.c2 x.f2 x.g2 x.q (.slice p kk cap), .bool many] w _
  rw [k11]
  exact h
 by_cases k12 : x.k = 12
 ·
  have h := rightS12 x.t x.n x.d x.x x.r x.c x.f x.g x.r2 x.c2 x.f2 x.g2 x.q p kk cap ks U many w hK hU hkk
  have e : (decide (x.q = (kk : Int)) && goodN x.k x.t x.n x.d x.x x.r x.c x.f x.g x.r2 x.c2 x.f2 x.g2 x.q && (!decide (x.k = 13) || many) && (!decide (x.k = 12) || ks.all constE)) = (decide (x.q = (kk : Int)) && (zeroDN x.n x.d x.x && zeroRN x.r x.c x.f x.g && zeroRN x.r2 x.c2 x.f2 x.g2) && (side12 x.t kk && ks.all constE)) := by
   rw [k12]
   rw [side_same]
   rw [Bool.eq_iff_iff]
   simp [goodN, zeroDN, zeroRN]
   grind
  rw [e]
  show Calls Tryz.prog 61 #[exV x.k x.t x.n x.d x.x x.r x.c x.f x.g x.r2 x.c2 x.f2 x.g2 x.q (.slice p kk cap), .bool many] w _
  rw [k12]
  exact h
 by_cases k13 : x.k = 13
 ·
  have h := rightS13 x.t x.n x.d x.x x.r x.c x.f x.g x.r2 x.c2 x.f2 x.g2 x.q p kk cap many w hl
  have e : (decide (x.q = (kk : Int)) && goodN x.k x.t x.n x.d x.x x.r x.c x.f x.g x.r2 x.c2 x.f2 x.g2 x.q && (!decide (x.k = 13) || many) && (!decide (x.k = 12) || ks.all constE)) = (decide (x.q = (kk : Int)) && (zeroDN x.n x.d x.x && zeroRN x.r x.c x.f x.g && zeroRN x.r2 x.c2 x.f2 x.g2) && decide (kk = 0) && (x.t == []) && many) := by
   rw [k13]
   rw [Bool.eq_iff_iff]
   simp [goodN, zeroDN, zeroRN]
   grind
  rw [e]
  show Calls Tryz.prog 61 #[exV x.k x.t x.n x.d x.x x.r x.c x.f x.g x.r2 x.c2 x.f2 x.g2 x.q (.slice p kk cap), .bool many] w _
  rw [k13]
  exact h
 have e : (decide (x.q = (kk : Int)) && goodN x.k x.t x.n x.d x.x x.r x.c x.f x.g x.r2 x.c2 x.f2 x.g2 x.q && (!decide (x.k = 13) || many) && (!decide (x.k = 12) || ks.all constE)) = false := by
  simp [goodN, k1, k2, k3, k4, k5, k6, k7, k8, k9, k10, k11, k12, k13]
 rw [e]
 exact rightSx x.k x.t x.n x.d x.x x.r x.c x.f x.g x.r2 x.c2 x.f2 x.g2 x.q p kk cap many w k1 k2 k3 k4 k5 k6 k7 k8 k9 k10 k11 k12 k13

end Go.Proofs.YtcjjobciokfehaaGreatDoor

