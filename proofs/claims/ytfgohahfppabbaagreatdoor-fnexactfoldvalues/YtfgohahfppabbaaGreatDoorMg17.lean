/-
  Several texts in one: ImB, ImC, ImD, ImE.
-/
import Derived.Test.YtfgohahfppabbaaGreatDoorMg0
import Derived.Test.YtfgohahfppabbaaGreatDoorMg15
import Derived.Test.YtfgohahfppabbaaGreatDoorShelb
import Derived.Shelf.Small.Bits
import Derived.Deep.DeepCutAuto
import Derived.Deep.CutBlock
import Derived.Test.YtfgohahfppabbaaGreatDoorMg2
import Derived.Deep.RegionHeld3
namespace Go.Proofs.YtfgohahfppabbaaGreatDoor
open Go.RowKit

theorem bitLen_ge (x k : Nat) (h : 2 ^ k ≤ x) (hx : x < 2 ^ 64) : k < Lib.bitLen x := by
 have := Lib.bitLen_shift k x h hx
 have h2 : x / 2 ^ k ≠ 0 := by
  have := Nat.div_pos h (Nat.pow_pos (by decide))
  omega
 have h3 := Lib.bitLen_half (x / 2 ^ k) h2 (Nat.lt_of_le_of_lt (Nat.div_le_self _ _) hx)
 omega

theorem lz64_any (y : Int) (w : World) (h0 : 0 ≤ y) (h1 : y ≤ 18446744073709551615) :
  Calls Tryz.prog 153 #[.int .u64 y] w fun e w' => e = .returned (.int .i64 (64 - Lib.bitLen y.toNat)) ∧ w' = w :=
 Any.bits_LeadingZeros64 layLz64 y w h0 h1

/-- The numbers that the halves work on. -/
def In64 (hi lo y : Nat) (s : Nat) (Y u L a b n1 n0 : Int) : Prop :=
 IntKind.u64.wrap ((y : Int) * 2 ^ s) = Y ∧ bits .or .u64 (IntKind.u64.wrap ((hi : Int) * 2 ^ s)) ((lo : Int) / 2 ^ (64 - s)) = u ∧ IntKind.u64.wrap ((lo : Int) * 2 ^ s) = L ∧
 Y / 4294967296 = a ∧ bits .and .u64 Y 4294967295 = b ∧ L / 4294967296 = n1 ∧ bits .and .u64 L 4294967295 = n0 ∧
 Y = a * 4294967296 + b ∧ L = n1 * 4294967296 + n0 ∧ 0 ≤ n0 ∧ n0 < 4294967296 ∧ HalfIn a b u n1 ∧ (y : Int) * 2 ^ s = Y ∧
 ((hi : Int) * 18446744073709551616 + lo) * 2 ^ s = u * 18446744073709551616 + L

theorem in64 {hi lo y s : Nat} (h0 : 0 < hi) (h1 : hi < y) (y1 : y < 18446744073709551616) (l1 : lo < 18446744073709551616) (hs : 64 - Lib.bitLen y = s) :
  s ≤ 63 ∧ ∃ Y u L a b n1 n0 : Int, In64 hi lo y s Y u L a b n1 n0 := by
 have b1 := Lib.bitLen_le y 64 (by decide) y1
 have b2 := bitLen_ge y 0 (by simp; omega) y1
 obtain ⟨n, hn⟩ : ∃ n, Lib.bitLen y = n := ⟨_, rfl⟩
 rw [hn] at b1 b2 hs
 have hns : n + s = 64 := by omega
 have yl : 2 ^ (n - 1) ≤ y := by
  by_cases h : 2 ^ (n - 1) ≤ y
  ·
   exact h
  ·
   have := Lib.bitLen_le y (n - 1) (by omega) (by omega)
   omega
 have yu : y < 2 ^ n := by
  by_cases h : y < 2 ^ n
  ·
   exact h
  ·
   have := bitLen_ge y n (by omega) y1
   omega
 obtain ⟨d1, d2, d3, d4, d5, d6⟩ := div64_in hns (by omega) h1 yl yu l1
 have e64 : 64 - s = n := by omega
 refine ⟨by omega, (y * 2 ^ s : Nat), (hi * 2 ^ s + lo / 2 ^ n : Nat), (lo * 2 ^ s % 18446744073709551616 : Nat), (y * 2 ^ s / 4294967296 : Nat), (y * 2 ^ s % 4294967296 : Nat), (lo * 2 ^ s % 18446744073709551616 / 4294967296 : Nat), (lo * 2 ^ s % 18446744073709551616 % 4294967296 : Nat), ?_⟩
 have c1 : ∀ x : Nat, (x : Int) * 2 ^ s = ((x * 2 ^ s : Nat) : Int) := fun x => by rw [Int.natCast_mul, Int.natCast_pow]; rfl
 have c2 : (lo : Int) / 2 ^ n = ((lo / 2 ^ n : Nat) : Int) := by rw [Int.natCast_ediv, Int.natCast_pow]; rfl
 have m1 : lo * 2 ^ s % 18446744073709551616 < 18446744073709551616 := Nat.mod_lt _ (by decide)
 have e0 : ((hi : Int) * 18446744073709551616 + lo) * 2 ^ s = (((hi * 18446744073709551616 + lo) * 2 ^ s : Nat) : Int) := by
  rw [← c1]; rfl
 unfold In64
 rw [c1, c1, c1, e64, c2, e0, d6]
 have w1 : ∀ x : Nat, x < 18446744073709551616 → IntKind.u64.wrap (x : Int) = (x : Int) := fun x hx => by rw [IntKind.wrap_u64]; omega
 have w2 : ∀ x : Nat, x < 18446744073709551616 → bits .and .u64 (x : Int) 4294967295 = ((x % 4294967296 : Nat) : Int) := fun x hx => by
  have h := bits_and_u64_nat x 4294967295 hx (by omega)
  have e : x &&& 4294967295 = x % 4294967296 := Nat.and_two_pow_sub_one_eq_mod x 32
  rw [e] at h
  exact h
 rw [w1 _ d2, w1 _ d3, w2 _ d2, w2 _ m1, bits_or_u64_nat _ _ d3 (Nat.lt_of_le_of_lt (Nat.div_le_self _ _) l1), d4]
 generalize y * 2 ^ s = YY at *
 generalize hi * 2 ^ s + lo / 2 ^ n = uu at *
 have w3 : IntKind.u64.wrap ((lo * 2 ^ s : Nat) : Int) = ((lo * 2 ^ s % 18446744073709551616 : Nat) : Int) := by rw [IntKind.wrap_u64]; omega
 rw [w3]
 generalize lo * 2 ^ s % 18446744073709551616 = LL at *
 refine ⟨rfl, rfl, rfl, by omega, rfl, by omega, rfl, by omega, by omega, by omega, by omega, ⟨by omega, by omega, by omega, by omega, by omega, by omega, by omega, by omega⟩, rfl, by omega⟩

theorem half_prod {a b u n q r : Int} (h : HalfAt a b u n q r) (hi : HalfIn a b u n) (hq : q < 4294967296) : 0 ≤ q * b ∧ q * b < 18446744073709551616 := by
 obtain ⟨_, _, h3, _⟩ := h
 have b0 := hi.2.2.1
 have b1 := hi.2.2.2.1
 refine ⟨Int.mul_nonneg h3 b0, ?_⟩
 have h1 : q * b ≤ 4294967295 * b := Int.mul_le_mul_of_nonneg_right (by omega) b0
 omega

set_option maxRecDepth 4000 in
set_option maxHeartbeats 4000000 in
theorem div64_go (hi lo y : Nat) (w : World) (h0 : 0 < hi) (h1 : hi < y) (y1 : y < 18446744073709551616) (l1 : lo < 18446744073709551616) :
  Calls Tryz.prog 144 #[.int .u64 hi, .int .u64 lo, .int .u64 y] w fun e w' => ∃ q r : Int, e = .returned (.tuple #[.int .u64 q, .int .u64 r]) ∧ w' = w ∧ q = ((hi : Int) * 18446744073709551616 + lo) / y ∧ r = ((hi : Int) * 18446744073709551616 + lo) % y := by
 obtain ⟨s, hs⟩ : ∃ s : Nat, 64 - Lib.bitLen y = s := ⟨_, rfl⟩
 obtain ⟨s63, Y, u, L, a, b, n1, n0, i1, i2, i3, i4, i5, i6, i7, i8, i9, n00, n01, HI, iY, iV⟩ := in64 h0 h1 y1 l1 hs
 have LZ : Hid (∀ w, Calls Tryz.prog 153 #[.int .u64 y] w fun e w' => e = .returned (.int .i64 s) ∧ w' = w) := fun w => by
  have := lz64_any y w (by omega) (by omega)
  rw [Int.toNat_natCast] at this
  have b1 := Lib.bitLen_le y 64 (by decide) y1
  rw [show (64 : Int) - Lib.bitLen y = s by omega] at this
  exact this
 have hy0 : (((y : Int) == 0)) = false := by rw [beq_eq_false_iff_ne]; omega
 have hh0 : (((hi : Int) == 0)) = false := by rw [beq_eq_false_iff_ne]; omega
 have hyh : ¬ (y : Int) ≤ (hi : Int) := by omega
 have HI' := HI
 obtain ⟨a0, a1, b0, b1, u0, u1, n10, n11⟩ := HI'
 have u2 : u < 18446744073709551616 := by omega
 have YB : Hid (Y = a * 4294967296 + b ∧ 0 ≤ Y ∧ Y < 18446744073709551616) := ⟨i8, by omega, by omega⟩
 have hst := HalfAt.start HI
 obtain ⟨r0, hr0⟩ : ∃ r, u % a = r := ⟨_, rfl⟩
 rw [hr0] at hst
 obtain ⟨P0, hP0⟩ : ∃ P, u / a * a = P := ⟨_, rfl⟩
 have hqr := hst.1
 have q00 := hst.2.2.1
 have p00 : 0 ≤ P0 := by rw [← hP0]; exact Int.mul_nonneg q00 (by omega)
 have r00 := hst.2.2.2.2.1
 have p01 : P0 < 18446744073709551616 := by omega
 have e0 : u - P0 = r0 := by omega
 have HST : Hid (HalfAt a b u n1 (u / a) r0) := hst
 have DONE : Hid (∀ q1 q0 u' : Int, u' = u * 4294967296 + n1 - q1 * Y → HalfIn a b u' n0 → HalfDone a b u' n0 q0 → q1 * 4294967296 + q0 = ((hi : Int) * 18446744073709551616 + lo) / y ∧ (u' * 4294967296 + n0 - q0 * Y) / 2 ^ s = ((hi : Int) * 18446744073709551616 + lo) % y) := fun q1 q0 u' h2 h3 h4 => by
  rw [i8] at h2 ⊢
  exact div_halves (S := 2 ^ s) (Int.pow_pos (by decide)) (by omega) (by rw [iY, i8]) (by rw [iV, i9]; omega) h2 h3 h4
 have HIN : Hid (HalfIn a b u n1) := HI
 clear hst hqr hr0 i8 i9 iY iV HI hs u1
 go_enter Tryz.func144, Tryz.ntmps144
 go_wp2_with fail
 refine (LZ.out _).mono ?_
 rintro e w1 ⟨rfl, rfl⟩
 go_upto_block 0 with fail
 clear hP0 e0 p00 p01
 go_cut [15] (fun v wc => ∃ q : Int, v = .int .u64 q ∧ HalfDone a b u n1 q ∧ wc = w1)
 case first =>
  go_wp2_with fail
  go_loop [15, 16] (fun v x => ∃ q r : Int, v = .int .u64 q ∧ x = .int .u64 r ∧ HalfAt a b u n1 q r) (fun v _ => (intOf v).toNat)
  case atStart => exact ⟨u / a, r0, rfl, rfl, HST.out⟩
  case round =>
   obtain ⟨q, r, rfl, rfl, hA⟩ := hrel
   have HA : Hid (HalfAt a b u n1 q r) := hA
   have q2 := hA.2.2.1
   have q3 := hA.2.2.2.1
   have r2 := hA.2.2.2.2.1
   have r3 := hA.2.2.2.2.2
   by_cases hq : 4294967296 ≤ q
   ·
    clear hA
    by_cases hr : r + a < 4294967296
    ·
     go_wp2_with fail
     go_round
     case rel => exact ⟨q - 1, r + a, rfl, rfl, HA.out.next HIN.out (.inl hq) hr⟩
     case measure => simp [intOf]; omega
    ·
     have hr' : 4294967296 ≤ r + a := by omega
     go_wp2_with fail
     go_meet
     case rel => exact ⟨q - 1, rfl, HA.out.last HIN.out (.inl hq) hr', rfl⟩
   ·
    obtain ⟨p0, p1⟩ := half_prod hA HIN.out (by omega)
    have hq' : q < 4294967296 := by omega
    clear hA
    obtain ⟨p, hp⟩ : ∃ p, q * b = p := ⟨_, rfl⟩
    rw [hp] at p0 p1
    by_cases hc : 4294967296 * r + n1 < p
    ·
     have HC : Hid (4294967296 ≤ q ∨ r * 4294967296 + n1 < q * b) := .inr (by omega)
     have qp : 1 ≤ q := HA.out.pos HIN.out HC.out
     by_cases hr : r + a < 4294967296
     ·
      go_wp2_with fail
      go_round
      case rel => exact ⟨q - 1, r + a, rfl, rfl, HA.out.next HIN.out HC.out hr⟩
      case measure => simp [intOf]; omega
     ·
      have hr' : 4294967296 ≤ r + a := by omega
      go_wp2_with fail
      go_meet
      case rel => exact ⟨q - 1, rfl, HA.out.last HIN.out HC.out hr', rfl⟩
    ·
     have HC : Hid (q * b ≤ r * 4294967296 + n1) := by show _ ≤ _; omega
     go_wp2_with fail
     go_meet
     case rel => exact ⟨q, rfl, HA.out.stop HIN.out (Int.not_lt.2 HC.out), rfl⟩
 case rest =>
  obtain ⟨q1, rfl, hD, rfl⟩ := hcut
  obtain ⟨d1, d2⟩ := hD.rest HIN.out
  obtain ⟨hq1e, q10, q11⟩ := hD
  clear hq1e
  rw [← YB.out.1] at d1 d2
  have y00 := YB.out.2.1
  have y01 := YB.out.2.2
  obtain ⟨P1, hP1⟩ : ∃ P, q1 * Y = P := ⟨_, rfl⟩
  rw [hP1] at d1 d2
  obtain ⟨u', hu'⟩ : ∃ x, u * 4294967296 + n1 - P1 = x := ⟨_, rfl⟩
  rw [hu'] at d1 d2
  have W1 : IntKind.u64.wrap (IntKind.u64.wrap (IntKind.u64.wrap (u * 4294967296) + n1) - IntKind.u64.wrap P1) = u' := by
   simp only [IntKind.wrap_u64]
   omega
  have HI2 : HalfIn a b u' n0 := ⟨a0, a1, b0, b1, d1, by rw [← YB.out.1]; exact d2, n00, n01⟩
  have HU : Hid (u' = u * 4294967296 + n1 - q1 * Y) := by show _ = _; rw [hP1]; exact hu'.symm
  have hst2 := HalfAt.start HI2
  obtain ⟨r2, hr2⟩ : ∃ r, u' % a = r := ⟨_, rfl⟩
  rw [hr2] at hst2
  obtain ⟨P2, hP2⟩ : ∃ P, u' / a * a = P := ⟨_, rfl⟩
  have hqr2 := hst2.1
  have q20 := hst2.2.2.1
  have p20 : 0 ≤ P2 := by rw [← hP2]; exact Int.mul_nonneg q20 (by omega)
  have r20 := hst2.2.2.2.2.1
  have p21 : P2 < 18446744073709551616 := by omega
  have u21 : u' < 18446744073709551616 := by omega
  have e2 : u' - P2 = r2 := by omega
  have HST2 : Hid (HalfAt a b u' n0 (u' / a) r2) := hst2
  have HIN2 : Hid (HalfIn a b u' n0) := HI2
  clear hst2 hqr2 hr2 HI2 hu' u0 u2
  go_upto_block 2 with fail
  clear hP2 e2 p20 p21 W1 hP1
  go_cut [18] (fun v wd => ∃ q : Int, v = .int .u64 q ∧ HalfDone a b u' n0 q ∧ wd = wc)
  case first =>
   go_wp2_with fail
   go_loop [18, 16] (fun v x => ∃ q r : Int, v = .int .u64 q ∧ x = .int .u64 r ∧ HalfAt a b u' n0 q r) (fun v _ => (intOf v).toNat)
   case atStart => exact ⟨u' / a, r2, rfl, rfl, HST2.out⟩
   case round =>
    obtain ⟨q, r, rfl, rfl, hA⟩ := hrel
    have HA : Hid (HalfAt a b u' n0 q r) := hA
    have q2 := hA.2.2.1
    have q3 := hA.2.2.2.1
    have r2 := hA.2.2.2.2.1
    have r3 := hA.2.2.2.2.2
    by_cases hq : 4294967296 ≤ q
    ·
     clear hA
     by_cases hr : r + a < 4294967296
     ·
      go_wp2_with fail
      go_round
      case rel => exact ⟨q - 1, r + a, rfl, rfl, HA.out.next HIN2.out (.inl hq) hr⟩
      case measure => simp [intOf]; omega
     ·
      have hr' : 4294967296 ≤ r + a := by omega
      go_wp2_with fail
      go_meet
      case rel => exact ⟨q - 1, rfl, HA.out.last HIN2.out (.inl hq) hr', rfl⟩
    ·
     obtain ⟨p0, p1⟩ := half_prod hA HIN2.out (by omega)
     have hq' : q < 4294967296 := by omega
     clear hA
     obtain ⟨p, hp⟩ : ∃ p, q * b = p := ⟨_, rfl⟩
     rw [hp] at p0 p1
     by_cases hc : 4294967296 * r + n0 < p
     ·
      have HC : Hid (4294967296 ≤ q ∨ r * 4294967296 + n0 < q * b) := .inr (by omega)
      have qp : 1 ≤ q := HA.out.pos HIN2.out HC.out
      by_cases hr : r + a < 4294967296
      ·
       go_wp2_with fail
       go_round
       case rel => exact ⟨q - 1, r + a, rfl, rfl, HA.out.next HIN2.out HC.out hr⟩
       case measure => simp [intOf]; omega
      ·
       have hr' : 4294967296 ≤ r + a := by omega
       go_wp2_with fail
       go_meet
       case rel => exact ⟨q - 1, rfl, HA.out.last HIN2.out HC.out hr', rfl⟩
     ·
      have HC : Hid (q * b ≤ r * 4294967296 + n0) := by show _ ≤ _; omega
      go_wp2_with fail
      go_meet
      case rel => exact ⟨q, rfl, HA.out.stop HIN2.out (Int.not_lt.2 HC.out), rfl⟩
  case rest =>
   obtain ⟨q2, rfl, hD2, hwd⟩ := hcut
   subst hwd
   obtain ⟨f1, f2⟩ := DONE.out q1 q2 u' HU.out HIN2.out hD2
   obtain ⟨g1, g2⟩ := hD2.rest HIN2.out
   obtain ⟨hq2e, q20', q21'⟩ := hD2
   clear hq2e
   rw [← YB.out.1] at g1 g2
   obtain ⟨P3, hP3⟩ : ∃ P, q2 * Y = P := ⟨_, rfl⟩
   rw [hP3] at g1 g2 f2
   obtain ⟨R, hR⟩ : ∃ x, u' * 4294967296 + n0 - P3 = x := ⟨_, rfl⟩
   rw [hR] at g1 g2 f2
   have W2 : IntKind.u64.wrap (IntKind.u64.wrap (IntKind.u64.wrap (u' * 4294967296) + n0) - IntKind.u64.wrap P3) = R := by
    simp only [IntKind.wrap_u64]
    omega
   have F : Hid (q1 * 4294967296 + q2 = ((hi : Int) * 18446744073709551616 + lo) / y ∧ R / 2 ^ s = ((hi : Int) * 18446744073709551616 + lo) % y) := ⟨f1, f2⟩
   have R1 : R < 18446744073709551616 := by omega
   clear f1 f2 hR d1 d2 u21
   go_wp2_with fail
   go_ret2
   exact ⟨_, _, rfl, rfl, F.out.1, F.out.2⟩

set_option maxRecDepth 4000 in
set_option maxHeartbeats 1000000 in
theorem div64_zero (lo y : Nat) (w : World) (y0 : 0 < y) (y1 : y < 18446744073709551616) (l1 : lo < 18446744073709551616) :
  Calls Tryz.prog 144 #[.int .u64 0, .int .u64 lo, .int .u64 y] w fun e w' => e = .returned (.tuple #[.int .u64 ((lo : Int) / y), .int .u64 ((lo : Int) % y)]) ∧ Ext w w' := by
 have hy0 : (((y : Int) == 0)) = false := by rw [beq_eq_false_iff_ne]; omega
 have hy1 : ¬ (y : Int) ≤ 0 := by omega
 have hy2 : (0 : Int) < (y : Int) := by omega
 have hw : IntKind.u64.wrap ((lo : Int) / (y : Int)) = (lo : Int) / (y : Int) := by
  rw [IntKind.wrap_u64]
  have := Int.ediv_nonneg (show (0 : Int) ≤ (lo : Int) by omega) (show (0 : Int) ≤ (y : Int) by omega)
  have := Int.ediv_le_self (y : Int) (show (0 : Int) ≤ (lo : Int) by omega)
  omega
 go_enter Tryz.func144, Tryz.ntmps144
 go_wp2_with fail
 go_quiet (fail)
 go_wp2
 go_ret2
 exact ⟨rfl, xdrewN (xr _) _⟩

theorem div64_any (hi lo y : Nat) (w : World) (h1 : hi < y) (y1 : y < 18446744073709551616) (l1 : lo < 18446744073709551616) :
  Calls Tryz.prog 144 #[.int .u64 hi, .int .u64 lo, .int .u64 y] w fun e w' => ∃ q r : Nat, e = .returned (.tuple #[.int .u64 q, .int .u64 r]) ∧ q * y + r = hi * 18446744073709551616 + lo ∧ r < y ∧ q < 18446744073709551616 ∧ Ext w w' := by
 have key : (hi * 18446744073709551616 + lo) / y * y + (hi * 18446744073709551616 + lo) % y = hi * 18446744073709551616 + lo := Nat.div_add_mod' _ _
 have kr : (hi * 18446744073709551616 + lo) % y < y := Nat.mod_lt _ (by omega)
 have kq : (hi * 18446744073709551616 + lo) / y < 18446744073709551616 := by
  refine Nat.div_lt_of_lt_mul ?_
  have : (hi + 1) * 18446744073709551616 ≤ y * 18446744073709551616 := Nat.mul_le_mul_right _ h1
  omega
 by_cases h0 : hi = 0
 ·
  subst h0
  refine (div64_zero lo y w (by omega) y1 l1).mono ?_
  rintro e w' ⟨rfl, hx⟩
  refine ⟨lo / y, lo % y, by rw [Int.natCast_ediv, Int.natCast_emod], ?_, Nat.mod_lt _ (by omega), ?_, hx⟩
  ·
   have := Nat.div_add_mod' lo y; omega
  ·
   exact Nat.lt_of_le_of_lt (Nat.div_le_self _ _) l1
 ·
  refine (div64_go hi lo y w (by omega) h1 y1 l1).mono ?_
  rintro e w' ⟨q, r, rfl, rfl, rfl, rfl⟩
  refine ⟨_, _, ?_, key, kr, kq, xr _⟩
  rw [Int.natCast_ediv, Int.natCast_emod]
  rfl

theorem over_lin {A B C q r l a : Nat} (e : A + l = a) (h : A = B + C) (k : q + r = C + l) : a = r + (B + q) := by omega
theorem over_fit {h l n H R q r a : Nat} (e : h * 18446744073709551616 + l = a) (e1 : n * H + R = h) (e2 : q * n + r = R * 18446744073709551616 + l) (hr : r < n) : H * 18446744073709551616 + q = a / n ∧ r = a % n := by
 have e3 : a = r + n * (H * 18446744073709551616 + q) := by
  rw [Nat.mul_add, ← Nat.mul_assoc, Nat.mul_comm n q]
  exact over_lin e (by rw [← e1, Nat.add_mul]) e2
 constructor
 ·
  rw [e3, Nat.add_mul_div_left _ _ (by omega), Nat.div_eq_of_lt hr, Nat.zero_add]
 ·
  rw [e3, Nat.add_mul_mod_self_left, Nat.mod_eq_of_lt hr]

set_option maxRecDepth 4000 in
set_option maxHeartbeats 1000000 in
theorem over_any {v : Value} {a : Nat} (n : Nat) (w : World) (hv : WV v a) (n0 : 0 < n) (n1 : n < 18446744073709551616) :
  Calls Tryz.prog 125 #[v, .int .u64 n] w fun e w' => ∃ v', e = .returned (.tuple #[v', .int .u64 ((a % n : Nat) : Int)]) ∧ WV v' (a / n) ∧ Ext w w' := by
 obtain ⟨h, l, rfl, h1, h2, e1⟩ := hv
 have DV : Hid (∀ w, Calls Tryz.prog 144 #[.int .u64 ((h : Int) % (n : Int)), .int .u64 l, .int .u64 n] w fun e w' => ∃ q : Nat, e = .returned (.tuple #[.int .u64 q, .int .u64 ((a % n : Nat) : Int)]) ∧ WV (.agg #[.int .u64 ((h : Int) / (n : Int)), .int .u64 q]) (a / n) ∧ Ext w w') := fun w => by
  rw [← Int.natCast_emod, ← Int.natCast_ediv]
  refine (div64_any (h % n) l n w (Nat.mod_lt _ n0) n1 h2).mono ?_
  rintro e w' ⟨q, r, rfl, hq, hr, hq1, hx⟩
  obtain ⟨f1, f2⟩ := over_fit e1 (Nat.div_add_mod h n) hq hr
  subst f2
  exact ⟨q, rfl, ⟨h / n, q, rfl, Nat.lt_of_le_of_lt (Nat.div_le_self _ _) h1, hq1, f1⟩, hx⟩
 have hn0 : (0 : Int) < (n : Int) := by omega
 have hw : IntKind.u64.wrap ((h : Int) / (n : Int)) = (h : Int) / (n : Int) := by
  rw [IntKind.wrap_u64]
  have := Int.ediv_nonneg (show (0 : Int) ≤ (h : Int) by omega) (show (0 : Int) ≤ (n : Int) by omega)
  have := Int.ediv_le_self (n : Int) (show (0 : Int) ≤ (h : Int) by omega)
  omega
 have B := (Box2.made w (.int .u64 h) (.int .u64 l) 104).later (x1 _ (.cells #[.int .u64 0, .int .u64 0] 104))
 have Br := Box2.made (w.alloc (.cells #[.int .u64 h, .int .u64 l] 104)) (.int .u64 0) (.int .u64 0) 104
 simp only [World.size_alloc] at Br
 clear e1
 go_enter Tryz.func125, Tryz.ntmps125
 go_wp2_with fail
 go_quiet (fail)
 go_wp2_with fail
 refine (DV.out _).mono ?_
 rintro e w1 ⟨q, rfl, hW, e2⟩
 have HW : Hid (WV (.agg #[.int .u64 ((h : Int) / (n : Int)), .int .u64 q]) (a / n)) := hW
 clear hW
 have X := xt (xdrewN (xr _) _) e2
 obtain ⟨⟨r0, r1⟩, s0, s1⟩ := Br.later X
 go_wp2
 exact bodyPost_ret (v := .tuple #[.agg #[.int .u64 ((h : Int) / (n : Int)), .int .u64 q], .int .u64 ((a % n : Nat) : Int)]) (by simp [results, Tryz.results125, go_sem, r0, r1]) rfl ⟨_, rfl, HW.out, xset (xset (xt (xa (x1 _ _) _) X) (Nat.le_succ _) _) (Nat.le_succ _) _⟩

theorem Box2.far {w : World} {b : Nat} {v0 v1 : Value} (h : Box2 w b v0 v1) {p : Addr} (hp : p.block ≠ b) (u : Value) : Box2 (w.setCell p u) b v0 v1 := by
 obtain ⟨⟨h0, h1⟩, h2, h3⟩ := h
 refine ⟨⟨?_, ?_⟩, by rw [World.frozen?_setCell]; exact h2, by rw [World.frozen?_setCell]; exact h3⟩
 ·
  rw [World.cell?_setCell_other _ _ _ _ (fun e => hp (congrArg Addr.block e))]; exact h0
 ·
  rw [World.cell?_setCell_other _ _ _ _ (fun e => hp (congrArg Addr.block e))]; exact h1
theorem Box2.put {w : World} {b : Nat} {v0 v1 : Value} (h : Box2 w b v0 v1) (u0 u1 : Value) : Box2 ((w.setCell ⟨b, 0, none⟩ u0).setCell ⟨b, 1, none⟩ u1) b u0 u1 := by
 obtain ⟨⟨h0, h1⟩, h2, h3⟩ := h
 have ne : (⟨b, 1, none⟩ : Addr) ≠ ⟨b, 0, none⟩ := fun e => by have := congrArg Addr.off e; simp at this
 have k1 : (w.setCell ⟨b, 0, none⟩ u0).cell? ⟨b, 1, none⟩ = some v1 := by rw [World.cell?_setCell_other _ _ _ _ ne.symm]; exact h1
 refine ⟨⟨?_, World.cell?_setCell_same _ _ _ k1⟩, by rw [World.frozen?_setCell, World.frozen?_setCell]; exact h2, by rw [World.frozen?_setCell, World.frozen?_setCell]; exact h3⟩
 rw [World.cell?_setCell_other _ _ _ _ ne]
 exact World.cell?_setCell_same _ _ _ h0

/-- Some digits taken off: how many are left, and whether one that was taken is not 0. -/
theorem low_step (P i j : Nat) : P / 10 ^ i / 10 ^ j = P / 10 ^ (i + j) ∧ (decide (P % 10 ^ (i + j) ≠ 0) = (decide (P % 10 ^ i ≠ 0) || decide (P / 10 ^ i % 10 ^ j ≠ 0))) := by
 refine ⟨div_pow P i j, ?_⟩
 rw [Bool.eq_iff_iff]
 simp only [Bool.or_eq_true, decide_eq_true_eq]
 exact mod_pow_zero P i j
theorem low_zero {P i : Nat} (n : Nat) (h : P / 10 ^ i = 0) (hi : i ≤ n) : P / 10 ^ n = 0 ∧ decide (P % 10 ^ n ≠ 0) = decide (P % 10 ^ i ≠ 0) := by
 obtain ⟨j, rfl⟩ : ∃ j, n = i + j := ⟨n - i, by omega⟩
 obtain ⟨h1, h2⟩ := low_step P i j
 rw [← h1, h2, h]
 simp

set_option maxRecDepth 4000 in
set_option maxHeartbeats 2000000 in
theorem lowered_any {v : Value} {a : Nat} (n : Nat) (w : World) (hv : WV v a) (hn : n ≤ 100000) (hT : Tens w) :
  Calls Tryz.prog 133 #[v, .int .i64 n] w fun e w' => ∃ v', e = .returned (.tuple #[v', .bool (decide (a % 10 ^ n ≠ 0))]) ∧ WV v' (a / 10 ^ n) ∧ Ext w w' := by
 obtain ⟨h, l, rfl, h1, h2, e1⟩ := hv
 have HE1 : Hid (h * 18446744073709551616 + l = a) := e1
 have B := (Box2.made w (.int .u64 h) (.int .u64 l) 104).later (x1 _ (.cells #[.int .u64 0, .int .u64 0] 104))
 have Br := Box2.made (w.alloc (.cells #[.int .u64 h, .int .u64 l] 104)) (.int .u64 0) (.int .u64 0) 104
 simp only [World.size_alloc] at Br
 have T := hT.later (xa (x1 w (.cells #[.int .u64 h, .int .u64 l] 104)) (.cells #[.int .u64 0, .int .u64 0] 104))
 clear e1 T
 go_enter Tryz.func133, Tryz.ntmps133
 go_wp2_with fail
 go_loopw [1, 6] (fun x m wr => ∃ (k i : Nat) (h l : Nat), k + i = n ∧ x = .int .i64 k ∧ m = .bool (decide (a % 10 ^ i ≠ 0)) ∧ Box2 wr w.heap.size (.int .u64 h) (.int .u64 l) ∧ Box2 wr (w.heap.size + 1) (.int .u64 0) (.int .u64 0) ∧ h < 18446744073709551616 ∧ l < 18446744073709551616 ∧ h * 18446744073709551616 + l = a / 10 ^ i ∧ Ext w wr) (fun x _ _ => (intOf x).toNat)
 case atStart => exact ⟨n, 0, h, l, rfl, rfl, by simp [Nat.mod_one], B, Br, h1, h2, by rw [Nat.pow_zero, Nat.div_one]; exact HE1.out, xa (x1 _ _) _⟩
 case round =>
  clear B Br HE1 h1 h2
  obtain ⟨k, i, h, l, hk, rfl, rfl, B, Br, h1, h2, e1, X⟩ := hrel
  have B' := B
  have Br' := Br
  obtain ⟨⟨p0, p1⟩, f0, f1⟩ := B'
  obtain ⟨⟨r0, r1⟩, s0, s1⟩ := Br'
  obtain ⟨m, hm⟩ : ∃ m : Bool, decide (a % 10 ^ i ≠ 0) = m := ⟨_, rfl⟩
  rw [hm]
  have HM : Hid (decide (a % 10 ^ i ≠ 0) = m) := hm
  have E1 : Hid (h * 18446744073709551616 + l = a / 10 ^ i) := e1
  have WVh : Hid (WV (.agg #[.int .u64 h, .int .u64 l]) (a / 10 ^ i)) := ⟨h, l, rfl, h1, h2, e1⟩
  clear hm e1
  have K0 : k = 0 ∨ 0 < k := by omega
  rcases K0 with rfl | k0
  ·
   obtain rfl : i = n := by omega
   go_wp2_with fail
   exact bodyPost_ret (v := .tuple #[.agg #[.int .u64 h, .int .u64 l], .bool m]) (by simp [results, Tryz.results133, go_sem, r0, r1]) rfl ⟨_, by rw [HM.out], WVh.out, xset (xset X (Nat.le_succ _) _) (Nat.le_succ _) _⟩
  ·
   by_cases hz : h = 0 ∧ l = 0
   ·
    obtain ⟨rfl, rfl⟩ := hz
    have H0 : Hid (a / 10 ^ n = 0 ∧ decide (a % 10 ^ n ≠ 0) = m) := by
     have e2 : a / 10 ^ i = 0 := by rw [← E1.out]
     have := low_zero n e2 (by omega)
     rw [HM.out] at this
     exact this
    have WV0 : Hid (WV (.agg #[.int .u64 ((0 : Nat) : Int), .int .u64 ((0 : Nat) : Int)]) (a / 10 ^ n)) := by rw [H0.out.1]; exact ⟨0, 0, rfl, by decide, by decide, rfl⟩
    go_wp2_with fail
    exact bodyPost_ret (v := .tuple #[.agg #[.int .u64 ((0 : Nat) : Int), .int .u64 ((0 : Nat) : Int)], .bool m]) (by simp [results, Tryz.results133, go_sem, r0, r1]) rfl ⟨_, by rw [H0.out.2], WV0.out, xset (xset X (Nat.le_succ _) _) (Nat.le_succ _) _⟩
   ·
    have kk : (0 : Int) < (k : Int) := by omega
    go_upto_region 2 with fail
    go_cut [16] (fun v wc => v = .bool true ∧ wc = wr)
    case first =>
     by_cases hh : h = 0
     ·
      subst hh
      have hl : ¬ l = 0 := fun e => hz ⟨rfl, e⟩
      clear hz
      go_wp2_with fail
      go_meet
      case rel => exact ⟨rfl, rfl⟩
     ·
      clear hz
      go_wp2_with fail
      go_meet
      case rel => exact ⟨rfl, rfl⟩
    case rest =>
     obtain ⟨rfl, hwc⟩ := hcut
     rw [hwc]
     clear hwc
     clear hz
     go_upto_region 3 with fail
     go_cut [7] (fun v wd => ∃ st : Nat, v = .int .i64 st ∧ 1 ≤ st ∧ st ≤ 19 ∧ st ≤ k ∧ wd = wr)
     case first =>
      by_cases h19 : (k : Int) ≤ 19
      ·
       go_wp2_with fail
       go_meet
       case rel => exact ⟨k, by rw [Int.min_eq_left (by omega)], by omega, by omega, by omega, rfl⟩
      ·
       go_wp2_with fail
       go_meet
       case rel => exact ⟨19, by rw [Int.min_eq_right (by omega)]; rfl, by omega, by omega, by omega, rfl⟩
     case rest =>
      obtain ⟨st, rfl, st0, st1, st2, hwd⟩ := hcut
      rw [hwd]
      clear hwd
      obtain ⟨t, et, t1, ct⟩ := (hT.later X).at (i := st) (by omega)
      have st3 : (st : Int) < 20 := by omega
      have t0 : 0 < t := by rw [← et]; exact ten_pow_pos st
      have ne0 := World.new_ne wr _ p0
      have ne1 := World.new_ne wr _ p1
      have ne2 := World.new_ne wr _ ct
      have CT : ∀ {w2 : World}, Ext wr w2 → w2.cell? ⟨0, st, none⟩ = some (.int .u64 t) := fun x => cell_later x ct
      have hwk : IntKind.i64.wrap ((k : Int) - (st : Int)) = (k : Int) - (st : Int) := by rw [IntKind.wrap_i64]; omega
      have OV : Hid (∀ w, Calls Tryz.prog 125 #[.agg #[.int .u64 h, .int .u64 l], .int .u64 t] w fun e w' => ∃ h' l' r : Nat, e = .returned (.tuple #[.agg #[.int .u64 h', .int .u64 l'], .int .u64 r]) ∧ h' < 18446744073709551616 ∧ l' < 18446744073709551616 ∧ Hid (h' * 18446744073709551616 + l' = a / 10 ^ (i + st) ∧ decide (a % 10 ^ (i + st) ≠ 0) = (m || decide (r ≠ 0))) ∧ Ext w w') := fun w => by
       refine (over_any t w WVh.out t0 t1).mono ?_
       rintro e w' ⟨v', rfl, ⟨h', l', rfl, k1, k2, k3⟩, hx⟩
       obtain ⟨g1, g2⟩ := low_step a i st
       refine ⟨h', l', a / 10 ^ i % t, rfl, k1, k2, ⟨?_, ?_⟩, hx⟩
       ·
        rw [k3, ← et, g1]
       ·
        rw [g2, HM.out, et]
      go_upto_region 4 with fail
      go_cut [8, 9] (fun v x we => ∃ b h' l' r : Nat, v = .pointer (some ⟨b, 0, none⟩) ∧ x = .int .u64 r ∧ wr.heap.size ≤ b ∧ Box2 we b (.int .u64 h') (.int .u64 l') ∧ h' < 18446744073709551616 ∧ l' < 18446744073709551616 ∧ Hid (h' * 18446744073709551616 + l' = a / 10 ^ (i + st) ∧ decide (a % 10 ^ (i + st) ≠ 0) = (m || decide (r ≠ 0))) ∧ Ext wr we)
      case first =>
       go_region_held3 (fun w' => w'.cell? ⟨w.heap.size, 0, none⟩ = some (.int .u64 h) ∧ w'.cell? ⟨w.heap.size, 1, none⟩ = some (.int .u64 l) ∧ w'.cell? ⟨0, st, none⟩ = some (.int .u64 t)) (go_keep) (first
        | (go_at_call 125; refine (OV.out _).mono ?_; rintro e w2 ⟨h', l', r, rfl, k1, k2, K3, e2⟩; have X2 : Ext wr w2 := xt (by first | exact xd (xr _) | exact xa (xd (xr _)) _ | exact xd (xa (xr _) _) | exact xa (xr _) _ | exact xr _) e2; obtain ⟨⟨q0, q1⟩, _⟩ := B.later X2; have q3 := CT X2; (first | (have RB : Box2 w2 wr.heap.size (.int .u64 0) (.int .u64 0) := (by exact (Box2.made wr (.int .u64 0) (.int .u64 0) 104).later (xt (xd (xr _)) e2)); obtain ⟨⟨z0, z1⟩, y0, y1⟩ := RB) | skip)))
       ·
        go_wp2_with fail
        go_meet
        case rel => exact ⟨_, h', l', r, rfl, rfl, X2.size, Box2.made w2 _ _ _, k1, k2, K3, xa X2 _⟩
       ·
        go_wp2_with fail
        go_meet
        case rel =>
         refine ⟨_, h', l', r, rfl, rfl, Nat.le_refl _, ?_, k1, k2, K3, xset (xset X2 (Nat.le_refl _) _) (Nat.le_refl _) _⟩
         refine ⟨⟨?_, ?_⟩, ?_, ?_⟩ <;> simp [go_sem, z0, z1, y0, y1]
      case rest =>
       obtain ⟨b, h', l', r, rfl, rfl, hb, Bn, k1, k2, K3, X3⟩ := hcut
       rename World => wz
       obtain ⟨⟨b0, b1⟩, _⟩ := Bn
       have B3 := B.later X3
       have Br3 := Br.later X3
       have B3' := B3
       obtain ⟨⟨g0, g1⟩, j0, j1⟩ := B3'
       have NB : Hid (Box2 ((wz.setCell ⟨w.heap.size, 0, none⟩ (.int .u64 h')).setCell ⟨w.heap.size, 1, none⟩ (.int .u64 l')) w.heap.size (.int .u64 h') (.int .u64 l') ∧ Box2 ((wz.setCell ⟨w.heap.size, 0, none⟩ (.int .u64 h')).setCell ⟨w.heap.size, 1, none⟩ (.int .u64 l')) (w.heap.size + 1) (.int .u64 0) (.int .u64 0)) :=
        ⟨B3.put _ _, (Br3.far (p := ⟨w.heap.size, 0, none⟩) (show w.heap.size ≠ w.heap.size + 1 by omega) _).far (p := ⟨w.heap.size, 1, none⟩) (show w.heap.size ≠ w.heap.size + 1 by omega) _⟩
       have ek : ((k : Int) - (st : Int)) = ((k - st : Nat) : Int) := by omega
       have EK : Hid (((k : Int) - (st : Int)) = ((k - st : Nat) : Int)) := ek
       clear ek B Br B3 Br3 p0 p1 f0 f1 r0 r1 s0 s1 ct CT ne0 ne1 ne2 OV et
       cases m
       ·
        by_cases hr : r = 0
        ·
         subst hr
         have HD : Hid (decide (a % 10 ^ (i + st) ≠ 0) = false) := K3.out.2.trans (by simp)
         go_wp2_with fail
         go_roundw
         case rel => exact ⟨k - st, i + st, h', l', by omega, by rw [← EK.out], by rw [HD.out], NB.out.1, NB.out.2, k1, k2, K3.out.1, xset (xset (xt X X3) (Nat.le_refl _) _) (Nat.le_refl _) _⟩
         case measure => simp [intOf]; omega
        ·
         have hr' : (((r : Int)) != 0) = true := by rw [bne_iff_ne]; omega
         have HD : Hid (decide (a % 10 ^ (i + st) ≠ 0) = true) := K3.out.2.trans (by simp [hr])
         go_wp2_with fail
         go_roundw
         case rel => exact ⟨k - st, i + st, h', l', by omega, by rw [← EK.out], by rw [HD.out], NB.out.1, NB.out.2, k1, k2, K3.out.1, xset (xset (xt X X3) (Nat.le_refl _) _) (Nat.le_refl _) _⟩
         case measure => simp [intOf]; omega
       ·
        have HD : Hid (decide (a % 10 ^ (i + st) ≠ 0) = true) := K3.out.2.trans (by simp)
        go_wp2_with fail
        go_roundw
        case rel => exact ⟨k - st, i + st, h', l', by omega, by rw [← EK.out], by rw [HD.out], NB.out.1, NB.out.2, k1, k2, K3.out.1, xset (xset (xt X X3) (Nat.le_refl _) _) (Nat.le_refl _) _⟩
        case measure => simp [intOf]; omega

theorem odd_low {h l Q : Nat} (e : h * 18446744073709551616 + l = Q) : (((l : Int) % 2 == 1)) = decide (Q % 2 = 1) := by
 rw [Bool.eq_iff_iff, beq_iff_eq, decide_eq_true_eq]
 omega
theorem rnd_one (mode P n : Nat) (more : Bool) (hn : 1 ≤ n) : rndM mode P n more = P / 10 ^ n + if goesOn mode (decide (P / 10 ^ n % 2 = 1)) (rest1 (P / 10 ^ (n - 1) % 10) (more || decide (P % 10 ^ (n - 1) ≠ 0))) = true then 1 else 0 := by
 obtain ⟨m, rfl⟩ : ∃ m, n = m + 1 := ⟨n - 1, by omega⟩
 unfold rndM
 rw [rest_step, Nat.add_sub_cancel, rest1_eq]
theorem div_ten (P n : Nat) (hn : 1 ≤ n) : P / 10 ^ (n - 1) / 10 = P / 10 ^ n := by
 obtain ⟨m, rfl⟩ : ∃ m, n = m + 1 := ⟨n - 1, by omega⟩
 rw [Nat.add_sub_cancel, Nat.div_div_eq_div_mul, Nat.pow_succ]
theorem short_fit {P n : Nat} (h : P < 340282366920938463463374607431768211456) (hn : 1 ≤ n) : P / 10 ^ n + 1 < 340282366920938463463374607431768211456 := by
 have h1 := div_ten P n hn
 have h2 := Nat.div_le_self P (10 ^ (n - 1))
 rw [← h1]
 omega

set_option maxRecDepth 4000 in
set_option maxHeartbeats 2000000 in
theorem short_toEven {v : Value} {P : Nat} (n : Nat) (more : Bool) (w : World) (hv : WV v P) (n1 : 1 ≤ n) (hn : n ≤ 100000) (hT : Tens w) :
  Calls Tryz.prog 112 #[v, .int .i64 n, .bool more, Value.func (Fn.func 113) #[] #[]] w fun e w' => ∃ v', e = .returned v' ∧ WV v' (rndM 0 P n more) ∧ Ext w w' := by
 obtain ⟨h, l, rfl, h1, h2, e1⟩ := hv
 have LO : Hid (∀ w, Tens w → Calls Tryz.prog 133 #[.agg #[.int .u64 h, .int .u64 l], .int .i64 ((n : Int) - 1)] w fun e w' => ∃ h' l' : Nat, e = .returned (.tuple #[.agg #[.int .u64 h', .int .u64 l'], .bool (decide (P % 10 ^ (n - 1) ≠ 0))]) ∧ Hid (WV (.agg #[.int .u64 h', .int .u64 l']) (P / 10 ^ (n - 1))) ∧ Ext w w') := fun w hT => by
  have e : ((n : Int) - 1) = ((n - 1 : Nat) : Int) := by omega
  rw [e]
  refine (lowered_any (n - 1) w ⟨h, l, rfl, h1, h2, e1⟩ (by omega) hT).mono ?_
  rintro e w' ⟨v', rfl, hW, hx⟩
  have hW' := hW
  obtain ⟨h', l', rfl, _⟩ := hW
  exact ⟨h', l', rfl, hW', hx⟩
 have PB : Hid (P < 340282366920938463463374607431768211456) := by show P < _; omega
 have B := (Box2.made w (.int .u64 h) (.int .u64 l) 104).later (x1 _ (.cells #[.int .u64 0, .int .u64 0] 104))
 have Br := Box2.made (w.alloc (.cells #[.int .u64 h, .int .u64 l] 104)) (.int .u64 0) (.int .u64 0) 104
 simp only [World.size_alloc] at Br
 have T := hT.later (xa (x1 w (.cells #[.int .u64 h, .int .u64 l] 104)) (.cells #[.int .u64 0, .int .u64 0] 104))
 have X0 : Ext w ((w.alloc (.cells #[.int .u64 h, .int .u64 l] 104)).alloc (.cells #[.int .u64 0, .int .u64 0] 104)) := xa (x1 _ _) _
 clear e1 hT h1 h2
 go_enter Tryz.func112, Tryz.ntmps112
 go_wp2_with fail
 refine (LO.out _ T).mono ?_
 rintro e w1 ⟨h', l', rfl, W1, x1'⟩
 obtain ⟨lost, hlost⟩ : ∃ b : Bool, decide (P % 10 ^ (n - 1) ≠ 0) = b := ⟨_, rfl⟩
 rw [hlost]
 have HLo : Hid (decide (P % 10 ^ (n - 1) ≠ 0) = lost) := hlost
 have B1 := (B.later x1').put (.int .u64 h') (.int .u64 l')
 have Br1 := ((Br.later x1').far (p := ⟨w.heap.size, 0, none⟩) (show w.heap.size ≠ w.heap.size + 1 by omega) (.int .u64 h')).far (p := ⟨w.heap.size, 1, none⟩) (show w.heap.size ≠ w.heap.size + 1 by omega) (.int .u64 l')
 have X1 := xset (xset (xt X0 x1') (p := ⟨w.heap.size, 0, none⟩) (Nat.le_refl _) (.int .u64 h')) (p := ⟨w.heap.size, 1, none⟩) (Nat.le_refl _) (.int .u64 l')
 obtain ⟨⟨g0, g1⟩, j0, j1⟩ := B.later x1'
 obtain ⟨u1, hu1⟩ : ∃ u, (w1.setCell ⟨w.heap.size, 0, none⟩ (.int .u64 h')).setCell ⟨w.heap.size, 1, none⟩ (.int .u64 l') = u := ⟨_, rfl⟩
 rw [hu1] at B1 Br1 X1
 have B1' := B1
 obtain ⟨⟨a0, a1⟩, c0, c1⟩ := B1'
 clear hlost LO T X0
 go_wp2_with fail
 refine (over_any 10 _ W1.out (by decide) (by decide)).mono ?_
 rintro e w2 ⟨v2, rfl, hW2, x2'⟩
 rw [div_ten P n n1] at hW2
 obtain ⟨h2, l2, rfl, k1, k2, k3⟩ := hW2
 have W2 : Hid (WV (.agg #[.int .u64 h2, .int .u64 l2]) (P / 10 ^ n)) := ⟨h2, l2, rfl, k1, k2, k3⟩
 have OD := odd_low k3
 obtain ⟨d, hd⟩ : ∃ d, P / 10 ^ (n - 1) % 10 = d := ⟨_, rfl⟩
 rw [hd]
 have RN := rnd_one 0 P n more n1
 rw [hd, HLo.out, ← OD] at RN
 obtain ⟨od, hod⟩ : ∃ b : Bool, ((l2 : Int) % 2 == 1) = b := ⟨_, rfl⟩
 rw [hod] at RN
 obtain ⟨g, hg⟩ : ∃ b : Bool, goesOn 0 od (rest1 d (more || lost)) = b := ⟨_, rfl⟩
 rw [hg] at RN
 have MO : Hid (∀ w, Calls Tryz.prog 113 #[.bool od, .int .i64 (rest1 d (more || lost))] w fun e w' => e = .returned (.bool g) ∧ w' = w) := fun w => by rw [← hg]; exact toEven_any _ _ _
 have HRN : Hid (rndM 0 P n more = P / 10 ^ n + if g = true then 1 else 0) := RN
 have B2 := (B1.later x2').put (.int .u64 h2) (.int .u64 l2)
 have Br2 := ((Br1.later x2').far (p := ⟨w.heap.size, 0, none⟩) (show w.heap.size ≠ w.heap.size + 1 by omega) (.int .u64 h2)).far (p := ⟨w.heap.size, 1, none⟩) (show w.heap.size ≠ w.heap.size + 1 by omega) (.int .u64 l2)
 have X2 := xset (xset (xt X1 x2') (p := ⟨w.heap.size, 0, none⟩) (Nat.le_refl _) (.int .u64 h2)) (p := ⟨w.heap.size, 1, none⟩) (Nat.le_refl _) (.int .u64 l2)
 obtain ⟨⟨g0', g1'⟩, j0', j1'⟩ := B1.later x2'
 obtain ⟨u2, hu2⟩ : ∃ u, (w2.setCell ⟨w.heap.size, 0, none⟩ (.int .u64 h2)).setCell ⟨w.heap.size, 1, none⟩ (.int .u64 l2) = u := ⟨_, rfl⟩
 rw [hu2] at B2 Br2 X2
 have B2' := B2
 have Br2' := Br2
 obtain ⟨⟨a0', a1'⟩, c0', c1'⟩ := B2'
 obtain ⟨⟨r0, r1⟩, s0, s1⟩ := Br2'
 clear RN hg OD hd k3 hu1 g0 g1 j0 j1 a0 a1 c0 c1 B B1 Br Br1 x1' x2' X1 W1
 go_upto_region 3 with fail
 clear hu2 g0' g1' j0' j1'
 go_cut [34] (fun v wc => v = .bool g ∧ ∃ nq, wc = u2.drewN nq)
 case first =>
  cases more
  ·
   simp only [Bool.false_or] at MO
   go_quiet (first | (go_at_call 134; exact Calls.quiet_of_same (restOf_any _ _ _)) | (go_at_call 113; exact Calls.quiet_of_same (MO.out _)))
   go_wp2_with fail
   go_meet
   case rel => exact ⟨rfl, _, rfl⟩
  ·
   simp only [Bool.true_or] at MO
   go_quiet (first | (go_at_call 134; exact Calls.quiet_of_same (restOf_any _ _ _)) | (go_at_call 113; exact Calls.quiet_of_same (MO.out _)))
   go_wp2_with fail
   go_meet
   case rel => exact ⟨rfl, _, rfl⟩
 case rest =>
  obtain ⟨rfl, nq, hwc⟩ := hcut
  have X3 : Ext u2 wc := by rw [hwc]; exact xdrewN (xr _) _
  clear hwc hod MO
  have B3 := B2.later X3
  have Br3 := Br2.later X3
  have Br3' := Br3
  have B3' := B3
  obtain ⟨⟨a0, a1⟩, c0, c1⟩ := B3'
  obtain ⟨⟨r0', r1'⟩, s0', s1'⟩ := Br3'
  clear B2 Br2 a0' a1' c0' c1' r0 r1 s0 s1
  cases g
  ·
   have HR : Hid (WV (.agg #[.int .u64 h2, .int .u64 l2]) (rndM 0 P n more)) := by rw [HRN.out]; exact W2.out
   go_wp2_with fail
   exact bodyPost_ret (v := .agg #[.int .u64 h2, .int .u64 l2]) (by simp [results, Tryz.results112, go_sem, r0', r1']) rfl ⟨_, rfl, HR.out, xset (xset (xt X2 X3) (Nat.le_succ _) _) (Nat.le_succ _) _⟩
  ·
   go_wp2_with fail
   refine (plus_any _ W2.out (b := 1) ⟨0, 1, rfl, by decide, by decide, rfl⟩ (short_fit PB.out n1)).mono ?_
   rintro e w3 ⟨v3, rfl, hW3, x3'⟩
   have hW3' := hW3
   obtain ⟨h3, l3, rfl, _⟩ := hW3'
   have HR : Hid (WV (.agg #[.int .u64 h3, .int .u64 l3]) (rndM 0 P n more)) := by rw [HRN.out]; exact hW3
   have B4 := (B3.later x3').put (.int .u64 h3) (.int .u64 l3)
   have Br4 := ((Br3.later x3').far (p := ⟨w.heap.size, 0, none⟩) (show w.heap.size ≠ w.heap.size + 1 by omega) (.int .u64 h3)).far (p := ⟨w.heap.size, 1, none⟩) (show w.heap.size ≠ w.heap.size + 1 by omega) (.int .u64 l3)
   have X4 := xset (xset (xt (xt X2 X3) x3') (p := ⟨w.heap.size, 0, none⟩) (Nat.le_refl _) (.int .u64 h3)) (p := ⟨w.heap.size, 1, none⟩) (Nat.le_refl _) (.int .u64 l3)
   obtain ⟨⟨g0, g1⟩, j0, j1⟩ := B3.later x3'
   obtain ⟨u4, hu4⟩ : ∃ u, (w3.setCell ⟨w.heap.size, 0, none⟩ (.int .u64 h3)).setCell ⟨w.heap.size, 1, none⟩ (.int .u64 l3) = u := ⟨_, rfl⟩
   rw [hu4] at B4 Br4 X4
   obtain ⟨⟨b0, b1⟩, _⟩ := B4
   obtain ⟨⟨q0, q1⟩, z0, z1⟩ := Br4
   clear hW3 a0 a1 c0 c1 r0' r1' s0' s1' B3 Br3 x3' X2 X3
   go_wp2_with fail
   exact bodyPost_ret (v := .agg #[.int .u64 h3, .int .u64 l3]) (by simp [results, Tryz.results112, go_sem, q0, q1]) rfl ⟨_, rfl, HR.out, xset (xset X4 (Nat.le_succ _) _) (Nat.le_succ _) _⟩

theorem Dig.nd {a k : Nat} (h : Dig a k) : nd a = k := nd_eq h.1 h.2
theorem WV.val {v : Value} {n : Nat} (h : WV v n) (hn : n < 18446744073709551616) : v = .agg #[.int .u64 0, .int .u64 n] := by
 obtain ⟨h, l, rfl, h1, h2, h3⟩ := h
 obtain rfl : h = 0 := by omega
 obtain rfl : l = n := by omega
 rfl
theorem Box4.far {w : World} {b : Nat} {v0 v1 v2 v3 : Value} (h : Box4 w b v0 v1 v2 v3) {p : Addr} (hp : p.block ≠ b) (u : Value) : Box4 (w.setCell p u) b v0 v1 v2 v3 := by
 obtain ⟨⟨h0, h1, h2, h3⟩, f0, f1, f2, f3⟩ := h
 have ne : ∀ i, p ≠ ⟨b, i, none⟩ := fun i e => hp (congrArg Addr.block e)
 refine ⟨⟨?_, ?_, ?_, ?_⟩, ?_, ?_, ?_, ?_⟩
 ·
  rw [World.cell?_setCell_other _ _ _ _ (ne 0)]; exact h0
 ·
  rw [World.cell?_setCell_other _ _ _ _ (ne 1)]; exact h1
 ·
  rw [World.cell?_setCell_other _ _ _ _ (ne 2)]; exact h2
 ·
  rw [World.cell?_setCell_other _ _ _ _ (ne 3)]; exact h3
 ·
  rw [World.frozen?_setCell]; exact f0
 ·
  rw [World.frozen?_setCell]; exact f1
 ·
  rw [World.frozen?_setCell]; exact f2
 ·
  rw [World.frozen?_setCell]; exact f3
theorem rnd_lt {P : Nat} {more : Bool} (h : 15 < nd P) : rndM 0 P (nd P - 15) more ≤ 1000000000000000 := by
 unfold rndM
 have h1 : P / 10 ^ (nd P - 15) < 10 ^ 15 := by
  refine Nat.div_lt_of_lt_mul ?_
  rw [← Nat.pow_add, show nd P - 15 + 15 = nd P by omega]
  exact (nd_dig P).1
 have e : (10 : Nat) ^ 15 = 1000000000000000 := by decide
 split <;> omega

set_option maxRecDepth 4000 in
set_option maxHeartbeats 2000000 in
theorem put_any {v : Value} {P : Nat} (neg : Bool) (e : Int) (more : Bool) (w : World) (hv : WV v P) (e0 : -90000 ≤ e) (e1 : e ≤ 90000) (hT : Tens w) :
  Calls Tryz.prog 82 #[.bool neg, v, .int .i64 e, .bool more] w fun r w' => r = .returned (resV (putR neg P e more)) ∧ Ext w w' := by
 obtain ⟨R, hR⟩ : ∃ R, putR neg P e more = R := ⟨_, rfl⟩
 rw [hR]
 have HPR : Hid (putR neg P e more = R) := hR
 clear hR
 obtain ⟨h, l, rfl, h1, h2, e2⟩ := hv
 have HW : Hid (WV (.agg #[.int .u64 h, .int .u64 l]) P) := ⟨h, l, rfl, h1, h2, e2⟩
 have HP : Hid (h * 18446744073709551616 + l = P) := e2
 have X0 : Ext w ((w.alloc (.cells #[.int .u64 h, .int .u64 l] 104)).alloc (.cells #[.bool false, .bool false, .int .i64 0, .int .i64 0] 70)) := xa (x1 _ _) _
 have B := (Box2.made w (.int .u64 h) (.int .u64 l) 104).later (x1 _ (.cells #[.bool false, .bool false, .int .i64 0, .int .i64 0] 70))
 have Br := Box4.made (w.alloc (.cells #[.int .u64 h, .int .u64 l] 104)) (.bool false) (.bool false) (.int .i64 0) (.int .i64 0) 70
 simp only [World.size_alloc] at Br
 clear e2
 go_enter Tryz.func82, Tryz.ntmps82
 go_wp2_with fail
 refine (length_any _ HW.out (hT.later X0)).mono ?_
 rintro r w1 ⟨k, rfl, hk, k39, x1'⟩
 obtain rfl := hk.nd
 clear hk
 have B1 := B.later x1'
 have Br1 := Br.later x1'
 have X1 := xt X0 x1'
 have B1' := B1
 obtain ⟨⟨p0, p1⟩, f0, f1⟩ := B1'
 by_cases hk15 : 15 < nd P
 ·
  have HR : Hid (R = fitR neg (rndM 0 P (nd P - 15) more) (e + ((nd P - 15 : Nat) : Int))) := by rw [← HPR.out]; unfold putR; rw [if_pos hk15]; rfl
  have RL : Hid (rndM 0 P (nd P - 15) more ≤ 1000000000000000) := rnd_lt hk15
  have SH : Hid (∀ w, Tens w → Calls Tryz.prog 112 #[.agg #[.int .u64 h, .int .u64 l], .int .i64 (((nd P) : Int) - 15), .bool more, Value.func (Fn.func 113) #[] #[]] w fun e w' => e = .returned (.agg #[.int .u64 0, .int .u64 ((rndM 0 P (nd P - 15) more : Nat) : Int)]) ∧ Ext w w') := fun w hT => by
   have e3 : (((nd P) : Int) - 15) = ((nd P - 15 : Nat) : Int) := by omega
   rw [e3]
   refine (short_toEven (nd P - 15) more w HW.out (by omega) (by omega) hT).mono ?_
   rintro e w' ⟨v', rfl, hW, hx⟩
   exact ⟨by rw [hW.val (by have := RL.out; omega)], hx⟩
  obtain ⟨Q, hQ⟩ : ∃ Q, rndM 0 P (nd P - 15) more = Q := ⟨_, rfl⟩
  rw [hQ] at HR RL SH
  have FI : Hid (∀ w, Calls Tryz.prog 114 #[.bool neg, .int .u64 Q, .int .i64 (e + (((nd P) : Int) - 15))] w fun r w' => r = .returned (resV R) ∧ Ext w w') := fun w => by
   rw [HR.out]
   have e3 : (((nd P) : Int) - 15) = ((nd P - 15 : Nat) : Int) := by omega
   rw [e3]
   exact fitted_any neg Q _ w (by have := RL.out; omega) (by omega) (by omega)
  have k15' : (15 : Int) < ((nd P) : Int) := by omega
  clear hQ HR RL h1 h2 HP HPR
  go_wp2_with fail
  refine (SH.out _ (hT.later X1)).mono ?_
  rintro r w2 ⟨rfl, x2'⟩
  have B2 := (B1.later x2').put (.int .u64 0) (.int .u64 Q)
  have Br2 := Br1.later x2'
  have X2 := xset (xset (xt X1 x2') (p := ⟨w.heap.size, 0, none⟩) (Nat.le_refl _) (.int .u64 0)) (p := ⟨w.heap.size, 1, none⟩) (Nat.le_refl _) (.int .u64 Q)
  obtain ⟨⟨g0, g1⟩, j0, j1⟩ := B1.later x2'
  obtain ⟨u2, hu2⟩ : ∃ u, (w2.setCell ⟨w.heap.size, 0, none⟩ (.int .u64 0)).setCell ⟨w.heap.size, 1, none⟩ (.int .u64 Q) = u := ⟨_, rfl⟩
  have Br3 : Box4 u2 (w.heap.size + 1) (.bool false) (.bool false) (.int .i64 0) (.int .i64 0) := by
   rw [← hu2]
   exact (Br2.far (p := ⟨w.heap.size, 0, none⟩) (show w.heap.size ≠ w.heap.size + 1 by omega) _).far (p := ⟨w.heap.size, 1, none⟩) (show w.heap.size ≠ w.heap.size + 1 by omega) _
  rw [hu2] at B2 X2
  have B2' := B2
  obtain ⟨⟨a0, a1⟩, c0, c1⟩ := B2'
  clear B Br B1 Br1 Br2 x1' x2' X0 X1 p0 p1 f0 f1
  go_wp2_with fail
  refine (FI.out _).mono ?_
  rintro r w3 ⟨rfl, x3'⟩
  obtain ⟨⟨q0, q1, q2, q3⟩, z0, z1, z2, z3⟩ := Br3.later x3'
  clear hu2 g0 g1 j0 j1 a0 a1 c0 c1
  go_wp2_with fail
  exact bodyPost_ret (v := resV R) (by simp [results, Tryz.results82, go_sem, q0, q1, q2, q3]) rfl ⟨rfl, xset (xset (xset (xset (xt X2 x3') (Nat.le_succ _) _) (Nat.le_succ _) _) (Nat.le_succ _) _) (Nat.le_succ _) _⟩
 ·
  have HR : Hid (R = fitR neg P e) := by rw [← HPR.out]; unfold putR; rw [if_neg hk15]; rfl
  have hP : P < 1000000000000000 := by
   have := (nd_dig P).1
   have := pow10_le (show nd P ≤ 15 by omega)
   have e : (10 : Nat) ^ 15 = 1000000000000000 := by decide
   omega
  obtain ⟨rfl, rfl⟩ : h = 0 ∧ l = P := by have := HP.out; omega
  have FI : Hid (∀ w, Calls Tryz.prog 114 #[.bool neg, .int .u64 l, .int .i64 e] w fun r w' => r = .returned (resV R) ∧ Ext w w') := fun w => by
   rw [HR.out]
   exact fitted_any neg l _ w (by omega) (by omega) (by omega)
  have k15' : ¬ (15 : Int) < ((nd l) : Int) := by omega
  clear HR h1 h2 HP HPR HW
  go_wp2_with fail
  refine (FI.out _).mono ?_
  rintro r w3 ⟨rfl, x3'⟩
  obtain ⟨⟨q0, q1, q2, q3⟩, z0, z1, z2, z3⟩ := Br1.later x3'
  go_wp2_with fail
  exact bodyPost_ret (v := resV R) (by simp [results, Tryz.results82, go_sem, q0, q1, q2, q3]) rfl ⟨rfl, xset (xset (xset (xset (xt X1 x3') (Nat.le_succ _) _) (Nat.le_succ _) _) (Nat.le_succ _) _) (Nat.le_succ _) _⟩

end Go.Proofs.YtfgohahfppabbaaGreatDoor

