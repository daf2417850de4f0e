/-
  math/bits.Div64.
-/
import Derived.Test.YtfkihaihbaobeaaGreatDoorMg0
import Derived.Test.YtfkihaihbaobeaaGreatDoorMg18
import Derived.Test.YtfkihaihbaobeaaGreatDoorShelb
import Derived.Shelf.Small.Bits
import Derived.Deep.DeepCutAuto
import Derived.Deep.CutBlock
namespace Go.Proofs.YtfkihaihbaobeaaGreatDoor
open Go.RowKit

theorem bitLen_ge (x k : Nat) (h : 2 ^ k ≤ x) (hx : x < 2 ^ 64) : k < Lib.bitLen x := by
  have := Lib.bitLen_shift k x h hx
  have h2 : x / 2 ^ k ≠ 0 := by
    have := Nat.div_pos h (Nat.pow_pos (by decide))
    omega
  have h3 := Lib.bitLen_half (x / 2 ^ k) h2 (Nat.lt_of_le_of_lt (Nat.div_le_self _ _) hx)
  omega

theorem lz64_any (y : Int) (w : World) (h0 : 0 ≤ y) (h1 : y ≤ 18446744073709551615) :
    Calls Tryz.prog 118 #[.int .u64 y] w fun e w' => e = .returned (.int .i64 (64 - Lib.bitLen y.toNat)) ∧ w' = w :=
  Any.bits_LeadingZeros64 layLz64 y w h0 h1

/-- The numbers that the halves work on. -/
def In64 (hi lo y : Nat) (s : Nat) (Y u L a b n1 n0 : Int) : Prop :=
  IntKind.u64.wrap ((y : Int) * 2 ^ s) = Y ∧ bits .or .u64 (IntKind.u64.wrap ((hi : Int) * 2 ^ s)) ((lo : Int) / 2 ^ (64 - s)) = u ∧ IntKind.u64.wrap ((lo : Int) * 2 ^ s) = L ∧
  Y / 4294967296 = a ∧ bits .and .u64 Y 4294967295 = b ∧ L / 4294967296 = n1 ∧ bits .and .u64 L 4294967295 = n0 ∧
  Y = a * 4294967296 + b ∧ L = n1 * 4294967296 + n0 ∧ 0 ≤ n0 ∧ n0 < 4294967296 ∧ HalfIn a b u n1 ∧ (y : Int) * 2 ^ s = Y ∧
  ((hi : Int) * 18446744073709551616 + lo) * 2 ^ s = u * 18446744073709551616 + L

theorem in64 {hi lo y s : Nat} (h0 : 0 < hi) (h1 : hi < y) (y1 : y < 18446744073709551616) (l1 : lo < 18446744073709551616) (hs : 64 - Lib.bitLen y = s) :
    s ≤ 63 ∧ ∃ Y u L a b n1 n0 : Int, In64 hi lo y s Y u L a b n1 n0 := by
  have b1 := Lib.bitLen_le y 64 (by decide) y1
  have b2 := bitLen_ge y 0 (by simp; omega) y1
  obtain ⟨n, hn⟩ : ∃ n, Lib.bitLen y = n := ⟨_, rfl⟩
  rw [hn] at b1 b2 hs
  have hns : n + s = 64 := by omega
  have yl : 2 ^ (n - 1) ≤ y := by
    by_cases h : 2 ^ (n - 1) ≤ y
    · exact h
    · have := Lib.bitLen_le y (n - 1) (by omega) (by omega)
      omega
  have yu : y < 2 ^ n := by
    by_cases h : y < 2 ^ n
    · exact h
    · have := bitLen_ge y n (by omega) y1
      omega
  obtain ⟨d1, d2, d3, d4, d5, d6⟩ := div64_in hns (by omega) h1 yl yu l1
  have e64 : 64 - s = n := by omega
  refine ⟨by omega, (y * 2 ^ s : Nat), (hi * 2 ^ s + lo / 2 ^ n : Nat), (lo * 2 ^ s % 18446744073709551616 : Nat), (y * 2 ^ s / 4294967296 : Nat), (y * 2 ^ s % 4294967296 : Nat), (lo * 2 ^ s % 18446744073709551616 / 4294967296 : Nat), (lo * 2 ^ s % 18446744073709551616 % 4294967296 : Nat), ?_⟩
  have c1 : ∀ x : Nat, (x : Int) * 2 ^ s = ((x * 2 ^ s : Nat) : Int) := fun x => by rw [Int.natCast_mul, Int.natCast_pow]; rfl
  have c2 : (lo : Int) / 2 ^ n = ((lo / 2 ^ n : Nat) : Int) := by rw [Int.natCast_ediv, Int.natCast_pow]; rfl
  have m1 : lo * 2 ^ s % 18446744073709551616 < 18446744073709551616 := Nat.mod_lt _ (by decide)
  have e0 : ((hi : Int) * 18446744073709551616 + lo) * 2 ^ s = (((hi * 18446744073709551616 + lo) * 2 ^ s : Nat) : Int) := by
    rw [← c1]; rfl
  unfold In64
  rw [c1, c1, c1, e64, c2, e0, d6]
  have w1 : ∀ x : Nat, x < 18446744073709551616 → IntKind.u64.wrap (x : Int) = (x : Int) := fun x hx => by rw [IntKind.wrap_u64]; omega
  have w2 : ∀ x : Nat, x < 18446744073709551616 → bits .and .u64 (x : Int) 4294967295 = ((x % 4294967296 : Nat) : Int) := fun x hx => by
    have h := bits_and_u64_nat x 4294967295 hx (by omega)
    have e : x &&& 4294967295 = x % 4294967296 := Nat.and_two_pow_sub_one_eq_mod x 32
    rw [e] at h
    exact h
  rw [w1 _ d2, w1 _ d3, w2 _ d2, w2 _ m1, bits_or_u64_nat _ _ d3 (Nat.lt_of_le_of_lt (Nat.div_le_self _ _) l1), d4]
  generalize y * 2 ^ s = YY at *
  generalize hi * 2 ^ s + lo / 2 ^ n = uu at *
  have w3 : IntKind.u64.wrap ((lo * 2 ^ s : Nat) : Int) = ((lo * 2 ^ s % 18446744073709551616 : Nat) : Int) := by rw [IntKind.wrap_u64]; omega
  rw [w3]
  generalize lo * 2 ^ s % 18446744073709551616 = LL at *
  refine ⟨rfl, rfl, rfl, by omega, rfl, by omega, rfl, by omega, by omega, by omega, by omega, ⟨by omega, by omega, by omega, by omega, by omega, by omega, by omega, by omega⟩, rfl, by omega⟩

theorem half_prod {a b u n q r : Int} (h : HalfAt a b u n q r) (hi : HalfIn a b u n) (hq : q < 4294967296) : 0 ≤ q * b ∧ q * b < 18446744073709551616 := by
  obtain ⟨_, _, h3, _⟩ := h
  have b0 := hi.2.2.1
  have b1 := hi.2.2.2.1
  refine ⟨Int.mul_nonneg h3 b0, ?_⟩
  have h1 : q * b ≤ 4294967295 * b := Int.mul_le_mul_of_nonneg_right (by omega) b0
  omega

set_option maxRecDepth 4000 in
set_option maxHeartbeats 4000000 in
theorem div64_go (hi lo y : Nat) (w : World) (h0 : 0 < hi) (h1 : hi < y) (y1 : y < 18446744073709551616) (l1 : lo < 18446744073709551616) :
    Calls Tryz.prog 104 #[.int .u64 hi, .int .u64 lo, .int .u64 y] w fun e w' => ∃ q r : Int, e = .returned (.tuple #[.int .u64 q, .int .u64 r]) ∧ w' = w ∧ q = ((hi : Int) * 18446744073709551616 + lo) / y ∧ r = ((hi : Int) * 18446744073709551616 + lo) % y := by
  obtain ⟨s, hs⟩ : ∃ s : Nat, 64 - Lib.bitLen y = s := ⟨_, rfl⟩
  obtain ⟨s63, Y, u, L, a, b, n1, n0, i1, i2, i3, i4, i5, i6, i7, i8, i9, n00, n01, HI, iY, iV⟩ := in64 h0 h1 y1 l1 hs
  have LZ : Hid (∀ w, Calls Tryz.prog 118 #[.int .u64 y] w fun e w' => e = .returned (.int .i64 s) ∧ w' = w) := fun w => by
    have := lz64_any y w (by omega) (by omega)
    rw [Int.toNat_natCast] at this
    have b1 := Lib.bitLen_le y 64 (by decide) y1
    rw [show (64 : Int) - Lib.bitLen y = s by omega] at this
    exact this
  have hy0 : (((y : Int) == 0)) = false := by rw [beq_eq_false_iff_ne]; omega
  have hh0 : (((hi : Int) == 0)) = false := by rw [beq_eq_false_iff_ne]; omega
  have hyh : ¬ (y : Int) ≤ (hi : Int) := by omega
  have HI' := HI
  obtain ⟨a0, a1, b0, b1, u0, u1, n10, n11⟩ := HI'
  have u2 : u < 18446744073709551616 := by omega
  have YB : Hid (Y = a * 4294967296 + b ∧ 0 ≤ Y ∧ Y < 18446744073709551616) := ⟨i8, by omega, by omega⟩
  have hst := HalfAt.start HI
  obtain ⟨r0, hr0⟩ : ∃ r, u % a = r := ⟨_, rfl⟩
  rw [hr0] at hst
  obtain ⟨P0, hP0⟩ : ∃ P, u / a * a = P := ⟨_, rfl⟩
  have hqr := hst.1
  have q00 := hst.2.2.1
  have p00 : 0 ≤ P0 := by rw [← hP0]; exact Int.mul_nonneg q00 (by omega)
  have r00 := hst.2.2.2.2.1
  have p01 : P0 < 18446744073709551616 := by omega
  have e0 : u - P0 = r0 := by omega
  have HST : Hid (HalfAt a b u n1 (u / a) r0) := hst
  have DONE : Hid (∀ q1 q0 u' : Int, u' = u * 4294967296 + n1 - q1 * Y → HalfIn a b u' n0 → HalfDone a b u' n0 q0 → q1 * 4294967296 + q0 = ((hi : Int) * 18446744073709551616 + lo) / y ∧ (u' * 4294967296 + n0 - q0 * Y) / 2 ^ s = ((hi : Int) * 18446744073709551616 + lo) % y) := fun q1 q0 u' h2 h3 h4 => by
    rw [i8] at h2 ⊢
    exact div_halves (S := 2 ^ s) (Int.pow_pos (by decide)) (by omega) (by rw [iY, i8]) (by rw [iV, i9]; omega) h2 h3 h4
  have HIN : Hid (HalfIn a b u n1) := HI
  clear hst hqr hr0 i8 i9 iY iV HI hs u1
  go_enter Tryz.func104, Tryz.ntmps104
  go_wp2_with fail
  refine (LZ.out _).mono ?_
  rintro e w1 ⟨rfl, rfl⟩
  go_upto_block 0 with fail
  clear hP0 e0 p00 p01
  go_cut [15] (fun v wc => ∃ q : Int, v = .int .u64 q ∧ HalfDone a b u n1 q ∧ wc = w1)
  case first =>
    go_wp2_with fail
    go_loop [15, 16] (fun v x => ∃ q r : Int, v = .int .u64 q ∧ x = .int .u64 r ∧ HalfAt a b u n1 q r) (fun v _ => (intOf v).toNat)
    case atStart => exact ⟨u / a, r0, rfl, rfl, HST.out⟩
    case round =>
      obtain ⟨q, r, rfl, rfl, hA⟩ := hrel
      have HA : Hid (HalfAt a b u n1 q r) := hA
      have q2 := hA.2.2.1
      have q3 := hA.2.2.2.1
      have r2 := hA.2.2.2.2.1
      have r3 := hA.2.2.2.2.2
      by_cases hq : 4294967296 ≤ q
      · clear hA
        by_cases hr : r + a < 4294967296
        · go_wp2_with fail
          go_round
          case rel => exact ⟨q - 1, r + a, rfl, rfl, HA.out.next HIN.out (.inl hq) hr⟩
          case measure => simp [intOf]; omega
        · have hr' : 4294967296 ≤ r + a := by omega
          go_wp2_with fail
          go_meet
          case rel => exact ⟨q - 1, rfl, HA.out.last HIN.out (.inl hq) hr', rfl⟩
      · obtain ⟨p0, p1⟩ := half_prod hA HIN.out (by omega)
        have hq' : q < 4294967296 := by omega
        clear hA
        obtain ⟨p, hp⟩ : ∃ p, q * b = p := ⟨_, rfl⟩
        rw [hp] at p0 p1
        by_cases hc : 4294967296 * r + n1 < p
        · have HC : Hid (4294967296 ≤ q ∨ r * 4294967296 + n1 < q * b) := .inr (by omega)
          have qp : 1 ≤ q := HA.out.pos HIN.out HC.out
          by_cases hr : r + a < 4294967296
          · go_wp2_with fail
            go_round
            case rel => exact ⟨q - 1, r + a, rfl, rfl, HA.out.next HIN.out HC.out hr⟩
            case measure => simp [intOf]; omega
          · have hr' : 4294967296 ≤ r + a := by omega
            go_wp2_with fail
            go_meet
            case rel => exact ⟨q - 1, rfl, HA.out.last HIN.out HC.out hr', rfl⟩
        · have HC : Hid (q * b ≤ r * 4294967296 + n1) := by show _ ≤ _; omega
          go_wp2_with fail
          go_meet
          case rel => exact ⟨q, rfl, HA.out.stop HIN.out (Int.not_lt.2 HC.out), rfl⟩
  case rest =>
    obtain ⟨q1, rfl, hD, rfl⟩ := hcut
    obtain ⟨d1, d2⟩ := hD.rest HIN.out
    obtain ⟨hq1e, q10, q11⟩ := hD
    clear hq1e
    rw [← YB.out.1] at d1 d2
    have y00 := YB.out.2.1
    have y01 := YB.out.2.2
    obtain ⟨P1, hP1⟩ : ∃ P, q1 * Y = P := ⟨_, rfl⟩
    rw [hP1] at d1 d2
    obtain ⟨u', hu'⟩ : ∃ x, u * 4294967296 + n1 - P1 = x := ⟨_, rfl⟩
    rw [hu'] at d1 d2
    have W1 : IntKind.u64.wrap (IntKind.u64.wrap (IntKind.u64.wrap (u * 4294967296) + n1) - IntKind.u64.wrap P1) = u' := by
      simp only [IntKind.wrap_u64]
      omega
    have HI2 : HalfIn a b u' n0 := ⟨a0, a1, b0, b1, d1, by rw [← YB.out.1]; exact d2, n00, n01⟩
    have HU : Hid (u' = u * 4294967296 + n1 - q1 * Y) := by show _ = _; rw [hP1]; exact hu'.symm
    have hst2 := HalfAt.start HI2
    obtain ⟨r2, hr2⟩ : ∃ r, u' % a = r := ⟨_, rfl⟩
    rw [hr2] at hst2
    obtain ⟨P2, hP2⟩ : ∃ P, u' / a * a = P := ⟨_, rfl⟩
    have hqr2 := hst2.1
    have q20 := hst2.2.2.1
    have p20 : 0 ≤ P2 := by rw [← hP2]; exact Int.mul_nonneg q20 (by omega)
    have r20 := hst2.2.2.2.2.1
    have p21 : P2 < 18446744073709551616 := by omega
    have u21 : u' < 18446744073709551616 := by omega
    have e2 : u' - P2 = r2 := by omega
    have HST2 : Hid (HalfAt a b u' n0 (u' / a) r2) := hst2
    have HIN2 : Hid (HalfIn a b u' n0) := HI2
    clear hst2 hqr2 hr2 HI2 hu' u0 u2
    go_upto_block 2 with fail
    clear hP2 e2 p20 p21 W1 hP1
    go_cut [18] (fun v wd => ∃ q : Int, v = .int .u64 q ∧ HalfDone a b u' n0 q ∧ wd = wc)
    case first =>
      go_wp2_with fail
      go_loop [18, 16] (fun v x => ∃ q r : Int, v = .int .u64 q ∧ x = .int .u64 r ∧ HalfAt a b u' n0 q r) (fun v _ => (intOf v).toNat)
      case atStart => exact ⟨u' / a, r2, rfl, rfl, HST2.out⟩
      case round =>
        obtain ⟨q, r, rfl, rfl, hA⟩ := hrel
        have HA : Hid (HalfAt a b u' n0 q r) := hA
        have q2 := hA.2.2.1
        have q3 := hA.2.2.2.1
        have r2 := hA.2.2.2.2.1
        have r3 := hA.2.2.2.2.2
        by_cases hq : 4294967296 ≤ q
        · clear hA
          by_cases hr : r + a < 4294967296
          · go_wp2_with fail
            go_round
            case rel => exact ⟨q - 1, r + a, rfl, rfl, HA.out.next HIN2.out (.inl hq) hr⟩
            case measure => simp [intOf]; omega
          · have hr' : 4294967296 ≤ r + a := by omega
            go_wp2_with fail
            go_meet
            case rel => exact ⟨q - 1, rfl, HA.out.last HIN2.out (.inl hq) hr', rfl⟩
        · obtain ⟨p0, p1⟩ := half_prod hA HIN2.out (by omega)
          have hq' : q < 4294967296 := by omega
          clear hA
          obtain ⟨p, hp⟩ : ∃ p, q * b = p := ⟨_, rfl⟩
          rw [hp] at p0 p1
          by_cases hc : 4294967296 * r + n0 < p
          · have HC : Hid (4294967296 ≤ q ∨ r * 4294967296 + n0 < q * b) := .inr (by omega)
            have qp : 1 ≤ q := HA.out.pos HIN2.out HC.out
            by_cases hr : r + a < 4294967296
            · go_wp2_with fail
              go_round
              case rel => exact ⟨q - 1, r + a, rfl, rfl, HA.out.next HIN2.out HC.out hr⟩
              case measure => simp [intOf]; omega
            · have hr' : 4294967296 ≤ r + a := by omega
              go_wp2_with fail
              go_meet
              case rel => exact ⟨q - 1, rfl, HA.out.last HIN2.out HC.out hr', rfl⟩
          · have HC : Hid (q * b ≤ r * 4294967296 + n0) := by show _ ≤ _; omega
            go_wp2_with fail
            go_meet
            case rel => exact ⟨q, rfl, HA.out.stop HIN2.out (Int.not_lt.2 HC.out), rfl⟩
    case rest =>
      obtain ⟨q2, rfl, hD2, hwd⟩ := hcut
      subst hwd
      obtain ⟨f1, f2⟩ := DONE.out q1 q2 u' HU.out HIN2.out hD2
      obtain ⟨g1, g2⟩ := hD2.rest HIN2.out
      obtain ⟨hq2e, q20', q21'⟩ := hD2
      clear hq2e
      rw [← YB.out.1] at g1 g2
      obtain ⟨P3, hP3⟩ : ∃ P, q2 * Y = P := ⟨_, rfl⟩
      rw [hP3] at g1 g2 f2
      obtain ⟨R, hR⟩ : ∃ x, u' * 4294967296 + n0 - P3 = x := ⟨_, rfl⟩
      rw [hR] at g1 g2 f2
      have W2 : IntKind.u64.wrap (IntKind.u64.wrap (IntKind.u64.wrap (u' * 4294967296) + n0) - IntKind.u64.wrap P3) = R := by
        simp only [IntKind.wrap_u64]
        omega
      have F : Hid (q1 * 4294967296 + q2 = ((hi : Int) * 18446744073709551616 + lo) / y ∧ R / 2 ^ s = ((hi : Int) * 18446744073709551616 + lo) % y) := ⟨f1, f2⟩
      have R1 : R < 18446744073709551616 := by omega
      clear f1 f2 hR d1 d2 u21
      go_wp2_with fail
      go_ret2
      exact ⟨_, _, rfl, rfl, F.out.1, F.out.2⟩

end Go.Proofs.YtfkihaihbaobeaaGreatDoor

