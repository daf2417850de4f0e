/-
  PwN, PwI, PwS, PwT, PwJ, PwK in one.
-/
import Derived.Test.YtpeobfkenekmhaaDoorDvA
import Derived.Test.YtpeobfkenekmhaaDoorMuI
import Derived.Test.YtpeobfkenekmhaaDoorImB
import Derived.Test.YtpeobfkenekmhaaDoorMuS
import Derived.Test.YtpeobfkenekmhaaDoorPutZ
import Derived.WalkSmall
import Derived.Test.YtpeobfkenekmhaaDoorDvM
import Derived.Test.YtpeobfkenekmhaaDoorPok
namespace Go.Proofs.YtpeobfkenekmhaaDoor
open Go.RowKit

def oneR : DR := ⟨true, false, 1, 0⟩
def mulD2 (s t : DR) : DR := mulR s.neg s.d s.e t.neg t.d t.e
/-- One bit of the power. -/
def powS (a : DR) (bit : Bool) (s : DR) : DR := if (mulD2 s s).ok = true ∧ bit = true then mulD2 (mulD2 s s) a else mulD2 s s
/-- The k bits that are left. -/
def powL (a : DR) (m : Nat) : Nat → DR → DR
  | 0, s => s
  | k + 1, s => if s.ok = true then powL a m k (powS a (m.testBit k) s) else s
/-- What DecPow answers. -/
def powR (n : Bool) (d e x : Int) : DR :=
  if (goodB n d e && decide (-1000 ≤ x ∧ x ≤ 1000)) = true then
    (if (powL ⟨true, n, d, e⟩ x.natAbs 11 oneR).ok = true ∧ x < 0 then divR false 1 0 (powL ⟨true, n, d, e⟩ x.natAbs 11 oneR).neg (powL ⟨true, n, d, e⟩ x.natAbs 11 oneR).d (powL ⟨true, n, d, e⟩ x.natAbs 11 oneR).e else powL ⟨true, n, d, e⟩ x.natAbs 11 oneR)
  else badR

theorem good_one : goodB false 1 0 = true := by decide
theorem mul_one_one : mulD2 oneR oneR = oneR := by
  unfold mulD2 mulR oneR
  simp only [good_one, Bool.and_self, if_true]
  exact put_good false 1 0 (by decide) (by decide) (by decide) (by decide)
theorem powS_one (a : DR) : powS a false oneR = oneR := by
  unfold powS
  rw [mul_one_one]
  simp
theorem powL_stop (a : DR) (m k : Nat) {s : DR} (h : s.ok = false) : powL a m k s = s := by
  cases k with
  | zero => rfl
  | succ k => unfold powL; rw [h]; rfl
theorem powL_go (a : DR) (m k : Nat) {s : DR} (h : s.ok = true) : powL a m (k + 1) s = powL a m k (powS a (m.testBit k) s) := by
  rw [powL, if_pos h]
/-- Bits that are not set leave one as it is. -/
theorem powL_one (a : DR) (m k : Nat) (h : m < 2 ^ k) (j : Nat) : powL a m (k + j) oneR = powL a m k oneR := by
  induction j with
  | zero => rfl
  | succ j ih =>
    have hb : m.testBit (k + j) = false := Nat.testBit_lt_two_pow (Nat.lt_of_lt_of_le h (Nat.pow_le_pow_right (by decide) (by omega)))
    rw [← Nat.add_assoc, powL_go a m (k + j) rfl, hb, powS_one, ih]

theorem mulD2_ok {s t : DR} (h : (mulD2 s t).ok = true) : goodB (mulD2 s t).neg (mulD2 s t).d (mulD2 s t).e = true := by
  unfold mulD2 mulR at h ⊢
  split
  · rename_i hg
    rw [if_pos hg] at h
    exact put_ok h
  · rename_i hg
    rw [if_neg hg] at h
    exact absurd h (by decide)

theorem len_any (y : Int) (w : World) (h0 : 0 ≤ y) (h1 : y ≤ 18446744073709551615) :
    Calls Tryd.prog 31 #[.int .u64 y] w fun e w' => e = .returned (.int .i64 (Lib.bitLen y.toNat)) ∧ w' = w :=
  Any.bits_Len layLen y w h0 h1
/-- How many bits a number has. -/
theorem len_bits : ∀ m : Nat, m ≤ 1000 → m < 2 ^ Lib.bitLen m ∧ Lib.bitLen m ≤ 11 := by
  intro m hm
  have h : ∀ i : Fin 1001, i.val < 2 ^ Lib.bitLen i.val ∧ Lib.bitLen i.val ≤ 11 := by decide +kernel
  exact h ⟨m, by omega⟩
theorem powL_len (a : DR) (m : Nat) (hm : m ≤ 1000) : powL a m (Lib.bitLen m) oneR = powL a m 11 oneR := by
  obtain ⟨h1, h2⟩ := len_bits m hm
  have := powL_one a m (Lib.bitLen m) h1 (11 - Lib.bitLen m)
  rw [show Lib.bitLen m + (11 - Lib.bitLen m) = 11 by omega] at this
  exact this.symm

theorem and_i64_nat (a b : Nat) (ha : a < 9223372036854775808) (hb : b < 9223372036854775808) : bits .and .i64 (a : Int) (b : Int) = ((a &&& b : Nat) : Int) := by
  have hx : a &&& b < 2 ^ 63 := Nat.and_lt_two_pow _ (by omega)
  have h1 : (BitVec.ofInt 64 (a : Int)).toNat = a := by
    rw [BitVec.ofInt_natCast, BitVec.toNat_ofNat]; exact Nat.mod_eq_of_lt (by omega)
  have h2 : (BitVec.ofInt 64 (b : Int)).toNat = b := by
    rw [BitVec.ofInt_natCast, BitVec.toNat_ofNat]; exact Nat.mod_eq_of_lt (by omega)
  show IntKind.i64.wrap ((BitVec.ofInt 64 (a : Int) &&& BitVec.ofInt 64 (b : Int)).toNat : Int) = _
  rw [BitVec.toNat_and, h1, h2, IntKind.wrap_i64]
  omega
theorem and_bit (m j : Nat) (hm : m ≤ 1000) (hj : j ≤ 10) : (bits .and .i64 (m : Int) ((2 ^ j : Nat) : Int) == 0) = !m.testBit j := by
  have hp : 2 ^ j ≤ 2 ^ 10 := Nat.pow_le_pow_right (by decide) hj
  rw [and_i64_nat m (2 ^ j) (by omega) (by omega)]
  cases hb : m.testBit j
  · have h0 : m &&& 2 ^ j = 0 := by
      apply Nat.eq_of_testBit_eq
      intro i
      rw [Nat.testBit_and, Nat.testBit_two_pow, Nat.zero_testBit]
      by_cases hi : j = i
      · subst hi; rw [hb]; rfl
      · simp [hi]
    rw [h0]
    rfl
  · have h1 : (m &&& 2 ^ j).testBit j = true := by
      rw [Nat.testBit_and, Nat.testBit_two_pow, hb]
      simp
    have h2 : m &&& 2 ^ j ≠ 0 := fun h => by rw [h, Nat.zero_testBit] at h1; cases h1
    rw [Bool.not_true, beq_eq_false_iff_ne]
    omega

theorem oneSP (w : World) : Calls Tryd.prog 33 #[] w fun e w' => e = .returned (.agg #[.bool false, .int .i64 1, .int .i64 0]) ∧ Ext w w' := by
  go_enter Tryd.func33, Tryd.ntmps33
  go_wp2
  all_goals exact bodyPost_ret (v := .agg #[.bool false, .int .i64 1, .int .i64 0]) (by simp [results, Tryd.results33, go_sem]) rfl ⟨rfl, by first | exact xr _ | exact x1 _ _ | exact xset (xset (xset (x1 _ _) (by simp only; omega) _) (by simp only; omega) _) (by simp only; omega) _⟩

set_option maxRecDepth 4000 in
set_option maxHeartbeats 4000000 in
theorem powS_good (n : Bool) (d e x : Int) (w : World) (ga : goodB n d e = true) (x0 : ¬ x < -1000) (x9 : ¬ x > 1000) (DVS : ∀ (s : DR) (w2 : World), Calls Tryd.prog 34 #[.agg #[.bool false, .int .i64 1, .int .i64 0], .agg #[.bool s.neg, .int .i64 s.d, .int .i64 s.e]] w2 fun r w' => r = .returned (resV (divR false 1 0 s.neg s.d s.e)) ∧ Ext w2 w') :
    Calls Tryd.prog 10 #[.agg #[.bool n, .int .i64 d, .int .i64 e], .int .i64 x] w fun r w' => r = .returned (resV (powR n d e x)) ∧ Ext w w' := by
  obtain ⟨R, hR⟩ : ∃ R, powR n d e x = R := ⟨_, rfl⟩
  rw [hR]
  have GA : Hid (∀ w2, Calls Tryd.prog 7 #[.agg #[.bool n, .int .i64 d, .int .i64 e]] w2 fun e w' => e = .returned (.bool true) ∧ Ext w2 w') := fun w2 => good_is true n d e w2 ga
  have MU : Hid (∀ (s t : DR) (w2 : World), Calls Tryd.prog 15 #[.agg #[.bool s.neg, .int .i64 s.d, .int .i64 s.e], .agg #[.bool t.neg, .int .i64 t.d, .int .i64 t.e]] w2 fun r w' => r = .returned (resV (mulD2 s t)) ∧ Ext w2 w') := fun s t w2 => mulS s.neg t.neg s.d s.e t.d t.e w2
  have ON : Hid (∀ w2, Calls Tryd.prog 33 #[] w2 fun e w' => e = .returned (.agg #[.bool false, .int .i64 1, .int .i64 0]) ∧ Ext w2 w') := oneSP
  have DV : Hid (∀ (s : DR) (w2 : World), Calls Tryd.prog 34 #[.agg #[.bool false, .int .i64 1, .int .i64 0], .agg #[.bool s.neg, .int .i64 s.d, .int .i64 s.e]] w2 fun r w' => r = .returned (resV (divR false 1 0 s.neg s.d s.e)) ∧ Ext w2 w') := DVS
  obtain ⟨m, hm⟩ : ∃ m : Nat, x.natAbs = m := ⟨_, rfl⟩
  obtain ⟨F, hF⟩ : ∃ F, powL ⟨true, n, d, e⟩ m 11 oneR = F := ⟨_, rfl⟩
  have HR : Hid ((if F.ok = true ∧ x < 0 then divR false 1 0 F.neg F.d F.e else F) = R) := by
    rw [← hR]; unfold powR; rw [ga, decide_eq_true (⟨by omega, by omega⟩ : -1000 ≤ x ∧ x ≤ 1000), hm, hF]; rfl
  have HF : Hid (powL ⟨true, n, d, e⟩ m 11 oneR = F) := hF
  have m0 : m ≤ 1000 := by omega
  have X0 := xa (x1 w (.cells #[.bool n, .int .i64 d, .int .i64 e] 24)) (.cells #[.bool false, .bool false, .int .i64 0, .int .i64 0] 27)
  have Ba := (Box3.made w (.bool n) (.int .i64 d) (.int .i64 e) 24).later (x1 _ (.cells #[.bool false, .bool false, .int .i64 0, .int .i64 0] 27))
  have Br := Box4.made (w.alloc (.cells #[.bool n, .int .i64 d, .int .i64 e] 24)) (.bool false) (.bool false) (.int .i64 0) (.int .i64 0) 27
  simp only [World.size_alloc] at Br
  have wX : x < 0 → IntKind.i64.wrap (-x) = (m : Int) := fun h => by rw [IntKind.wrap_i64]; omega
  have wY : 0 ≤ x → x = (m : Int) := fun h => by omega
  have WX : Hid ((x < 0 → IntKind.i64.wrap (-x) = (m : Int)) ∧ (0 ≤ x → x = (m : Int))) := ⟨wX, wY⟩
  clear ga hR hm hF wX wY DVS
  go_enter Tryd.func10, Tryd.ntmps10
  go_wp2_with fail
  refine (GA.out _).mono ?_
  rintro rr w1 ⟨rfl, x1'⟩
  replace Ba := Ba.later x1'
  replace Br := Br.later x1'
  replace X0 := xt X0 x1'
  clear x1' GA
  go_upto_if 23 with fail
  go_cut [5] (fun v wc => v = .int .i64 m ∧ wc = w1)
  case first =>
    by_cases h : x < 0
    · have := WX.out.1 h
      go_wp2_with fail
      go_meet
      case rel => exact ⟨rfl, rfl⟩
    · have h2 : Hid (x = (m : Int)) := WX.out.2 (by omega)
      go_wp2_with fail
      go_meet
      case rel => exact ⟨by rw [h2.out], rfl⟩
  case rest =>
    obtain ⟨rfl, hwc⟩ := hcut
    rw [hwc]
    clear hwc
    go_wp2_with fail
    refine (ON.out _).mono ?_
    rintro rr w2 ⟨rfl, x2'⟩
    have B6 := Box3.made w2 (.bool false) (.int .i64 1) (.int .i64 0) 24
    have X2 := xa x2' (.cells #[.bool false, .int .i64 1, .int .i64 0] 24)
    have l6 : w1.heap.size ≤ w2.heap.size := x2'.size
    obtain ⟨b6, hb6⟩ : ∃ b, w2.heap.size = b := ⟨_, rfl⟩
    rw [hb6] at B6 l6
    have LB : Hid (w1.cell? ⟨w.heap.size + 1, 0, none⟩ = some (.bool false) ∧ w1.heap.size ≤ b6) := ⟨Br.1.1, l6⟩
    replace Ba := Ba.later X2
    replace Br := Br.later X2
    replace X0 := xt X0 X2
    go_wp2_with fail
    go_loopw [7] (fun x wr => ∃ (k : Nat) (s : DR), x = .int .i64 ((2 ^ k / 2 : Nat) : Int) ∧ Hid (k ≤ 11 ∧ s.ok = true ∧ powL ⟨true, n, d, e⟩ m k s = F) ∧ Box3 wr b6 (.bool s.neg) (.int .i64 s.d) (.int .i64 s.e) ∧ Box3 wr w.heap.size (.bool n) (.int .i64 d) (.int .i64 e) ∧ Box4 wr (w.heap.size + 1) (.bool false) (.bool false) (.int .i64 0) (.int .i64 0) ∧ Ext w wr) (fun x _ => (intOf x).toNat)
    case atStart => exact ⟨11, oneR, rfl, ⟨by decide, rfl, HF.out⟩, B6, Ba, Br, X0⟩
    case round =>
      obtain ⟨k, s, rfl, HK, C6, Ca, Cr, XK⟩ := hrel
      have C6' := C6
      obtain ⟨⟨q0, q1, q2⟩, _⟩ := C6'
      have lt1 : w.heap.size + 1 < b6 := by have := World.block_lt_of_cell? _ _ LB.out.1; simp only at this; omega
      cases k with
      | zero =>
        rw [show ((2 ^ 0 / 2 : Nat) : Int) = 0 from rfl]
        obtain rfl : s = F := HK.out.2.2
        have sok := HK.out.2.1
        have Cr' := Cr
        obtain ⟨⟨m0', m1, m2, m3⟩, n0, n1, n2, n3⟩ := Cr'
        by_cases hx : x < 0
        · have HRR : Hid (divR false 1 0 s.neg s.d s.e = R) := by have := HR.out; rw [if_pos ⟨sok, hx⟩] at this; exact this
          have DS : Hid (∀ w2, Calls Tryd.prog 34 #[.agg #[.bool false, .int .i64 1, .int .i64 0], .agg #[.bool s.neg, .int .i64 s.d, .int .i64 s.e]] w2 fun r w' => r = .returned (resV R) ∧ Ext w2 w') := fun w2 => by rw [← HRR.out]; exact DV.out s w2
          have nz : w.heap.size + 1 ≠ b6 := by omega
          clear HK HF B6 Ba Br X0 HRR m0' m1 m2 m3 n0 n1 n2 n3
          go_upto_region 20 with fail
          go_region_held3 (fun w' => w'.cell? ⟨b6, 0, none⟩ = some (.bool s.neg) ∧ w'.cell? ⟨b6, 1, none⟩ = some (.int .i64 s.d) ∧ w'.cell? ⟨b6, 2, none⟩ = some (.int .i64 s.e)) (go_keep) (first
            | (go_at_call 33; refine (ON.out _).mono ?_; rintro rr w4 ⟨rfl, e4⟩; have X4 : Ext wr w4 := xt (xd (xr _)) e4; obtain ⟨⟨a0, a1, a2⟩, _⟩ := C6.later X4)
            | (go_at_call 34; refine (DS.out _).mono ?_; rintro rr w5 ⟨rfl, e5⟩; have X5 : Ext wr w5 := xt X4 e5; obtain ⟨⟨c0, c1, c2⟩, _⟩ := C6.later X5; obtain ⟨⟨m0', m1, m2, m3⟩, n0, n1, n2, n3⟩ := Cr.later X5))
          all_goals
            go_wp2_with fail
            exact bodyPost_ret (v := resV R) (by simp [results, Tryd.results10, go_sem, m0', m1, m2, m3]) rfl ⟨rfl, xset (xset (xset (xset (xt XK X5) (by simp only; omega) _) (by simp only; omega) _) (by simp only; omega) _) (by simp only; omega) _⟩
        · have HRR : Hid (s = R) := by have := HR.out; rw [if_neg (fun h => hx h.2)] at this; exact this
          clear HK HF B6 Ba Br X0
          go_wp2_with fail
          exact bodyPost_ret (v := .agg #[.bool true, .bool s.neg, .int .i64 s.d, .int .i64 s.e]) (by simp [results, Tryd.results10, go_sem, m0', m1, m2, m3]) rfl ⟨by rw [← HRR.out, ← sok], xset (xset (xset (xset XK (by simp only; omega) _) (by simp only; omega) _) (by simp only; omega) _) (by simp only; omega) _⟩
      | succ j =>
        obtain ⟨bt, hbt⟩ : ∃ b : Int, ((2 ^ (j + 1) / 2 : Nat) : Int) = b := ⟨_, rfl⟩
        rw [hbt]
        have e2 : 2 ^ (j + 1) / 2 = 2 ^ j := by rw [Nat.pow_succ]; omega
        have hb0 : 0 < bt := by rw [← hbt, e2]; have := Nat.pow_pos (n := j) (show 0 < 2 by decide); omega
        obtain ⟨t, ht⟩ : ∃ t, mulD2 s s = t := ⟨_, rfl⟩
        have MS : Hid (∀ w2, Calls Tryd.prog 15 #[.agg #[.bool s.neg, .int .i64 s.d, .int .i64 s.e], .agg #[.bool s.neg, .int .i64 s.d, .int .i64 s.e]] w2 fun r w' => r = .returned (.agg #[.bool t.ok, .bool t.neg, .int .i64 t.d, .int .i64 t.e]) ∧ Ext w2 w') := fun w2 => by rw [← ht]; exact MU.out s s w2
        clear B6 Ba Br X0
        go_wp2_with fail
        refine (MS.out _).mono ?_
        rintro rr w3 ⟨rfl, x3⟩
        have T8 := Box4.made w3 (.bool t.ok) (.bool t.neg) (.int .i64 t.d) (.int .i64 t.e) 27
        have X3 := xa x3 (.cells #[.bool t.ok, .bool t.neg, .int .i64 t.d, .int .i64 t.e] 27)
        have l8 : b6 < w3.heap.size := by have := World.block_lt_of_cell? _ _ q0; have := x3.size; simp only at *; omega
        obtain ⟨b8, hb8⟩ : ∃ b, w3.heap.size = b := ⟨_, rfl⟩
        obtain ⟨u3, hu3⟩ : ∃ u, w3.alloc (.cells #[.bool t.ok, .bool t.neg, .int .i64 t.d, .int .i64 t.e] 27) = u := ⟨_, rfl⟩
        rw [hu3] at T8 X3
        rw [hb8] at T8 l8
        replace C6 := C6.later X3
        replace Ca := Ca.later X3
        replace Cr := Cr.later X3
        replace XK := xt XK X3
        have T8' := T8
        obtain ⟨⟨g0, g1, g2, g3⟩, _⟩ := T8'
        clear q0 q1 q2
        go_upto_region 11 with fail
        clear hu3 hb8
        by_cases hok : t.ok = true
        · have C6' := C6
          obtain ⟨⟨q0, q1, q2⟩, f0, f1, f2⟩ := C6'
          have N6 := C6.put (.bool t.neg) (.int .i64 t.d) (.int .i64 t.e)
          have Na := Ca.far3 (k := b6) (by omega) (.bool t.neg) (.int .i64 t.d) (.int .i64 t.e)
          have N8 := ((T8.far (p := ⟨b6, 0, none⟩) (by simp only; omega) (.bool t.neg)).far (p := ⟨b6, 1, none⟩) (by simp only; omega) (.int .i64 t.d)).far (p := ⟨b6, 2, none⟩) (by simp only; omega) (.int .i64 t.e)
          have Nr := ((Cr.far (p := ⟨b6, 0, none⟩) (by simp only; omega) (.bool t.neg)).far (p := ⟨b6, 1, none⟩) (by simp only; omega) (.int .i64 t.d)).far (p := ⟨b6, 2, none⟩) (by simp only; omega) (.int .i64 t.e)
          have XN := Ext.set3 XK (b := b6) (by omega) (.bool t.neg) (.int .i64 t.d) (.int .i64 t.e)
          obtain ⟨u4, hu4⟩ : ∃ u, set3 u3 b6 (.bool t.neg) (.int .i64 t.d) (.int .i64 t.e) = u := ⟨_, rfl⟩
          rw [hu4] at N6 Na XN
          unfold set3 at hu4
          rw [hu4] at N8 Nr
          go_upto_region 14 with fail
          clear hu4 g0 g1 g2 g3 q0 q1 q2 f0 f1 f2 C6 Ca Cr T8 XK
          have HB := and_bit m j m0 (by have := HK.out.1; omega)
          rw [← e2, hbt] at HB
          have HBT : Hid (((2 ^ (j + 1) / 2 : Nat) : Int) = bt) := hbt
          have N6' := N6
          have Na' := Na
          obtain ⟨⟨q0, q1, q2⟩, f0, f1, f2⟩ := N6'
          obtain ⟨⟨q3, q4, q5⟩, _⟩ := Na'
          have HB2 : Hid (bt / 2 = ((2 ^ j / 2 : Nat) : Int)) := by show _ = _; rw [← hbt, e2, Int.natCast_ediv]; rfl
          clear hbt
          cases hbit : m.testBit j
          · rw [hbit] at HB
            simp only [Bool.not_false] at HB
            have HN : Hid (j ≤ 11 ∧ t.ok = true ∧ powL ⟨true, n, d, e⟩ m j t = F) := by
              refine ⟨by have := HK.out.1; omega, hok, ?_⟩
              have h1 := HK.out.2.2
              rw [powL_go _ _ _ HK.out.2.1] at h1
              have h2 : powS ⟨true, n, d, e⟩ (m.testBit j) s = t := by unfold powS; rw [ht, if_neg (fun h => by rw [hbit] at h; cases h.2)]
              rw [h2] at h1
              exact h1
            clear hbit HK
            go_wp2_with fail
            go_roundw
            case rel => exact ⟨j, t, by rw [HB2.out], HN.out, N6, Na, Nr, XN⟩
            case measure => simp [intOf]; omega
          · rw [hbit] at HB
            simp only [Bool.not_true] at HB
            obtain ⟨v, hv⟩ : ∃ v, mulD2 t ⟨true, n, d, e⟩ = v := ⟨_, rfl⟩
            have MT : Hid (∀ w2, Calls Tryd.prog 15 #[.agg #[.bool t.neg, .int .i64 t.d, .int .i64 t.e], .agg #[.bool n, .int .i64 d, .int .i64 e]] w2 fun r w' => r = .returned (.agg #[.bool v.ok, .bool v.neg, .int .i64 v.d, .int .i64 v.e]) ∧ Ext w2 w') := fun w2 => by rw [← hv]; exact MU.out t ⟨true, n, d, e⟩ w2
            have HV : Hid (powL ⟨true, n, d, e⟩ m j v = F) := by
              have h1 := HK.out.2.2
              rw [powL_go _ _ _ HK.out.2.1] at h1
              have h2 : powS ⟨true, n, d, e⟩ (m.testBit j) s = v := by unfold powS; rw [ht, if_pos ⟨hok, hbit⟩, hv]
              rw [h2] at h1
              exact h1
            have j11 : j ≤ 11 := by have := HK.out.1; omega
            clear hbit HK
            go_wp2_with fail
            refine (MT.out _).mono ?_
            rintro rr w5 ⟨rfl, x5⟩
            clear q0 q1 q2 q3 q4 q5 f0 f1 f2
            replace N6 := N6.later x5
            replace Na := Na.later x5
            replace N8 := N8.later x5
            replace Nr := Nr.later x5
            replace XN := xt XN x5
            have P8 := N8.put4 (.bool v.ok) (.bool v.neg) (.int .i64 v.d) (.int .i64 v.e)
            have P6 := (((N6.far (p := ⟨b8, 0, none⟩) (by simp only; omega) (.bool v.ok)).far (p := ⟨b8, 1, none⟩) (by simp only; omega) (.bool v.neg)).far (p := ⟨b8, 2, none⟩) (by simp only; omega) (.int .i64 v.d)).far (p := ⟨b8, 3, none⟩) (by simp only; omega) (.int .i64 v.e)
            have Pa := (((Na.far (p := ⟨b8, 0, none⟩) (by simp only; omega) (.bool v.ok)).far (p := ⟨b8, 1, none⟩) (by simp only; omega) (.bool v.neg)).far (p := ⟨b8, 2, none⟩) (by simp only; omega) (.int .i64 v.d)).far (p := ⟨b8, 3, none⟩) (by simp only; omega) (.int .i64 v.e)
            have Pr := (((Nr.far (p := ⟨b8, 0, none⟩) (by simp only; omega) (.bool v.ok)).far (p := ⟨b8, 1, none⟩) (by simp only; omega) (.bool v.neg)).far (p := ⟨b8, 2, none⟩) (by simp only; omega) (.int .i64 v.d)).far (p := ⟨b8, 3, none⟩) (by simp only; omega) (.int .i64 v.e)
            have XP := xset (xset (xset (xset XN (p := ⟨b8, 0, none⟩) (by simp only; omega) (.bool v.ok)) (p := ⟨b8, 1, none⟩) (by simp only; omega) (.bool v.neg)) (p := ⟨b8, 2, none⟩) (by simp only; omega) (.int .i64 v.d)) (p := ⟨b8, 3, none⟩) (by simp only; omega) (.int .i64 v.e)
            obtain ⟨u5, hu5⟩ : ∃ u, (((w5.setCell ⟨b8, 0, none⟩ (.bool v.ok)).setCell ⟨b8, 1, none⟩ (.bool v.neg)).setCell ⟨b8, 2, none⟩ (.int .i64 v.d)).setCell ⟨b8, 3, none⟩ (.int .i64 v.e) = u := ⟨_, rfl⟩
            rw [hu5] at P8 P6 Pa Pr XP
            obtain ⟨⟨g0, g1, g2, g3⟩, h0, h1, h2, h3⟩ := N8
            go_upto_region 16 with fail
            clear hu5 g0 g1 g2 g3 h0 h1 h2 h3 N6 Na Nr XN
            have P8' := P8
            obtain ⟨⟨g0, g1, g2, g3⟩, _⟩ := P8'
            by_cases hvk : v.ok = true
            · have P6' := P6
              obtain ⟨⟨q0, q1, q2⟩, f0, f1, f2⟩ := P6'
              have R6 := P6.put (.bool v.neg) (.int .i64 v.d) (.int .i64 v.e)
              have Ra := Pa.far3 (k := b6) (by omega) (.bool v.neg) (.int .i64 v.d) (.int .i64 v.e)
              have Rr := ((Pr.far (p := ⟨b6, 0, none⟩) (by simp only; omega) (.bool v.neg)).far (p := ⟨b6, 1, none⟩) (by simp only; omega) (.int .i64 v.d)).far (p := ⟨b6, 2, none⟩) (by simp only; omega) (.int .i64 v.e)
              have XR := Ext.set3 XP (b := b6) (by omega) (.bool v.neg) (.int .i64 v.d) (.int .i64 v.e)
              have HN : Hid (j ≤ 11 ∧ v.ok = true ∧ powL ⟨true, n, d, e⟩ m j v = F) := ⟨j11, hvk, HV.out⟩
              clear HV P6 Pa Pr P8 XP
              go_wp2_with fail
              go_roundw
              case rel => exact ⟨j, v, by rw [HB2.out], HN.out, R6, Ra, Rr, XR⟩
              case measure => simp [intOf]; omega
            · have hvk' : v.ok = false := by simpa using hvk
              have HRR : Hid (v = R) := by
                have h1 := HV.out
                rw [powL_stop _ _ _ hvk'] at h1
                have h3 := HR.out
                rw [← h1, if_neg (fun h => hvk h.1)] at h3
                exact h3
              obtain ⟨⟨m0', m1, m2, m3⟩, n0, n1, n2, n3⟩ := Pr
              rw [hvk'] at g0
              clear HV hvk P6 Pa P8
              go_wp2_with fail
              exact bodyPost_ret (v := .agg #[.bool false, .bool v.neg, .int .i64 v.d, .int .i64 v.e]) (by simp [results, Tryd.results10, go_sem, m0', m1, m2, m3]) rfl ⟨by rw [← HRR.out, ← hvk'], xset (xset (xset (xset XP (by simp only; omega) _) (by simp only; omega) _) (by simp only; omega) _) (by simp only; omega) _⟩
        · have hok' : t.ok = false := by simpa using hok
          have HRR : Hid (t = R) := by
            have h1 := HK.out.2.2
            rw [powL_go _ _ _ HK.out.2.1] at h1
            have h2 : powS ⟨true, n, d, e⟩ (m.testBit j) s = t := by unfold powS; rw [ht, if_neg (fun h => hok h.1)]
            rw [h2, powL_stop _ _ _ hok'] at h1
            have h3 := HR.out
            rw [← h1, if_neg (fun h => hok h.1)] at h3
            exact h3
          obtain ⟨⟨m0', m1, m2, m3⟩, n0, n1, n2, n3⟩ := Cr
          rw [hok'] at g0
          clear HK hok
          go_wp2_with fail
          exact bodyPost_ret (v := .agg #[.bool false, .bool t.neg, .int .i64 t.d, .int .i64 t.e]) (by simp [results, Tryd.results10, go_sem, m0', m1, m2, m3]) rfl ⟨by rw [← HRR.out, ← hok'], xset (xset (xset (xset XK (by simp only; omega) _) (by simp only; omega) _) (by simp only; omega) _) (by simp only; omega) _⟩

set_option maxRecDepth 4000 in
set_option maxHeartbeats 4000000 in
theorem powS_bad (n : Bool) (d e x : Int) (w : World) (hb : (goodB n d e && decide (-1000 ≤ x ∧ x ≤ 1000)) = false) :
    Calls Tryd.prog 10 #[.agg #[.bool n, .int .i64 d, .int .i64 e], .int .i64 x] w fun r w' => r = .returned (resV badR) ∧ Ext w w' := by
  show Calls _ _ _ _ fun r w' => r = .returned (.agg #[.bool false, .bool false, .int .i64 0, .int .i64 0]) ∧ Ext w w'
  have X0 := xa (x1 w (.cells #[.bool n, .int .i64 d, .int .i64 e] 24)) (.cells #[.bool false, .bool false, .int .i64 0, .int .i64 0] 27)
  have Br := Box4.made (w.alloc (.cells #[.bool n, .int .i64 d, .int .i64 e] 24)) (.bool false) (.bool false) (.int .i64 0) (.int .i64 0) 27
  simp only [World.size_alloc] at Br
  cases ga : goodB n d e
  · have GA : Hid (∀ w2, Calls Tryd.prog 7 #[.agg #[.bool n, .int .i64 d, .int .i64 e]] w2 fun e w' => e = .returned (.bool false) ∧ Ext w2 w') := fun w2 => good_is false n d e w2 ga
    clear ga hb
    go_enter Tryd.func10, Tryd.ntmps10
    go_wp2_with fail
    refine (GA.out _).mono ?_
    rintro rr w1 ⟨rfl, x1'⟩
    obtain ⟨⟨m0, m1, m2, m3⟩, n0, n1, n2, n3⟩ := Br.later x1'
    go_wp2_with fail
    exact bodyPost_ret (v := .agg #[.bool false, .bool false, .int .i64 0, .int .i64 0]) (by simp [results, Tryd.results10, go_sem, m0, m1, m2, m3]) rfl ⟨rfl, xset (xset (xset (xset (xt X0 x1') (by simp only; omega) _) (by simp only; omega) _) (by simp only; omega) _) (by simp only; omega) _⟩
  · have GA : Hid (∀ w2, Calls Tryd.prog 7 #[.agg #[.bool n, .int .i64 d, .int .i64 e]] w2 fun e w' => e = .returned (.bool true) ∧ Ext w2 w') := fun w2 => good_is true n d e w2 ga
    rw [ga, Bool.true_and, decide_eq_false_iff_not] at hb
    clear ga
    by_cases h1 : x < -1000
    · clear hb
      go_enter Tryd.func10, Tryd.ntmps10
      go_wp2_with fail
      refine (GA.out _).mono ?_
      rintro rr w1 ⟨rfl, x1'⟩
      obtain ⟨⟨m0, m1, m2, m3⟩, n0, n1, n2, n3⟩ := Br.later x1'
      go_wp2_with fail
      exact bodyPost_ret (v := .agg #[.bool false, .bool false, .int .i64 0, .int .i64 0]) (by simp [results, Tryd.results10, go_sem, m0, m1, m2, m3]) rfl ⟨rfl, xset (xset (xset (xset (xt X0 x1') (by simp only; omega) _) (by simp only; omega) _) (by simp only; omega) _) (by simp only; omega) _⟩
    · have h2 : x > 1000 := by omega
      clear hb
      go_enter Tryd.func10, Tryd.ntmps10
      go_wp2_with fail
      refine (GA.out _).mono ?_
      rintro rr w1 ⟨rfl, x1'⟩
      obtain ⟨⟨m0, m1, m2, m3⟩, n0, n1, n2, n3⟩ := Br.later x1'
      go_wp2_with fail
      exact bodyPost_ret (v := .agg #[.bool false, .bool false, .int .i64 0, .int .i64 0]) (by simp [results, Tryd.results10, go_sem, m0, m1, m2, m3]) rfl ⟨rfl, xset (xset (xset (xset (xt X0 x1') (by simp only; omega) _) (by simp only; omega) _) (by simp only; omega) _) (by simp only; omega) _⟩

theorem powS_all (n : Bool) (d e x : Int) (w : World) (DVS : ∀ (s : DR) (w2 : World), Calls Tryd.prog 34 #[.agg #[.bool false, .int .i64 1, .int .i64 0], .agg #[.bool s.neg, .int .i64 s.d, .int .i64 s.e]] w2 fun r w' => r = .returned (resV (divR false 1 0 s.neg s.d s.e)) ∧ Ext w2 w') :
    Calls Tryd.prog 10 #[.agg #[.bool n, .int .i64 d, .int .i64 e], .int .i64 x] w fun r w' => r = .returned (resV (powR n d e x)) ∧ Ext w w' := by
  cases hb : (goodB n d e && decide (-1000 ≤ x ∧ x ≤ 1000))
  · have hR : powR n d e x = badR := by unfold powR; rw [hb]; rfl
    rw [hR]
    exact powS_bad n d e x w hb
  · simp only [Bool.and_eq_true, decide_eq_true_eq] at hb
    exact powS_good n d e x w hb.1 (by omega) (by omega) DVS

def st4 (w : World) (b : Nat) (u0 u1 u2 u3 : Value) : World := (((w.setCell ⟨b, 0, none⟩ u0).setCell ⟨b, 1, none⟩ u1).setCell ⟨b, 2, none⟩ u2).setCell ⟨b, 3, none⟩ u3
theorem Box3.st4 {w : World} {b k : Nat} {v0 v1 v2 : Value} (h : Box3 w b v0 v1 v2) (hk : k ≠ b) (u0 u1 u2 u3 : Value) : Box3 (st4 w k u0 u1 u2 u3) b v0 v1 v2 := (((h.far (p := ⟨k, 0, none⟩) hk u0).far (p := ⟨k, 1, none⟩) hk u1).far (p := ⟨k, 2, none⟩) hk u2).far (p := ⟨k, 3, none⟩) hk u3
theorem Box4.st4 {w : World} {b k : Nat} {v0 v1 v2 v3 : Value} (h : Box4 w b v0 v1 v2 v3) (hk : k ≠ b) (u0 u1 u2 u3 : Value) : Box4 (st4 w k u0 u1 u2 u3) b v0 v1 v2 v3 := (((h.far (p := ⟨k, 0, none⟩) hk u0).far (p := ⟨k, 1, none⟩) hk u1).far (p := ⟨k, 2, none⟩) hk u2).far (p := ⟨k, 3, none⟩) hk u3
theorem Ext.st4 {a w : World} {b : Nat} (h : Ext a w) (hb : a.heap.size ≤ b) (u0 u1 u2 u3 : Value) : Ext a (st4 w b u0 u1 u2 u3) := xset (p := ⟨b, 3, none⟩) (xset (p := ⟨b, 2, none⟩) (xset (p := ⟨b, 1, none⟩) (xset (p := ⟨b, 0, none⟩) h hb u0) hb u1) hb u2) hb u3
/-- One bit of a number. -/
theorem bit_u64 (m j : Nat) (hm : m ≤ 1000) : bits .and .u64 ((m : Int) / 2 ^ j) 1 = if m.testBit j = true then 1 else 0 := by
  have e : (m : Int) / 2 ^ j = ((m / 2 ^ j : Nat) : Int) := by
    rw [Int.natCast_ediv, Int.natCast_pow]
    rfl
  have h1 : m / 2 ^ j ≤ m := Nat.div_le_self _ _
  rw [e, Nat.testBit_eq_decide_div_mod_eq]
  obtain ⟨q, hq⟩ : ∃ q, m / 2 ^ j = q := ⟨_, rfl⟩
  rw [hq] at h1 ⊢
  rw [and_one_u64 _ (by omega) (by omega)]
  by_cases h : q % 2 = 1
  · rw [if_pos (by simpa using h)]; omega
  · rw [if_neg (by simpa using h)]; omega

set_option maxRecDepth 4000 in
set_option maxHeartbeats 4000000 in
theorem powI_good (n : Bool) (d e x : Int) (w : World) (ga : goodB n d e = true) (x0 : -1000 ≤ x) (x9 : x ≤ 1000) (hT : Tens w) (DVI : ∀ (s : DR) (w2 : World), goodB s.neg s.d s.e = true → Tens w2 → Calls Tryd.prog 32 #[.agg #[.bool false, .int .i64 1, .int .i64 0], .agg #[.bool s.neg, .int .i64 s.d, .int .i64 s.e]] w2 fun r w' => r = .returned (resV (divR false 1 0 s.neg s.d s.e)) ∧ Ext w2 w') :
    Calls Tryd.prog 9 #[.agg #[.bool n, .int .i64 d, .int .i64 e], .int .i64 x] w fun r w' => r = .returned (resV (powR n d e x)) ∧ Ext w w' := by
  obtain ⟨R, hR⟩ : ∃ R, powR n d e x = R := ⟨_, rfl⟩
  rw [hR]
  obtain ⟨ga0, ga1, ga2, ga3⟩ := good_bd ga
  have GA : Hid (∀ w2, Tens w2 → Calls Tryd.prog 16 #[.agg #[.bool n, .int .i64 d, .int .i64 e]] w2 fun e w' => e = .returned (.bool true) ∧ Ext w2 w') := fun w2 hT => goodI_is true n d e w2 (by omega) (by omega) hT ga
  have MU : Hid (∀ (s t : DR) (w2 : World), goodB s.neg s.d s.e = true → goodB t.neg t.d t.e = true → Tens w2 → Calls Tryd.prog 11 #[.agg #[.bool s.neg, .int .i64 s.d, .int .i64 s.e], .agg #[.bool t.neg, .int .i64 t.d, .int .i64 t.e]] w2 fun r w' => r = .returned (resV (mulD2 s t)) ∧ Ext w2 w') := fun s t w2 hs ht hT => by
    obtain ⟨s0, s1, _⟩ := good_bd hs
    obtain ⟨t0, t1, _⟩ := good_bd ht
    exact mulI s.neg t.neg s.d s.e t.d t.e w2 (by omega) (by omega) (by omega) (by omega) hT
  have WI : Hid (∀ w2, Calls Tryd.prog 30 #[.int .i64 x, .int .i64 1000] w2 fun r w' => r = .returned (.bool true) ∧ w' = w2) := fun w2 => within_any x 1000 true w2 (decide_eq_true ⟨by omega, by omega⟩) (by decide) (by decide)
  obtain ⟨m, hm⟩ : ∃ m : Nat, x.natAbs = m := ⟨_, rfl⟩
  have m0 : m ≤ 1000 := by omega
  have LN : Hid (∀ w2, Calls Tryd.prog 31 #[.int .u64 m] w2 fun e w' => e = .returned (.int .i64 (Lib.bitLen m)) ∧ w' = w2) := fun w2 => by
    have := len_any m w2 (by omega) (by omega)
    rw [Int.toNat_natCast] at this
    exact this
  obtain ⟨F, hF⟩ : ∃ F, powL ⟨true, n, d, e⟩ m 11 oneR = F := ⟨_, rfl⟩
  have HR : Hid ((if F.ok = true ∧ x < 0 then divR false 1 0 F.neg F.d F.e else F) = R) := by
    rw [← hR]; unfold powR; rw [ga, decide_eq_true (⟨by omega, by omega⟩ : -1000 ≤ x ∧ x ≤ 1000), hm, hF]; rfl
  have HF : Hid (powL ⟨true, n, d, e⟩ m (Lib.bitLen m) oneR = F) := by show _ = _; rw [powL_len _ m m0]; exact hF
  obtain ⟨L, hL⟩ : ∃ L, Lib.bitLen m = L := ⟨_, rfl⟩
  have L11 : L ≤ 11 := by rw [← hL]; exact (len_bits m m0).2
  rw [hL] at LN HF
  have X0 := xa (x1 w (.cells #[.bool n, .int .i64 d, .int .i64 e] 24)) (.cells #[.bool false, .bool false, .int .i64 0, .int .i64 0] 27)
  have Ba := (Box3.made w (.bool n) (.int .i64 d) (.int .i64 e) 24).later (x1 _ (.cells #[.bool false, .bool false, .int .i64 0, .int .i64 0] 27))
  have Br := Box4.made (w.alloc (.cells #[.bool n, .int .i64 d, .int .i64 e] 24)) (.bool false) (.bool false) (.int .i64 0) (.int .i64 0) 27
  simp only [World.size_alloc] at Br
  have T := hT.later X0
  have wX : IntKind.i64.wrap (-x) = -x := by rw [IntKind.wrap_i64]; omega
  have wM : max x (-x) = (m : Int) := by omega
  have gA : Hid (goodB n d e = true) := ga
  clear ga hR hm hF hL ga0 ga1 ga2 ga3
  go_enter Tryd.func9, Tryd.ntmps9
  go_wp2_with fail
  refine (GA.out _ T).mono ?_
  rintro rr w1 ⟨rfl, x1'⟩
  go_wp2_with fail
  refine (WI.out _).mono ?_
  rintro rr w2 ⟨rfl, hw⟩
  subst hw
  replace Ba := Ba.later x1'
  replace Br := Br.later x1'
  replace T := T.later x1'
  replace X0 := xt X0 x1'
  clear x1' GA WI
  go_upto_region 6 with fail
  have B5 := (Box3.made w2 (.bool false) (.int .i64 1) (.int .i64 0) 24).later (x1 _ (.cells #[.bool true, .bool false, .int .i64 1, .int .i64 0] 27))
  have B6 := Box4.made (w2.alloc (.cells #[.bool false, .int .i64 1, .int .i64 0] 24)) (.bool true) (.bool false) (.int .i64 1) (.int .i64 0) 27
  simp only [World.size_alloc] at B6
  have X2 := xa (x1 w2 (.cells #[.bool false, .int .i64 1, .int .i64 0] 24)) (.cells #[.bool true, .bool false, .int .i64 1, .int .i64 0] 27)
  obtain ⟨u2, hu2⟩ : ∃ u, (w2.alloc (.cells #[.bool false, .int .i64 1, .int .i64 0] 24)).alloc (.cells #[.bool true, .bool false, .int .i64 1, .int .i64 0] 27) = u := ⟨_, rfl⟩
  rw [hu2] at B5 B6 X2 ⊢
  have l2 : w.heap.size + 1 < w2.heap.size := World.block_lt_of_cell? _ _ Br.1.1
  clear hu2
  replace Ba := Ba.later X2
  replace Br := Br.later X2
  replace T := T.later X2
  replace X0 := xt X0 X2
  go_wp2_with fail
  refine (LN.out _).mono ?_
  rintro rr w3 ⟨rfl, hw⟩
  subst hw
  go_wp2_with fail
  go_loopw [8] (fun y wr => ∃ (k : Nat) (s : DR), y = .int .i64 ((k : Int) - 1) ∧ Hid (k ≤ 11 ∧ powL ⟨true, n, d, e⟩ m k s = F ∧ (s.ok = true → goodB s.neg s.d s.e = true)) ∧ Box4 wr (w2.heap.size + 1) (.bool s.ok) (.bool s.neg) (.int .i64 s.d) (.int .i64 s.e) ∧ Box3 wr w2.heap.size (.bool false) (.int .i64 1) (.int .i64 0) ∧ Box3 wr w.heap.size (.bool n) (.int .i64 d) (.int .i64 e) ∧ Box4 wr (w.heap.size + 1) (.bool false) (.bool false) (.int .i64 0) (.int .i64 0) ∧ Tens wr ∧ Ext w wr) (fun y _ => (intOf y + 1).toNat)
  case atStart => exact ⟨L, oneR, rfl, ⟨L11, HF.out, fun _ => good_one⟩, B6, B5, Ba, Br, T, X0⟩
  case round =>
    obtain ⟨k, s, rfl, HK, C6, C5, Ca, Cr, TK, XK⟩ := hrel
    clear B6 B5 Ba Br T X0
    have C6' := C6
    obtain ⟨⟨q0, q1, q2, q3⟩, f0, f1, f2, f3⟩ := C6'
    cases k with
    | zero =>
      rw [show ((0 : Nat) : Int) - 1 = -1 by omega]
      cases hok : s.ok
      · have RR : Hid ((.agg #[.bool false, .bool s.neg, .int .i64 s.d, .int .i64 s.e] : Value) = resV R) := by
          have hf : s = F := HK.out.2.1
          have := HR.out
          rw [← hf, hok] at this
          rw [if_neg (fun h => Bool.noConfusion h.1)] at this
          show _ = _
          rw [← this]
          unfold resV
          rw [hok]
        rw [hok] at q0
        obtain ⟨⟨m0, m1, m2, m3⟩, m4, m5, m6, m7⟩ := Cr
        clear HK HR MU LN HF
        go_wp2
        exact bodyPost_ret (v := .agg #[.bool false, .bool s.neg, .int .i64 s.d, .int .i64 s.e]) (by simp [results, Tryd.results9, go_sem, m0, m1, m2, m3]) rfl ⟨congrArg Ending.returned RR.out, xset (xset (xset (xset XK (by simp only; omega) _) (by simp only; omega) _) (by simp only; omega) _) (by simp only; omega) _⟩
      · have hf : s = F := HK.out.2.1
        have gs := HK.out.2.2 hok
        have HR' := HR.out
        rw [← hf, hok] at HR'
        rw [hok] at q0
        clear HK HR MU LN HF
        by_cases hx : x < 0
        · have RR : Hid (divR false 1 0 s.neg s.d s.e = R) := by
            rw [if_pos ⟨rfl, hx⟩] at HR'
            exact HR'
          obtain ⟨y, hy⟩ : ∃ y, divR false 1 0 s.neg s.d s.e = y := ⟨_, rfl⟩
          have DV : Hid (∀ w2, Tens w2 → Calls Tryd.prog 32 #[.agg #[.bool false, .int .i64 1, .int .i64 0], .agg #[.bool s.neg, .int .i64 s.d, .int .i64 s.e]] w2 fun r w' => r = .returned (.agg #[.bool y.ok, .bool y.neg, .int .i64 y.d, .int .i64 y.e]) ∧ Ext w2 w') := fun w2 hT => by
            have := DVI s w2 gs hT
            rw [hy] at this
            exact this
          have RR' : Hid ((.agg #[.bool y.ok, .bool y.neg, .int .i64 y.d, .int .i64 y.e] : Value) = resV R) := by show _ = _; rw [← RR.out, hy]
          clear HR' DVI RR hy hf
          obtain ⟨⟨p0, p1, p2⟩, _⟩ := C5
          go_wp2_with fail
          refine (DV.out _ TK).mono ?_
          rintro rr w5 ⟨rfl, x5⟩
          obtain ⟨⟨m0, m1, m2, m3⟩, m4, m5, m6, m7⟩ := Cr.later x5
          go_wp2
          exact bodyPost_ret (v := .agg #[.bool y.ok, .bool y.neg, .int .i64 y.d, .int .i64 y.e]) (by simp [results, Tryd.results9, go_sem, m0, m1, m2, m3]) rfl ⟨congrArg Ending.returned RR'.out, xset (xset (xset (xset (xt XK x5) (by simp only; omega) _) (by simp only; omega) _) (by simp only; omega) _) (by simp only; omega) _⟩
        · have RR : Hid ((.agg #[.bool true, .bool s.neg, .int .i64 s.d, .int .i64 s.e] : Value) = resV R) := by
            rw [if_neg (fun h => hx h.2)] at HR'
            show _ = _
            rw [← HR']
            unfold resV
            rw [hok]
          have fx : decide (x < 0) = false := decide_eq_false hx
          clear HR' DVI hf
          obtain ⟨⟨m0, m1, m2, m3⟩, m4, m5, m6, m7⟩ := Cr
          go_wp2
          exact bodyPost_ret (v := .agg #[.bool true, .bool s.neg, .int .i64 s.d, .int .i64 s.e]) (by simp [results, Tryd.results9, go_sem, m0, m1, m2, m3]) rfl ⟨congrArg Ending.returned RR.out, xset (xset (xset (xset XK (by simp only; omega) _) (by simp only; omega) _) (by simp only; omega) _) (by simp only; omega) _⟩
    | succ j =>
      rw [show ((j + 1 : Nat) : Int) - 1 = (j : Int) by omega]
      cases hok : s.ok
      · have RR : Hid ((.agg #[.bool false, .bool s.neg, .int .i64 s.d, .int .i64 s.e] : Value) = resV R) := by
          have hf : s = F := by rw [← HK.out.2.1, powL_stop _ _ _ hok]
          have := HR.out
          rw [← hf, hok] at this
          rw [if_neg (fun h => Bool.noConfusion h.1)] at this
          show _ = _
          rw [← this]
          unfold resV
          rw [hok]
        rw [hok] at q0
        obtain ⟨⟨m0, m1, m2, m3⟩, m4, m5, m6, m7⟩ := Cr
        clear HK HR MU LN HF
        go_wp2
        exact bodyPost_ret (v := .agg #[.bool false, .bool s.neg, .int .i64 s.d, .int .i64 s.e]) (by simp [results, Tryd.results9, go_sem, m0, m1, m2, m3]) rfl ⟨congrArg Ending.returned RR.out, xset (xset (xset (xset XK (by simp only; omega) _) (by simp only; omega) _) (by simp only; omega) _) (by simp only; omega) _⟩
      · have gs := HK.out.2.2 hok
        obtain ⟨t, ht⟩ : ∃ t, mulD2 s s = t := ⟨_, rfl⟩
        have gt : t.ok = true → goodB t.neg t.d t.e = true := fun h => by rw [← ht] at h ⊢; exact mulD2_ok h
        have MS : Hid (∀ w2, Tens w2 → Calls Tryd.prog 11 #[.agg #[.bool s.neg, .int .i64 s.d, .int .i64 s.e], .agg #[.bool s.neg, .int .i64 s.d, .int .i64 s.e]] w2 fun r w' => r = .returned (.agg #[.bool t.ok, .bool t.neg, .int .i64 t.d, .int .i64 t.e]) ∧ Ext w2 w') := fun w2 hT => by rw [← ht]; exact MU.out s s w2 gs gs hT
        have HP0 : powL ⟨true, n, d, e⟩ m j (powS ⟨true, n, d, e⟩ (m.testBit j) s) = F := by rw [← HK.out.2.1, powL_go _ _ _ hok]
        have j10 : j ≤ 10 := by have := HK.out.1; omega
        rw [hok] at q0
        go_wp2_with fail
        refine (MS.out _ TK).mono ?_
        rintro rr w4 ⟨rfl, x4⟩
        have D6 := C6.later x4
        obtain ⟨⟨g0, g1, g2, g3⟩, h0, h1, h2, h3⟩ := D6
        have N6 := (C6.later x4).put4 (.bool t.ok) (.bool t.neg) (.int .i64 t.d) (.int .i64 t.e)
        have N5 := (C5.later x4).st4 (k := w2.heap.size + 1) (by omega) (.bool t.ok) (.bool t.neg) (.int .i64 t.d) (.int .i64 t.e)
        have Na := (Ca.later x4).st4 (k := w2.heap.size + 1) (by omega) (.bool t.ok) (.bool t.neg) (.int .i64 t.d) (.int .i64 t.e)
        have Nr := (Cr.later x4).st4 (k := w2.heap.size + 1) (by omega) (.bool t.ok) (.bool t.neg) (.int .i64 t.d) (.int .i64 t.e)
        have NX := Ext.st4 (b := w2.heap.size + 1) (xt XK x4) (by omega) (.bool t.ok) (.bool t.neg) (.int .i64 t.d) (.int .i64 t.e)
        clear q0 q1 q2 q3 f0 f1 f2 f3 C6 C5 Ca Cr TK XK x4
        go_upto_region 10 with fail
        obtain ⟨w5, hw5⟩ : ∃ u, st4 w4 (w2.heap.size + 1) (.bool t.ok) (.bool t.neg) (.int .i64 t.d) (.int .i64 t.e) = u := ⟨_, rfl⟩
        have hw5' : (((w4.setCell ⟨w2.heap.size + 1, 0, none⟩ (.bool t.ok)).setCell ⟨w2.heap.size + 1, 1, none⟩ (.bool t.neg)).setCell ⟨w2.heap.size + 1, 2, none⟩ (.int .i64 t.d)).setCell ⟨w2.heap.size + 1, 3, none⟩ (.int .i64 t.e) = w5 := hw5
        rw [hw5'] at N6 ⊢
        rw [hw5] at N5 Na Nr NX
        clear hw5 hw5' g0 g1 g2 g3 h0 h1 h2 h3
        obtain ⟨⟨q0, q1, q2, q3⟩, f0, f1, f2, f3⟩ := id N6
        cases htk : t.ok
        · have HP : Hid (powL ⟨true, n, d, e⟩ m j t = F) := by
            show _ = _
            rw [← HP0]
            unfold powS
            rw [ht, if_neg (fun h => by rw [htk] at h; exact Bool.noConfusion h.1)]
          have HG : Hid (t.ok = true → goodB t.neg t.d t.e = true) := gt
          rw [htk] at q0
          clear HP0 gt MS MU HK HR HF LN
          go_wp2_with fail
          go_round
          case rel => exact ⟨j, t, rfl, ⟨by omega, HP.out, HG.out⟩, N6, N5, Na, Nr, hT.later NX, NX⟩
          case measure => first | (simp [intOf]; done) | (simp [intOf]; omega)
        · rw [htk] at q0
          have EB := bit_u64 m j m0
          cases hbt : m.testBit j
          · have HP : Hid (powL ⟨true, n, d, e⟩ m j t = F) := by
              show _ = _
              rw [← HP0]
              unfold powS
              rw [ht, hbt, if_neg (fun h => Bool.noConfusion h.2)]
            have HG : Hid (t.ok = true → goodB t.neg t.d t.e = true) := gt
            rw [hbt, if_neg (by decide)] at EB
            clear HP0 gt MS MU HK HR HF LN
            go_wp2_with fail
            go_round
            case rel => exact ⟨j, t, rfl, ⟨by omega, HP.out, HG.out⟩, N6, N5, Na, Nr, hT.later NX, NX⟩
            case measure => first | (simp [intOf]; done) | (simp [intOf]; omega)
          · rw [hbt, if_pos rfl] at EB
            obtain ⟨v, hv⟩ : ∃ v, mulD2 t ⟨true, n, d, e⟩ = v := ⟨_, rfl⟩
            have HP : Hid (powL ⟨true, n, d, e⟩ m j v = F) := by
              show _ = _
              rw [← HP0]
              unfold powS
              rw [ht, hbt, if_pos ⟨htk, rfl⟩, hv]
            have HG : Hid (v.ok = true → goodB v.neg v.d v.e = true) := fun h => by rw [← hv] at h ⊢; exact mulD2_ok h
            have MV : Hid (∀ w2, Tens w2 → Calls Tryd.prog 11 #[.agg #[.bool t.neg, .int .i64 t.d, .int .i64 t.e], .agg #[.bool n, .int .i64 d, .int .i64 e]] w2 fun r w' => r = .returned (.agg #[.bool v.ok, .bool v.neg, .int .i64 v.d, .int .i64 v.e]) ∧ Ext w2 w') := fun w2 hT => by rw [← hv]; exact MU.out t ⟨true, n, d, e⟩ w2 (gt htk) gA.out hT
            clear HP0 gt MS MU HK HR HF LN hv
            obtain ⟨⟨p0, p1, p2⟩, _⟩ := id Na
            go_wp2_with fail
            refine (MV.out _ (hT.later NX)).mono ?_
            rintro rr w6 ⟨rfl, x6⟩
            clear q0 q1 q2 q3 f0 f1 f2 f3 p0 p1 p2
            obtain ⟨⟨q0, q1, q2, q3⟩, f0, f1, f2, f3⟩ := N6.later x6
            have M6 := (N6.later x6).put4 (.bool v.ok) (.bool v.neg) (.int .i64 v.d) (.int .i64 v.e)
            have M5 := (N5.later x6).st4 (k := w2.heap.size + 1) (by omega) (.bool v.ok) (.bool v.neg) (.int .i64 v.d) (.int .i64 v.e)
            have Ma := (Na.later x6).st4 (k := w2.heap.size + 1) (by omega) (.bool v.ok) (.bool v.neg) (.int .i64 v.d) (.int .i64 v.e)
            have Mr := (Nr.later x6).st4 (k := w2.heap.size + 1) (by omega) (.bool v.ok) (.bool v.neg) (.int .i64 v.d) (.int .i64 v.e)
            have MX := Ext.st4 (b := w2.heap.size + 1) (xt NX x6) (by omega) (.bool v.ok) (.bool v.neg) (.int .i64 v.d) (.int .i64 v.e)
            go_wp2_with fail
            go_round
            case rel => exact ⟨j, v, rfl, ⟨by omega, HP.out, HG.out⟩, M6, M5, Ma, Mr, hT.later MX, MX⟩
            case measure => first | (simp [intOf]; done) | (simp [intOf]; omega)

set_option maxRecDepth 4000 in
set_option maxHeartbeats 4000000 in
theorem powI_bad (n : Bool) (d e x : Int) (w : World) (a1 : -9223372036854775808 ≤ d) (a2 : d ≤ 9223372036854775807) (hT : Tens w) (hb : (goodB n d e && decide (-1000 ≤ x ∧ x ≤ 1000)) = false) :
    Calls Tryd.prog 9 #[.agg #[.bool n, .int .i64 d, .int .i64 e], .int .i64 x] w fun r w' => r = .returned (resV badR) ∧ Ext w w' := by
  show Calls _ _ _ _ fun r w' => r = .returned (.agg #[.bool false, .bool false, .int .i64 0, .int .i64 0]) ∧ Ext w w'
  have X0 := xa (x1 w (.cells #[.bool n, .int .i64 d, .int .i64 e] 24)) (.cells #[.bool false, .bool false, .int .i64 0, .int .i64 0] 27)
  have Br := Box4.made (w.alloc (.cells #[.bool n, .int .i64 d, .int .i64 e] 24)) (.bool false) (.bool false) (.int .i64 0) (.int .i64 0) 27
  simp only [World.size_alloc] at Br
  have T := hT.later X0
  cases ga : goodB n d e
  · have GA : Hid (∀ w2, Tens w2 → Calls Tryd.prog 16 #[.agg #[.bool n, .int .i64 d, .int .i64 e]] w2 fun e w' => e = .returned (.bool false) ∧ Ext w2 w') := fun w2 hT => goodI_is false n d e w2 a1 a2 hT ga
    clear ga hb
    go_enter Tryd.func9, Tryd.ntmps9
    go_wp2_with fail
    refine (GA.out _ T).mono ?_
    rintro rr w1 ⟨rfl, x1'⟩
    obtain ⟨⟨m0, m1, m2, m3⟩, n0, n1, n2, n3⟩ := Br.later x1'
    go_wp2_with fail
    exact bodyPost_ret (v := .agg #[.bool false, .bool false, .int .i64 0, .int .i64 0]) (by simp [results, Tryd.results9, go_sem, m0, m1, m2, m3]) rfl ⟨rfl, xset (xset (xset (xset (xt X0 x1') (by simp only; omega) _) (by simp only; omega) _) (by simp only; omega) _) (by simp only; omega) _⟩
  · have GA : Hid (∀ w2, Tens w2 → Calls Tryd.prog 16 #[.agg #[.bool n, .int .i64 d, .int .i64 e]] w2 fun e w' => e = .returned (.bool true) ∧ Ext w2 w') := fun w2 hT => goodI_is true n d e w2 a1 a2 hT ga
    rw [ga, Bool.true_and] at hb
    have WI : Hid (∀ w2, Calls Tryd.prog 30 #[.int .i64 x, .int .i64 1000] w2 fun r w' => r = .returned (.bool false) ∧ w' = w2) := fun w2 => within_any x 1000 false w2 hb (by decide) (by decide)
    clear ga hb
    go_enter Tryd.func9, Tryd.ntmps9
    go_wp2_with fail
    refine (GA.out _ T).mono ?_
    rintro rr w1 ⟨rfl, x1'⟩
    go_wp2_with fail
    refine (WI.out _).mono ?_
    rintro rr w2 ⟨rfl, hw⟩
    subst hw
    obtain ⟨⟨m0, m1, m2, m3⟩, n0, n1, n2, n3⟩ := Br.later x1'
    go_wp2_with fail
    exact bodyPost_ret (v := .agg #[.bool false, .bool false, .int .i64 0, .int .i64 0]) (by simp [results, Tryd.results9, go_sem, m0, m1, m2, m3]) rfl ⟨rfl, xset (xset (xset (xset (xt X0 x1') (by simp only; omega) _) (by simp only; omega) _) (by simp only; omega) _) (by simp only; omega) _⟩

theorem powI (n : Bool) (d e x : Int) (w : World) (a1 : -9223372036854775808 ≤ d) (a2 : d ≤ 9223372036854775807) (hT : Tens w) :
    Calls Tryd.prog 9 #[.agg #[.bool n, .int .i64 d, .int .i64 e], .int .i64 x] w fun r w' => r = .returned (resV (powR n d e x)) ∧ Ext w w' := by
  cases hb : (goodB n d e && decide (-1000 ≤ x ∧ x ≤ 1000))
  · have hR : powR n d e x = badR := by unfold powR; rw [hb]; rfl
    rw [hR]
    exact powI_bad n d e x w a1 a2 hT hb
  · simp only [Bool.and_eq_true, decide_eq_true_eq] at hb
    refine powI_good n d e x w hb.1 (by omega) (by omega) hT fun s w2 gs hT => ?_
    obtain ⟨g0, g1, _⟩ := good_bd gs
    exact divI false s.neg 1 0 s.d s.e w2 (by decide) (by decide) (by omega) (by omega) hT
theorem powS' (n : Bool) (d e x : Int) (w : World) :
    Calls Tryd.prog 10 #[.agg #[.bool n, .int .i64 d, .int .i64 e], .int .i64 x] w fun r w' => r = .returned (resV (powR n d e x)) ∧ Ext w w' :=
  powS_all n d e x w fun s w2 => divS false s.neg 1 0 s.d s.e w2

end Go.Proofs.YtpeobfkenekmhaaDoor

