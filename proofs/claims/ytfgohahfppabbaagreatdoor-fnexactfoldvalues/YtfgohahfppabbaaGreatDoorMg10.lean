/-
  Several texts in one: Sized, MuI, AddNum, MulD, SubD.
-/
import Derived.Test.YtfgohahfppabbaaGreatDoorMg8
import Derived.Test.YtfgohahfppabbaaGreatDoorMg9
import Derived.Test.YtfgohahfppabbaaGreatDoorMg0
import Derived.Test.YtfgohahfppabbaaGreatDoorImE
import Derived.Test.YtfgohahfppabbaaGreatDoorMg3
namespace Go.Proofs.YtfgohahfppabbaaGreatDoor
open Go.RowKit

theorem ten_int (n : Int) (w : World) (h0 : 0 ≤ n) (hn : n ≤ 1000000) :
  Calls Tryz.prog 71 #[.int .i64 n] w fun e w' => ∃ v', e = .returned v' ∧ ZV w' v' (10 ^ n.toNat) ∧ Ext w w' := by
 obtain ⟨m, rfl⟩ := Int.eq_ofNat_of_zero_le h0
 rw [Int.toNat_natCast]
 exact ten_any m w (by omega)

theorem fit_dec {neg : Bool} {d : Int} (k : Nat) (hk : 2 ≤ k) (h0 : 0 ≤ d) (h1 : d < 1000000000000000000) : ((sgn neg d).natAbs : Int) < 1000000000 ^ k := by
 have h2 : (1000000000 : Int) ^ 2 ≤ 1000000000 ^ k := pow_le_pow hk
 have e : (1000000000 : Int) ^ 2 = 1000000000000000000 := by decide
 cases neg <;> simp [sgn] <;> omega
theorem fit_ten {n : Int} (k : Nat) (hk : n.toNat + 1 ≤ k) : (((10 : Int) ^ n.toNat).natAbs : Int) < 1000000000 ^ k := by
 have := ten_fit n.toNat
 have := pow_le_pow hk
 omega

set_option maxHeartbeats 4000000 in
theorem sized_any (na nb : Bool) (da xa db xb : Int) (w : World) (da0 : 0 ≤ da) (da1 : da < 1000000000000000) (db0 : 0 ≤ db) (db1 : db < 1000000000000000) (xa0 : -300 ≤ xa) (xa1' : xa ≤ 300) (xb0 : -300 ≤ xb) (xb1 : xb ≤ 300) :
  Calls Tryz.prog 56 #[.agg #[.bool na, .int .i64 da, .int .i64 xa], .agg #[.bool nb, .int .i64 db, .int .i64 xb]] w
   fun e w' => e = .returned (.int .i64 (cmpI (sgn na da * 10 ^ (xa - min xa xb).toNat) (sgn nb db * 10 ^ (xb - min xa xb).toNat))) ∧ Ext w w' := by
 have Ba := (Box3.made w (.bool na) (.int .i64 da) (.int .i64 xa) 25).later (x1 _ (.cells #[.bool nb, .int .i64 db, .int .i64 xb] 25))
 have Bb := Box3.made (w.alloc (.cells #[.bool na, .int .i64 da, .int .i64 xa] 25)) (.bool nb) (.int .i64 db) (.int .i64 xb) 25
 simp only [World.size_alloc] at Bb
 have hda1 : -9000000000000000000 < da := by omega
 have hda2 : da < 9000000000000000000 := by omega
 have hdb1 : -9000000000000000000 < db := by omega
 have hdb2 : db < 9000000000000000000 := by omega
 have KA' : Hid (((sgn na da).natAbs : Int) < 1000000000 ^ 700) := fit_dec 700 (by decide) da0 (by omega)
 have KB' : Hid (((sgn nb db).natAbs : Int) < 1000000000 ^ 700) := fit_dec 700 (by decide) db0 (by omega)
 by_cases hlt : xb < xa
 ·
  have em : min xa xb = xb := by omega
  rw [em]
  have e0 : xb - xb = 0 := by omega
  rw [e0]
  have i0 : 0 ≤ xa - xb := by omega
  have i1 : xa - xb ≤ 600 := by omega
  have hw : IntKind.i64.wrap (xa - xb) = xa - xb := by rw [IntKind.wrap_i64]; omega
  clear em
  have T10 : 0 ≤ xa - xb := by omega
  have T11 : xa - xb ≤ 1000000 := by omega
  have T20 : (0 : Int) ≤ 0 := by omega
  have T21 : (0 : Int) ≤ 1000000 := by omega
  have KT1 : Hid ((((10 : Int) ^ (xa - xb).toNat).natAbs : Int) < 1000000000 ^ 700) := fit_ten 700 (by omega)
  have KT2 : Hid ((((10 : Int) ^ (0 : Int).toNat).natAbs : Int) < 1000000000 ^ 700) := fit_ten 700 (by omega)
  have Ba' := Ba
  have Bb' := Bb
  obtain ⟨⟨p0, p1, p2⟩, _⟩ := Ba'
  obtain ⟨⟨q0, q1, q2⟩, _⟩ := Bb'
  go_enter Tryz.func56, Tryz.ntmps56
  go_wp2_with fail
  go_region_held3 (fun w' => (w'.cell? ⟨w.heap.size, 0, none⟩ = some (.bool na) ∧ w'.cell? ⟨w.heap.size, 1, none⟩ = some (.int .i64 da) ∧ w'.cell? ⟨w.heap.size, 2, none⟩ = some (.int .i64 xa)) ∧ w'.cell? ⟨w.heap.size + 1, 0, none⟩ = some (.bool nb) ∧ w'.cell? ⟨w.heap.size + 1, 1, none⟩ = some (.int .i64 db) ∧ w'.cell? ⟨w.heap.size + 1, 2, none⟩ = some (.int .i64 xb)) (go_keep)
   (first
    | (go_at_call_of 80 (Value.agg #[.bool na, .int .i64 da, .int .i64 xa]); refine (of_any na da xa _ hda1 hda2).mono ?_; rintro e w1 ⟨v1, rfl, z1, e1⟩; have X1 := xt (xd (xr _)) e1; obtain ⟨⟨a10, a11, a12⟩, _⟩ := Ba.later X1; obtain ⟨⟨b10, b11, b12⟩, _⟩ := Bb.later X1)
    | (go_at_call_of 80 (Value.agg #[.bool nb, .int .i64 db, .int .i64 xb]); refine (of_any nb db xb _ hdb1 hdb2).mono ?_; rintro e w4 ⟨v4, rfl, z4, e4⟩; have X4 := xt X3 e4; obtain ⟨⟨a40, a41, a42⟩, _⟩ := Ba.later X4; obtain ⟨⟨b40, b41, b42⟩, _⟩ := Bb.later X4)
    | (go_at_call_of 72 v3; refine (cmp_any _ (((z3.later e4).later e5).later e6) z6).mono ?_; rintro e w7 ⟨rfl, e7⟩; have X7 := xt X6 e7; obtain ⟨⟨a70, a71, a72⟩, _⟩ := Ba.later X7; obtain ⟨⟨b70, b71, b72⟩, _⟩ := Bb.later X7)
    | (go_at_call_of 79 v1; refine (mul_any _ (z1.later e2) z2 700 (by decide) KA'.out KT1.out).mono ?_; rintro e w3 ⟨v3, rfl, z3, e3⟩; have X3 := xt X2 e3; obtain ⟨⟨a30, a31, a32⟩, _⟩ := Ba.later X3; obtain ⟨⟨b30, b31, b32⟩, _⟩ := Bb.later X3)
    | (go_at_call_of 79 v4; refine (mul_any _ (z4.later e5) z5 700 (by decide) KB'.out KT2.out).mono ?_; rintro e w6 ⟨v6, rfl, z6, e6⟩; have X6 := xt X5 e6; obtain ⟨⟨a60, a61, a62⟩, _⟩ := Ba.later X6; obtain ⟨⟨b60, b61, b62⟩, _⟩ := Bb.later X6)
    | (go_at_call_of 71 (Value.int .i64 (xa - xb)); refine (ten_int (xa - xb) _ T10 T11).mono ?_; rintro e w2 ⟨v2, rfl, z2, e2⟩; have X2 := xt X1 e2; obtain ⟨⟨a20, a21, a22⟩, _⟩ := Ba.later X2; obtain ⟨⟨b20, b21, b22⟩, _⟩ := Bb.later X2)
    | (go_at_call 71; refine (ten_int (0) _ T20 T21).mono ?_; rintro e w5 ⟨v5, rfl, z5, e5⟩; have X5 := xt X4 e5; obtain ⟨⟨a50, a51, a52⟩, _⟩ := Ba.later X5; obtain ⟨⟨b50, b51, b52⟩, _⟩ := Bb.later X5))
  go_wp2
  go_ret
  exact ⟨ret_int (by simp), xt (xt (x1 _ _) (x1 _ _)) X7⟩
 ·
  have em : min xa xb = xa := by omega
  rw [em]
  have e0 : xa - xa = 0 := by omega
  rw [e0]
  have i0 : 0 ≤ xb - xa := by omega
  have i1 : xb - xa ≤ 600 := by omega
  have hw : IntKind.i64.wrap (xb - xa) = xb - xa := by rw [IntKind.wrap_i64]; omega
  clear em
  have T10 : (0 : Int) ≤ 0 := by omega
  have T11 : (0 : Int) ≤ 1000000 := by omega
  have T20 : 0 ≤ xb - xa := by omega
  have T21 : xb - xa ≤ 1000000 := by omega
  have KT1 : Hid ((((10 : Int) ^ (0 : Int).toNat).natAbs : Int) < 1000000000 ^ 700) := fit_ten 700 (by omega)
  have KT2 : Hid ((((10 : Int) ^ (xb - xa).toNat).natAbs : Int) < 1000000000 ^ 700) := fit_ten 700 (by omega)
  have Ba' := Ba
  have Bb' := Bb
  obtain ⟨⟨p0, p1, p2⟩, _⟩ := Ba'
  obtain ⟨⟨q0, q1, q2⟩, _⟩ := Bb'
  go_enter Tryz.func56, Tryz.ntmps56
  go_wp2_with fail
  go_region_held3 (fun w' => (w'.cell? ⟨w.heap.size, 0, none⟩ = some (.bool na) ∧ w'.cell? ⟨w.heap.size, 1, none⟩ = some (.int .i64 da) ∧ w'.cell? ⟨w.heap.size, 2, none⟩ = some (.int .i64 xa)) ∧ w'.cell? ⟨w.heap.size + 1, 0, none⟩ = some (.bool nb) ∧ w'.cell? ⟨w.heap.size + 1, 1, none⟩ = some (.int .i64 db) ∧ w'.cell? ⟨w.heap.size + 1, 2, none⟩ = some (.int .i64 xb)) (go_keep)
   (first
    | (go_at_call_of 80 (Value.agg #[.bool na, .int .i64 da, .int .i64 xa]); refine (of_any na da xa _ hda1 hda2).mono ?_; rintro e w1 ⟨v1, rfl, z1, e1⟩; have X1 := xt (xd (xr _)) e1; obtain ⟨⟨a10, a11, a12⟩, _⟩ := Ba.later X1; obtain ⟨⟨b10, b11, b12⟩, _⟩ := Bb.later X1)
    | (go_at_call_of 80 (Value.agg #[.bool nb, .int .i64 db, .int .i64 xb]); refine (of_any nb db xb _ hdb1 hdb2).mono ?_; rintro e w4 ⟨v4, rfl, z4, e4⟩; have X4 := xt X3 e4; obtain ⟨⟨a40, a41, a42⟩, _⟩ := Ba.later X4; obtain ⟨⟨b40, b41, b42⟩, _⟩ := Bb.later X4)
    | (go_at_call_of 72 v3; refine (cmp_any _ (((z3.later e4).later e5).later e6) z6).mono ?_; rintro e w7 ⟨rfl, e7⟩; have X7 := xt X6 e7; obtain ⟨⟨a70, a71, a72⟩, _⟩ := Ba.later X7; obtain ⟨⟨b70, b71, b72⟩, _⟩ := Bb.later X7)
    | (go_at_call_of 79 v1; refine (mul_any _ (z1.later e2) z2 700 (by decide) KA'.out KT1.out).mono ?_; rintro e w3 ⟨v3, rfl, z3, e3⟩; have X3 := xt X2 e3; obtain ⟨⟨a30, a31, a32⟩, _⟩ := Ba.later X3; obtain ⟨⟨b30, b31, b32⟩, _⟩ := Bb.later X3)
    | (go_at_call_of 79 v4; refine (mul_any _ (z4.later e5) z5 700 (by decide) KB'.out KT2.out).mono ?_; rintro e w6 ⟨v6, rfl, z6, e6⟩; have X6 := xt X5 e6; obtain ⟨⟨a60, a61, a62⟩, _⟩ := Ba.later X6; obtain ⟨⟨b60, b61, b62⟩, _⟩ := Bb.later X6)
    | (go_at_call_of 71 (Value.int .i64 (xb - xa)); refine (ten_int (xb - xa) _ T20 T21).mono ?_; rintro e w5 ⟨v5, rfl, z5, e5⟩; have X5 := xt X4 e5; obtain ⟨⟨a50, a51, a52⟩, _⟩ := Ba.later X5; obtain ⟨⟨b50, b51, b52⟩, _⟩ := Bb.later X5)
    | (go_at_call 71; refine (ten_int (0) _ T10 T11).mono ?_; rintro e w2 ⟨v2, rfl, z2, e2⟩; have X2 := xt X1 e2; obtain ⟨⟨a20, a21, a22⟩, _⟩ := Ba.later X2; obtain ⟨⟨b20, b21, b22⟩, _⟩ := Bb.later X2))
  go_wp2
  go_ret
  exact ⟨ret_int (by simp), xt (xt (x1 _ _) (x1 _ _)) X7⟩

/-- A good decimal's bounds. -/
theorem good_bd {neg : Bool} {d x : Int} (h : goodB neg d x = true) : 0 ≤ d ∧ d < 1000000000000000 ∧ -300 ≤ x ∧ x ≤ 300 := by
 unfold goodB at h
 by_cases hd : d = 0
 ·
  rw [if_pos hd] at h
  simp at h
  omega
 ·
  rw [if_neg hd] at h
  simp at h
  omega

/-- What DecCmp answers. -/
def cmpDec (na : Bool) (da xa : Int) (nb : Bool) (db xb : Int) : Int :=
 if goodB na da xa && goodB nb db xb then cmpI (sgn na da * 10 ^ (xa - min xa xb).toNat) (sgn nb db * 10 ^ (xb - min xa xb).toNat) else -2

theorem good_is (c : Bool) (neg : Bool) (d x : Int) (w : World) (h : goodB neg d x = c) :
  Calls Tryz.prog 30 #[.agg #[.bool neg, .int .i64 d, .int .i64 x]] w fun e w' => e = .returned (.bool c) ∧ Ext w w' := by
 rw [← h]; exact goodS neg d x w
theorem goodI_is (c : Bool) (neg : Bool) (d x : Int) (w : World) (h1 : -9223372036854775808 ≤ d) (h2 : d ≤ 9223372036854775807) (hT : Tens w) (h : goodB neg d x = c) :
  Calls Tryz.prog 42 #[.agg #[.bool neg, .int .i64 d, .int .i64 x]] w fun e w' => e = .returned (.bool c) ∧ Ext w w' := by
 rw [← h]; exact goodI neg d x w h1 h2 hT

def badR : DR := ⟨false, false, 0, 0⟩
/-- What DecOf answers. -/
def ofR (d e : Int) : DR := if -1000 ≤ e ∧ e ≤ 1000 then putR (decide (d < 0)) d.natAbs e false else badR

set_option maxRecDepth 4000 in
set_option maxHeartbeats 1000000 in
theorem within_any (n m : Int) (c : Bool) (w : World) (hc : decide (-m ≤ n ∧ n ≤ m) = c) (m0 : 0 ≤ m) (m1 : m ≤ 100000) :
  Calls Tryz.prog 57 #[.int .i64 n, .int .i64 m] w fun r w' => r = .returned (.bool c) ∧ w' = w := by
 have H : Hid (∀ b : Bool, (b = true ↔ -m ≤ n ∧ n ≤ m) → b = c) := fun b hb => by
  rw [← hc, Bool.eq_iff_iff, decide_eq_true_eq]; exact hb
 clear hc
 by_cases h1 : -m ≤ n
 ·
  go_enter Tryz.func57, Tryz.ntmps57
  go_wp2
  all_goals go_ret
  all_goals exact ⟨ret_bool (H.out _ (by simp [h1])), rfl⟩
 ·
  have h1' : n < -m := by omega
  go_enter Tryz.func57, Tryz.ntmps57
  go_wp2
  all_goals go_ret
  all_goals exact ⟨ret_bool (H.out _ (by simp; omega)), rfl⟩

set_option maxRecDepth 4000 in
set_option maxHeartbeats 1000000 in
theorem ofI (d e : Int) (w : World) (a1 : -9223372036854775808 ≤ d) (a2 : d ≤ 9223372036854775807) (hT : Tens w) :
  Calls Tryz.prog 59 #[.int .i64 d, .int .i64 e] w fun r w' => r = .returned (resV (ofR d e)) ∧ Ext w w' := by
 obtain ⟨R, hR⟩ : ∃ R, ofR d e = R := ⟨_, rfl⟩
 rw [hR]
 have X0 := x1 w (.cells #[.bool false, .bool false, .int .i64 0, .int .i64 0] 70)
 have Br := Box4.made w (.bool false) (.bool false) (.int .i64 0) (.int .i64 0) 70
 have T := hT.later X0
 clear hT
 by_cases he : -1000 ≤ e ∧ e ≤ 1000
 ·
  have HR : Hid (putR (decide (d < 0)) d.natAbs e false = R) := by rw [← hR]; unfold ofR; rw [if_pos he]; rfl
  have WI : Hid (∀ w2, Calls Tryz.prog 57 #[.int .i64 e, .int .i64 1000] w2 fun r w' => r = .returned (.bool true) ∧ w' = w2) := fun w2 => within_any e 1000 true w2 (decide_eq_true he) (by decide) (by decide)
  obtain ⟨he0, he1⟩ := he
  clear hR
  by_cases hd : d < 0
  ·
   obtain ⟨P, hP⟩ : ∃ P : Nat, d.natAbs = P := ⟨_, rfl⟩
   have hdd : decide (d < 0) = true := decide_eq_true hd
   rw [hP, hdd] at HR
   have PU : Hid (∀ w2, Tens w2 → Calls Tryz.prog 82 #[.bool true, .agg #[.int .u64 0, .int .u64 P], .int .i64 e, .bool false] w2 fun r w' => r = .returned (resV R) ∧ Ext w2 w') := fun w2 hT => by
    rw [← HR.out]; exact put_any _ _ _ w2 ⟨0, P, rfl, by decide, by omega, by omega⟩ (by omega) (by omega) hT
   have e1 : IntKind.u64.wrap d = d + 18446744073709551616 := by rw [IntKind.wrap_u64]; omega
   have e2 : IntKind.u64.wrap (-(d + 18446744073709551616)) = (P : Int) := by rw [IntKind.wrap_u64]; omega
   clear HR hP hdd a1 a2
   go_enter Tryz.func59, Tryz.ntmps59
   go_wp2_with fail
   refine (WI.out _).mono ?_
   rintro r w1 ⟨rfl, hw⟩
   subst hw
   go_wp2_with fail
   refine (PU.out _ T).mono ?_
   rintro r w2 ⟨rfl, x2'⟩
   obtain ⟨⟨m0, m1, m2, m3⟩, n0, n1, n2, n3⟩ := Br.later x2'
   go_wp2_with fail
   exact bodyPost_ret (v := resV R) (by simp [results, Tryz.results59, go_sem, m0, m1, m2, m3]) rfl ⟨rfl, xset (xset (xset (xset (xt X0 x2') (Nat.le_refl _) _) (Nat.le_refl _) _) (Nat.le_refl _) _) (Nat.le_refl _) _⟩
  ·
   obtain ⟨P, hP⟩ : ∃ P : Nat, d = P := ⟨d.toNat, by omega⟩
   subst hP
   have hdd : decide ((P : Int) < 0) = false := decide_eq_false hd
   rw [hdd, Int.natAbs_natCast] at HR
   have PU : Hid (∀ w2, Tens w2 → Calls Tryz.prog 82 #[.bool false, .agg #[.int .u64 0, .int .u64 P], .int .i64 e, .bool false] w2 fun r w' => r = .returned (resV R) ∧ Ext w2 w') := fun w2 hT => by
    rw [← HR.out]; exact put_any _ _ _ w2 ⟨0, P, rfl, by decide, by omega, by omega⟩ (by omega) (by omega) hT
   have e1 : IntKind.u64.wrap (P : Int) = (P : Int) := by rw [IntKind.wrap_u64]; omega
   clear HR hdd a1 a2
   go_enter Tryz.func59, Tryz.ntmps59
   go_wp2_with fail
   refine (WI.out _).mono ?_
   rintro r w1 ⟨rfl, hw⟩
   subst hw
   go_wp2_with fail
   refine (PU.out _ T).mono ?_
   rintro r w2 ⟨rfl, x2'⟩
   obtain ⟨⟨m0, m1, m2, m3⟩, n0, n1, n2, n3⟩ := Br.later x2'
   go_wp2_with fail
   exact bodyPost_ret (v := resV R) (by simp [results, Tryz.results59, go_sem, m0, m1, m2, m3]) rfl ⟨rfl, xset (xset (xset (xset (xt X0 x2') (Nat.le_refl _) _) (Nat.le_refl _) _) (Nat.le_refl _) _) (Nat.le_refl _) _⟩
 ·
  have HR : Hid (R = ⟨false, false, 0, 0⟩) := by rw [← hR]; unfold ofR; rw [if_neg he]; rfl
  have WI : Hid (∀ w2, Calls Tryz.prog 57 #[.int .i64 e, .int .i64 1000] w2 fun r w' => r = .returned (.bool false) ∧ w' = w2) := fun w2 => within_any e 1000 false w2 (decide_eq_false he) (by decide) (by decide)
  clear hR he
  go_enter Tryz.func59, Tryz.ntmps59
  go_wp2_with fail
  refine (WI.out _).mono ?_
  rintro r w1 ⟨rfl, hw⟩
  subst hw
  obtain ⟨⟨m0, m1, m2, m3⟩, n0, n1, n2, n3⟩ := Br
  go_wp2_with fail
  exact bodyPost_ret (v := .agg #[.bool false, .bool false, .int .i64 0, .int .i64 0]) (by simp [results, Tryz.results59, go_sem]) rfl ⟨by rw [HR.out], X0⟩

end Go.Proofs.YtfgohahfppabbaaGreatDoor

namespace Go.Proofs.YtfgohahfppabbaaGreatDoor

theorem lv_take_getD (xs : List Int) (i : Nat) : lv (xs.take (i + 1)) = lv (xs.take i) + 1000000000 ^ i * xs.getD i 0 := by
 by_cases h : i < xs.length
 ·
  exact lv_take_succ xs i h
 ·
  rw [List.take_of_length_le (by omega), List.take_of_length_le (by omega), List.getD_eq_getElem?_getD, List.getElem?_eq_none (by omega)]
  simp

/-- In the midst of a sum. -/
def AddAt (xs ys fs : List Int) (n i : Nat) (c : Int) : Prop :=
 fs.length = n + 1 ∧ Lim fs ∧ (∀ j, i ≤ j → fs.getD j 0 = 0) ∧ 0 ≤ c ∧ c ≤ 1 ∧ lv fs + 1000000000 ^ i * c = lv (xs.take i) + lv (ys.take i)

theorem AddAt.start (xs ys : List Int) (n : Nat) : AddAt xs ys (List.replicate (n + 1) 0) n 0 0 :=
 ⟨by simp, Lim.zeros _, fun j _ => getD_zeros _ j, by decide, by decide, by simp [lv, lv_replicate]⟩

theorem AddAt.step {xs ys fs : List Int} {n i : Nat} {c x y : Int} (h : AddAt xs ys fs n i c) (hi : i ≤ n) (lx : Lim xs) (ly : Lim ys) (ex : xs.getD i 0 = x) (ey : ys.getD i 0 = y) :
  AddAt xs ys (fs.set i ((c + x + y) % 1000000000)) n (i + 1) ((c + x + y) / 1000000000) := by
 obtain ⟨h1, h2, h3, c0, c1, h4⟩ := h
 have hx := lx.getD i
 have hy := ly.getD i
 rw [ex] at hx
 rw [ey] at hy
 refine ⟨by simpa using h1, h2.set _ (by omega) (by omega), ?_, by omega, by omega, ?_⟩
 ·
  intro j hj
  rw [getD_set (by omega), if_neg (by omega)]
  exact h3 j (by omega)
 ·
  rw [lv_set _ _ _ (by omega), h3 i (Nat.le_refl _), lv_take_getD xs, lv_take_getD ys, ex, ey, Int.pow_succ]
  have e3 : (c + x + y) % 1000000000 + 1000000000 * ((c + x + y) / 1000000000) = c + x + y := Int.emod_add_mul_ediv _ _
  generalize (c + x + y) / 1000000000 = q at *
  generalize (c + x + y) % 1000000000 = r at *
  obtain rfl : r = c + x + y - 1000000000 * q := by omega
  generalize (1000000000 : Int) ^ i = p at *
  generalize lv fs = F at *
  generalize lv (List.take i xs) = X at *
  generalize lv (List.take i ys) = Y at *
  simp only [Int.sub_zero, Int.mul_add, Int.mul_sub, Int.mul_comm, Int.mul_left_comm] at h4 ⊢
  omega

theorem AddAt.done {xs ys fs : List Int} {n : Nat} {c : Int} (h : AddAt xs ys fs n (n + 1) c) (lx : Lim xs) (ly : Lim ys) (hx : xs.length ≤ n) (hy : ys.length ≤ n) : lv fs = lv xs + lv ys := by
 obtain ⟨h1, h2, h3, c0, c1, h4⟩ := h
 rw [List.take_of_length_le (by omega), List.take_of_length_le (by omega)] at h4
 have b1 := lv_lt lx
 have b2 := lv_lt ly
 have b3 := pow_le_pow hx
 have b4 := pow_le_pow hy
 have b5 := lv_nonneg h2
 have hp := pos_pow n
 rw [Int.pow_succ] at h4
 generalize (1000000000 : Int) ^ n = p at *
 by_cases hc : c = 0
 ·
  subst hc; simp at h4; omega
 ·
  obtain rfl : c = 1 := by omega
  omega

/-- In the midst of a difference. -/
def SubAt (xs ys fs : List Int) (i : Nat) (c : Int) : Prop :=
 fs.length = xs.length ∧ Lim fs ∧ (∀ j, i ≤ j → fs.getD j 0 = 0) ∧ 0 ≤ c ∧ c ≤ 1 ∧ lv fs + lv (ys.take i) = lv (xs.take i) + 1000000000 ^ i * c

theorem SubAt.start (xs ys : List Int) : SubAt xs ys (List.replicate xs.length 0) 0 0 :=
 ⟨by simp, Lim.zeros _, fun j _ => getD_zeros _ j, by decide, by decide, by simp [lv, lv_replicate]⟩

theorem SubAt.step {xs ys fs : List Int} {i : Nat} {c s d : Int} (h : SubAt xs ys fs i c) (hi : i < xs.length) (d0 : 0 ≤ d) (d1 : d ≤ 1) (hs : s = xs.getD i 0 - c - ys.getD i 0 + 1000000000 * d) (s0 : 0 ≤ s) (s1 : s < 1000000000) :
  SubAt xs ys (fs.set i s) (i + 1) d := by
 obtain ⟨h1, h2, h3, c0, c1, h4⟩ := h
 refine ⟨by simpa using h1, h2.set _ s0 s1, ?_, d0, d1, ?_⟩
 ·
  intro j hj
  rw [getD_set (by omega), if_neg (by omega)]
  exact h3 j (by omega)
 ·
  rw [lv_set _ _ _ (by omega), h3 i (Nat.le_refl _), lv_take_getD xs, lv_take_getD ys, Int.pow_succ]
  generalize xs.getD i 0 = x at *
  generalize ys.getD i 0 = y at *
  subst hs
  generalize (1000000000 : Int) ^ i = p at *
  generalize lv fs = F at *
  generalize lv (List.take i xs) = X at *
  generalize lv (List.take i ys) = Y at *
  simp only [Int.sub_zero, Int.mul_add, Int.mul_sub, Int.mul_comm, Int.mul_left_comm] at h4 ⊢
  omega

theorem SubAt.done {xs ys fs : List Int} {c : Int} (h : SubAt xs ys fs xs.length c) (hy : ys.length ≤ xs.length) (hle : lv ys ≤ lv xs) : lv fs = lv xs - lv ys := by
 obtain ⟨h1, h2, h3, c0, c1, h4⟩ := h
 rw [List.take_of_length_le (Nat.le_refl _), List.take_of_length_le hy] at h4
 have b1 := lv_lt h2
 rw [h1] at b1
 generalize (1000000000 : Int) ^ xs.length = p at *
 by_cases hc : c = 0
 ·
  subst hc; simp at h4; omega
 ·
  obtain rfl : c = 1 := by omega
  omega

end Go.Proofs.YtfgohahfppabbaaGreatDoor

namespace Go.Proofs.YtfgohahfppabbaaGreatDoor
open Go.RowKit

/-- Limbs as few as can be, at most so many. -/
def CutOut (w : World) (v : Value) (z : Int) (n : Nat) : Prop := ∃ ys, Row w v ys ∧ Lim ys ∧ Top ys ∧ lv ys = z ∧ ys.length ≤ n
theorem CutOut.later {w w1 : World} {v : Value} {z : Int} {n : Nat} (h : CutOut w v z n) (hb : Ext w w1) : CutOut w1 v z n := by
 obtain ⟨ys, h1, h2⟩ := h
 exact ⟨ys, h1.later hb, h2⟩
theorem top_take {xs : List Int} {j : Nat} (hj : j < xs.length) (hz : xs.getD j 0 ≠ 0) : Top (xs.take (j + 1)) := by
 refine .inr ?_
 have e : (xs.take (j + 1)).length - 1 = j := by simp; omega
 rw [e, getD_take (by omega)]
 exact hz
theorem C32.take {w : World} {b o : Nat} {xs : List Int} (h : C32 w b o xs) (k : Nat) : C32 w b o (xs.take k) := fun i hi => by
 have hi' : i < k ∧ i < xs.length := by simpa [Nat.lt_min] using hi
 rw [getD_take hi'.1]
 exact h i hi'.2
theorem Row.take {w : World} {b o cap : Nat} {xs : List Int} (h : C32 w b o xs) (k : Nat) (hk : k ≤ xs.length) (h1 : xs.length ≤ cap) (h2 : cap ≤ 9223372036854775807) : Row w (.slice (some ⟨b, o, none⟩) k cap) (xs.take k) := by
 have e : (xs.take k).length = k := by simp; omega
 exact ⟨_, cap, by rw [e], by omega, h2, .inr ⟨b, o, rfl, h.take k⟩⟩

/-- A slice's cells lie in no block below n. -/
def Off (n : Nat) (v : Value) : Prop := ∀ p k c, v = .slice (some p) k c → n ≤ p.block
theorem Off.nil (n : Nat) (k c : Nat) : Off n (.slice none k c) := fun p k c h => by cases h
theorem Off.at {n b o k c : Nat} (h : n ≤ b) : Off n (.slice (some ⟨b, o, none⟩) k c) := fun p k c e => by cases e; exact h
theorem Off.less {n m : Nat} {v : Value} (h : Off n v) (hm : m ≤ n) : Off m v := fun p k c e => Nat.le_trans hm (h p k c e)

set_option maxHeartbeats 1000000 in
theorem cut_some (b o cap : Nat) (xs : List Int) (w : World) (hc : xs.length ≤ cap) (hcap : cap ≤ 9223372036854775807) (hx : C32 w b o xs) (hl : Lim xs) :
  Calls Tryz.prog 127 #[.slice (some ⟨b, o, none⟩) xs.length cap] w fun e w' => ∃ v', e = .returned v' ∧ CutOut w' v' (lv xs) xs.length ∧ Ext w w' ∧ ∃ k, v' = .slice (some ⟨b, o, none⟩) k cap := by
 go_enter Tryz.func127, Tryz.ntmps127
 go_wp2
 go_loop [3] (fun n => ∃ k : Nat, k ≤ xs.length ∧ n = .int .i64 k ∧ lv (xs.take k) = lv xs) (fun n => (intOf n).toNat)
 case atStart => exact ⟨xs.length, Nat.le_refl _, rfl, by simp⟩
 case round =>
  obtain ⟨k, hk, rfl, hv⟩ := hrel
  have HV : Hid (lv (xs.take k) = lv xs) := hv
  clear hv
  by_cases h0 : k = 0
  ·
   subst h0
   have HR : Hid (Row w (.slice (some ⟨b, o, none⟩) 0 cap) (xs.take 0)) := Row.take hx 0 (by omega) hc hcap
   clear hx
   go_wp2
   go_ret
   exact ⟨_, rfl, ⟨xs.take 0, HR.out, hl.take 0, .inl (by simp), HV.out, by simp⟩, xr _, _, rfl⟩
  ·
   obtain ⟨j, rfl⟩ : ∃ j, k = j + 1 := ⟨k - 1, by omega⟩
   have hj : j < xs.length := by omega
   have hcell := hx j hj
   by_cases hz : xs.getD j 0 = 0
   ·
    rw [hz] at hcell
    have HN : Hid (lv (xs.take j) = lv xs) := by have := HV.out; rw [take_zero_top hj hz] at this; exact this
    clear h0 hz hx
    go_wp2
    go_round
    case rel => exact ⟨j, by omega, by go_num, HN.out⟩
    case measure => simp [intOf]
   ·
    have HT : Hid (Top (xs.take (j + 1))) := top_take hj hz
    have HR : Hid (Row w (.slice (some ⟨b, o, none⟩) (j + 1) cap) (xs.take (j + 1))) := Row.take hx (j + 1) (by omega) hc hcap
    obtain ⟨x, hxj⟩ : ∃ x, xs.getD j 0 = x := ⟨_, rfl⟩
    rw [hxj] at hcell hz
    have hz' : (x == 0) = false := by rw [beq_eq_false_iff_ne]; exact hz
    clear h0 hxj hz hx
    go_wp2
    go_ret
    exact ⟨_, rfl, ⟨xs.take (j + 1), HR.out, hl.take _, HT.out, HV.out, by simp; omega⟩, xr _, _, rfl⟩

set_option maxHeartbeats 1000000 in
theorem cut_none (w : World) :
  Calls Tryz.prog 127 #[.slice none 0 0] w fun e w' => ∃ v', e = .returned v' ∧ CutOut w' v' 0 0 ∧ Ext w w' ∧ v' = .slice none 0 0 := by
 go_enter Tryz.func127, Tryz.ntmps127
 go_wp2
 go_loop [3] (fun n => n = .int .i64 0) (fun _ => 0)
 case atStart => rfl
 case round =>
  subst hrel
  go_wp2
  go_ret
  exact ⟨_, rfl, ⟨[], ⟨none, 0, rfl, Nat.le_refl _, by decide, .inl ⟨rfl, rfl⟩⟩, Lim.nil, .inl rfl, rfl, Nat.le_refl _⟩, xr _, rfl⟩

theorem cut_any {v : Value} {xs : List Int} (w : World) (h : Row w v xs) (hl : Lim xs) :
  Calls Tryz.prog 127 #[v] w fun e w' => ∃ v', e = .returned v' ∧ CutOut w' v' (lv xs) xs.length ∧ Ext w w' ∧ ∀ n, Off n v → Off n v' := by
 obtain ⟨p, cap, rfl, h1, h2, h3⟩ := h
 rcases h3 with ⟨rfl, rfl⟩ | ⟨b, o, rfl, h3⟩
 ·
  obtain rfl : xs = [] := List.eq_nil_of_length_eq_zero (by omega)
  refine (cut_none w).mono ?_
  rintro e w' ⟨v', rfl, hC, hx, rfl⟩
  exact ⟨_, rfl, hC, hx, fun n _ => Off.nil n 0 0⟩
 ·
  refine (cut_some b o cap xs w h1 h2 h3 hl).mono ?_
  rintro e w' ⟨v', rfl, hC, hx, k, rfl⟩
  exact ⟨_, rfl, hC, hx, fun n hn => Off.at (hn _ _ _ rfl)⟩

/-- In the midst of a product by one limb. -/
def MulDAt (xs fs : List Int) (m : Int) (i : Nat) (c : Int) : Prop :=
 fs.length = xs.length + 1 ∧ Lim fs ∧ (∀ j, i ≤ j → fs.getD j 0 = 0) ∧ 0 ≤ c ∧ c < 1000000000 ∧ lv fs + 1000000000 ^ i * c = lv (xs.take i) * m
theorem MulDAt.step {xs fs : List Int} {m : Int} {i : Nat} {c x : Int} (h : MulDAt xs fs m i c) (hi : i < xs.length) (lx : Lim xs) (m0 : 0 ≤ m) (m1 : m < 1000000000) (ex : xs.getD i 0 = x) :
  MulDAt xs (fs.set i ((x * m + c) % 1000000000)) m (i + 1) ((x * m + c) / 1000000000) := by
 obtain ⟨h1, h2, h3, c0, c1, h4⟩ := h
 have hx := lx.getD i
 rw [ex] at hx
 obtain ⟨p0, p1, p2⟩ := mul_sum hx.1 hx.2 m0 m1 (show (0 : Int) ≤ 0 by decide) (by decide) c0 c1
 refine ⟨by simpa using h1, h2.set _ (by omega) (by omega), ?_, by omega, by omega, ?_⟩
 ·
  intro j hj
  rw [getD_set (by omega), if_neg (by omega)]
  exact h3 j (by omega)
 ·
  rw [lv_set _ _ _ (by omega), h3 i (Nat.le_refl _), lv_take_getD xs, ex, Int.pow_succ]
  have e3 : (x * m + c) % 1000000000 + 1000000000 * ((x * m + c) / 1000000000) = x * m + c := Int.emod_add_mul_ediv _ _
  generalize (x * m + c) / 1000000000 = q at *
  generalize (x * m + c) % 1000000000 = r at *
  obtain rfl : r = x * m + c - 1000000000 * q := by omega
  generalize (1000000000 : Int) ^ i = p at *
  generalize lv fs = F at *
  generalize lv (List.take i xs) = X at *
  simp only [Int.sub_zero, Int.mul_add, Int.mul_sub, Int.mul_comm, Int.mul_left_comm] at h4 ⊢
  omega
theorem MulDAt.done {xs fs : List Int} {m c : Int} (h : MulDAt xs fs m xs.length c) : (fs.set xs.length c).length = xs.length + 1 ∧ Lim (fs.set xs.length c) ∧ lv (fs.set xs.length c) = lv xs * m := by
 obtain ⟨h1, h2, h3, c0, c1, h4⟩ := h
 refine ⟨by simpa using h1, h2.set _ c0 c1, ?_⟩
 rw [lv_set _ _ _ (by omega), h3 _ (Nat.le_refl _), Int.sub_zero, h4, List.take_length]

set_option maxHeartbeats 2000000 in
theorem mulD_any {va : Value} {xs : List Int} (m : Int) (w : World) (ha : Row w va xs) (lx : Lim xs) (nx : xs.length ≤ 1000000000) (m0 : 0 ≤ m) (m1 : m < 1000000000) :
  Calls Tryz.prog 126 #[va, .int .u64 m] w fun e w' => ∃ v', e = .returned v' ∧ CutOut w' v' (lv xs * m) (xs.length + 1) ∧ Ext w w' ∧ Off w.heap.size v' := by
 obtain ⟨px, cx, rfl, cx1, cx2, cx3⟩ := ha
 have hmk := run_make_row' (P := Tryz.prog) 72 98 (.int .u32 0) 4 Tryz.underlying72 info32 rfl .i64 .i64 (xs.length + 1) (by omega) (by omega)
 have ec : ((xs.length + 1 : Nat) : Int) = (xs.length : Int) + 1 := by omega
 rw [ec] at hmk
 clear ec
 go_enter Tryz.func126, Tryz.ntmps126
 go_wp2_with fail
 go_loopw [6, 16] (fun c i wr => ∃ (n : Nat) (fs : List Int) (cc : Int), n ≤ xs.length ∧ i = .int .i64 n ∧ c = .int .u64 cc ∧ Own32 wr w.heap.size fs ∧ MulDAt xs fs m n cc ∧ Ext w wr) (fun _ i _ => xs.length - (intOf i).toNat)
 case atStart => exact ⟨0, List.replicate (xs.length + 1) 0, 0, Nat.zero_le _, rfl, rfl, Own32.zeros _ _, ⟨by simp, Lim.zeros _, fun j _ => getD_zeros _ j, by decide, by decide, by simp [lv, lv_replicate]⟩, x1 _ _⟩
 case round =>
  obtain ⟨n, fs, cc, hn, rfl, rfl, ho, hA, X⟩ := hrel
  by_cases hlt : n < xs.length
  ·
   have hlt' : (n : Int) < (xs.length : Int) := by omega
   have hA' := hA
   obtain ⟨a1, a2, a3, a4, a5, _⟩ := hA'
   obtain ⟨x, ex⟩ : ∃ x, xs.getD n 0 = x := ⟨_, rfl⟩
   obtain ⟨x0, x1'⟩ := lx.getD n
   rw [ex] at x0 x1'
   have HN : Hid (MulDAt xs (fs.set n ((x * m + cc) % 1000000000)) m (n + 1) ((x * m + cc) / 1000000000)) := hA.step hlt lx m0 m1 ex
   have kz := World.rowIs.frozen ho n
   have kf := World.rowIs.cell ho (i := n) (by omega)
   have HQ : Hid (Own32 wr w.heap.size fs ∧ n < fs.length) := ⟨ho, by omega⟩
   obtain ⟨bx, ox, rfl, kx⟩ : ∃ b o, px = some ⟨b, o, none⟩ ∧ wr.cell? ⟨b, o + n, none⟩ = some (.int .u32 x) := by
    rcases cx3 with ⟨_, h'⟩ | ⟨b, o, e, k⟩
    ·
     omega
    ·
     exact ⟨b, o, e, by rw [← ex]; exact (k.later X) n hlt⟩
   obtain ⟨p0, p1, p2⟩ := mul_sum x0 x1' m0 m1 (show (0 : Int) ≤ 0 by decide) (by decide) a4 a5
   obtain ⟨P, hP⟩ : ∃ P, x * m = P := ⟨_, rfl⟩
   rw [hP] at HN p0 p1 p2
   rw [Int.zero_add] at p2
   clear ho hA a3 ex cx3 lx hmk
   go_wp2
   go_roundw
   case rel => exact ⟨n + 1, _, _, by omega, by go_num, rfl, HQ.out.1.set _ HQ.out.2 _, HN.out, xset X (Nat.le_refl _) _⟩
   case measure => simp [intOf]; omega
  ·
   obtain rfl : n = xs.length := by omega
   obtain ⟨d1, d2, d3⟩ := hA.done
   have kz := World.rowIs.frozen ho xs.length
   have kf := World.rowIs.cell ho (i := xs.length) (by have := hA.1; omega)
   have O2 := ho.set xs.length (by have := hA.1; omega) cc
   obtain ⟨a1, a2, a3, a4, a5, _⟩ := hA
   have X2 := xset X (p := ⟨w.heap.size, xs.length, none⟩) (Nat.le_refl _) (.int .u32 cc)
   generalize fs.set xs.length cc = gs at *
   have C : C32 (wr.setCell ⟨w.heap.size, xs.length, none⟩ (.int .u32 cc)) w.heap.size 0 gs := fun i hi => by rw [Nat.zero_add]; exact World.rowIs.cell O2 hi
   have HC : Hid (C32 (wr.setCell ⟨w.heap.size, xs.length, none⟩ (.int .u32 cc)) w.heap.size 0 gs) := C
   have HX : Hid (Ext w (wr.setCell ⟨w.heap.size, xs.length, none⟩ (.int .u32 cc))) := X2
   have D3 : Hid (lv gs = lv xs * m) := d3
   clear ho a3 cx3 lx hmk O2 X2 C X d3
   go_wp2_with fail
   go_loop [9] (fun n => ∃ k : Nat, k ≤ gs.length ∧ n = .int .i64 k ∧ lv (gs.take k) = lv gs) (fun n => (intOf n).toNat)
   case atStart => exact ⟨gs.length, Nat.le_refl _, by rw [d1]; go_num, by simp⟩
   case round =>
    obtain ⟨k, hk, rfl, hv⟩ := hrel
    have HV : Hid (lv (gs.take k) = lv gs) := hv
    clear hv
    have hgn : gs.length ≤ 9223372036854775807 := by omega
    by_cases h0 : k = 0
    ·
     subst h0
     have HR : Hid (Row (wr.setCell ⟨w.heap.size, xs.length, none⟩ (.int .u32 cc)) (.slice (some ⟨w.heap.size, 0, none⟩) 0 (xs.length + 1)) (gs.take 0)) := by rw [← d1]; exact Row.take HC.out 0 (by omega) (Nat.le_refl _) hgn
     go_wp2
     go_ret
     exact ⟨_, rfl, ⟨gs.take 0, HR.out, d2.take 0, .inl (by simp), HV.out.trans D3.out, by simp⟩, HX.out, Off.at (Nat.le_refl _)⟩
    ·
     obtain ⟨j, rfl⟩ : ∃ j, k = j + 1 := ⟨k - 1, by omega⟩
     have hj : j < gs.length := by omega
     have hcell := HC.out j hj
     rw [Nat.zero_add] at hcell
     by_cases hz : gs.getD j 0 = 0
     ·
      rw [hz] at hcell
      have HN : Hid (lv (gs.take j) = lv gs) := by have := HV.out; rw [take_zero_top hj hz] at this; exact this
      clear h0 hz
      go_wp2
      go_round
      case rel => exact ⟨j, by omega, by go_num, HN.out⟩
      case measure => simp [intOf]
     ·
      have HT : Hid (Top (gs.take (j + 1))) := top_take hj hz
      have HR : Hid (Row (wr.setCell ⟨w.heap.size, xs.length, none⟩ (.int .u32 cc)) (.slice (some ⟨w.heap.size, 0, none⟩) (j + 1) (xs.length + 1)) (gs.take (j + 1))) := by rw [← d1]; exact Row.take HC.out (j + 1) (by omega) (Nat.le_refl _) hgn
      obtain ⟨x, hxj⟩ : ∃ x, gs.getD j 0 = x := ⟨_, rfl⟩
      rw [hxj] at hcell hz
      have hz' : (x == 0) = false := by rw [beq_eq_false_iff_ne]; exact hz
      clear h0 hxj hz
      go_wp2
      go_ret
      exact ⟨_, rfl, ⟨gs.take (j + 1), HR.out, d2.take _, HT.out, HV.out.trans D3.out, by simp; omega⟩, HX.out, Off.at (Nat.le_refl _)⟩

set_option maxHeartbeats 2000000 in
theorem subD_any {va vb : Value} {xs ys : List Int} (w : World) (ha : Row w va xs) (hb : Row w vb ys) (lx : Lim xs) (ly : Lim ys) (nx : xs.length ≤ 1000000000) (nyx : ys.length ≤ xs.length) (hle : lv ys ≤ lv xs) :
  Calls Tryz.prog 105 #[va, vb] w fun e w' => ∃ v' fs, e = .returned v' ∧ Row w' v' fs ∧ Lim fs ∧ lv fs = lv xs - lv ys ∧ fs.length = xs.length ∧ Ext w w' ∧ ∃ k c, v' = .slice (some ⟨w.heap.size, 0, none⟩) k c := by
 obtain ⟨px, cx, rfl, cx1, cx2, cx3⟩ := ha
 obtain ⟨py, cy, rfl, cy1, cy2, cy3⟩ := hb
 have hmk := run_make_row' (P := Tryz.prog) 72 98 (.int .u32 0) 4 Tryz.underlying72 info32 rfl .i64 .i64 xs.length (by omega) (by omega)
 have HL : Hid (lv ys ≤ lv xs) := hle
 clear hle
 go_enter Tryz.func105, Tryz.ntmps105
 go_wp2_with fail
 go_loopw [6, 14] (fun c i wr => ∃ (m : Nat) (fs : List Int) (cc : Int), m ≤ xs.length ∧ i = .int .i64 m ∧ c = .int .i64 cc ∧ Own32 wr w.heap.size fs ∧ SubAt xs ys fs m cc ∧ Ext w wr) (fun _ i _ => xs.length - (intOf i).toNat)
 case atStart => exact ⟨0, List.replicate xs.length 0, 0, Nat.zero_le _, rfl, rfl, Own32.zeros _ _, SubAt.start _ _, x1 _ _⟩
 case round =>
  obtain ⟨m, fs, cc, hm, rfl, rfl, ho, hA, X⟩ := hrel
  by_cases hlt : m < xs.length
  ·
   have hlt' : (m : Int) < (xs.length : Int) := by omega
   have hA' := hA
   obtain ⟨a1, a2, a3, a4, a5, _⟩ := hA'
   obtain ⟨x, ex⟩ : ∃ x, xs.getD m 0 = x := ⟨_, rfl⟩
   obtain ⟨y, ey⟩ : ∃ y, ys.getD m 0 = y := ⟨_, rfl⟩
   obtain ⟨x0, x1'⟩ := lx.getD m
   obtain ⟨y0, y1'⟩ := ly.getD m
   rw [ex] at x0 x1'
   rw [ey] at y0 y1'
   have HE : Hid (xs.getD m 0 = x ∧ ys.getD m 0 = y) := ⟨ex, ey⟩
   have kf := World.rowIs.cell ho (i := m) (by omega)
   have kz := World.rowIs.frozen ho m
   have HQ : Hid (Own32 wr w.heap.size fs ∧ m < fs.length) := ⟨ho, by omega⟩
   obtain ⟨bx, ox, rfl, kx⟩ : ∃ b o, px = some ⟨b, o, none⟩ ∧ wr.cell? ⟨b, o + m, none⟩ = some (.int .u32 x) := by
    rcases cx3 with ⟨_, h'⟩ | ⟨b, o, e, k⟩
    ·
     omega
    ·
     exact ⟨b, o, e, by rw [← ex]; exact (k.later X) m hlt⟩
   have KY : Hid (m < ys.length → ∃ b o, py = some ⟨b, o, none⟩ ∧ wr.cell? ⟨b, o + m, none⟩ = some (.int .u32 y)) := fun h => by
    rcases cy3 with ⟨_, h'⟩ | ⟨b, o, e, k⟩
    ·
     omega
    ·
     exact ⟨b, o, e, by rw [← ey]; exact (k.later X) m h⟩
   have EY : Hid (¬ m < ys.length → y = 0) := fun h => by rw [← ey, List.getD_eq_getElem?_getD, List.getElem?_eq_none (by omega)]; rfl
   clear ho a3 ex ey cx3 cy3 lx ly hmk HL
   by_cases hy : m < ys.length
   ·
    obtain ⟨bv, ov, rfl, ky⟩ := KY.out hy
    clear KY EY
    by_cases hneg : x - cc - y < 0
    ·
     have hs : x - cc - y < 0 := by omega
     have HN : Hid (SubAt xs ys (fs.set m (x - cc - y + 1000000000)) (m + 1) 1) := by
      refine hA.step hlt (by decide) (by decide) ?_ (by omega) (by omega)
      rw [HE.out.1, HE.out.2]; omega
     clear hA
     go_wp2
     go_roundw
     case rel => exact ⟨m + 1, _, _, by omega, by go_num, rfl, HQ.out.1.set _ HQ.out.2 _, HN.out, xset X (Nat.le_refl _) _⟩
     case measure => simp [intOf]; omega
    ·
     have hs : 0 ≤ x - cc - y := by omega
     have HN : Hid (SubAt xs ys (fs.set m (x - cc - y)) (m + 1) 0) := by
      refine hA.step hlt (by decide) (by decide) ?_ (by omega) (by omega)
      rw [HE.out.1, HE.out.2]; omega
     clear hA
     go_wp2
     go_roundw
     case rel => exact ⟨m + 1, _, _, by omega, by go_num, rfl, HQ.out.1.set _ HQ.out.2 _, HN.out, xset X (Nat.le_refl _) _⟩
     case measure => simp [intOf]; omega
   ·
    obtain rfl := EY.out hy
    clear KY EY
    by_cases hneg : x - cc < 0
    ·
     have hs : x - cc < 0 := by omega
     have HN : Hid (SubAt xs ys (fs.set m (x - cc + 1000000000)) (m + 1) 1) := by
      refine hA.step hlt (by decide) (by decide) ?_ (by omega) (by omega)
      rw [HE.out.1, HE.out.2]; omega
     clear hA
     go_wp2
     go_roundw
     case rel => exact ⟨m + 1, _, _, by omega, by go_num, rfl, HQ.out.1.set _ HQ.out.2 _, HN.out, xset X (Nat.le_refl _) _⟩
     case measure => simp [intOf]; omega
    ·
     have hs : 0 ≤ x - cc := by omega
     have HN : Hid (SubAt xs ys (fs.set m (x - cc)) (m + 1) 0) := by
      refine hA.step hlt (by decide) (by decide) ?_ (by omega) (by omega)
      rw [HE.out.1, HE.out.2]; omega
     clear hA
     go_wp2
     go_roundw
     case rel => exact ⟨m + 1, _, _, by omega, by go_num, rfl, HQ.out.1.set _ HQ.out.2 _, HN.out, xset X (Nat.le_refl _) _⟩
     case measure => simp [intOf]; omega
  ·
   obtain rfl : m = xs.length := by omega
   have hd := hA.done nyx HL.out
   have hl := hA.1
   have hlim := hA.2.1
   have R := ho.row (by omega)
   rw [hl] at R
   have HR : Hid (Row wr (.slice (some ⟨w.heap.size, 0, none⟩) xs.length xs.length) fs ∧ Lim fs ∧ lv fs = lv xs - lv ys ∧ fs.length = xs.length) := ⟨R, hlim, hd, hl⟩
   clear R hlim hd hl ho hA cx3 cy3 lx ly hmk
   go_wp2
   go_ret
   exact ⟨_, fs, rfl, HR.out.1, HR.out.2.1, HR.out.2.2.1, HR.out.2.2.2, X, _, _, rfl⟩

end Go.Proofs.YtfgohahfppabbaaGreatDoor

