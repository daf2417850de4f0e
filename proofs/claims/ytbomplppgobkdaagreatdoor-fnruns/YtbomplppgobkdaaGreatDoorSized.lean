/-
  l1Sized, and the specification's DecCmp.
-/
import Derived.Test.YtbomplppgobkdaaGreatDoorMg6
import Derived.Test.YtbomplppgobkdaaGreatDoorMg7
import Derived.Test.YtbomplppgobkdaaGreatDoorMg0
namespace Go.Proofs.YtbomplppgobkdaaGreatDoor
open Go.RowKit

theorem ten_int (n : Int) (w : World) (h0 : 0 ≤ n) (hn : n ≤ 1000000) :
    Calls Tryz.prog 110 #[.int .i64 n] w fun e w' => ∃ v', e = .returned v' ∧ ZV w' v' (10 ^ n.toNat) ∧ Ext w w' := by
  obtain ⟨m, rfl⟩ := Int.eq_ofNat_of_zero_le h0
  rw [Int.toNat_natCast]
  exact ten_any m w (by omega)

theorem fit_dec {neg : Bool} {d : Int} (k : Nat) (hk : 2 ≤ k) (h0 : 0 ≤ d) (h1 : d < 1000000000000000000) : ((sgn neg d).natAbs : Int) < 1000000000 ^ k := by
  have h2 : (1000000000 : Int) ^ 2 ≤ 1000000000 ^ k := pow_le_pow hk
  have e : (1000000000 : Int) ^ 2 = 1000000000000000000 := by decide
  cases neg <;> simp [sgn] <;> omega
theorem fit_ten {n : Int} (k : Nat) (hk : n.toNat + 1 ≤ k) : (((10 : Int) ^ n.toNat).natAbs : Int) < 1000000000 ^ k := by
  have := ten_fit n.toNat
  have := pow_le_pow hk
  omega

set_option maxHeartbeats 4000000 in
theorem sized_any (na nb : Bool) (da xa db xb : Int) (w : World) (da0 : 0 ≤ da) (da1 : da < 1000000000000000) (db0 : 0 ≤ db) (db1 : db < 1000000000000000) (xa0 : -300 ≤ xa) (xa1' : xa ≤ 300) (xb0 : -300 ≤ xb) (xb1 : xb ≤ 300) :
    Calls Tryz.prog 83 #[.agg #[.bool na, .int .i64 da, .int .i64 xa], .agg #[.bool nb, .int .i64 db, .int .i64 xb]] w
      fun e w' => e = .returned (.int .i64 (cmpI (sgn na da * 10 ^ (xa - min xa xb).toNat) (sgn nb db * 10 ^ (xb - min xa xb).toNat))) ∧ Ext w w' := by
  have Ba := (Box3.made w (.bool na) (.int .i64 da) (.int .i64 xa) 48).later (x1 _ (.cells #[.bool nb, .int .i64 db, .int .i64 xb] 48))
  have Bb := Box3.made (w.alloc (.cells #[.bool na, .int .i64 da, .int .i64 xa] 48)) (.bool nb) (.int .i64 db) (.int .i64 xb) 48
  simp only [World.size_alloc] at Bb
  have hda1 : -9000000000000000000 < da := by omega
  have hda2 : da < 9000000000000000000 := by omega
  have hdb1 : -9000000000000000000 < db := by omega
  have hdb2 : db < 9000000000000000000 := by omega
  have KA' : Hid (((sgn na da).natAbs : Int) < 1000000000 ^ 700) := fit_dec 700 (by decide) da0 (by omega)
  have KB' : Hid (((sgn nb db).natAbs : Int) < 1000000000 ^ 700) := fit_dec 700 (by decide) db0 (by omega)
  by_cases hlt : xb < xa
  · have em : min xa xb = xb := by omega
    rw [em]
    have e0 : xb - xb = 0 := by omega
    rw [e0]
    have i0 : 0 ≤ xa - xb := by omega
    have i1 : xa - xb ≤ 600 := by omega
    have hw : IntKind.i64.wrap (xa - xb) = xa - xb := by rw [IntKind.wrap_i64]; omega
    clear em
    have T10 : 0 ≤ xa - xb := by omega
    have T11 : xa - xb ≤ 1000000 := by omega
    have T20 : (0 : Int) ≤ 0 := by omega
    have T21 : (0 : Int) ≤ 1000000 := by omega
    have KT1 : Hid ((((10 : Int) ^ (xa - xb).toNat).natAbs : Int) < 1000000000 ^ 700) := fit_ten 700 (by omega)
    have KT2 : Hid ((((10 : Int) ^ (0 : Int).toNat).natAbs : Int) < 1000000000 ^ 700) := fit_ten 700 (by omega)
    have Ba' := Ba
    have Bb' := Bb
    obtain ⟨⟨p0, p1, p2⟩, _⟩ := Ba'
    obtain ⟨⟨q0, q1, q2⟩, _⟩ := Bb'
    go_enter Tryz.func83, Tryz.ntmps83
    go_wp2_with fail
    go_region_held3 (fun w' => (w'.cell? ⟨w.heap.size, 0, none⟩ = some (.bool na) ∧ w'.cell? ⟨w.heap.size, 1, none⟩ = some (.int .i64 da) ∧ w'.cell? ⟨w.heap.size, 2, none⟩ = some (.int .i64 xa)) ∧ w'.cell? ⟨w.heap.size + 1, 0, none⟩ = some (.bool nb) ∧ w'.cell? ⟨w.heap.size + 1, 1, none⟩ = some (.int .i64 db) ∧ w'.cell? ⟨w.heap.size + 1, 2, none⟩ = some (.int .i64 xb)) (go_keep)
      (first
        | (go_at_call_of 119 (Value.agg #[.bool na, .int .i64 da, .int .i64 xa]); refine (of_any na da xa _ hda1 hda2).mono ?_; rintro e w1 ⟨v1, rfl, z1, e1⟩; have X1 := xt (xd (xr _)) e1; obtain ⟨⟨a10, a11, a12⟩, _⟩ := Ba.later X1; obtain ⟨⟨b10, b11, b12⟩, _⟩ := Bb.later X1)
        | (go_at_call_of 119 (Value.agg #[.bool nb, .int .i64 db, .int .i64 xb]); refine (of_any nb db xb _ hdb1 hdb2).mono ?_; rintro e w4 ⟨v4, rfl, z4, e4⟩; have X4 := xt X3 e4; obtain ⟨⟨a40, a41, a42⟩, _⟩ := Ba.later X4; obtain ⟨⟨b40, b41, b42⟩, _⟩ := Bb.later X4)
        | (go_at_call_of 111 v3; refine (cmp_any _ (((z3.later e4).later e5).later e6) z6).mono ?_; rintro e w7 ⟨rfl, e7⟩; have X7 := xt X6 e7; obtain ⟨⟨a70, a71, a72⟩, _⟩ := Ba.later X7; obtain ⟨⟨b70, b71, b72⟩, _⟩ := Bb.later X7)
        | (go_at_call_of 118 v1; refine (mul_any _ (z1.later e2) z2 700 (by decide) KA'.out KT1.out).mono ?_; rintro e w3 ⟨v3, rfl, z3, e3⟩; have X3 := xt X2 e3; obtain ⟨⟨a30, a31, a32⟩, _⟩ := Ba.later X3; obtain ⟨⟨b30, b31, b32⟩, _⟩ := Bb.later X3)
        | (go_at_call_of 118 v4; refine (mul_any _ (z4.later e5) z5 700 (by decide) KB'.out KT2.out).mono ?_; rintro e w6 ⟨v6, rfl, z6, e6⟩; have X6 := xt X5 e6; obtain ⟨⟨a60, a61, a62⟩, _⟩ := Ba.later X6; obtain ⟨⟨b60, b61, b62⟩, _⟩ := Bb.later X6)
        | (go_at_call_of 110 (Value.int .i64 (xa - xb)); refine (ten_int (xa - xb) _ T10 T11).mono ?_; rintro e w2 ⟨v2, rfl, z2, e2⟩; have X2 := xt X1 e2; obtain ⟨⟨a20, a21, a22⟩, _⟩ := Ba.later X2; obtain ⟨⟨b20, b21, b22⟩, _⟩ := Bb.later X2)
        | (go_at_call 110; refine (ten_int (0) _ T20 T21).mono ?_; rintro e w5 ⟨v5, rfl, z5, e5⟩; have X5 := xt X4 e5; obtain ⟨⟨a50, a51, a52⟩, _⟩ := Ba.later X5; obtain ⟨⟨b50, b51, b52⟩, _⟩ := Bb.later X5))
    go_wp2
    go_ret
    exact ⟨ret_int (by simp), xt (xt (x1 _ _) (x1 _ _)) X7⟩
  · have em : min xa xb = xa := by omega
    rw [em]
    have e0 : xa - xa = 0 := by omega
    rw [e0]
    have i0 : 0 ≤ xb - xa := by omega
    have i1 : xb - xa ≤ 600 := by omega
    have hw : IntKind.i64.wrap (xb - xa) = xb - xa := by rw [IntKind.wrap_i64]; omega
    clear em
    have T10 : (0 : Int) ≤ 0 := by omega
    have T11 : (0 : Int) ≤ 1000000 := by omega
    have T20 : 0 ≤ xb - xa := by omega
    have T21 : xb - xa ≤ 1000000 := by omega
    have KT1 : Hid ((((10 : Int) ^ (0 : Int).toNat).natAbs : Int) < 1000000000 ^ 700) := fit_ten 700 (by omega)
    have KT2 : Hid ((((10 : Int) ^ (xb - xa).toNat).natAbs : Int) < 1000000000 ^ 700) := fit_ten 700 (by omega)
    have Ba' := Ba
    have Bb' := Bb
    obtain ⟨⟨p0, p1, p2⟩, _⟩ := Ba'
    obtain ⟨⟨q0, q1, q2⟩, _⟩ := Bb'
    go_enter Tryz.func83, Tryz.ntmps83
    go_wp2_with fail
    go_region_held3 (fun w' => (w'.cell? ⟨w.heap.size, 0, none⟩ = some (.bool na) ∧ w'.cell? ⟨w.heap.size, 1, none⟩ = some (.int .i64 da) ∧ w'.cell? ⟨w.heap.size, 2, none⟩ = some (.int .i64 xa)) ∧ w'.cell? ⟨w.heap.size + 1, 0, none⟩ = some (.bool nb) ∧ w'.cell? ⟨w.heap.size + 1, 1, none⟩ = some (.int .i64 db) ∧ w'.cell? ⟨w.heap.size + 1, 2, none⟩ = some (.int .i64 xb)) (go_keep)
      (first
        | (go_at_call_of 119 (Value.agg #[.bool na, .int .i64 da, .int .i64 xa]); refine (of_any na da xa _ hda1 hda2).mono ?_; rintro e w1 ⟨v1, rfl, z1, e1⟩; have X1 := xt (xd (xr _)) e1; obtain ⟨⟨a10, a11, a12⟩, _⟩ := Ba.later X1; obtain ⟨⟨b10, b11, b12⟩, _⟩ := Bb.later X1)
        | (go_at_call_of 119 (Value.agg #[.bool nb, .int .i64 db, .int .i64 xb]); refine (of_any nb db xb _ hdb1 hdb2).mono ?_; rintro e w4 ⟨v4, rfl, z4, e4⟩; have X4 := xt X3 e4; obtain ⟨⟨a40, a41, a42⟩, _⟩ := Ba.later X4; obtain ⟨⟨b40, b41, b42⟩, _⟩ := Bb.later X4)
        | (go_at_call_of 111 v3; refine (cmp_any _ (((z3.later e4).later e5).later e6) z6).mono ?_; rintro e w7 ⟨rfl, e7⟩; have X7 := xt X6 e7; obtain ⟨⟨a70, a71, a72⟩, _⟩ := Ba.later X7; obtain ⟨⟨b70, b71, b72⟩, _⟩ := Bb.later X7)
        | (go_at_call_of 118 v1; refine (mul_any _ (z1.later e2) z2 700 (by decide) KA'.out KT1.out).mono ?_; rintro e w3 ⟨v3, rfl, z3, e3⟩; have X3 := xt X2 e3; obtain ⟨⟨a30, a31, a32⟩, _⟩ := Ba.later X3; obtain ⟨⟨b30, b31, b32⟩, _⟩ := Bb.later X3)
        | (go_at_call_of 118 v4; refine (mul_any _ (z4.later e5) z5 700 (by decide) KB'.out KT2.out).mono ?_; rintro e w6 ⟨v6, rfl, z6, e6⟩; have X6 := xt X5 e6; obtain ⟨⟨a60, a61, a62⟩, _⟩ := Ba.later X6; obtain ⟨⟨b60, b61, b62⟩, _⟩ := Bb.later X6)
        | (go_at_call_of 110 (Value.int .i64 (xb - xa)); refine (ten_int (xb - xa) _ T20 T21).mono ?_; rintro e w5 ⟨v5, rfl, z5, e5⟩; have X5 := xt X4 e5; obtain ⟨⟨a50, a51, a52⟩, _⟩ := Ba.later X5; obtain ⟨⟨b50, b51, b52⟩, _⟩ := Bb.later X5)
        | (go_at_call 110; refine (ten_int (0) _ T10 T11).mono ?_; rintro e w2 ⟨v2, rfl, z2, e2⟩; have X2 := xt X1 e2; obtain ⟨⟨a20, a21, a22⟩, _⟩ := Ba.later X2; obtain ⟨⟨b20, b21, b22⟩, _⟩ := Bb.later X2))
    go_wp2
    go_ret
    exact ⟨ret_int (by simp), xt (xt (x1 _ _) (x1 _ _)) X7⟩

/-- A good decimal's bounds. -/
theorem good_bd {neg : Bool} {d x : Int} (h : goodB neg d x = true) : 0 ≤ d ∧ d < 1000000000000000 ∧ -300 ≤ x ∧ x ≤ 300 := by
  unfold goodB at h
  by_cases hd : d = 0
  · rw [if_pos hd] at h
    simp at h
    omega
  · rw [if_neg hd] at h
    simp at h
    omega

/-- What DecCmp answers. -/
def cmpDec (na : Bool) (da xa : Int) (nb : Bool) (db xb : Int) : Int :=
  if goodB na da xa && goodB nb db xb then cmpI (sgn na da * 10 ^ (xa - min xa xb).toNat) (sgn nb db * 10 ^ (xb - min xa xb).toNat) else -2

theorem goodI_is (c : Bool) (neg : Bool) (d x : Int) (w : World) (h1 : -9223372036854775808 ≤ d) (h2 : d ≤ 9223372036854775807) (hT : Tens w) (h : goodB neg d x = c) :
    Calls Tryz.prog 86 #[.agg #[.bool neg, .int .i64 d, .int .i64 x]] w fun e w' => e = .returned (.bool c) ∧ Ext w w' := by
  rw [← h]; exact goodI neg d x w h1 h2 hT

end Go.Proofs.YtbomplppgobkdaaGreatDoor

