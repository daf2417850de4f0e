/-
  Several texts in one: CmpImpl, CmpImplB.
-/
import Derived.Test.YtgpfddneablcpaaGreatDoorMg9
import Derived.Test.YtgpfddneablcpaaGreatDoorMg10
namespace Go.Proofs.YtgpfddneablcpaaGreatDoor
open Go.RowKit

set_option maxHeartbeats 1000000 in
theorem compare_int (x y : Int) (w : World) :
  Calls Tryz.prog 88 #[.int .i64 x, .int .i64 y] w fun e w' => e = .returned (.int .i64 (cmpI x y)) ∧ w' = w := by
 have H : Hid (cmpI x y = if x < y then -1 else if y < x then 1 else 0) := rfl
 go_enter Tryz.func88, Tryz.ntmps88
 go_wp2
 all_goals go_ret
 all_goals refine ⟨ret_int ?_, rfl⟩
 all_goals (rw [H.out]; split <;> (try split) <;> omega)

set_option maxHeartbeats 1000000 in
theorem compare_u64 (x y : Int) (w : World) :
  Calls Tryz.prog 128 #[.int .u64 x, .int .u64 y] w fun e w' => e = .returned (.int .i64 (cmpI x y)) ∧ w' = w := by
 have H : Hid (cmpI x y = if x < y then -1 else if y < x then 1 else 0) := rfl
 go_enter Tryz.func128, Tryz.ntmps128
 go_wp2
 all_goals go_ret
 all_goals refine ⟨ret_int ?_, rfl⟩
 all_goals (rw [H.out]; split <;> (try split) <;> omega)

/-- The sizes' order. -/
def cmpSize (da ea db eb : Int) : Int := cmpI (da * 10 ^ (ea - min ea eb).toNat) (db * 10 ^ (eb - min ea eb).toNat)

theorem ten_pos (n : Nat) : (0 : Int) < 10 ^ n := Int.pow_pos (by decide)
theorem cast_ten (a p : Nat) : ((a * 10 ^ p : Nat) : Int) = (a : Int) * 10 ^ p := by rw [Int.natCast_mul, Int.natCast_pow]; rfl
theorem cmpI_mul {x y c : Int} (hc : 0 < c) : cmpI (x * c) (y * c) = cmpI x y := by
 have e : x * c < y * c ↔ x < y := Int.mul_lt_mul_right hc
 have e' : y * c < x * c ↔ y < x := Int.mul_lt_mul_right hc
 unfold cmpI
 simp only [e, e']
theorem cmpI_flip (x y : Int) : cmpI x y = -cmpI y x := by unfold cmpI; split <;> (try split) <;> (try split) <;> (try split) <;> omega

theorem Dig.low {a k : Nat} (h : Dig a k) (h0 : 0 < a) : 0 < k ∧ 10 ^ (k - 1) ≤ a := by
 obtain ⟨h1, h2⟩ := h
 rcases h2 with rfl | h2
 ·
  simp at h1; omega
 ·
  refine ⟨?_, h2⟩
  by_cases hk : k = 0
  ·
   subst hk; simp at h1; omega
  ·
   omega

theorem nat_lt {da db ka kb p q : Nat} (ha : da < 10 ^ ka) (hb : 10 ^ (kb - 1) ≤ db) (hk : 0 < kb) (h : ka + p + 1 ≤ kb + q) : da * 10 ^ p < db * 10 ^ q := by
 have h1 : da * 10 ^ p < 10 ^ ka * 10 ^ p := Nat.mul_lt_mul_of_pos_right ha (Nat.pow_pos (by decide))
 have h2 : 10 ^ (kb - 1) * 10 ^ q ≤ db * 10 ^ q := Nat.mul_le_mul_right _ hb
 have h3 : 10 ^ ka * 10 ^ p ≤ 10 ^ (kb - 1) * 10 ^ q := by
  rw [← Nat.pow_add, ← Nat.pow_add]
  exact Nat.pow_le_pow_right (by decide) (by omega)
 omega

/-- Of two numbers the one whose first digit stands higher is the greater. -/
theorem size_lt {da db : Nat} {ea eb : Int} {ka kb : Nat} (ha : Dig da ka) (hb : Dig db kb) (hb0 : 0 < db) (h : ea + ka < eb + kb) : (da : Int) * 10 ^ (ea - min ea eb).toNat < (db : Int) * 10 ^ (eb - min ea eb).toNat := by
 obtain ⟨b1, b2⟩ := hb.low hb0
 have := nat_lt (p := (ea - min ea eb).toNat) (q := (eb - min ea eb).toNat) ha.1 b2 b1 (by omega)
 rw [← cast_ten, ← cast_ten]
 omega
theorem size_gt {da db : Nat} {ea eb : Int} {ka kb : Nat} (ha : Dig da ka) (hb : Dig db kb) (ha0 : 0 < da) (h : eb + kb < ea + ka) : (db : Int) * 10 ^ (eb - min ea eb).toNat < (da : Int) * 10 ^ (ea - min ea eb).toNat := by
 obtain ⟨b1, b2⟩ := ha.low ha0
 have := nat_lt (p := (eb - min ea eb).toNat) (q := (ea - min ea eb).toNat) hb.1 b2 b1 (by omega)
 rw [← cast_ten, ← cast_ten]
 omega
theorem size_first {da db : Nat} {ea eb : Int} {ka kb : Nat} (ha : Dig da ka) (hb : Dig db kb) (ha0 : 0 < da) (hb0 : 0 < db) (h : ea + ka ≠ eb + kb) : cmpI (ea + ka) (eb + kb) = cmpSize da ea db eb := by
 unfold cmpSize
 by_cases hl : ea + ka < eb + kb
 ·
  rw [cmpI_lt hl, cmpI_lt (size_lt ha hb hb0 hl)]
 ·
  rw [cmpI_gt (by omega), cmpI_gt (size_gt ha hb ha0 (by omega))]
theorem size_same {da db : Nat} {ea eb : Int} {ka kb : Nat} (ka15 : ka ≤ 15) (kb15 : kb ≤ 15) (h : ea + ka = eb + kb) : cmpI ((da * 10 ^ (15 - ka) : Nat) : Int) ((db * 10 ^ (15 - kb) : Nat) : Int) = cmpSize da ea db eb := by
 obtain ⟨p, hp⟩ : ∃ p, (ea - min ea eb).toNat = p := ⟨_, rfl⟩
 obtain ⟨q, hq⟩ : ∃ q, (eb - min ea eb).toNat = q := ⟨_, rfl⟩
 obtain ⟨c, hc⟩ : ∃ c, 15 - ka = p + c := ⟨15 - ka - p, by omega⟩
 have hc' : 15 - kb = q + c := by omega
 unfold cmpSize
 rw [hp, hq, hc, hc', cast_ten, cast_ten, Int.pow_add, Int.pow_add, ← Int.mul_assoc, ← Int.mul_assoc]
 exact cmpI_mul (ten_pos c)
theorem size_zero {da db : Nat} {ea eb : Int} (h : da = 0 ∨ db = 0) : cmpI (da : Int) (db : Int) = cmpSize da ea db eb := by
 unfold cmpSize
 rcases h with rfl | rfl
 ·
  by_cases hd : db = 0
  ·
   subst hd; simp
  ·
   rw [cmpI_lt (by omega), cmpI_lt]
   have := Int.mul_pos (show (0 : Int) < (db : Int) by omega) (ten_pos (eb - min ea eb).toNat)
   simpa using this
 ·
  by_cases hd : da = 0
  ·
   subst hd; simp
  ·
   rw [cmpI_gt (by omega), cmpI_gt]
   have := Int.mul_pos (show (0 : Int) < (da : Int) by omega) (ten_pos (ea - min ea eb).toNat)
   simpa using this
theorem Dig.le15 {a k : Nat} (h : Dig a k) (ha : a < 1000000000000000) : k ≤ 15 := by
 by_cases hk : k ≤ 15
 ·
  exact hk
 ·
  obtain ⟨_, h2⟩ := h
  rcases h2 with rfl | h2
  ·
   omega
  ·
   have : 10 ^ 15 ≤ 10 ^ (k - 1) := Nat.pow_le_pow_right (by decide) (by omega)
   have e : (10 : Nat) ^ 15 = 1000000000000000 := by decide
   omega
theorem fit128 {a k : Nat} (h : Dig a k) (hk : k ≤ 15) : a * 10 ^ (15 - k) < 1000000000000000 := by
 have h1 : a * 10 ^ (15 - k) < 10 ^ k * 10 ^ (15 - k) := Nat.mul_lt_mul_of_pos_right h.1 (Nat.pow_pos (by decide))
 rw [← Nat.pow_add, show k + (15 - k) = 15 by omega] at h1
 have e : (10 : Nat) ^ 15 = 1000000000000000 := by decide
 omega

theorem raised_int {v : Value} {a : Nat} (n : Int) (h0 : 0 ≤ n) (hn : n ≤ 38) (w : World) (hv : WV v a) (hT : Tens w) (hlt : a * 10 ^ n.toNat < 340282366920938463463374607431768211456) :
  Calls Tryz.prog 129 #[v, .int .i64 n] w fun e w' => ∃ v', e = .returned v' ∧ WV v' (a * 10 ^ n.toNat) ∧ Ext w w' := by
 obtain ⟨m, rfl⟩ := Int.eq_ofNat_of_zero_le h0
 rw [Int.toNat_natCast] at *
 exact raised_any m (by omega) w hv hT hlt

/-- A number of one word. -/
theorem WV.low {v : Value} {n : Nat} (h : WV v n) (hn : n < 18446744073709551616) : v = .agg #[.int .u64 0, .int .u64 n] := by
 obtain ⟨h, l, rfl, h1, h2, h3⟩ := h
 obtain rfl : h = 0 := by omega
 obtain rfl : l = n := by omega
 rfl

/-- The lower word taken out of a value. -/
theorem field_lo (h l : Int) (w : World) : (Instr.field 147 (.agg #[.int .u64 h, .int .u64 l]) 1).run Tryz.prog w = .ok (.int .u64 l) w := by kernel_rfl

set_option maxRecDepth 100000 in
set_option maxHeartbeats 4000000 in
theorem compareSizes_any (na nb : Bool) (da db : Nat) (ea eb : Int) (w : World) (hda : da < 1000000000000000) (hdb : db < 1000000000000000) (ea0 : -300 ≤ ea) (ea1 : ea ≤ 300) (eb0 : -300 ≤ eb) (eb1 : eb ≤ 300) (hT : Tens w) :
  Calls Tryz.prog 110 #[.agg #[.bool na, .int .i64 da, .int .i64 ea], .agg #[.bool nb, .int .i64 db, .int .i64 eb]] w fun e w' => e = .returned (.int .i64 (cmpSize da ea db eb)) ∧ Ext w w' := by
 have Ba := (Box3.made w (.bool na) (.int .i64 da) (.int .i64 ea) 49).later (x1 _ (.cells #[.bool nb, .int .i64 db, .int .i64 eb] 49))
 have Bb := Box3.made (w.alloc (.cells #[.bool na, .int .i64 da, .int .i64 ea] 49)) (.bool nb) (.int .i64 db) (.int .i64 eb) 49
 simp only [World.size_alloc] at Bb
 have T := hT.later (xa (x1 w (.cells #[.bool na, .int .i64 da, .int .i64 ea] 49)) (.cells #[.bool nb, .int .i64 db, .int .i64 eb] 49))
 clear hT
 have Ba' := Ba
 have Bb' := Bb
 obtain ⟨⟨p0, p1, p2⟩, _⟩ := Ba'
 obtain ⟨⟨q0, q1, q2⟩, _⟩ := Bb'
 by_cases hz : da = 0 ∨ db = 0
 ·
  have H : Hid (cmpI (da : Int) (db : Int) = cmpSize da ea db eb) := size_zero hz
  by_cases hza : da = 0
  ·
   have c1 : (((da : Int)) == 0) = true := by rw [hza]; rfl
   clear hz hza
   go_enter Tryz.func110, Tryz.ntmps110
   go_wp2_with fail
   refine (compare_int _ _ _).mono ?_
   rintro e w1 ⟨rfl, rfl⟩
   go_wp2
   go_ret
   exact ⟨ret_int H.out, xa (x1 _ _) _⟩
  ·
   have c1 : (((da : Int)) == 0) = false := by rw [beq_eq_false_iff_ne]; omega
   have c2 : (((db : Int)) == 0) = true := by rw [hz.resolve_left hza]; rfl
   clear hz hza
   go_enter Tryz.func110, Tryz.ntmps110
   go_wp2_with fail
   refine (compare_int _ _ _).mono ?_
   rintro e w1 ⟨rfl, rfl⟩
   go_wp2
   go_ret
   exact ⟨ret_int H.out, xa (x1 _ _) _⟩
 ·
  have ha0 : 0 < da := by omega
  have hb0 : 0 < db := by omega
  have c1 : (((da : Int)) == 0) = false := by rw [beq_eq_false_iff_ne]; omega
  have c2 : (((db : Int)) == 0) = false := by rw [beq_eq_false_iff_ne]; omega
  clear hz
  go_enter Tryz.func110, Tryz.ntmps110
  go_wp2_with fail
  go_region_held3 (fun w' => (w'.cell? ⟨w.heap.size, 0, none⟩ = some (.bool na) ∧ w'.cell? ⟨w.heap.size, 1, none⟩ = some (.int .i64 da) ∧ w'.cell? ⟨w.heap.size, 2, none⟩ = some (.int .i64 ea)) ∧ w'.cell? ⟨w.heap.size + 1, 0, none⟩ = some (.bool nb) ∧ w'.cell? ⟨w.heap.size + 1, 1, none⟩ = some (.int .i64 db) ∧ w'.cell? ⟨w.heap.size + 1, 2, none⟩ = some (.int .i64 eb)) (go_keep)
   (first
    | (go_at_call_of 126 (Value.agg #[.bool na, .int .i64 da, .int .i64 ea]); refine (sizeOf_any na da ea _ hda).mono ?_; rintro e w1 ⟨v1, rfl, z1, e1⟩; have X1 := xt (xd (xr _)) e1; obtain ⟨⟨a10, a11, a12⟩, _⟩ := Ba.later X1; obtain ⟨⟨b10, b11, b12⟩, _⟩ := Bb.later X1)
    | (go_at_call_of 126 (Value.agg #[.bool nb, .int .i64 db, .int .i64 eb]); refine (sizeOf_any nb db eb _ hdb).mono ?_; rintro e w3 ⟨v3, rfl, z3, e3⟩; have X3 := xt X2 e3; obtain ⟨⟨a30, a31, a32⟩, _⟩ := Ba.later X3; obtain ⟨⟨b30, b31, b32⟩, _⟩ := Bb.later X3)
    | (go_at_call_of 127 v1; refine (length_any _ z1 (T.later X1)).mono ?_; rintro e w2 ⟨ka, rfl, ga, ka39, e2⟩; have X2 := xt X1 e2; obtain ⟨⟨a20, a21, a22⟩, _⟩ := Ba.later X2; obtain ⟨⟨b20, b21, b22⟩, _⟩ := Bb.later X2)
    | (go_at_call_of 127 v3; refine (length_any _ z3 (T.later X3)).mono ?_; rintro e w4 ⟨kb, rfl, gb, kb39, e4⟩; have X4 := xt X3 e4; obtain ⟨⟨a40, a41, a42⟩, _⟩ := Ba.later X4; obtain ⟨⟨b40, b41, b42⟩, _⟩ := Bb.later X4))
  have ka15 := ga.le15 hda
  have kb15 := gb.le15 hdb
  by_cases hne : ea + ka = eb + kb
  ·
   have H : Hid (cmpI ((da * 10 ^ (15 - ka) : Nat) : Int) ((db * 10 ^ (15 - kb) : Nat) : Int) = cmpSize da ea db eb) := size_same ka15 kb15 hne
   have c3 : (cmpI (ea + (ka : Int)) (eb + (kb : Int)) != 0) = false := by rw [hne, cmpI_eq]; rfl
   have HN : Hid (ea + ka = eb + kb) := hne
   have fa := fit128 ga ka15
   have fb := fit128 gb kb15
   have na1 : ((15 : Int) - (ka : Int)).toNat = 15 - ka := by omega
   have nb1 : ((15 : Int) - (kb : Int)).toNat = 15 - kb := by omega
   obtain ⟨NA, hNA⟩ : ∃ N, da * 10 ^ (15 - ka) = N := ⟨_, rfl⟩
   obtain ⟨NB, hNB⟩ : ∃ N, db * 10 ^ (15 - kb) = N := ⟨_, rfl⟩
   rw [hNA] at fa H
   rw [hNB] at fb H
   have RA : Hid (∀ (v : Value) (w : World), WV v da → Tens w → Calls Tryz.prog 129 #[v, .int .i64 (15 - (ka : Int))] w fun e w' => e = .returned (.agg #[.int .u64 0, .int .u64 NA]) ∧ Ext w w') := fun v w hv hT => by
    refine (raised_int (15 - (ka : Int)) (by omega) (by omega) w hv hT (by rw [na1, hNA]; omega)).mono ?_
    rintro e w' ⟨v', rfl, hv', e'⟩
    rw [na1, hNA] at hv'
    exact ⟨by rw [hv'.low (by omega)], e'⟩
   have RB : Hid (∀ (v : Value) (w : World), WV v db → Tens w → Calls Tryz.prog 129 #[v, .int .i64 (15 - (kb : Int))] w fun e w' => e = .returned (.agg #[.int .u64 0, .int .u64 NB]) ∧ Ext w w') := fun v w hv hT => by
    refine (raised_int (15 - (kb : Int)) (by omega) (by omega) w hv hT (by rw [nb1, hNB]; omega)).mono ?_
    rintro e w' ⟨v', rfl, hv', e'⟩
    rw [nb1, hNB] at hv'
    exact ⟨by rw [hv'.low (by omega)], e'⟩
   have wka : IntKind.i64.wrap (15 - (ka : Int)) = 15 - (ka : Int) := by rw [IntKind.wrap_i64]; omega
   have wkb : IntKind.i64.wrap (15 - (kb : Int)) = 15 - (kb : Int) := by rw [IntKind.wrap_i64]; omega
   have hfl := field_lo
   clear hne hNA hNB na1 nb1
   go_wp2_with fail
   refine (compare_int _ _ _).mono ?_
   rintro e w1' ⟨rfl, hw⟩
   subst hw
   go_wp2_with fail
   go_region_held3 (fun w' => (w'.cell? ⟨w.heap.size, 0, none⟩ = some (.bool na) ∧ w'.cell? ⟨w.heap.size, 1, none⟩ = some (.int .i64 da) ∧ w'.cell? ⟨w.heap.size, 2, none⟩ = some (.int .i64 ea)) ∧ w'.cell? ⟨w.heap.size + 1, 0, none⟩ = some (.bool nb) ∧ w'.cell? ⟨w.heap.size + 1, 1, none⟩ = some (.int .i64 db) ∧ w'.cell? ⟨w.heap.size + 1, 2, none⟩ = some (.int .i64 eb)) (go_keep)
    (first
     | (go_at_call_of 126 (Value.agg #[.bool na, .int .i64 da, .int .i64 ea]); refine (sizeOf_any na da ea _ hda).mono ?_; rintro e w5 ⟨v5, rfl, z5, e5⟩; have X5 := xt X4 (xt (xd (xr _)) e5); obtain ⟨⟨a50, a51, a52⟩, _⟩ := Ba.later X5; obtain ⟨⟨b50, b51, b52⟩, _⟩ := Bb.later X5)
     | (go_at_call_of 126 (Value.agg #[.bool nb, .int .i64 db, .int .i64 eb]); refine (sizeOf_any nb db eb _ hdb).mono ?_; rintro e w7 ⟨v7, rfl, z7, e7⟩; have X7 := xt X6 e7; obtain ⟨⟨a70, a71, a72⟩, _⟩ := Ba.later X7; obtain ⟨⟨b70, b71, b72⟩, _⟩ := Bb.later X7)
     | (go_at_call_of 129 v5; refine (RA.out _ _ z5 (T.later X5)).mono ?_; rintro e w6 ⟨rfl, e6⟩; have X6 := xt X5 e6; obtain ⟨⟨a60, a61, a62⟩, _⟩ := Ba.later X6; obtain ⟨⟨b60, b61, b62⟩, _⟩ := Bb.later X6)
     | (go_at_call_of 129 v7; refine (RB.out _ _ z7 (T.later X7)).mono ?_; rintro e w8 ⟨rfl, e8⟩; have X8 := xt X7 e8; obtain ⟨⟨a80, a81, a82⟩, _⟩ := Ba.later X8; obtain ⟨⟨b80, b81, b82⟩, _⟩ := Bb.later X8)
     | (go_at_call 128; refine (compare_u64 _ _ _).mono ?_; rintro e w9 ⟨rfl, hw9⟩; subst hw9))
   all_goals
    go_wp2
    go_ret
    exact ⟨ret_int H.out, xt (xa (x1 _ _) _) (by assumption)⟩
  ·
   have H : Hid (cmpI (ea + ka) (eb + kb) = cmpSize da ea db eb) := size_first ga gb ha0 hb0 hne
   have c3 : (cmpI (ea + (ka : Int)) (eb + (kb : Int)) != 0) = true := by
    rw [bne_iff_ne]
    unfold cmpI
    split <;> (try split) <;> omega
   go_wp2_with fail
   refine (compare_int _ _ _).mono ?_
   rintro e w1' ⟨rfl, hw⟩
   subst hw
   go_wp2
   go_ret
   exact ⟨ret_int H.out, xt (xa (x1 _ _) _) X4⟩

end Go.Proofs.YtgpfddneablcpaaGreatDoor

