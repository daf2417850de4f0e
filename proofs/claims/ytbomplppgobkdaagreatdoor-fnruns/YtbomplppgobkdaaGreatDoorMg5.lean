/-
  Several texts in one: CmpImpl, CmpImplB, Zval, CmpD.
-/
import Derived.Test.YtbomplppgobkdaaGreatDoorWideC
import Derived.Test.YtbomplppgobkdaaGreatDoorMg4
import Derived.Test.YtbomplppgobkdaaGreatDoorMg0
import Derived.Deep.QuietTactic
import Derived.BigQuiet
namespace Go.Proofs.YtbomplppgobkdaaGreatDoor
open Go.RowKit

set_option maxHeartbeats 1000000 in
theorem compare_int (x y : Int) (w : World) :
    Calls Tryz.prog 53 #[.int .i64 x, .int .i64 y] w fun e w' => e = .returned (.int .i64 (cmpI x y)) ∧ w' = w := by
  have H : Hid (cmpI x y = if x < y then -1 else if y < x then 1 else 0) := rfl
  go_enter Tryz.func53, Tryz.ntmps53
  go_wp2
  all_goals go_ret
  all_goals refine ⟨ret_int ?_, rfl⟩
  all_goals (rw [H.out]; split <;> (try split) <;> omega)

set_option maxHeartbeats 1000000 in
theorem compare_u64 (x y : Int) (w : World) :
    Calls Tryz.prog 147 #[.int .u64 x, .int .u64 y] w fun e w' => e = .returned (.int .i64 (cmpI x y)) ∧ w' = w := by
  have H : Hid (cmpI x y = if x < y then -1 else if y < x then 1 else 0) := rfl
  go_enter Tryz.func147, Tryz.ntmps147
  go_wp2
  all_goals go_ret
  all_goals refine ⟨ret_int ?_, rfl⟩
  all_goals (rw [H.out]; split <;> (try split) <;> omega)

/-- The sizes' order. -/
def cmpSize (da ea db eb : Int) : Int := cmpI (da * 10 ^ (ea - min ea eb).toNat) (db * 10 ^ (eb - min ea eb).toNat)

theorem ten_pos (n : Nat) : (0 : Int) < 10 ^ n := Int.pow_pos (by decide)
theorem cast_ten (a p : Nat) : ((a * 10 ^ p : Nat) : Int) = (a : Int) * 10 ^ p := by rw [Int.natCast_mul, Int.natCast_pow]; rfl
theorem cmpI_mul {x y c : Int} (hc : 0 < c) : cmpI (x * c) (y * c) = cmpI x y := by
  have e : x * c < y * c ↔ x < y := Int.mul_lt_mul_right hc
  have e' : y * c < x * c ↔ y < x := Int.mul_lt_mul_right hc
  unfold cmpI
  simp only [e, e']
theorem cmpI_flip (x y : Int) : cmpI x y = -cmpI y x := by unfold cmpI; split <;> (try split) <;> (try split) <;> (try split) <;> omega

theorem Dig.low {a k : Nat} (h : Dig a k) (h0 : 0 < a) : 0 < k ∧ 10 ^ (k - 1) ≤ a := by
  obtain ⟨h1, h2⟩ := h
  rcases h2 with rfl | h2
  · simp at h1; omega
  · refine ⟨?_, h2⟩
    by_cases hk : k = 0
    · subst hk; simp at h1; omega
    · omega

theorem nat_lt {da db ka kb p q : Nat} (ha : da < 10 ^ ka) (hb : 10 ^ (kb - 1) ≤ db) (hk : 0 < kb) (h : ka + p + 1 ≤ kb + q) : da * 10 ^ p < db * 10 ^ q := by
  have h1 : da * 10 ^ p < 10 ^ ka * 10 ^ p := Nat.mul_lt_mul_of_pos_right ha (Nat.pow_pos (by decide))
  have h2 : 10 ^ (kb - 1) * 10 ^ q ≤ db * 10 ^ q := Nat.mul_le_mul_right _ hb
  have h3 : 10 ^ ka * 10 ^ p ≤ 10 ^ (kb - 1) * 10 ^ q := by
    rw [← Nat.pow_add, ← Nat.pow_add]
    exact Nat.pow_le_pow_right (by decide) (by omega)
  omega

/-- Of two numbers the one whose first digit stands higher is the greater. -/
theorem size_lt {da db : Nat} {ea eb : Int} {ka kb : Nat} (ha : Dig da ka) (hb : Dig db kb) (hb0 : 0 < db) (h : ea + ka < eb + kb) : (da : Int) * 10 ^ (ea - min ea eb).toNat < (db : Int) * 10 ^ (eb - min ea eb).toNat := by
  obtain ⟨b1, b2⟩ := hb.low hb0
  have := nat_lt (p := (ea - min ea eb).toNat) (q := (eb - min ea eb).toNat) ha.1 b2 b1 (by omega)
  rw [← cast_ten, ← cast_ten]
  omega
theorem size_gt {da db : Nat} {ea eb : Int} {ka kb : Nat} (ha : Dig da ka) (hb : Dig db kb) (ha0 : 0 < da) (h : eb + kb < ea + ka) : (db : Int) * 10 ^ (eb - min ea eb).toNat < (da : Int) * 10 ^ (ea - min ea eb).toNat := by
  obtain ⟨b1, b2⟩ := ha.low ha0
  have := nat_lt (p := (eb - min ea eb).toNat) (q := (ea - min ea eb).toNat) hb.1 b2 b1 (by omega)
  rw [← cast_ten, ← cast_ten]
  omega
theorem size_first {da db : Nat} {ea eb : Int} {ka kb : Nat} (ha : Dig da ka) (hb : Dig db kb) (ha0 : 0 < da) (hb0 : 0 < db) (h : ea + ka ≠ eb + kb) : cmpI (ea + ka) (eb + kb) = cmpSize da ea db eb := by
  unfold cmpSize
  by_cases hl : ea + ka < eb + kb
  · rw [cmpI_lt hl, cmpI_lt (size_lt ha hb hb0 hl)]
  · rw [cmpI_gt (by omega), cmpI_gt (size_gt ha hb ha0 (by omega))]
theorem size_same {da db : Nat} {ea eb : Int} {ka kb : Nat} (ka15 : ka ≤ 15) (kb15 : kb ≤ 15) (h : ea + ka = eb + kb) : cmpI ((da * 10 ^ (15 - ka) : Nat) : Int) ((db * 10 ^ (15 - kb) : Nat) : Int) = cmpSize da ea db eb := by
  obtain ⟨p, hp⟩ : ∃ p, (ea - min ea eb).toNat = p := ⟨_, rfl⟩
  obtain ⟨q, hq⟩ : ∃ q, (eb - min ea eb).toNat = q := ⟨_, rfl⟩
  obtain ⟨c, hc⟩ : ∃ c, 15 - ka = p + c := ⟨15 - ka - p, by omega⟩
  have hc' : 15 - kb = q + c := by omega
  unfold cmpSize
  rw [hp, hq, hc, hc', cast_ten, cast_ten, Int.pow_add, Int.pow_add, ← Int.mul_assoc, ← Int.mul_assoc]
  exact cmpI_mul (ten_pos c)
theorem size_zero {da db : Nat} {ea eb : Int} (h : da = 0 ∨ db = 0) : cmpI (da : Int) (db : Int) = cmpSize da ea db eb := by
  unfold cmpSize
  rcases h with rfl | rfl
  · by_cases hd : db = 0
    · subst hd; simp
    · rw [cmpI_lt (by omega), cmpI_lt]
      have := Int.mul_pos (show (0 : Int) < (db : Int) by omega) (ten_pos (eb - min ea eb).toNat)
      simpa using this
  · by_cases hd : da = 0
    · subst hd; simp
    · rw [cmpI_gt (by omega), cmpI_gt]
      have := Int.mul_pos (show (0 : Int) < (da : Int) by omega) (ten_pos (ea - min ea eb).toNat)
      simpa using this
theorem Dig.le15 {a k : Nat} (h : Dig a k) (ha : a < 1000000000000000) : k ≤ 15 := by
  by_cases hk : k ≤ 15
  · exact hk
  · obtain ⟨_, h2⟩ := h
    rcases h2 with rfl | h2
    · omega
    · have : 10 ^ 15 ≤ 10 ^ (k - 1) := Nat.pow_le_pow_right (by decide) (by omega)
      have e : (10 : Nat) ^ 15 = 1000000000000000 := by decide
      omega
theorem fit128 {a k : Nat} (h : Dig a k) (hk : k ≤ 15) : a * 10 ^ (15 - k) < 1000000000000000 := by
  have h1 : a * 10 ^ (15 - k) < 10 ^ k * 10 ^ (15 - k) := Nat.mul_lt_mul_of_pos_right h.1 (Nat.pow_pos (by decide))
  rw [← Nat.pow_add, show k + (15 - k) = 15 by omega] at h1
  have e : (10 : Nat) ^ 15 = 1000000000000000 := by decide
  omega

theorem raised_int {v : Value} {a : Nat} (n : Int) (h0 : 0 ≤ n) (hn : n ≤ 38) (w : World) (hv : WV v a) (hT : Tens w) (hlt : a * 10 ^ n.toNat < 340282366920938463463374607431768211456) :
    Calls Tryz.prog 148 #[v, .int .i64 n] w fun e w' => ∃ v', e = .returned v' ∧ WV v' (a * 10 ^ n.toNat) ∧ Ext w w' := by
  obtain ⟨m, rfl⟩ := Int.eq_ofNat_of_zero_le h0
  rw [Int.toNat_natCast] at *
  exact raised_any m (by omega) w hv hT hlt

/-- A number of one word. -/
theorem WV.low {v : Value} {n : Nat} (h : WV v n) (hn : n < 18446744073709551616) : v = .agg #[.int .u64 0, .int .u64 n] := by
  obtain ⟨h, l, rfl, h1, h2, h3⟩ := h
  obtain rfl : h = 0 := by omega
  obtain rfl : l = n := by omega
  rfl

/-- The lower word taken out of a value. -/
theorem field_lo (h l : Int) (w : World) : (Instr.field 164 (.agg #[.int .u64 h, .int .u64 l]) 1).run Tryz.prog w = .ok (.int .u64 l) w := by kernel_rfl

set_option maxRecDepth 100000 in
set_option maxHeartbeats 4000000 in
theorem compareSizes_any (na nb : Bool) (da db : Nat) (ea eb : Int) (w : World) (hda : da < 1000000000000000) (hdb : db < 1000000000000000) (ea0 : -300 ≤ ea) (ea1 : ea ≤ 300) (eb0 : -300 ≤ eb) (eb1 : eb ≤ 300) (hT : Tens w) :
    Calls Tryz.prog 116 #[.agg #[.bool na, .int .i64 da, .int .i64 ea], .agg #[.bool nb, .int .i64 db, .int .i64 eb]] w fun e w' => e = .returned (.int .i64 (cmpSize da ea db eb)) ∧ Ext w w' := by
  have Ba := (Box3.made w (.bool na) (.int .i64 da) (.int .i64 ea) 48).later (x1 _ (.cells #[.bool nb, .int .i64 db, .int .i64 eb] 48))
  have Bb := Box3.made (w.alloc (.cells #[.bool na, .int .i64 da, .int .i64 ea] 48)) (.bool nb) (.int .i64 db) (.int .i64 eb) 48
  simp only [World.size_alloc] at Bb
  have T := hT.later (xa (x1 w (.cells #[.bool na, .int .i64 da, .int .i64 ea] 48)) (.cells #[.bool nb, .int .i64 db, .int .i64 eb] 48))
  clear hT
  have Ba' := Ba
  have Bb' := Bb
  obtain ⟨⟨p0, p1, p2⟩, _⟩ := Ba'
  obtain ⟨⟨q0, q1, q2⟩, _⟩ := Bb'
  by_cases hz : da = 0 ∨ db = 0
  · have H : Hid (cmpI (da : Int) (db : Int) = cmpSize da ea db eb) := size_zero hz
    by_cases hza : da = 0
    · have c1 : (((da : Int)) == 0) = true := by rw [hza]; rfl
      clear hz hza
      go_enter Tryz.func116, Tryz.ntmps116
      go_wp2_with fail
      refine (compare_int _ _ _).mono ?_
      rintro e w1 ⟨rfl, rfl⟩
      go_wp2
      go_ret
      exact ⟨ret_int H.out, xa (x1 _ _) _⟩
    · have c1 : (((da : Int)) == 0) = false := by rw [beq_eq_false_iff_ne]; omega
      have c2 : (((db : Int)) == 0) = true := by rw [hz.resolve_left hza]; rfl
      clear hz hza
      go_enter Tryz.func116, Tryz.ntmps116
      go_wp2_with fail
      refine (compare_int _ _ _).mono ?_
      rintro e w1 ⟨rfl, rfl⟩
      go_wp2
      go_ret
      exact ⟨ret_int H.out, xa (x1 _ _) _⟩
  · have ha0 : 0 < da := by omega
    have hb0 : 0 < db := by omega
    have c1 : (((da : Int)) == 0) = false := by rw [beq_eq_false_iff_ne]; omega
    have c2 : (((db : Int)) == 0) = false := by rw [beq_eq_false_iff_ne]; omega
    clear hz
    go_enter Tryz.func116, Tryz.ntmps116
    go_wp2_with fail
    go_region_held3 (fun w' => (w'.cell? ⟨w.heap.size, 0, none⟩ = some (.bool na) ∧ w'.cell? ⟨w.heap.size, 1, none⟩ = some (.int .i64 da) ∧ w'.cell? ⟨w.heap.size, 2, none⟩ = some (.int .i64 ea)) ∧ w'.cell? ⟨w.heap.size + 1, 0, none⟩ = some (.bool nb) ∧ w'.cell? ⟨w.heap.size + 1, 1, none⟩ = some (.int .i64 db) ∧ w'.cell? ⟨w.heap.size + 1, 2, none⟩ = some (.int .i64 eb)) (go_keep)
      (first
        | (go_at_call_of 145 (Value.agg #[.bool na, .int .i64 da, .int .i64 ea]); refine (sizeOf_any na da ea _ hda).mono ?_; rintro e w1 ⟨v1, rfl, z1, e1⟩; have X1 := xt (xd (xr _)) e1; obtain ⟨⟨a10, a11, a12⟩, _⟩ := Ba.later X1; obtain ⟨⟨b10, b11, b12⟩, _⟩ := Bb.later X1)
        | (go_at_call_of 145 (Value.agg #[.bool nb, .int .i64 db, .int .i64 eb]); refine (sizeOf_any nb db eb _ hdb).mono ?_; rintro e w3 ⟨v3, rfl, z3, e3⟩; have X3 := xt X2 e3; obtain ⟨⟨a30, a31, a32⟩, _⟩ := Ba.later X3; obtain ⟨⟨b30, b31, b32⟩, _⟩ := Bb.later X3)
        | (go_at_call_of 146 v1; refine (length_any _ z1 (T.later X1)).mono ?_; rintro e w2 ⟨ka, rfl, ga, ka39, e2⟩; have X2 := xt X1 e2; obtain ⟨⟨a20, a21, a22⟩, _⟩ := Ba.later X2; obtain ⟨⟨b20, b21, b22⟩, _⟩ := Bb.later X2)
        | (go_at_call_of 146 v3; refine (length_any _ z3 (T.later X3)).mono ?_; rintro e w4 ⟨kb, rfl, gb, kb39, e4⟩; have X4 := xt X3 e4; obtain ⟨⟨a40, a41, a42⟩, _⟩ := Ba.later X4; obtain ⟨⟨b40, b41, b42⟩, _⟩ := Bb.later X4))
    have ka15 := ga.le15 hda
    have kb15 := gb.le15 hdb
    by_cases hne : ea + ka = eb + kb
    · have H : Hid (cmpI ((da * 10 ^ (15 - ka) : Nat) : Int) ((db * 10 ^ (15 - kb) : Nat) : Int) = cmpSize da ea db eb) := size_same ka15 kb15 hne
      have c3 : (cmpI (ea + (ka : Int)) (eb + (kb : Int)) != 0) = false := by rw [hne, cmpI_eq]; rfl
      have HN : Hid (ea + ka = eb + kb) := hne
      have fa := fit128 ga ka15
      have fb := fit128 gb kb15
      have na1 : ((15 : Int) - (ka : Int)).toNat = 15 - ka := by omega
      have nb1 : ((15 : Int) - (kb : Int)).toNat = 15 - kb := by omega
      obtain ⟨NA, hNA⟩ : ∃ N, da * 10 ^ (15 - ka) = N := ⟨_, rfl⟩
      obtain ⟨NB, hNB⟩ : ∃ N, db * 10 ^ (15 - kb) = N := ⟨_, rfl⟩
      rw [hNA] at fa H
      rw [hNB] at fb H
      have RA : Hid (∀ (v : Value) (w : World), WV v da → Tens w → Calls Tryz.prog 148 #[v, .int .i64 (15 - (ka : Int))] w fun e w' => e = .returned (.agg #[.int .u64 0, .int .u64 NA]) ∧ Ext w w') := fun v w hv hT => by
        refine (raised_int (15 - (ka : Int)) (by omega) (by omega) w hv hT (by rw [na1, hNA]; omega)).mono ?_
        rintro e w' ⟨v', rfl, hv', e'⟩
        rw [na1, hNA] at hv'
        exact ⟨by rw [hv'.low (by omega)], e'⟩
      have RB : Hid (∀ (v : Value) (w : World), WV v db → Tens w → Calls Tryz.prog 148 #[v, .int .i64 (15 - (kb : Int))] w fun e w' => e = .returned (.agg #[.int .u64 0, .int .u64 NB]) ∧ Ext w w') := fun v w hv hT => by
        refine (raised_int (15 - (kb : Int)) (by omega) (by omega) w hv hT (by rw [nb1, hNB]; omega)).mono ?_
        rintro e w' ⟨v', rfl, hv', e'⟩
        rw [nb1, hNB] at hv'
        exact ⟨by rw [hv'.low (by omega)], e'⟩
      have wka : IntKind.i64.wrap (15 - (ka : Int)) = 15 - (ka : Int) := by rw [IntKind.wrap_i64]; omega
      have wkb : IntKind.i64.wrap (15 - (kb : Int)) = 15 - (kb : Int) := by rw [IntKind.wrap_i64]; omega
      have hfl := field_lo
      clear hne hNA hNB na1 nb1
      go_wp2_with fail
      refine (compare_int _ _ _).mono ?_
      rintro e w1' ⟨rfl, hw⟩
      subst hw
      go_wp2_with fail
      go_region_held3 (fun w' => (w'.cell? ⟨w.heap.size, 0, none⟩ = some (.bool na) ∧ w'.cell? ⟨w.heap.size, 1, none⟩ = some (.int .i64 da) ∧ w'.cell? ⟨w.heap.size, 2, none⟩ = some (.int .i64 ea)) ∧ w'.cell? ⟨w.heap.size + 1, 0, none⟩ = some (.bool nb) ∧ w'.cell? ⟨w.heap.size + 1, 1, none⟩ = some (.int .i64 db) ∧ w'.cell? ⟨w.heap.size + 1, 2, none⟩ = some (.int .i64 eb)) (go_keep)
        (first
          | (go_at_call_of 145 (Value.agg #[.bool na, .int .i64 da, .int .i64 ea]); refine (sizeOf_any na da ea _ hda).mono ?_; rintro e w5 ⟨v5, rfl, z5, e5⟩; have X5 := xt X4 (xt (xd (xr _)) e5); obtain ⟨⟨a50, a51, a52⟩, _⟩ := Ba.later X5; obtain ⟨⟨b50, b51, b52⟩, _⟩ := Bb.later X5)
          | (go_at_call_of 145 (Value.agg #[.bool nb, .int .i64 db, .int .i64 eb]); refine (sizeOf_any nb db eb _ hdb).mono ?_; rintro e w7 ⟨v7, rfl, z7, e7⟩; have X7 := xt X6 e7; obtain ⟨⟨a70, a71, a72⟩, _⟩ := Ba.later X7; obtain ⟨⟨b70, b71, b72⟩, _⟩ := Bb.later X7)
          | (go_at_call_of 148 v5; refine (RA.out _ _ z5 (T.later X5)).mono ?_; rintro e w6 ⟨rfl, e6⟩; have X6 := xt X5 e6; obtain ⟨⟨a60, a61, a62⟩, _⟩ := Ba.later X6; obtain ⟨⟨b60, b61, b62⟩, _⟩ := Bb.later X6)
          | (go_at_call_of 148 v7; refine (RB.out _ _ z7 (T.later X7)).mono ?_; rintro e w8 ⟨rfl, e8⟩; have X8 := xt X7 e8; obtain ⟨⟨a80, a81, a82⟩, _⟩ := Ba.later X8; obtain ⟨⟨b80, b81, b82⟩, _⟩ := Bb.later X8)
          | (go_at_call 147; refine (compare_u64 _ _ _).mono ?_; rintro e w9 ⟨rfl, hw9⟩; subst hw9))
      all_goals
        go_wp2
        go_ret
        exact ⟨ret_int H.out, xt (xa (x1 _ _) _) (by assumption)⟩
    · have H : Hid (cmpI (ea + ka) (eb + kb) = cmpSize da ea db eb) := size_first ga gb ha0 hb0 hne
      have c3 : (cmpI (ea + (ka : Int)) (eb + (kb : Int)) != 0) = true := by
        rw [bne_iff_ne]
        unfold cmpI
        split <;> (try split) <;> omega
      go_wp2_with fail
      refine (compare_int _ _ _).mono ?_
      rintro e w1' ⟨rfl, hw⟩
      subst hw
      go_wp2
      go_ret
      exact ⟨ret_int H.out, xt (xa (x1 _ _) _) X4⟩

/-- So many cells of uint32 from a place on. -/
def C32 (w : World) (b o : Nat) (xs : List Int) : Prop := ∀ i, i < xs.length → w.cell? ⟨b, o + i, none⟩ = some (.int .u32 (xs.getD i 0))
theorem C32.later {w w1 : World} {b o : Nat} {xs : List Int} (h : C32 w b o xs) (hb : Ext w w1) : C32 w1 b o xs := fun i hi => cell_later hb (h i hi)

/-- A slice of limbs. -/
def Row (w : World) (v : Value) (xs : List Int) : Prop :=
  ∃ (p : Option Addr) (cap : Nat), v = .slice p xs.length cap ∧ xs.length ≤ cap ∧ cap ≤ 9223372036854775807 ∧ ((p = none ∧ cap = 0) ∨ ∃ b o, p = some ⟨b, o, none⟩ ∧ C32 w b o xs)
theorem Row.later {w w1 : World} {v : Value} {xs : List Int} (h : Row w v xs) (hb : Ext w w1) : Row w1 v xs := by
  obtain ⟨p, cap, e, h1, h2, h3⟩ := h
  refine ⟨p, cap, e, h1, h2, ?_⟩
  rcases h3 with h3 | ⟨b, o, e, h3⟩
  · exact .inl h3
  · exact .inr ⟨b, o, e, h3.later hb⟩

/-- The value of a number below 10^18 in size; of another one. -/
abbrev zS (z : Int) : Value := .agg #[.int .i64 z, .bool false, .slice none 0 0]
abbrev zB (neg : Bool) (p : Addr) (n cap : Nat) : Value := .agg #[.int .i64 0, .bool neg, .slice (some p) n cap]
def sgn (neg : Bool) (z : Int) : Int := if neg then -z else z

/-- The limbs are as few as can be. -/
def Top (xs : List Int) : Prop := xs.length = 0 ∨ xs.getD (xs.length - 1) 0 ≠ 0

def ZV (w : World) (v : Value) (z : Int) : Prop :=
  (-1000000000000000000 < z ∧ z < 1000000000000000000 ∧ v = zS z) ∨
  ∃ neg b o cap xs, v = zB neg ⟨b, o, none⟩ xs.length cap ∧ xs.length ≤ cap ∧ cap ≤ 9223372036854775807 ∧ C32 w b o xs ∧ Lim xs ∧ 3 ≤ xs.length ∧ Top xs ∧ z = sgn neg (lv xs)
theorem ZV.later {w w1 : World} {v : Value} {z : Int} (h : ZV w v z) (hb : Ext w w1) : ZV w1 v z := by
  rcases h with h | ⟨neg, b, o, cap, xs, e, h1, h2, h3, h4⟩
  · exact .inl h
  · exact .inr ⟨neg, b, o, cap, xs, e, h1, h2, h3.later hb, h4⟩
theorem ZV.small {w : World} {z : Int} (h1 : -1000000000000000000 < z) (h2 : z < 1000000000000000000) : ZV w (zS z) z := .inl ⟨h1, h2, rfl⟩

/-- A number of three limbs or more is not small. -/
theorem big_ge {xs : List Int} (h : Lim xs) (h3 : 3 ≤ xs.length) (ht : Top xs) : 1000000000000000000 ≤ lv xs := by
  have h1 := lv_ge h (by omega) (ht.resolve_left (by omega))
  have h2 : (1000000000 : Int) ^ 2 ≤ 1000000000 ^ (xs.length - 1) := by
    have := Nat.pow_le_pow_right (n := 1000000000) (by decide) (show 2 ≤ xs.length - 1 by omega)
    have h3 : ((1000000000 ^ 2 : Nat) : Int) ≤ ((1000000000 ^ (xs.length - 1) : Nat) : Int) := by exact_mod_cast this
    simpa using h3
  omega

/-- A number below 10^18 in size. -/
def smallB (z : Int) : Bool := decide (-1000000000000000000 < z ∧ z < 1000000000000000000)
theorem small_big {neg : Bool} {xs : List Int} (h : Lim xs) (h3 : 3 ≤ xs.length) (ht : Top xs) : smallB (sgn neg (lv xs)) = false := by
  have := big_ge h h3 ht
  unfold smallB sgn
  cases neg <;> simp <;> omega
theorem smallB_true {z : Int} (h1 : -1000000000000000000 < z) (h2 : z < 1000000000000000000) : smallB z = true := by simp [smallB, h1, h2]
theorem ZV.small_of {w : World} {v : Value} {z : Int} (h : ZV w v z) (hs : smallB z = true) : -1000000000000000000 < z ∧ z < 1000000000000000000 ∧ v = zS z := by
  rcases h with h | ⟨neg, b, o, cap, xs, rfl, h1, h2, h3, h4, h5, h6, rfl⟩
  · exact h
  · rw [small_big h4 h5 h6] at hs; cases hs

set_option maxHeartbeats 400000 in
theorem isSmall_any {v : Value} {z : Int} (w : World) (h : ZV w v z) :
    Calls Tryz.prog 130 #[v] w fun e w' => e = .returned (.bool (smallB z)) ∧ Ext w w' := by
  rcases h with ⟨h1, h2, rfl⟩ | ⟨neg, b, o, cap, xs, rfl, h1, h2, h3, h4, h5, h6, h7⟩
  · go_enter Tryz.func130, Tryz.ntmps130
    go_wp2
    go_ret
    exact ⟨ret_bool (smallB_true h1 h2).symm, x1 _ _⟩
  · have h9 : (((xs.length : Int) == 0)) = false := by rw [beq_eq_false_iff_ne]; omega
    subst h7
    have H := small_big (neg := neg) h4 h5 h6
    clear h6 h4 h3
    go_enter Tryz.func130, Tryz.ntmps130
    go_wp2
    go_ret
    exact ⟨ret_bool H.symm, x1 _ _⟩

theorem sgn_neg {neg : Bool} {xs : List Int} (h : Lim xs) (h3 : 3 ≤ xs.length) (ht : Top xs) : decide (sgn neg (lv xs) < 0) = neg := by
  have := big_ge h h3 ht
  cases neg <;> simp [sgn] <;> omega

set_option maxHeartbeats 400000 in
theorem neg_any {v : Value} {z : Int} (w : World) (h : ZV w v z) :
    Calls Tryz.prog 105 #[v] w fun e w' => e = .returned (.bool (decide (z < 0))) ∧ Ext w w' := by
  rcases h with ⟨h1, h2, rfl⟩ | ⟨neg, b, o, cap, xs, rfl, h1, h2, h3, h4, h5, h6, h7⟩
  · go_enter Tryz.func105, Tryz.ntmps105
    go_wp2
    go_ret
    exact ⟨rfl, x1 _ _⟩
  · have h9 : (0 : Int) < (xs.length : Int) := by omega
    subst h7
    have H := sgn_neg (neg := neg) h4 h5 h6
    clear h6 h4 h3
    go_enter Tryz.func105, Tryz.ntmps105
    go_wp2
    go_ret
    exact ⟨ret_bool H.symm, x1 _ _⟩

set_option maxHeartbeats 400000 in
theorem zero_any {v : Value} {z : Int} (w : World) (h : ZV w v z) :
    Calls Tryz.prog 108 #[v] w fun e w' => e = .returned (.bool (z == 0)) ∧ Ext w w' := by
  rcases h with ⟨h1, h2, rfl⟩ | ⟨neg, b, o, cap, xs, rfl, h1, h2, h3, h4, h5, h6, h7⟩
  · go_enter Tryz.func108, Tryz.ntmps108
    go_wp2
    all_goals go_ret
    all_goals exact ⟨rfl, x1 _ _⟩
  · have h9 : (((xs.length : Int) == 0)) = false := by rw [beq_eq_false_iff_ne]; omega
    have H : (sgn neg (lv xs) == 0) = false := by
      have := big_ge h4 h5 h6
      rw [beq_eq_false_iff_ne]
      cases neg <;> simp [sgn] <;> omega
    subst h7
    clear h6 h4 h3
    go_enter Tryz.func108, Tryz.ntmps108
    go_wp2
    all_goals go_ret
    all_goals exact ⟨ret_bool H.symm, x1 _ _⟩

set_option maxHeartbeats 400000 in
theorem minus_any {v : Value} {z : Int} (w : World) (h : ZV w v z) :
    Calls Tryz.prog 128 #[v] w fun e w' => ∃ v', e = .returned v' ∧ ZV w' v' (-z) ∧ Ext w w' := by
  rcases h with ⟨h1, h2, rfl⟩ | ⟨neg, b, o, cap, xs, rfl, h1, h2, h3, h4, h5, h6, rfl⟩
  · go_enter Tryz.func128, Tryz.ntmps128
    go_wp2
    exact bodyPost_ret (v := zS (-z)) (by simp [results, Tryz.results128, go_sem]) rfl ⟨_, rfl, .inl ⟨by omega, by omega, rfl⟩, xa (xa (x1 _ _) _) _⟩
  · have h9 : (((xs.length : Int) == 0)) = false := by rw [beq_eq_false_iff_ne]; omega
    have H : -sgn neg (lv xs) = sgn (!neg) (lv xs) := by cases neg <;> simp [sgn]
    rw [H]
    clear H
    go_enter Tryz.func128, Tryz.ntmps128
    go_wp2
    exact bodyPost_ret (v := zB (!neg) ⟨b, o, none⟩ xs.length cap) (by simp [results, Tryz.results128, go_sem]) rfl
      ⟨_, rfl, .inr ⟨!neg, b, o, cap, xs, rfl, h1, h2, ((h3.later (x1 _ _)).later (x1 _ _)).later (x1 _ _), h4, h5, h6, rfl⟩, xa (xa (x1 _ _) _) _⟩

/-- A value that is no uint32. -/
def No32 (u : Value) : Prop := ∀ n, u ≠ .int .u32 n
theorem C32.apart {w : World} {b o : Nat} {xs : List Int} {p : Addr} {u : Value} (h : C32 w b o xs) (hp : w.cell? p = some u) (hu : No32 u) : ∀ i, i < xs.length → (⟨b, o + i, none⟩ : Addr) ≠ p := by
  rintro i hi rfl
  rw [h i hi] at hp
  exact hu _ (Option.some.inj hp).symm
theorem C32.set {w : World} {b o : Nat} {xs : List Int} {p : Addr} {u : Value} (h : C32 w b o xs) (hp : w.cell? p = some u) (hu : No32 u) (a : Value) : C32 (w.setCell p a) b o xs := fun i hi => by
  rw [World.cell?_setCell_other _ _ _ _ (h.apart hp hu i hi).symm]
  exact h i hi
theorem ZV.set {w : World} {v : Value} {z : Int} {p : Addr} {u : Value} (h : ZV w v z) (hp : w.cell? p = some u) (hu : No32 u) (a : Value) : ZV (w.setCell p a) v z := by
  rcases h with h | ⟨neg, b, o, cap, xs, e, h1, h2, h3, h4⟩
  · exact .inl h
  · exact .inr ⟨neg, b, o, cap, xs, e, h1, h2, h3.set hp hu a, h4⟩
theorem ZV.shape {w : World} {v : Value} {z : Int} (h : ZV w v z) : ∃ a0 a1 p n cap, v = .agg #[.int .i64 a0, .bool a1, .slice p n cap] := by
  rcases h with ⟨_, _, rfl⟩ | ⟨neg, b, o, cap, xs, rfl, _⟩
  · exact ⟨_, _, _, _, _, rfl⟩
  · exact ⟨_, _, _, _, _, rfl⟩
theorem no32_i64 (n : Int) : No32 (.int .i64 n) := fun _ h => by cases h
theorem no32_bool (n : Bool) : No32 (.bool n) := fun _ h => by cases h
theorem no32_slice (p : Option Addr) (n c : Nat) : No32 (.slice p n c) := fun _ h => by cases h

/-- A box of a number: its three cells. -/
abbrev ZBox (w : World) (b : Nat) : Prop := ∃ a0 a1 p n cap, Box3 w b (.int .i64 a0) (.bool a1) (.slice p n cap)
/-- Three cells stored. -/
abbrev set3 (w : World) (b : Nat) (a0 a1 a2 : Value) : World := ((w.setCell ⟨b, 0, none⟩ a0).setCell ⟨b, 1, none⟩ a1).setCell ⟨b, 2, none⟩ a2
theorem addr_ne {b i j : Nat} (h : i ≠ j) : (⟨b, i, none⟩ : Addr) ≠ ⟨b, j, none⟩ := fun e => h (by cases e; rfl)

/-- What was a number is one behind a store into a box. -/
theorem ZV.set3 {w : World} {v : Value} {z : Int} {b : Nat} {a0 : Int} {a1 : Bool} {p : Option Addr} {n cap : Nat} (h : ZV w v z) (hb : Box3 w b (.int .i64 a0) (.bool a1) (.slice p n cap)) (c0 c1 c2 : Value) : ZV (set3 w b c0 c1 c2) v z := by
  obtain ⟨⟨q0, q1, q2⟩, _⟩ := hb
  have k1 : (w.setCell ⟨b, 0, none⟩ c0).cell? ⟨b, 1, none⟩ = some (.bool a1) := by rw [World.cell?_setCell_other _ _ _ _ (addr_ne (by decide))]; exact q1
  have k2 : ((w.setCell ⟨b, 0, none⟩ c0).setCell ⟨b, 1, none⟩ c1).cell? ⟨b, 2, none⟩ = some (.slice p n cap) := by
    rw [World.cell?_setCell_other _ _ _ _ (addr_ne (by decide)), World.cell?_setCell_other _ _ _ _ (addr_ne (by decide))]; exact q2
  exact ((h.set q0 (no32_i64 _) _).set k1 (no32_bool _) _).set k2 (no32_slice _ _ _) _
theorem Ext.set3 {w w1 : World} {b : Nat} (h : Ext w w1) (hb : w.heap.size ≤ b) (c0 c1 c2 : Value) : Ext w (set3 w1 b c0 c1 c2) := xset (xset (xset h hb _) hb _) hb _

set_option maxHeartbeats 400000 in
theorem abs_any {v : Value} {z : Int} (w : World) (h : ZV w v z) :
    Calls Tryz.prog 106 #[v] w fun e w' => ∃ v', e = .returned v' ∧ ZV w' v' (z.natAbs : Int) ∧ Ext w w' := by
  obtain ⟨a0, a1, p, n, cap, rfl⟩ := h.shape
  by_cases hz : z < 0
  · have hd : decide (z < 0) = true := by simpa using hz
    have e1 : (z.natAbs : Int) = -z := by omega
    rw [e1]
    clear e1
    go_enter Tryz.func106, Tryz.ntmps106
    go_wp2_with fail
    refine (neg_any _ (h.later (xa (x1 _ _) _))).mono ?_
    rintro e w1 ⟨rfl, b1⟩
    obtain ⟨⟨q0, q1, q2⟩, _⟩ := ((Box3.made w (.int .i64 a0) (.bool a1) (.slice p n cap) 111).later (x1 _ _)).later b1
    go_wp2_with fail
    refine (minus_any _ ((h.later (xa (x1 _ _) _)).later b1)).mono ?_
    rintro e w2 ⟨v', rfl, hz2, b2⟩
    obtain ⟨a0', a1', p', n', cap', rfl⟩ := hz2.shape
    have B := ((Box3.made (w.alloc (.cells #[.int .i64 a0, .bool a1, .slice p n cap] 111)) (.int .i64 0) (.bool false) (.slice none 0 0) 111).later b1).later b2
    simp only [World.size_alloc] at B
    have Hz := hz2.set3 B (.int .i64 a0') (.bool a1') (.slice p' n' cap')
    have Hx := Ext.set3 (b := w.heap.size + 1) (xt (xt (xa (x1 _ _) _) b1) b2) (by omega) (.int .i64 a0') (.bool a1') (.slice p' n' cap')
    obtain ⟨⟨r0, r1, r2⟩, s0, s1, s2⟩ := B
    go_wp2
    exact bodyPost_ret (v := .agg #[.int .i64 a0', .bool a1', .slice p' n' cap']) (by simp [results, Tryz.results106, go_sem, r0, r1, r2]) rfl ⟨_, rfl, Hz, Hx⟩
  · have hd : decide (z < 0) = false := by simpa using hz
    have e1 : (z.natAbs : Int) = z := by omega
    rw [e1]
    clear e1
    go_enter Tryz.func106, Tryz.ntmps106
    go_wp2_with fail
    refine (neg_any _ (h.later (xa (x1 _ _) _))).mono ?_
    rintro e w1 ⟨rfl, b1⟩
    obtain ⟨⟨q0, q1, q2⟩, _⟩ := ((Box3.made w (.int .i64 a0) (.bool a1) (.slice p n cap) 111).later (x1 _ _)).later b1
    have B := (Box3.made (w.alloc (.cells #[.int .i64 a0, .bool a1, .slice p n cap] 111)) (.int .i64 0) (.bool false) (.slice none 0 0) 111).later b1
    simp only [World.size_alloc] at B
    have Hz := ((h.later (xa (x1 _ _) _)).later b1).set3 B (.int .i64 a0) (.bool a1) (.slice p n cap)
    have Hx := Ext.set3 (b := w.heap.size + 1) (xt (xa (x1 _ _) _) b1) (by omega) (.int .i64 a0) (.bool a1) (.slice p n cap)
    obtain ⟨⟨r0, r1, r2⟩, s0, s1, s2⟩ := B
    go_wp2
    exact bodyPost_ret (v := .agg #[.int .i64 a0, .bool a1, .slice p n cap]) (by simp [results, Tryz.results106, go_sem, r0, r1, r2]) rfl ⟨_, rfl, Hz, Hx⟩

set_option maxHeartbeats 400000 in
theorem abs64_any (n : Int) (w : World) (h1 : -1000000000000000000 < n) (h2 : n < 1000000000000000000) :
    Calls Tryz.prog 150 #[.int .i64 n] w fun e w' => e = .returned (.int .i64 (n.natAbs : Int)) ∧ w' = w := by
  go_enter Tryz.func150, Tryz.ntmps150
  go_wp2
  all_goals go_ret
  all_goals exact ⟨ret_int (by omega), rfl⟩

theorem abs64_eq (n x : Int) (w : World) (h1 : -1000000000000000000 < n) (h2 : n < 1000000000000000000) (hx : (n.natAbs : Int) = x) :
    Calls Tryz.prog 150 #[.int .i64 n] w fun e w' => e = .returned (.int .i64 x) ∧ w' = w := by
  rw [← hx]; exact abs64_any n w h1 h2

/-- Three limbs of one number. -/
theorem three (u : Int) (h1 : 1000000000000000000 ≤ u) (h2 : u < 9000000000000000000) :
    Lim [u % 1000000000, u / 1000000000 % 1000000000, u / 1000000000 / 1000000000] ∧ Top [u % 1000000000, u / 1000000000 % 1000000000, u / 1000000000 / 1000000000] ∧ lv [u % 1000000000, u / 1000000000 % 1000000000, u / 1000000000 / 1000000000] = u := by
  refine ⟨Lim.cons (by omega) (by omega) (Lim.cons (by omega) (by omega) (Lim.cons (by omega) (by omega) Lim.nil)), .inr ?_, ?_⟩
  · show u / 1000000000 / 1000000000 ≠ 0
    omega
  · simp only [lv]
    omega
theorem C32.three {w : World} {a b c : Int} {t : TypeId} {g : Nat} (hg : g = w.heap.size) : C32 (w.alloc (.cells #[.int .u32 a, .int .u32 b, .int .u32 c] t)) g 0 [a, b, c] := by
  subst hg
  intro i hi
  match i, hi with
  | 0, _ | 1, _ | 2, _ => simp [go_sem]
theorem C32.two {w : World} {a b : Int} {t : TypeId} {g : Nat} (hg : g = w.heap.size) : C32 (w.alloc (.cells #[.int .u32 a, .int .u32 b] t)) g 0 [a, b] := by
  subst hg
  intro i hi
  match i, hi with
  | 0, _ | 1, _ => simp [go_sem]
theorem C32.one {w : World} {a : Int} {t : TypeId} {g : Nat} (hg : g = w.heap.size) : C32 (w.alloc (.cells #[.int .u32 a] t)) g 0 [a] := by
  subst hg
  intro i hi
  match i, hi with
  | 0, _ => simp [go_sem]

set_option maxHeartbeats 400000 in
theorem small_any (z : Int) (w : World) (h1 : -9000000000000000000 < z) (h2 : z < 9000000000000000000) :
    Calls Tryz.prog 73 #[.int .i64 z] w fun e w' => ∃ v', e = .returned v' ∧ ZV w' v' z ∧ Ext w w' := by
  by_cases hs : -1000000000000000000 < z ∧ z < 1000000000000000000
  · obtain ⟨s1, s2⟩ := hs
    go_enter Tryz.func73, Tryz.ntmps73
    go_wp2
    exact bodyPost_ret (v := zS z) (by simp [results, Tryz.results73, go_sem]) rfl ⟨_, rfl, ZV.small s1 s2, x1 _ _⟩
  · by_cases hn : z < 0
    · obtain ⟨u, rfl⟩ : ∃ u, z = -u := ⟨-z, by omega⟩
      have u1 : 1000000000000000000 ≤ u := by omega
      have u2 : u < 9000000000000000000 := by omega
      clear hs h1 h2 hn
      go_enter Tryz.func73, Tryz.ntmps73
      go_wp2
      obtain ⟨t1, t2, t3⟩ := three u u1 u2
      refine bodyPost_ret (v := zB true ⟨w.heap.size + 1, 0, none⟩ 3 3) (by simp [results, Tryz.results73, go_sem]) rfl ⟨_, rfl, .inr ⟨true, w.heap.size + 1, 0, 3, _, rfl, by simp, by decide, C32.three (by simp), t1, by simp, t2, ?_⟩, xa (x1 _ _) _⟩
      rw [t3]; rfl
    · have u1 : 1000000000000000000 ≤ z := by omega
      have hd : decide (z < 0) = false := by simpa using hn
      clear hs hn h1
      go_enter Tryz.func73, Tryz.ntmps73
      go_wp2
      obtain ⟨t1, t2, t3⟩ := three z u1 h2
      refine bodyPost_ret (v := zB false ⟨w.heap.size + 1, 0, none⟩ 3 3) (by simp [results, Tryz.results73, go_sem]) rfl ⟨_, rfl, .inr ⟨false, w.heap.size + 1, 0, 3, _, rfl, by simp, by decide, C32.three (by simp), t1, by simp, t2, ?_⟩, xa (x1 _ _) _⟩
      rw [t3]; rfl

/-- What l1Limbs gives. -/
def Limbs (w : World) (v : Value) (u : Int) : Prop := ∃ xs, Row w v xs ∧ Lim xs ∧ Top xs ∧ lv xs = u
theorem Limbs.later {w w1 : World} {v : Value} {u : Int} (h : Limbs w v u) (hb : Ext w w1) : Limbs w1 v u := by
  obtain ⟨xs, h1, h2⟩ := h
  exact ⟨xs, h1.later hb, h2⟩
theorem Limbs.nil (w : World) : Limbs w (.slice none 0 0) 0 := ⟨[], ⟨none, 0, rfl, Nat.le_refl _, by decide, .inl ⟨rfl, rfl⟩⟩, Lim.nil, .inl rfl, rfl⟩
theorem Limbs.one {w : World} {u : Int} {t : TypeId} {g : Nat} (hg : g = w.heap.size) (h1 : 0 < u) (h2 : u < 1000000000) : Limbs (w.alloc (.cells #[.int .u32 u] t)) (.slice (some ⟨g, 0, none⟩) 1 1) u :=
  ⟨[u], ⟨_, 1, rfl, Nat.le_refl _, by decide, .inr ⟨g, 0, rfl, C32.one hg⟩⟩, Lim.cons (by omega) h2 Lim.nil, .inr (show u ≠ 0 by omega), by simp [lv]⟩
theorem Limbs.two {w : World} {u : Int} {t : TypeId} {g : Nat} (hg : g = w.heap.size) (h1 : 1000000000 ≤ u) (h2 : u < 1000000000000000000) :
    Limbs (w.alloc (.cells #[.int .u32 (u % 1000000000), .int .u32 (u / 1000000000)] t)) (.slice (some ⟨g, 0, none⟩) 2 2) u :=
  ⟨[u % 1000000000, u / 1000000000], ⟨_, 2, rfl, Nat.le_refl _, by decide, .inr ⟨g, 0, rfl, C32.two hg⟩⟩, Lim.cons (by omega) (by omega) (Lim.cons (by omega) (by omega) Lim.nil), .inr (show u / 1000000000 ≠ 0 by omega), by simp only [lv]; omega⟩

set_option maxHeartbeats 400000 in
theorem limbs_any {v : Value} {z : Int} (w : World) (h : ZV w v z) :
    Calls Tryz.prog 132 #[v] w fun e w' => ∃ v', e = .returned v' ∧ Limbs w' v' (z.natAbs : Int) ∧ Ext w w' := by
  rcases h with ⟨h1, h2, rfl⟩ | ⟨neg, b, o, cap, xs, rfl, h1, h2, h3, h4, h5, h6, rfl⟩
  · by_cases hn : z < 0
    · obtain ⟨u, rfl⟩ : ∃ u, z = -u := ⟨-z, by omega⟩
      have u1 : 0 < u := by omega
      have u2 : u < 1000000000000000000 := by omega
      have e1 : ((-u).natAbs : Int) = u := by omega
      rw [e1]
      clear h1 h2 hn e1
      by_cases hb : u < 1000000000
      · go_enter Tryz.func132, Tryz.ntmps132
        go_wp2
        go_ret
        exact ⟨_, rfl, Limbs.one (by simp) u1 hb, xa (x1 _ _) _⟩
      · go_enter Tryz.func132, Tryz.ntmps132
        go_wp2
        go_ret
        exact ⟨_, rfl, Limbs.two (by simp) (by omega) u2, xa (x1 _ _) _⟩
    · have e1 : (z.natAbs : Int) = z := by omega
      rw [e1]
      have u1 : 0 ≤ z := by omega
      clear h1 hn e1
      by_cases hz : z = 0
      · subst hz
        go_enter Tryz.func132, Tryz.ntmps132
        go_wp2
        go_ret
        exact ⟨_, rfl, Limbs.nil _, x1 _ _⟩
      · by_cases hb : z < 1000000000
        · go_enter Tryz.func132, Tryz.ntmps132
          go_wp2
          go_ret
          exact ⟨_, rfl, Limbs.one (by simp) (by omega) hb, xa (x1 _ _) _⟩
        · go_enter Tryz.func132, Tryz.ntmps132
          go_wp2
          go_ret
          exact ⟨_, rfl, Limbs.two (by simp) (by omega) h2, xa (x1 _ _) _⟩
  · have h9 : (0 : Int) < (xs.length : Int) := by omega
    have e1 : ((sgn neg (lv xs)).natAbs : Int) = lv xs := by
      have := lv_nonneg h4
      unfold sgn
      cases neg <;> simp <;> omega
    rw [e1]
    have L : Hid (∀ w1, Ext w w1 → Limbs w1 (.slice (some ⟨b, o, none⟩) xs.length cap) (lv xs)) := fun w1 hx => ⟨xs, ⟨_, cap, rfl, h1, h2, .inr ⟨b, o, rfl, h3.later hx⟩⟩, h4, h6, rfl⟩
    clear h4 h6 h3 e1
    go_enter Tryz.func132, Tryz.ntmps132
    go_wp2
    go_ret
    exact ⟨_, rfl, L.out _ (x1 _ _), x1 _ _⟩

theorem xdrewN {a b : World} (h : Ext a b) (n : Nat) : Ext a (b.drewN n) := ⟨h.os, h.tape, h.output, h.size, h.block⟩

set_option maxHeartbeats 2000000 in
theorem cmpD_any {va vb : Value} {xs ys : List Int} (w : World) (ha : Row w va xs) (hb : Row w vb ys) (lx : Lim xs) (ly : Lim ys) (tx : Top xs) (ty : Top ys) :
    Calls Tryz.prog 136 #[va, vb] w fun e w' => e = .returned (.int .i64 (cmpI (lv xs) (lv ys))) ∧ Ext w w' := by
  obtain ⟨px, cx, rfl, cx1, cx2, cx3⟩ := ha
  obtain ⟨py, cy, rfl, cy1, cy2, cy3⟩ := hb
  by_cases hl : xs.length < ys.length
  · have H := cmpI_lt (lv_len lx ly (ty.resolve_left (by omega)) hl)
    have h1 : (((xs.length : Int) != (ys.length : Int))) = true := by rw [bne_iff_ne]; omega
    have h2 : (xs.length : Int) < (ys.length : Int) := by omega
    rw [H]
    clear cx3 cy3 lx ly tx ty H
    go_enter Tryz.func136, Tryz.ntmps136
    go_wp2
    go_ret
    exact ⟨rfl, xr _⟩
  · by_cases hg : ys.length < xs.length
    · have H := cmpI_gt (lv_len ly lx (tx.resolve_left (by omega)) hg)
      have h1 : (((xs.length : Int) != (ys.length : Int))) = true := by rw [bne_iff_ne]; omega
      have h2 : ¬ (xs.length : Int) < (ys.length : Int) := by omega
      rw [H]
      clear cx3 cy3 lx ly tx ty H
      go_enter Tryz.func136, Tryz.ntmps136
      go_wp2
      go_ret
      exact ⟨rfl, xr _⟩
    · have he : ys.length = xs.length := by omega
      have h1 : (((xs.length : Int) != (xs.length : Int))) = false := by simp
      rw [he] at cy1 ⊢
      have HE : Hid (ys.length = xs.length) := he
      clear hl hg he tx ty
      go_enter Tryz.func136, Tryz.ntmps136
      go_wp2_with fail
      go_loopw [5] (fun i wr => ∃ m : Nat, m ≤ xs.length ∧ i = .int .i64 ((m : Int) - 1) ∧ xs.drop m = ys.drop m ∧ Ext w wr) (fun i _ => (intOf i + 1).toNat)
      case atStart => exact ⟨xs.length, Nat.le_refl _, rfl, by rw [List.drop_eq_nil_of_le (Nat.le_refl _), List.drop_eq_nil_of_le (by rw [HE.out]; exact Nat.le_refl _)], xr _⟩
      case round =>
        obtain ⟨m, hm, rfl, hd, X⟩ := hrel
        by_cases h0 : m = 0
        · subst h0
          have H : Hid (cmpI (lv xs) (lv ys) = 0) := by
            simp only [List.drop_zero] at hd
            rw [hd]; exact cmpI_eq _
          clear cx3 cy3 hd
          go_wp2
          go_ret
          exact ⟨ret_int H.out.symm, X⟩
        · obtain ⟨j, rfl⟩ : ∃ j, m = j + 1 := ⟨m - 1, by omega⟩
          have hj : j < xs.length := by omega
          obtain ⟨bx, ox, rfl, kx⟩ : ∃ b o, px = some ⟨b, o, none⟩ ∧ C32 w b o xs := by
            rcases cx3 with ⟨_, h⟩ | h
            · omega
            · exact h
          obtain ⟨by1, oy, rfl, ky⟩ : ∃ b o, py = some ⟨b, o, none⟩ ∧ C32 w b o ys := by
            rcases cy3 with ⟨_, h⟩ | h
            · omega
            · exact h
          have fx := (kx.later X) j hj
          have fy := (ky.later X) j (by rw [HE.out]; exact hj)
          have HT : Hid (xs.getD j 0 < ys.getD j 0 → lv xs < lv ys) := fun h => lv_top lx ly hj (by rw [HE.out]; exact hj) hd h
          have HG : Hid (ys.getD j 0 < xs.getD j 0 → lv ys < lv xs) := fun h => lv_top ly lx (by rw [HE.out]; exact hj) hj hd.symm h
          have HS : Hid (xs.getD j 0 = ys.getD j 0 → xs.drop j = ys.drop j) := fun h => drop_step hj (by rw [HE.out]; exact hj) hd h
          obtain ⟨x, ex⟩ : ∃ x, xs.getD j 0 = x := ⟨_, rfl⟩
          obtain ⟨y, ey⟩ : ∃ y, ys.getD j 0 = y := ⟨_, rfl⟩
          rw [ex] at fx HT HG HS
          rw [ey] at fy HT HG HS
          have ej : (((j + 1 : Nat) : Int) - 1) = (j : Int) := by omega
          rw [ej]
          have hj' : (j : Int) < (xs.length : Int) := by omega
          clear cx3 cy3 kx ky hd lx ly ex ey ej h0
          by_cases hxy : x < y
          · have H : Hid (cmpI (lv xs) (lv ys) = -1) := cmpI_lt (HT.out hxy)
            go_wp2_with fail
            go_quiet (fail)
            go_wp2
            go_ret
            exact ⟨ret_int H.out.symm, xdrewN X _⟩
          · by_cases hyx : y < x
            · have H : Hid (cmpI (lv xs) (lv ys) = 1) := cmpI_gt (HG.out hyx)
              go_wp2_with fail
              go_quiet (fail)
              go_wp2_with fail
              go_quiet (fail)
              go_wp2
              go_ret
              exact ⟨ret_int H.out.symm, xdrewN (xdrewN X _) _⟩
            · have H : Hid (xs.drop j = ys.drop j) := HS.out (by omega)
              go_wp2_with fail
              go_quiet (fail)
              go_wp2_with fail
              go_quiet (fail)
              go_wp2
              go_roundw
              case rel => exact ⟨j, by omega, by go_num, H.out, xdrewN X _⟩
              case measure => simp [intOf]

end Go.Proofs.YtbomplppgobkdaaGreatDoor

