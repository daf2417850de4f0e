/-
  The program's compareSizes: the walk.
-/
import Derived.Test.YtchpieciifhplaaGreatDoorCmpImpl
namespace Go.Proofs.YtchpieciifhplaaGreatDoor
open Go.RowKit

theorem raised_int {v : Value} {a : Nat} (n : Int) (h0 : 0 ≤ n) (hn : n ≤ 38) (w : World) (hv : WV v a) (hT : Tens w) (hlt : a * 10 ^ n.toNat < 340282366920938463463374607431768211456) :
    Calls Tryz.prog 54 #[v, .int .i64 n] w fun e w' => ∃ v', e = .returned v' ∧ WV v' (a * 10 ^ n.toNat) ∧ Ext w w' := by
  obtain ⟨m, rfl⟩ := Int.eq_ofNat_of_zero_le h0
  rw [Int.toNat_natCast] at *
  exact raised_any m (by omega) w hv hT hlt

/-- A number of one word. -/
theorem WV.low {v : Value} {n : Nat} (h : WV v n) (hn : n < 18446744073709551616) : v = .agg #[.int .u64 0, .int .u64 n] := by
  obtain ⟨h, l, rfl, h1, h2, h3⟩ := h
  obtain rfl : h = 0 := by omega
  obtain rfl : l = n := by omega
  rfl

/-- The lower word taken out of a value. -/
theorem field_lo (h l : Int) (w : World) : (Instr.field 69 (.agg #[.int .u64 h, .int .u64 l]) 1).run Tryz.prog w = .ok (.int .u64 l) w := by kernel_rfl

set_option maxRecDepth 100000 in
set_option maxHeartbeats 4000000 in
theorem compareSizes_any (na nb : Bool) (da db : Nat) (ea eb : Int) (w : World) (hda : da < 1000000000000000) (hdb : db < 1000000000000000) (ea0 : -300 ≤ ea) (ea1 : ea ≤ 300) (eb0 : -300 ≤ eb) (eb1 : eb ≤ 300) (hT : Tens w) :
    Calls Tryz.prog 35 #[.agg #[.bool na, .int .i64 da, .int .i64 ea], .agg #[.bool nb, .int .i64 db, .int .i64 eb]] w fun e w' => e = .returned (.int .i64 (cmpSize da ea db eb)) ∧ Ext w w' := by
  have Ba := (Box3.made w (.bool na) (.int .i64 da) (.int .i64 ea) 28).later (x1 _ (.cells #[.bool nb, .int .i64 db, .int .i64 eb] 28))
  have Bb := Box3.made (w.alloc (.cells #[.bool na, .int .i64 da, .int .i64 ea] 28)) (.bool nb) (.int .i64 db) (.int .i64 eb) 28
  simp only [World.size_alloc] at Bb
  have T := hT.later (xa (x1 w (.cells #[.bool na, .int .i64 da, .int .i64 ea] 28)) (.cells #[.bool nb, .int .i64 db, .int .i64 eb] 28))
  clear hT
  have Ba' := Ba
  have Bb' := Bb
  obtain ⟨⟨p0, p1, p2⟩, _⟩ := Ba'
  obtain ⟨⟨q0, q1, q2⟩, _⟩ := Bb'
  by_cases hz : da = 0 ∨ db = 0
  · have H : Hid (cmpI (da : Int) (db : Int) = cmpSize da ea db eb) := size_zero hz
    by_cases hza : da = 0
    · have c1 : (((da : Int)) == 0) = true := by rw [hza]; rfl
      clear hz hza
      go_enter Tryz.func35, Tryz.ntmps35
      go_wp2_with fail
      refine (compare_int _ _ _).mono ?_
      rintro e w1 ⟨rfl, rfl⟩
      go_wp2
      go_ret
      exact ⟨ret_int H.out, xa (x1 _ _) _⟩
    · have c1 : (((da : Int)) == 0) = false := by rw [beq_eq_false_iff_ne]; omega
      have c2 : (((db : Int)) == 0) = true := by rw [hz.resolve_left hza]; rfl
      clear hz hza
      go_enter Tryz.func35, Tryz.ntmps35
      go_wp2_with fail
      refine (compare_int _ _ _).mono ?_
      rintro e w1 ⟨rfl, rfl⟩
      go_wp2
      go_ret
      exact ⟨ret_int H.out, xa (x1 _ _) _⟩
  · have ha0 : 0 < da := by omega
    have hb0 : 0 < db := by omega
    have c1 : (((da : Int)) == 0) = false := by rw [beq_eq_false_iff_ne]; omega
    have c2 : (((db : Int)) == 0) = false := by rw [beq_eq_false_iff_ne]; omega
    clear hz
    go_enter Tryz.func35, Tryz.ntmps35
    go_wp2_with fail
    go_region_held3 (fun w' => (w'.cell? ⟨w.heap.size, 0, none⟩ = some (.bool na) ∧ w'.cell? ⟨w.heap.size, 1, none⟩ = some (.int .i64 da) ∧ w'.cell? ⟨w.heap.size, 2, none⟩ = some (.int .i64 ea)) ∧ w'.cell? ⟨w.heap.size + 1, 0, none⟩ = some (.bool nb) ∧ w'.cell? ⟨w.heap.size + 1, 1, none⟩ = some (.int .i64 db) ∧ w'.cell? ⟨w.heap.size + 1, 2, none⟩ = some (.int .i64 eb)) (go_keep)
      (first
        | (go_at_call_of 51 (Value.agg #[.bool na, .int .i64 da, .int .i64 ea]); refine (sizeOf_any na da ea _ hda).mono ?_; rintro e w1 ⟨v1, rfl, z1, e1⟩; have X1 := xt (xd (xr _)) e1; obtain ⟨⟨a10, a11, a12⟩, _⟩ := Ba.later X1; obtain ⟨⟨b10, b11, b12⟩, _⟩ := Bb.later X1)
        | (go_at_call_of 51 (Value.agg #[.bool nb, .int .i64 db, .int .i64 eb]); refine (sizeOf_any nb db eb _ hdb).mono ?_; rintro e w3 ⟨v3, rfl, z3, e3⟩; have X3 := xt X2 e3; obtain ⟨⟨a30, a31, a32⟩, _⟩ := Ba.later X3; obtain ⟨⟨b30, b31, b32⟩, _⟩ := Bb.later X3)
        | (go_at_call_of 52 v1; refine (length_any _ z1 (T.later X1)).mono ?_; rintro e w2 ⟨ka, rfl, ga, ka39, e2⟩; have X2 := xt X1 e2; obtain ⟨⟨a20, a21, a22⟩, _⟩ := Ba.later X2; obtain ⟨⟨b20, b21, b22⟩, _⟩ := Bb.later X2)
        | (go_at_call_of 52 v3; refine (length_any _ z3 (T.later X3)).mono ?_; rintro e w4 ⟨kb, rfl, gb, kb39, e4⟩; have X4 := xt X3 e4; obtain ⟨⟨a40, a41, a42⟩, _⟩ := Ba.later X4; obtain ⟨⟨b40, b41, b42⟩, _⟩ := Bb.later X4))
    have ka15 := ga.le15 hda
    have kb15 := gb.le15 hdb
    by_cases hne : ea + ka = eb + kb
    · have H : Hid (cmpI ((da * 10 ^ (15 - ka) : Nat) : Int) ((db * 10 ^ (15 - kb) : Nat) : Int) = cmpSize da ea db eb) := size_same ka15 kb15 hne
      have c3 : (cmpI (ea + (ka : Int)) (eb + (kb : Int)) != 0) = false := by rw [hne, cmpI_eq]; rfl
      have HN : Hid (ea + ka = eb + kb) := hne
      have fa := fit128 ga ka15
      have fb := fit128 gb kb15
      have na1 : ((15 : Int) - (ka : Int)).toNat = 15 - ka := by omega
      have nb1 : ((15 : Int) - (kb : Int)).toNat = 15 - kb := by omega
      obtain ⟨NA, hNA⟩ : ∃ N, da * 10 ^ (15 - ka) = N := ⟨_, rfl⟩
      obtain ⟨NB, hNB⟩ : ∃ N, db * 10 ^ (15 - kb) = N := ⟨_, rfl⟩
      rw [hNA] at fa H
      rw [hNB] at fb H
      have RA : Hid (∀ (v : Value) (w : World), WV v da → Tens w → Calls Tryz.prog 54 #[v, .int .i64 (15 - (ka : Int))] w fun e w' => e = .returned (.agg #[.int .u64 0, .int .u64 NA]) ∧ Ext w w') := fun v w hv hT => by
        refine (raised_int (15 - (ka : Int)) (by omega) (by omega) w hv hT (by rw [na1, hNA]; omega)).mono ?_
        rintro e w' ⟨v', rfl, hv', e'⟩
        rw [na1, hNA] at hv'
        exact ⟨by rw [hv'.low (by omega)], e'⟩
      have RB : Hid (∀ (v : Value) (w : World), WV v db → Tens w → Calls Tryz.prog 54 #[v, .int .i64 (15 - (kb : Int))] w fun e w' => e = .returned (.agg #[.int .u64 0, .int .u64 NB]) ∧ Ext w w') := fun v w hv hT => by
        refine (raised_int (15 - (kb : Int)) (by omega) (by omega) w hv hT (by rw [nb1, hNB]; omega)).mono ?_
        rintro e w' ⟨v', rfl, hv', e'⟩
        rw [nb1, hNB] at hv'
        exact ⟨by rw [hv'.low (by omega)], e'⟩
      have wka : IntKind.i64.wrap (15 - (ka : Int)) = 15 - (ka : Int) := by rw [IntKind.wrap_i64]; omega
      have wkb : IntKind.i64.wrap (15 - (kb : Int)) = 15 - (kb : Int) := by rw [IntKind.wrap_i64]; omega
      have hfl := field_lo
      clear hne hNA hNB na1 nb1
      go_wp2_with fail
      refine (compare_int _ _ _).mono ?_
      rintro e w1' ⟨rfl, hw⟩
      subst hw
      go_wp2_with fail
      go_region_held3 (fun w' => (w'.cell? ⟨w.heap.size, 0, none⟩ = some (.bool na) ∧ w'.cell? ⟨w.heap.size, 1, none⟩ = some (.int .i64 da) ∧ w'.cell? ⟨w.heap.size, 2, none⟩ = some (.int .i64 ea)) ∧ w'.cell? ⟨w.heap.size + 1, 0, none⟩ = some (.bool nb) ∧ w'.cell? ⟨w.heap.size + 1, 1, none⟩ = some (.int .i64 db) ∧ w'.cell? ⟨w.heap.size + 1, 2, none⟩ = some (.int .i64 eb)) (go_keep)
        (first
          | (go_at_call_of 51 (Value.agg #[.bool na, .int .i64 da, .int .i64 ea]); refine (sizeOf_any na da ea _ hda).mono ?_; rintro e w5 ⟨v5, rfl, z5, e5⟩; have X5 := xt X4 (xt (xd (xr _)) e5); obtain ⟨⟨a50, a51, a52⟩, _⟩ := Ba.later X5; obtain ⟨⟨b50, b51, b52⟩, _⟩ := Bb.later X5)
          | (go_at_call_of 51 (Value.agg #[.bool nb, .int .i64 db, .int .i64 eb]); refine (sizeOf_any nb db eb _ hdb).mono ?_; rintro e w7 ⟨v7, rfl, z7, e7⟩; have X7 := xt X6 e7; obtain ⟨⟨a70, a71, a72⟩, _⟩ := Ba.later X7; obtain ⟨⟨b70, b71, b72⟩, _⟩ := Bb.later X7)
          | (go_at_call_of 54 v5; refine (RA.out _ _ z5 (T.later X5)).mono ?_; rintro e w6 ⟨rfl, e6⟩; have X6 := xt X5 e6; obtain ⟨⟨a60, a61, a62⟩, _⟩ := Ba.later X6; obtain ⟨⟨b60, b61, b62⟩, _⟩ := Bb.later X6)
          | (go_at_call_of 54 v7; refine (RB.out _ _ z7 (T.later X7)).mono ?_; rintro e w8 ⟨rfl, e8⟩; have X8 := xt X7 e8; obtain ⟨⟨a80, a81, a82⟩, _⟩ := Ba.later X8; obtain ⟨⟨b80, b81, b82⟩, _⟩ := Bb.later X8)
          | (go_at_call 53; refine (compare_u64 _ _ _).mono ?_; rintro e w9 ⟨rfl, hw9⟩; subst hw9))
      all_goals
        go_wp2
        go_ret
        exact ⟨ret_int H.out, xt (xa (x1 _ _) _) (by assumption)⟩
    · have H : Hid (cmpI (ea + ka) (eb + kb) = cmpSize da ea db eb) := size_first ga gb ha0 hb0 hne
      have c3 : (cmpI (ea + (ka : Int)) (eb + (kb : Int)) != 0) = true := by
        rw [bne_iff_ne]
        unfold cmpI
        split <;> (try split) <;> omega
      go_wp2_with fail
      refine (compare_int _ _ _).mono ?_
      rintro e w1' ⟨rfl, hw⟩
      subst hw
      go_wp2
      go_ret
      exact ⟨ret_int H.out, xt (xa (x1 _ _) _) X4⟩

end Go.Proofs.YtchpieciifhplaaGreatDoor

