/-
  DvB, DvLaw in one.
-/
import Derived.Test.YtpoihneecafijaaDoorDvA
namespace Go.Proofs.YtpoihneecafijaaDoor
open Go.RowKit

theorem good_nought {n : Bool} {d e : Int} (h : goodB n d e = true) (hd : d = 0) : e = 0 ∧ n = false := by
  unfold goodB at h
  rw [if_pos hd] at h
  simp at h
  exact ⟨h.2, h.1⟩

set_option maxRecDepth 4000 in
set_option maxHeartbeats 2000000 in
theorem divI (na nb : Bool) (da ea db eb : Int) (w : World) (a1 : -9223372036854775808 ≤ da) (a2 : da ≤ 9223372036854775807) (b1 : -9223372036854775808 ≤ db) (b2 : db ≤ 9223372036854775807) (hT : Tens w) :
    Calls Tryd.prog 29 #[.agg #[.bool na, .int .i64 da, .int .i64 ea], .agg #[.bool nb, .int .i64 db, .int .i64 eb]] w fun r w' => r = .returned (resV (divR na da ea nb db eb)) ∧ Ext w w' := by
  by_cases hg : (goodB na da ea && goodB nb db eb && !(db == 0)) = true
  · unfold divR
    rw [if_pos hg]
    simp only [Bool.and_eq_true, Bool.not_eq_true', beq_eq_false_iff_ne] at hg
    obtain ⟨⟨ga, gb⟩, hd⟩ := hg
    obtain ⟨A, rfl⟩ := Int.eq_ofNat_of_zero_le (good_bd ga).1
    obtain ⟨B, rfl⟩ := Int.eq_ofNat_of_zero_le (good_bd gb).1
    rw [Int.toNat_natCast, Int.toNat_natCast]
    exact divI_good na nb A B ea eb w ga gb (by omega) hT
  · have hR : divR na da ea nb db eb = ⟨false, false, 0, 0⟩ := by unfold divR; rw [if_neg hg]; rfl
    rw [hR]
    have X0 := xa (xa (x1 w (.cells #[.bool na, .int .i64 da, .int .i64 ea] 25)) (.cells #[.bool nb, .int .i64 db, .int .i64 eb] 25)) (.cells #[.bool false, .bool false, .int .i64 0, .int .i64 0] 29)
    have Ba := (Box3.made w (.bool na) (.int .i64 da) (.int .i64 ea) 25).later (xa (x1 _ (.cells #[.bool nb, .int .i64 db, .int .i64 eb] 25)) (.cells #[.bool false, .bool false, .int .i64 0, .int .i64 0] 29))
    have Bb := (Box3.made (w.alloc (.cells #[.bool na, .int .i64 da, .int .i64 ea] 25)) (.bool nb) (.int .i64 db) (.int .i64 eb) 25).later (x1 _ (.cells #[.bool false, .bool false, .int .i64 0, .int .i64 0] 29))
    have Br := Box4.made ((w.alloc (.cells #[.bool na, .int .i64 da, .int .i64 ea] 25)).alloc (.cells #[.bool nb, .int .i64 db, .int .i64 eb] 25)) (.bool false) (.bool false) (.int .i64 0) (.int .i64 0) 29
    simp only [World.size_alloc] at Bb Br
    have T := hT.later X0
    clear hR hT
    go_enter Tryd.func29, Tryd.ntmps29
    go_wp2_with fail
    cases ga : goodB na da ea
    · refine (goodI_is false na da ea _ a1 a2 T ga).mono ?_
      rintro r w1 ⟨rfl, x1'⟩
      obtain ⟨⟨m0, m1, m2, m3⟩, n0, n1, n2, n3⟩ := Br.later x1'
      clear ga hg
      go_wp2_with fail
      exact bodyPost_ret (v := .agg #[.bool false, .bool false, .int .i64 0, .int .i64 0]) (by simp [results, Tryd.results29, go_sem, m0, m1, m2, m3]) rfl ⟨rfl, xset (xset (xset (xset (xt X0 x1') (by simp only; omega) _) (by simp only; omega) _) (by simp only; omega) _) (by simp only; omega) _⟩
    · refine (goodI_is true na da ea _ a1 a2 T ga).mono ?_
      rintro r w1 ⟨rfl, x1'⟩
      have Bb1 := Bb.later x1'
      have Bb1' := Bb1
      obtain ⟨⟨q0, q1, q2⟩, _⟩ := Bb1'
      go_wp2_with fail
      cases gb : goodB nb db eb
      · refine (goodI_is false nb db eb _ b1 b2 (T.later x1') gb).mono ?_
        rintro r w2 ⟨rfl, x2'⟩
        obtain ⟨⟨m0, m1, m2, m3⟩, n0, n1, n2, n3⟩ := (Br.later x1').later x2'
        clear ga gb hg q0 q1 q2
        go_wp2_with fail
        exact bodyPost_ret (v := .agg #[.bool false, .bool false, .int .i64 0, .int .i64 0]) (by simp [results, Tryd.results29, go_sem, m0, m1, m2, m3]) rfl ⟨rfl, xset (xset (xset (xset (xt (xt X0 x1') x2') (by simp only; omega) _) (by simp only; omega) _) (by simp only; omega) _) (by simp only; omega) _⟩
      · refine (goodI_is true nb db eb _ b1 b2 (T.later x1') gb).mono ?_
        rintro r w2 ⟨rfl, x2'⟩
        have hd : db = 0 := by
          refine Classical.byContradiction fun h => hg ?_
          rw [ga, gb]
          simpa using h
        obtain ⟨he, hn⟩ := good_nought gb hd
        subst hd
        subst he
        subst hn
        obtain ⟨⟨r0, r1, r2⟩, _⟩ := Bb1.later x2'
        obtain ⟨⟨m0, m1, m2, m3⟩, n0, n1, n2, n3⟩ := (Br.later x1').later x2'
        clear ga gb hg q0 q1 q2
        go_wp2_with fail
        exact bodyPost_ret (v := .agg #[.bool false, .bool false, .int .i64 0, .int .i64 0]) (by simp [results, Tryd.results29, go_sem, m0, m1, m2, m3]) rfl ⟨rfl, xset (xset (xset (xset (xt (xt X0 x1') x2') (by simp only; omega) _) (by simp only; omega) _) (by simp only; omega) _) (by simp only; omega) _⟩

set_option maxRecDepth 4000 in
set_option maxHeartbeats 2000000 in
theorem divS (na nb : Bool) (da ea db eb : Int) (w : World) :
    Calls Tryd.prog 28 #[.agg #[.bool na, .int .i64 da, .int .i64 ea], .agg #[.bool nb, .int .i64 db, .int .i64 eb]] w fun r w' => r = .returned (resV (divR na da ea nb db eb)) ∧ Ext w w' := by
  by_cases hg : (goodB na da ea && goodB nb db eb && !(db == 0)) = true
  · unfold divR
    rw [if_pos hg]
    simp only [Bool.and_eq_true, Bool.not_eq_true', beq_eq_false_iff_ne] at hg
    obtain ⟨⟨ga, gb⟩, hd⟩ := hg
    obtain ⟨A, rfl⟩ := Int.eq_ofNat_of_zero_le (good_bd ga).1
    obtain ⟨B, rfl⟩ := Int.eq_ofNat_of_zero_le (good_bd gb).1
    rw [Int.toNat_natCast, Int.toNat_natCast]
    exact divS_good na nb A B ea eb w ga gb (by omega)
  · have hR : divR na da ea nb db eb = ⟨false, false, 0, 0⟩ := by unfold divR; rw [if_neg hg]; rfl
    rw [hR]
    have X0 := xa (xa (x1 w (.cells #[.bool na, .int .i64 da, .int .i64 ea] 25)) (.cells #[.bool nb, .int .i64 db, .int .i64 eb] 25)) (.cells #[.bool false, .bool false, .int .i64 0, .int .i64 0] 29)
    have Ba := (Box3.made w (.bool na) (.int .i64 da) (.int .i64 ea) 25).later (xa (x1 _ (.cells #[.bool nb, .int .i64 db, .int .i64 eb] 25)) (.cells #[.bool false, .bool false, .int .i64 0, .int .i64 0] 29))
    have Bb := (Box3.made (w.alloc (.cells #[.bool na, .int .i64 da, .int .i64 ea] 25)) (.bool nb) (.int .i64 db) (.int .i64 eb) 25).later (x1 _ (.cells #[.bool false, .bool false, .int .i64 0, .int .i64 0] 29))
    have Br := Box4.made ((w.alloc (.cells #[.bool na, .int .i64 da, .int .i64 ea] 25)).alloc (.cells #[.bool nb, .int .i64 db, .int .i64 eb] 25)) (.bool false) (.bool false) (.int .i64 0) (.int .i64 0) 29
    simp only [World.size_alloc] at Bb Br

    clear hR
    go_enter Tryd.func28, Tryd.ntmps28
    go_wp2_with fail
    cases ga : goodB na da ea
    · refine (good_is false na da ea _ ga).mono ?_
      rintro r w1 ⟨rfl, x1'⟩
      obtain ⟨⟨m0, m1, m2, m3⟩, n0, n1, n2, n3⟩ := Br.later x1'
      clear ga hg
      go_wp2_with fail
      exact bodyPost_ret (v := .agg #[.bool false, .bool false, .int .i64 0, .int .i64 0]) (by simp [results, Tryd.results28, go_sem, m0, m1, m2, m3]) rfl ⟨rfl, xset (xset (xset (xset (xt X0 x1') (by simp only; omega) _) (by simp only; omega) _) (by simp only; omega) _) (by simp only; omega) _⟩
    · refine (good_is true na da ea _ ga).mono ?_
      rintro r w1 ⟨rfl, x1'⟩
      have Bb1 := Bb.later x1'
      have Bb1' := Bb1
      obtain ⟨⟨q0, q1, q2⟩, _⟩ := Bb1'
      go_wp2_with fail
      cases gb : goodB nb db eb
      · refine (good_is false nb db eb _ gb).mono ?_
        rintro r w2 ⟨rfl, x2'⟩
        obtain ⟨⟨m0, m1, m2, m3⟩, n0, n1, n2, n3⟩ := (Br.later x1').later x2'
        clear ga gb hg q0 q1 q2
        go_wp2_with fail
        exact bodyPost_ret (v := .agg #[.bool false, .bool false, .int .i64 0, .int .i64 0]) (by simp [results, Tryd.results28, go_sem, m0, m1, m2, m3]) rfl ⟨rfl, xset (xset (xset (xset (xt (xt X0 x1') x2') (by simp only; omega) _) (by simp only; omega) _) (by simp only; omega) _) (by simp only; omega) _⟩
      · refine (good_is true nb db eb _ gb).mono ?_
        rintro r w2 ⟨rfl, x2'⟩
        have hd : db = 0 := by
          refine Classical.byContradiction fun h => hg ?_
          rw [ga, gb]
          simpa using h
        obtain ⟨he, hn⟩ := good_nought gb hd
        subst hd
        subst he
        subst hn
        obtain ⟨⟨r0, r1, r2⟩, _⟩ := Bb1.later x2'
        obtain ⟨⟨m0, m1, m2, m3⟩, n0, n1, n2, n3⟩ := (Br.later x1').later x2'
        clear ga gb hg q0 q1 q2
        go_wp2_with fail
        exact bodyPost_ret (v := .agg #[.bool false, .bool false, .int .i64 0, .int .i64 0]) (by simp [results, Tryd.results28, go_sem, m0, m1, m2, m3]) rfl ⟨rfl, xset (xset (xset (xset (xt (xt X0 x1') x2') (by simp only; omega) _) (by simp only; omega) _) (by simp only; omega) _) (by simp only; omega) _⟩

set_option maxRecDepth 4000 in
set_option maxHeartbeats 4000000 in
theorem lawDecDiv (n0 : Bool) (d0 e0 : Int) (n1 : Bool) (d1 e1 : Int) (w : World) (a0 : -9223372036854775808 ≤ d0) (b0 : d0 ≤ 9223372036854775807) (a1 : -9223372036854775808 ≤ d1) (b1 : d1 ≤ 9223372036854775807) (hT : Tens w) :
    Calls Tryd.prog 8 #[.agg #[.bool n0, .int .i64 d0, .int .i64 e0], .agg #[.bool n1, .int .i64 d1, .int .i64 e1]] w fun r w' => r = .returned (.bool true) ∧ Ext w w' := by
  have X0 : Ext w ((w.alloc (.cells #[.bool n0, .int .i64 d0, .int .i64 e0] 23)).alloc (.cells #[.bool n1, .int .i64 d1, .int .i64 e1] 23)) := xa (xa (xr w) (.cells #[.bool n0, .int .i64 d0, .int .i64 e0] 23)) (.cells #[.bool n1, .int .i64 d1, .int .i64 e1] 23)
  have B0 := (Box3.made w (.bool n0) (.int .i64 d0) (.int .i64 e0) 23).later (xa (xr _) (.cells #[.bool n1, .int .i64 d1, .int .i64 e1] 23))
  have B1 := (Box3.made (w.alloc (.cells #[.bool n0, .int .i64 d0, .int .i64 e0] 23)) (.bool n1) (.int .i64 d1) (.int .i64 e1) 23).later (xr _)
  simp only [World.size_alloc] at B1
  have T := hT.later X0
  obtain ⟨w0, hw0⟩ : ∃ u, ((w.alloc (.cells #[.bool n0, .int .i64 d0, .int .i64 e0] 23)).alloc (.cells #[.bool n1, .int .i64 d1, .int .i64 e1] 23)) = u := ⟨_, rfl⟩
  rw [hw0] at X0 T B0 B1
  obtain ⟨R, hR⟩ : ∃ R, divR n0 d0 e0 n1 d1 e1 = R := ⟨_, rfl⟩
  have CS : Hid (∀ w2, Calls Tryd.prog 28 #[.agg #[.bool n0, .int .i64 d0, .int .i64 e0], .agg #[.bool n1, .int .i64 d1, .int .i64 e1]] w2 fun r w' => r = .returned (.agg #[.bool R.ok, .bool R.neg, .int .i64 R.d, .int .i64 R.e]) ∧ Ext w2 w') := fun w2 => by rw [← hR]; exact divS n0 n1 d0 e0 d1 e1 w2
  have CI : Hid (∀ w2, Tens w2 → Calls Tryd.prog 29 #[.agg #[.bool n0, .int .i64 d0, .int .i64 e0], .agg #[.bool n1, .int .i64 d1, .int .i64 e1]] w2 fun r w' => r = .returned (.agg #[.bool R.ok, .bool R.neg, .int .i64 R.d, .int .i64 R.e]) ∧ Ext w2 w') := fun w2 hT => by rw [← hR]; exact divI n0 n1 d0 e0 d1 e1 w2 a0 b0 a1 b1 hT
  obtain ⟨Ro, Rn, Rd, Re⟩ := R
  simp only at CS CI
  clear hT hR a0 b0 a1 b1
  go_enter Tryd.func8, Tryd.ntmps8
  have C0 := B0
  have C1 := B1
  have Tw0 := T
  go_upto_region 1 with fail
  clear hw0
  go_cut [5] (fun v wc => ∃ b, v = .pointer (some ⟨b, 0, none⟩) ∧ w0.heap.size ≤ b ∧ Box4 wc b (.bool Ro) (.bool Rn) (.int .i64 Rd) (.int .i64 Re) ∧ Ext w0 wc)
  case first =>
    have K0 := C0
    obtain ⟨⟨p00, p01, p02⟩, _⟩ := K0
    have ne0 := World.new_ne w0 _ p00
    have K1 := C1
    obtain ⟨⟨p10, p11, p12⟩, _⟩ := K1
    have ne1 := World.new_ne w0 _ p10
    go_region_held3 (fun w' => (w'.cell? ⟨w.heap.size, 0, none⟩ = some (.bool n0) ∧ w'.cell? ⟨w.heap.size, 1, none⟩ = some (.int .i64 d0) ∧ w'.cell? ⟨w.heap.size, 2, none⟩ = some (.int .i64 e0)) ∧ (w'.cell? ⟨w.heap.size + 1, 0, none⟩ = some (.bool n1) ∧ w'.cell? ⟨w.heap.size + 1, 1, none⟩ = some (.int .i64 d1) ∧ w'.cell? ⟨w.heap.size + 1, 2, none⟩ = some (.int .i64 e1))) (go_keep) (first
      | (go_at_call_of 17 (Value.agg #[.bool n0, .int .i64 d0, .int .i64 e0]); refine (toDec n0 d0 e0 _).mono ?_; rintro r w0k0 ⟨rfl, f0⟩; have Xw0k0 : Ext w0 w0k0 := xt (by first | exact xd (xr _) | exact xd (xa (xr _) _) | exact xr _ | exact xa (xr _) _) f0; obtain ⟨⟨c000, c001, c002⟩, _⟩ := C0.later Xw0k0; have nn00 := World.new_ne w0k0 _ c000; obtain ⟨⟨c010, c011, c012⟩, _⟩ := C1.later Xw0k0; have nn01 := World.new_ne w0k0 _ c010; (first | (have RB0 : Box4 w0k0 w0.heap.size (.bool false) (.bool false) (.int .i64 0) (.int .i64 0) := (by exact (Box4.made w0 (.bool false) (.bool false) (.int .i64 0) (.int .i64 0) 29).later (xt (by first | exact xd (xr _) | exact xr _) f0))) | skip))
      | (go_at_call_of 17 (Value.agg #[.bool n1, .int .i64 d1, .int .i64 e1]); refine (toDec n1 d1 e1 _).mono ?_; rintro r w0k1 ⟨rfl, f1⟩; have Xw0k1 : Ext w0 w0k1 := xt (by first | exact Xw0k0 | exact xa Xw0k0 _) f1; obtain ⟨⟨c100, c101, c102⟩, _⟩ := C0.later Xw0k1; have nn10 := World.new_ne w0k1 _ c100; obtain ⟨⟨c110, c111, c112⟩, _⟩ := C1.later Xw0k1; have nn11 := World.new_ne w0k1 _ c110; (first | (have RB1 : Box4 w0k1 w0.heap.size (.bool false) (.bool false) (.int .i64 0) (.int .i64 0) := (by exact RB0.later f1)) | (have RB1 : Box4 w0k1 w0k0.heap.size (.bool false) (.bool false) (.int .i64 0) (.int .i64 0) := (by exact (Box4.made w0k0 (.bool false) (.bool false) (.int .i64 0) (.int .i64 0) 29).later f1)) | skip))
      | (go_at_call 28; refine (CS.out _).mono ?_; rintro r w0k2 ⟨rfl, f2⟩; have Xw0k2 : Ext w0 w0k2 := xt (by first | exact Xw0k1 | exact xa Xw0k1 _) f2; obtain ⟨⟨c200, c201, c202⟩, _⟩ := C0.later Xw0k2; have nn20 := World.new_ne w0k2 _ c200; obtain ⟨⟨c210, c211, c212⟩, _⟩ := C1.later Xw0k2; have nn21 := World.new_ne w0k2 _ c210; (first | (have RB2 : Box4 w0k2 w0.heap.size (.bool false) (.bool false) (.int .i64 0) (.int .i64 0) := (by exact RB1.later f2)) | (have RB2 : Box4 w0k2 w0k0.heap.size (.bool false) (.bool false) (.int .i64 0) (.int .i64 0) := (by exact RB1.later f2)) | (have RB2 : Box4 w0k2 w0k1.heap.size (.bool false) (.bool false) (.int .i64 0) (.int .i64 0) := (by exact (Box4.made w0k1 (.bool false) (.bool false) (.int .i64 0) (.int .i64 0) 29).later f2)) | skip); (try have RK := RB2; try obtain ⟨⟨z0, z1, z2, z3⟩, y0, y1, y2, y3⟩ := RK)))
    all_goals
      have SS0 := Xw0k0.size
      have SS1 := Xw0k1.size
      go_wp2_with fail
      go_meet
      case rel =>
        first
        | (refine ⟨w0k2.heap.size, rfl, Xw0k2.size, ?_, ?_⟩; exact Box4.made w0k2 _ _ _ _ _; exact xa Xw0k2 _)
        | (refine ⟨w0.heap.size, rfl, (Nat.le_refl _), ?_, ?_⟩; exact RB2.put4 _ _ _ _; exact xset (xset (xset (xset Xw0k2 (Nat.le_refl _) _) (Nat.le_refl _) _) (Nat.le_refl _) _) (Nat.le_refl _) _)
        | (refine ⟨w0k0.heap.size, rfl, SS0, ?_, ?_⟩; exact RB2.put4 _ _ _ _; exact xset (xset (xset (xset Xw0k2 SS0 _) SS0 _) SS0 _) SS0 _)
        | (refine ⟨w0k1.heap.size, rfl, SS1, ?_, ?_⟩; exact RB2.put4 _ _ _ _; exact xset (xset (xset (xset Xw0k2 SS1 _) SS1 _) SS1 _) SS1 _)
  case rest =>
    obtain ⟨bw, rfl, hbw, Bw, X1⟩ := hcut
    rename World => w1
    replace C0 := C0.later X1
    replace C1 := C1.later X1
    have Tw1 := Tw0.later X1
    replace X0 := xt X0 X1
    clear Tw0 CS X1
    go_upto_region 2 with fail
    go_cut [6] (fun v wc => ∃ b, v = .pointer (some ⟨b, 0, none⟩) ∧ w1.heap.size ≤ b ∧ Box4 wc b (.bool Ro) (.bool Rn) (.int .i64 Rd) (.int .i64 Re) ∧ Ext w1 wc)
    case first =>
      have K0 := C0
      obtain ⟨⟨p00, p01, p02⟩, _⟩ := K0
      have ne0 := World.new_ne w1 _ p00
      have K1 := C1
      obtain ⟨⟨p10, p11, p12⟩, _⟩ := K1
      have ne1 := World.new_ne w1 _ p10
      go_region_held3 (fun w' => (w'.cell? ⟨w.heap.size, 0, none⟩ = some (.bool n0) ∧ w'.cell? ⟨w.heap.size, 1, none⟩ = some (.int .i64 d0) ∧ w'.cell? ⟨w.heap.size, 2, none⟩ = some (.int .i64 e0)) ∧ (w'.cell? ⟨w.heap.size + 1, 0, none⟩ = some (.bool n1) ∧ w'.cell? ⟨w.heap.size + 1, 1, none⟩ = some (.int .i64 d1) ∧ w'.cell? ⟨w.heap.size + 1, 2, none⟩ = some (.int .i64 e1))) (go_keep) (first
        | (go_at_call_of 17 (Value.agg #[.bool n0, .int .i64 d0, .int .i64 e0]); refine (toDec n0 d0 e0 _).mono ?_; rintro r w1k0 ⟨rfl, f0⟩; have Xw1k0 : Ext w1 w1k0 := xt (by first | exact xd (xr _) | exact xd (xa (xr _) _) | exact xr _ | exact xa (xr _) _) f0; obtain ⟨⟨c000, c001, c002⟩, _⟩ := C0.later Xw1k0; have nn00 := World.new_ne w1k0 _ c000; obtain ⟨⟨c010, c011, c012⟩, _⟩ := C1.later Xw1k0; have nn01 := World.new_ne w1k0 _ c010; (first | (have RB0 : Box4 w1k0 w1.heap.size (.bool false) (.bool false) (.int .i64 0) (.int .i64 0) := (by exact (Box4.made w1 (.bool false) (.bool false) (.int .i64 0) (.int .i64 0) 29).later (xt (by first | exact xd (xr _) | exact xr _) f0))) | skip))
        | (go_at_call_of 17 (Value.agg #[.bool n1, .int .i64 d1, .int .i64 e1]); refine (toDec n1 d1 e1 _).mono ?_; rintro r w1k1 ⟨rfl, f1⟩; have Xw1k1 : Ext w1 w1k1 := xt (by first | exact Xw1k0 | exact xa Xw1k0 _) f1; obtain ⟨⟨c100, c101, c102⟩, _⟩ := C0.later Xw1k1; have nn10 := World.new_ne w1k1 _ c100; obtain ⟨⟨c110, c111, c112⟩, _⟩ := C1.later Xw1k1; have nn11 := World.new_ne w1k1 _ c110; (first | (have RB1 : Box4 w1k1 w1.heap.size (.bool false) (.bool false) (.int .i64 0) (.int .i64 0) := (by exact RB0.later f1)) | (have RB1 : Box4 w1k1 w1k0.heap.size (.bool false) (.bool false) (.int .i64 0) (.int .i64 0) := (by exact (Box4.made w1k0 (.bool false) (.bool false) (.int .i64 0) (.int .i64 0) 29).later f1)) | skip))
        | (go_at_call 29; refine (CI.out _ (Tw1.later (by first | exact Xw1k1 | exact xa Xw1k1 _))).mono ?_; rintro r w1k2 ⟨rfl, f2⟩; have Xw1k2 : Ext w1 w1k2 := xt (by first | exact Xw1k1 | exact xa Xw1k1 _) f2; obtain ⟨⟨c200, c201, c202⟩, _⟩ := C0.later Xw1k2; have nn20 := World.new_ne w1k2 _ c200; obtain ⟨⟨c210, c211, c212⟩, _⟩ := C1.later Xw1k2; have nn21 := World.new_ne w1k2 _ c210; (first | (have RB2 : Box4 w1k2 w1.heap.size (.bool false) (.bool false) (.int .i64 0) (.int .i64 0) := (by exact RB1.later f2)) | (have RB2 : Box4 w1k2 w1k0.heap.size (.bool false) (.bool false) (.int .i64 0) (.int .i64 0) := (by exact RB1.later f2)) | (have RB2 : Box4 w1k2 w1k1.heap.size (.bool false) (.bool false) (.int .i64 0) (.int .i64 0) := (by exact (Box4.made w1k1 (.bool false) (.bool false) (.int .i64 0) (.int .i64 0) 29).later f2)) | skip); (try have RK := RB2; try obtain ⟨⟨z0, z1, z2, z3⟩, y0, y1, y2, y3⟩ := RK)))
      all_goals
        have SS0 := Xw1k0.size
        have SS1 := Xw1k1.size
        go_wp2_with fail
        go_meet
        case rel =>
          first
          | (refine ⟨w1k2.heap.size, rfl, Xw1k2.size, ?_, ?_⟩; exact Box4.made w1k2 _ _ _ _ _; exact xa Xw1k2 _)
          | (refine ⟨w1.heap.size, rfl, (Nat.le_refl _), ?_, ?_⟩; exact RB2.put4 _ _ _ _; exact xset (xset (xset (xset Xw1k2 (Nat.le_refl _) _) (Nat.le_refl _) _) (Nat.le_refl _) _) (Nat.le_refl _) _)
          | (refine ⟨w1k0.heap.size, rfl, SS0, ?_, ?_⟩; exact RB2.put4 _ _ _ _; exact xset (xset (xset (xset Xw1k2 SS0 _) SS0 _) SS0 _) SS0 _)
          | (refine ⟨w1k1.heap.size, rfl, SS1, ?_, ?_⟩; exact RB2.put4 _ _ _ _; exact xset (xset (xset (xset Xw1k2 SS1 _) SS1 _) SS1 _) SS1 _)
    case rest =>
      obtain ⟨bg, rfl, hbg, Bg, X2⟩ := hcut
      rename World => w2
      obtain ⟨⟨g0, g1, g2, g3⟩, _⟩ := Bg
      obtain ⟨⟨h0, h1, h2, h3⟩, _⟩ := Bw.later X2
      replace X0 := xt X0 X2
      go_wp2_with fail
      refine (eqRes_same Ro Rn Rd Re _).mono ?_
      rintro r w3 ⟨rfl, e3⟩
      go_wp2_with fail
      go_ret
      exact ⟨rfl, xt X0 e3⟩

end Go.Proofs.YtpoihneecafijaaDoor
