/-
  DrB, DrLaw in one.
-/
import Derived.Test.YtpoihneecafijaaDoorDrA
namespace Go.Proofs.YtpoihneecafijaaDoor
open Go.RowKit

theorem good_nought' {n : Bool} {d e : Int} (h : goodB n d e = true) (hd : d = 0) : e = 0 ∧ n = false := by
  unfold goodB at h
  rw [if_pos hd] at h
  simp at h
  exact ⟨h.2, h.1⟩
theorem rnd_nought (k c : Nat) : rndM k 0 c false = 0 := by
  have t0 := ten_pow_pos c
  have hr : restN 0 c false = 0 := by
    unfold restN
    rw [Nat.zero_mod]
    simp
    omega
  unfold rndM
  rw [hr, Nat.zero_div]
  have : goesOn k (decide (0 % 2 = 1)) 0 = false := by unfold goesOn; simp
  rw [this]
  simp

set_option maxRecDepth 4000 in
set_option maxHeartbeats 4000000 in
theorem roundS_bad (n : Bool) (d e p m : Int) (w : World) (hb : (goodB n d e && decide (-300 ≤ p ∧ p ≤ 300) && decide (0 ≤ m ∧ m ≤ 3)) = false) :
    Calls Tryd.prog 36 #[.agg #[.bool n, .int .i64 d, .int .i64 e], .int .i64 p, .int .i64 m] w fun r w' => r = .returned (resV badR) ∧ Ext w w' := by
  show Calls _ _ _ _ fun r w' => r = .returned (.agg #[.bool false, .bool false, .int .i64 0, .int .i64 0]) ∧ Ext w w'
  have X0 := xa (x1 w (.cells #[.bool n, .int .i64 d, .int .i64 e] 25)) (.cells #[.bool false, .bool false, .int .i64 0, .int .i64 0] 29)
  have Ba := (Box3.made w (.bool n) (.int .i64 d) (.int .i64 e) 25).later (x1 _ (.cells #[.bool false, .bool false, .int .i64 0, .int .i64 0] 29))
  have Br := Box4.made (w.alloc (.cells #[.bool n, .int .i64 d, .int .i64 e] 25)) (.bool false) (.bool false) (.int .i64 0) (.int .i64 0) 29
  simp only [World.size_alloc] at Br
  cases ga : goodB n d e
  · have GA : Hid (∀ w2, Calls Tryd.prog 16 #[.agg #[.bool n, .int .i64 d, .int .i64 e]] w2 fun e w' => e = .returned (.bool false) ∧ Ext w2 w') := fun w2 => good_is false n d e w2 ga
    clear ga hb
    go_enter Tryd.func36, Tryd.ntmps36
    go_wp2_with fail
    refine (GA.out _).mono ?_
    rintro rr w1 ⟨rfl, x1'⟩
    obtain ⟨⟨m0, m1, m2, m3⟩, n0, n1, n2, n3⟩ := Br.later x1'
    go_wp2_with fail
    exact bodyPost_ret (v := .agg #[.bool false, .bool false, .int .i64 0, .int .i64 0]) (by simp [results, Tryd.results36, go_sem, m0, m1, m2, m3]) rfl ⟨rfl, xset (xset (xset (xset (xt X0 x1') (by simp only; omega) _) (by simp only; omega) _) (by simp only; omega) _) (by simp only; omega) _⟩
  · have GA : Hid (∀ w2, Calls Tryd.prog 16 #[.agg #[.bool n, .int .i64 d, .int .i64 e]] w2 fun e w' => e = .returned (.bool true) ∧ Ext w2 w') := fun w2 => good_is true n d e w2 ga
    rw [ga, Bool.true_and] at hb
    clear ga
    by_cases h1 : p < -300
    · clear hb
      go_enter Tryd.func36, Tryd.ntmps36
      go_wp2_with fail
      refine (GA.out _).mono ?_
      rintro rr w1 ⟨rfl, x1'⟩
      obtain ⟨⟨m0, m1, m2, m3⟩, n0, n1, n2, n3⟩ := Br.later x1'
      go_wp2_with fail
      exact bodyPost_ret (v := .agg #[.bool false, .bool false, .int .i64 0, .int .i64 0]) (by simp [results, Tryd.results36, go_sem, m0, m1, m2, m3]) rfl ⟨rfl, xset (xset (xset (xset (xt X0 x1') (by simp only; omega) _) (by simp only; omega) _) (by simp only; omega) _) (by simp only; omega) _⟩
    · by_cases h2 : p > 300
      · clear hb
        go_enter Tryd.func36, Tryd.ntmps36
        go_wp2_with fail
        refine (GA.out _).mono ?_
        rintro rr w1 ⟨rfl, x1'⟩
        obtain ⟨⟨m0, m1, m2, m3⟩, n0, n1, n2, n3⟩ := Br.later x1'
        go_wp2_with fail
        exact bodyPost_ret (v := .agg #[.bool false, .bool false, .int .i64 0, .int .i64 0]) (by simp [results, Tryd.results36, go_sem, m0, m1, m2, m3]) rfl ⟨rfl, xset (xset (xset (xset (xt X0 x1') (by simp only; omega) _) (by simp only; omega) _) (by simp only; omega) _) (by simp only; omega) _⟩
      · by_cases h3 : m < 0
        · clear hb
          go_enter Tryd.func36, Tryd.ntmps36
          go_wp2_with fail
          refine (GA.out _).mono ?_
          rintro rr w1 ⟨rfl, x1'⟩
          obtain ⟨⟨m0, m1, m2, m3⟩, n0, n1, n2, n3⟩ := Br.later x1'
          go_wp2_with fail
          exact bodyPost_ret (v := .agg #[.bool false, .bool false, .int .i64 0, .int .i64 0]) (by simp [results, Tryd.results36, go_sem, m0, m1, m2, m3]) rfl ⟨rfl, xset (xset (xset (xset (xt X0 x1') (by simp only; omega) _) (by simp only; omega) _) (by simp only; omega) _) (by simp only; omega) _⟩
        · have h4 : m > 3 := by
            rw [decide_eq_true (⟨by omega, by omega⟩ : -300 ≤ p ∧ p ≤ 300), Bool.true_and, decide_eq_false_iff_not] at hb
            omega
          clear hb
          go_enter Tryd.func36, Tryd.ntmps36
          go_wp2_with fail
          refine (GA.out _).mono ?_
          rintro rr w1 ⟨rfl, x1'⟩
          obtain ⟨⟨m0, m1, m2, m3⟩, n0, n1, n2, n3⟩ := Br.later x1'
          go_wp2_with fail
          exact bodyPost_ret (v := .agg #[.bool false, .bool false, .int .i64 0, .int .i64 0]) (by simp [results, Tryd.results36, go_sem, m0, m1, m2, m3]) rfl ⟨rfl, xset (xset (xset (xset (xt X0 x1') (by simp only; omega) _) (by simp only; omega) _) (by simp only; omega) _) (by simp only; omega) _⟩

set_option maxRecDepth 4000 in
set_option maxHeartbeats 4000000 in
theorem roundS_same (n : Bool) (d e p m : Int) (w : World) (ga : goodB n d e = true) (h1 : ¬ p < -300) (h2 : ¬ p > 300) (h3 : ¬ m < 0) (h4 : ¬ m > 3) (hc : d = 0 ∨ -p - e ≤ 0) :
    Calls Tryd.prog 36 #[.agg #[.bool n, .int .i64 d, .int .i64 e], .int .i64 p, .int .i64 m] w fun r w' => r = .returned (resV ⟨true, n, d, e⟩) ∧ Ext w w' := by
  show Calls _ _ _ _ fun r w' => r = .returned (.agg #[.bool true, .bool n, .int .i64 d, .int .i64 e]) ∧ Ext w w'
  have X0 := xa (x1 w (.cells #[.bool n, .int .i64 d, .int .i64 e] 25)) (.cells #[.bool false, .bool false, .int .i64 0, .int .i64 0] 29)
  have Ba := (Box3.made w (.bool n) (.int .i64 d) (.int .i64 e) 25).later (x1 _ (.cells #[.bool false, .bool false, .int .i64 0, .int .i64 0] 29))
  have Br := Box4.made (w.alloc (.cells #[.bool n, .int .i64 d, .int .i64 e] 25)) (.bool false) (.bool false) (.int .i64 0) (.int .i64 0) 29
  simp only [World.size_alloc] at Br
  have GA : Hid (∀ w2, Calls Tryd.prog 16 #[.agg #[.bool n, .int .i64 d, .int .i64 e]] w2 fun e w' => e = .returned (.bool true) ∧ Ext w2 w') := fun w2 => good_is true n d e w2 ga
  obtain ⟨ga0, ga1, ga2, ga3⟩ := good_bd ga
  have wP : IntKind.i64.wrap (-p) = -p := by rw [IntKind.wrap_i64]; omega
  have wC : IntKind.i64.wrap (-p - e) = -p - e := by rw [IntKind.wrap_i64]; omega
  clear ga
  by_cases hd : d = 0
  · have hd' : (d == 0) = true := by rw [hd]; rfl
    clear hc
    subst hd
    go_enter Tryd.func36, Tryd.ntmps36
    go_wp2_with fail
    refine (GA.out _).mono ?_
    rintro rr w1 ⟨rfl, x1'⟩
    obtain ⟨⟨p0, p1, p2⟩, _⟩ := Ba.later x1'
    obtain ⟨⟨m0, m1, m2, m3⟩, n0, n1, n2, n3⟩ := Br.later x1'
    go_wp2_with fail
    exact bodyPost_ret (v := .agg #[.bool true, .bool n, .int .i64 0, .int .i64 e]) (by simp [results, Tryd.results36, go_sem, m0, m1, m2, m3]) rfl ⟨rfl, xset (xset (xset (xset (xt X0 x1') (by simp only; omega) _) (by simp only; omega) _) (by simp only; omega) _) (by simp only; omega) _⟩
  · have hd' : (d == 0) = false := by rw [beq_eq_false_iff_ne]; exact hd
    have hc' : -p - e ≤ 0 := by omega
    clear hc hd
    go_enter Tryd.func36, Tryd.ntmps36
    go_wp2_with fail
    refine (GA.out _).mono ?_
    rintro rr w1 ⟨rfl, x1'⟩
    obtain ⟨⟨p0, p1, p2⟩, _⟩ := Ba.later x1'
    obtain ⟨⟨m0, m1, m2, m3⟩, n0, n1, n2, n3⟩ := Br.later x1'
    go_wp2_with fail
    exact bodyPost_ret (v := .agg #[.bool true, .bool n, .int .i64 d, .int .i64 e]) (by simp [results, Tryd.results36, go_sem, m0, m1, m2, m3]) rfl ⟨rfl, xset (xset (xset (xset (xt X0 x1') (by simp only; omega) _) (by simp only; omega) _) (by simp only; omega) _) (by simp only; omega) _⟩

theorem roundS (n : Bool) (d e p m : Int) (w : World) :
    Calls Tryd.prog 36 #[.agg #[.bool n, .int .i64 d, .int .i64 e], .int .i64 p, .int .i64 m] w fun r w' => r = .returned (resV (roundR n d e p m)) ∧ Ext w w' := by
  cases hb : (goodB n d e && decide (-300 ≤ p ∧ p ≤ 300) && decide (0 ≤ m ∧ m ≤ 3))
  · have hR : roundR n d e p m = badR := by unfold roundR; rw [hb]; rfl
    rw [hR]
    exact roundS_bad n d e p m w hb
  · have hR : roundR n d e p m = rndR n d e p m.toNat := by unfold roundR; rw [hb]; rfl
    rw [hR]
    simp only [Bool.and_eq_true, decide_eq_true_eq] at hb
    obtain ⟨⟨ga, hp0, hp1⟩, hm0, hm1⟩ := hb
    by_cases hc : -p - e ≤ 0
    · unfold rndR
      rw [if_pos hc]
      exact roundS_same n d e p m w ga (by omega) (by omega) (by omega) (by omega) (Or.inr hc)
    · obtain ⟨c, hcc⟩ : ∃ c : Nat, -p - e = (c : Int) := ⟨(-p - e).toNat, by omega⟩
      obtain ⟨A, rfl⟩ := Int.eq_ofNat_of_zero_le (good_bd ga).1
      by_cases hd : (A : Int) = 0
      · have hz : rndR n A e p m.toNat = ⟨true, n, A, e⟩ := by
          unfold rndR
          obtain ⟨he, hn⟩ := good_nought' ga hd
          rw [if_neg hc, hd, show (0 : Int).toNat = 0 from rfl, rnd_nought, put_zero, he, hn]
        rw [hz]
        exact roundS_same n A e p m w ga (by omega) (by omega) (by omega) (by omega) (Or.inl hd)
      · unfold rndR
        rw [if_neg hc, hcc, Int.toNat_natCast, Int.toNat_natCast]
        exact roundS_cut n A e p m c w ga (by omega) (by omega) (by omega) (by omega) (by omega) hcc (by omega)

set_option maxRecDepth 4000 in
set_option maxHeartbeats 4000000 in
theorem lawDecRound (n0 : Bool) (d0 e0 : Int) (p m : Int) (w : World) (a0 : -9223372036854775808 ≤ d0) (b0 : d0 ≤ 9223372036854775807) (hT : Tens w) :
    Calls Tryd.prog 12 #[.agg #[.bool n0, .int .i64 d0, .int .i64 e0], .int .i64 p, .int .i64 m] w fun r w' => r = .returned (.bool true) ∧ Ext w w' := by
  have X0 : Ext w (w.alloc (.cells #[.bool n0, .int .i64 d0, .int .i64 e0] 23)) := xa (xr w) (.cells #[.bool n0, .int .i64 d0, .int .i64 e0] 23)
  have C0 := Box3.made w (.bool n0) (.int .i64 d0) (.int .i64 e0) 23
  have T := hT.later X0
  obtain ⟨w0, hw0⟩ : ∃ u, w.alloc (.cells #[.bool n0, .int .i64 d0, .int .i64 e0] 23) = u := ⟨_, rfl⟩
  rw [hw0] at X0 T C0
  obtain ⟨R, hR⟩ : ∃ R, roundR n0 d0 e0 p m = R := ⟨_, rfl⟩
  have CS : Hid (∀ w2, Calls Tryd.prog 36 #[.agg #[.bool n0, .int .i64 d0, .int .i64 e0], .int .i64 p, .int .i64 m] w2 fun r w' => r = .returned (.agg #[.bool R.ok, .bool R.neg, .int .i64 R.d, .int .i64 R.e]) ∧ Ext w2 w') := fun w2 => by rw [← hR]; exact roundS n0 d0 e0 p m w2
  have CI : Hid (∀ w2, Tens w2 → Calls Tryd.prog 37 #[.agg #[.bool n0, .int .i64 d0, .int .i64 e0], .int .i64 p, .int .i64 m] w2 fun r w' => r = .returned (.agg #[.bool R.ok, .bool R.neg, .int .i64 R.d, .int .i64 R.e]) ∧ Ext w2 w') := fun w2 hT => by rw [← hR]; exact roundI n0 d0 e0 p m w2 a0 b0 hT
  obtain ⟨Ro, Rn, Rd, Re⟩ := R
  simp only at CS CI
  clear hT hR a0 b0
  go_enter Tryd.func12, Tryd.ntmps12
  go_upto_region 1 with fail
  clear hw0
  go_cut [7] (fun v wc => ∃ b, v = .pointer (some ⟨b, 0, none⟩) ∧ Box4 wc b (.bool Ro) (.bool Rn) (.int .i64 Rd) (.int .i64 Re) ∧ Ext w0 wc)
  case first =>
    obtain ⟨⟨p00, p01, p02⟩, _⟩ := C0
    go_wp2_with fail
    refine (toDec n0 d0 e0 _).mono ?_
    rintro r w1 ⟨rfl, f0⟩
    go_wp2_with fail
    refine (CS.out _).mono ?_
    rintro r w2 ⟨rfl, f1⟩
    go_wp2_with fail
    go_meet
    case rel => exact ⟨w2.heap.size, rfl, Box4.made w2 _ _ _ _ _, xa (xt f0 f1) _⟩
  case rest =>
    obtain ⟨bw, rfl, Bw, X1⟩ := hcut
    rename World => w1
    replace C0 := C0.later X1
    have T1 := T.later X1
    replace X0 := xt X0 X1
    clear T CS X1
    go_upto_region 2 with fail
    go_cut [8] (fun v wc => ∃ b, v = .pointer (some ⟨b, 0, none⟩) ∧ Box4 wc b (.bool Ro) (.bool Rn) (.int .i64 Rd) (.int .i64 Re) ∧ Ext w1 wc)
    case first =>
      obtain ⟨⟨p00, p01, p02⟩, _⟩ := C0
      go_wp2_with fail
      refine (toDec n0 d0 e0 _).mono ?_
      rintro r w2 ⟨rfl, f0⟩
      go_wp2_with fail
      refine (CI.out _ (T1.later f0)).mono ?_
      rintro r w3 ⟨rfl, f1⟩
      go_wp2_with fail
      go_meet
      case rel => exact ⟨w3.heap.size, rfl, Box4.made w3 _ _ _ _ _, xa (xt f0 f1) _⟩
    case rest =>
      obtain ⟨bg, rfl, Bg, X2⟩ := hcut
      rename World => w2
      obtain ⟨⟨g0, g1, g2, g3⟩, _⟩ := Bg
      obtain ⟨⟨h0, h1, h2, h3⟩, _⟩ := Bw.later X2
      replace X0 := xt X0 X2
      go_wp2_with fail
      refine (eqRes_same Ro Rn Rd Re _).mono ?_
      rintro r w3 ⟨rfl, e3⟩
      go_wp2_with fail
      go_ret
      exact ⟨rfl, xt X0 e3⟩

end Go.Proofs.YtpoihneecafijaaDoor
