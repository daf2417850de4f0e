/-
  The program's numbers of two words, shortened in each mode; put.
-/
import Derived.Test.YtfkihaihbaobeaaGreatDoorImC
namespace Go.Proofs.YtfkihaihbaobeaaGreatDoor
open Go.RowKit

theorem odd_low {h l Q : Nat} (e : h * 18446744073709551616 + l = Q) : (((l : Int) % 2 == 1)) = decide (Q % 2 = 1) := by
  rw [Bool.eq_iff_iff, beq_iff_eq, decide_eq_true_eq]
  omega
theorem rnd_one (mode P n : Nat) (more : Bool) (hn : 1 ≤ n) : rndM mode P n more = P / 10 ^ n + if goesOn mode (decide (P / 10 ^ n % 2 = 1)) (rest1 (P / 10 ^ (n - 1) % 10) (more || decide (P % 10 ^ (n - 1) ≠ 0))) = true then 1 else 0 := by
  obtain ⟨m, rfl⟩ : ∃ m, n = m + 1 := ⟨n - 1, by omega⟩
  unfold rndM
  rw [rest_step, Nat.add_sub_cancel, rest1_eq]
theorem div_ten (P n : Nat) (hn : 1 ≤ n) : P / 10 ^ (n - 1) / 10 = P / 10 ^ n := by
  obtain ⟨m, rfl⟩ : ∃ m, n = m + 1 := ⟨n - 1, by omega⟩
  rw [Nat.add_sub_cancel, Nat.div_div_eq_div_mul, Nat.pow_succ]
theorem short_fit {P n : Nat} (h : P < 340282366920938463463374607431768211456) (hn : 1 ≤ n) : P / 10 ^ n + 1 < 340282366920938463463374607431768211456 := by
  have h1 := div_ten P n hn
  have h2 := Nat.div_le_self P (10 ^ (n - 1))
  rw [← h1]
  omega

set_option maxRecDepth 4000 in
set_option maxHeartbeats 2000000 in
theorem short_toEven {v : Value} {P : Nat} (n : Nat) (more : Bool) (w : World) (hv : WV v P) (n1 : 1 ≤ n) (hn : n ≤ 100000) (hT : Tens w) :
    Calls Tryz.prog 39 #[v, .int .i64 n, .bool more, Value.func (Fn.func 51) #[] #[]] w fun e w' => ∃ v', e = .returned v' ∧ WV v' (rndM 0 P n more) ∧ Ext w w' := by
  obtain ⟨h, l, rfl, h1, h2, e1⟩ := hv
  have LO : Hid (∀ w, Tens w → Calls Tryz.prog 75 #[.agg #[.int .u64 h, .int .u64 l], .int .i64 ((n : Int) - 1)] w fun e w' => ∃ h' l' : Nat, e = .returned (.tuple #[.agg #[.int .u64 h', .int .u64 l'], .bool (decide (P % 10 ^ (n - 1) ≠ 0))]) ∧ Hid (WV (.agg #[.int .u64 h', .int .u64 l']) (P / 10 ^ (n - 1))) ∧ Ext w w') := fun w hT => by
    have e : ((n : Int) - 1) = ((n - 1 : Nat) : Int) := by omega
    rw [e]
    refine (lowered_any (n - 1) w ⟨h, l, rfl, h1, h2, e1⟩ (by omega) hT).mono ?_
    rintro e w' ⟨v', rfl, hW, hx⟩
    have hW' := hW
    obtain ⟨h', l', rfl, _⟩ := hW
    exact ⟨h', l', rfl, hW', hx⟩
  have PB : Hid (P < 340282366920938463463374607431768211456) := by show P < _; omega
  have B := (Box2.made w (.int .u64 h) (.int .u64 l) 40).later (x1 _ (.cells #[.int .u64 0, .int .u64 0] 40))
  have Br := Box2.made (w.alloc (.cells #[.int .u64 h, .int .u64 l] 40)) (.int .u64 0) (.int .u64 0) 40
  simp only [World.size_alloc] at Br
  have T := hT.later (xa (x1 w (.cells #[.int .u64 h, .int .u64 l] 40)) (.cells #[.int .u64 0, .int .u64 0] 40))
  have X0 : Ext w ((w.alloc (.cells #[.int .u64 h, .int .u64 l] 40)).alloc (.cells #[.int .u64 0, .int .u64 0] 40)) := xa (x1 _ _) _
  clear e1 hT h1 h2
  go_enter Tryz.func39, Tryz.ntmps39
  go_wp2_with fail
  refine (LO.out _ T).mono ?_
  rintro e w1 ⟨h', l', rfl, W1, x1'⟩
  obtain ⟨lost, hlost⟩ : ∃ b : Bool, decide (P % 10 ^ (n - 1) ≠ 0) = b := ⟨_, rfl⟩
  rw [hlost]
  have HLo : Hid (decide (P % 10 ^ (n - 1) ≠ 0) = lost) := hlost
  have B1 := (B.later x1').put (.int .u64 h') (.int .u64 l')
  have Br1 := ((Br.later x1').far (p := ⟨w.heap.size, 0, none⟩) (show w.heap.size ≠ w.heap.size + 1 by omega) (.int .u64 h')).far (p := ⟨w.heap.size, 1, none⟩) (show w.heap.size ≠ w.heap.size + 1 by omega) (.int .u64 l')
  have X1 := xset (xset (xt X0 x1') (p := ⟨w.heap.size, 0, none⟩) (Nat.le_refl _) (.int .u64 h')) (p := ⟨w.heap.size, 1, none⟩) (Nat.le_refl _) (.int .u64 l')
  obtain ⟨⟨g0, g1⟩, j0, j1⟩ := B.later x1'
  obtain ⟨u1, hu1⟩ : ∃ u, (w1.setCell ⟨w.heap.size, 0, none⟩ (.int .u64 h')).setCell ⟨w.heap.size, 1, none⟩ (.int .u64 l') = u := ⟨_, rfl⟩
  rw [hu1] at B1 Br1 X1
  have B1' := B1
  obtain ⟨⟨a0, a1⟩, c0, c1⟩ := B1'
  clear hlost LO T X0
  go_wp2_with fail
  refine (over_any 10 _ W1.out (by decide) (by decide)).mono ?_
  rintro e w2 ⟨v2, rfl, hW2, x2'⟩
  rw [div_ten P n n1] at hW2
  obtain ⟨h2, l2, rfl, k1, k2, k3⟩ := hW2
  have W2 : Hid (WV (.agg #[.int .u64 h2, .int .u64 l2]) (P / 10 ^ n)) := ⟨h2, l2, rfl, k1, k2, k3⟩
  have OD := odd_low k3
  obtain ⟨d, hd⟩ : ∃ d, P / 10 ^ (n - 1) % 10 = d := ⟨_, rfl⟩
  rw [hd]
  have RN := rnd_one 0 P n more n1
  rw [hd, HLo.out, ← OD] at RN
  obtain ⟨od, hod⟩ : ∃ b : Bool, ((l2 : Int) % 2 == 1) = b := ⟨_, rfl⟩
  rw [hod] at RN
  obtain ⟨g, hg⟩ : ∃ b : Bool, goesOn 0 od (rest1 d (more || lost)) = b := ⟨_, rfl⟩
  rw [hg] at RN
  have MO : Hid (∀ w, Calls Tryz.prog 51 #[.bool od, .int .i64 (rest1 d (more || lost))] w fun e w' => e = .returned (.bool g) ∧ w' = w) := fun w => by rw [← hg]; exact toEven_any _ _ _
  have HRN : Hid (rndM 0 P n more = P / 10 ^ n + if g = true then 1 else 0) := RN
  have B2 := (B1.later x2').put (.int .u64 h2) (.int .u64 l2)
  have Br2 := ((Br1.later x2').far (p := ⟨w.heap.size, 0, none⟩) (show w.heap.size ≠ w.heap.size + 1 by omega) (.int .u64 h2)).far (p := ⟨w.heap.size, 1, none⟩) (show w.heap.size ≠ w.heap.size + 1 by omega) (.int .u64 l2)
  have X2 := xset (xset (xt X1 x2') (p := ⟨w.heap.size, 0, none⟩) (Nat.le_refl _) (.int .u64 h2)) (p := ⟨w.heap.size, 1, none⟩) (Nat.le_refl _) (.int .u64 l2)
  obtain ⟨⟨g0', g1'⟩, j0', j1'⟩ := B1.later x2'
  obtain ⟨u2, hu2⟩ : ∃ u, (w2.setCell ⟨w.heap.size, 0, none⟩ (.int .u64 h2)).setCell ⟨w.heap.size, 1, none⟩ (.int .u64 l2) = u := ⟨_, rfl⟩
  rw [hu2] at B2 Br2 X2
  have B2' := B2
  have Br2' := Br2
  obtain ⟨⟨a0', a1'⟩, c0', c1'⟩ := B2'
  obtain ⟨⟨r0, r1⟩, s0, s1⟩ := Br2'
  clear RN hg OD hd k3 hu1 g0 g1 j0 j1 a0 a1 c0 c1 B B1 Br Br1 x1' x2' X1 W1
  go_upto_region 3 with fail
  clear hu2 g0' g1' j0' j1'
  go_cut [34] (fun v wc => v = .bool g ∧ ∃ nq, wc = u2.drewN nq)
  case first =>
    cases more
    · simp only [Bool.false_or] at MO
      go_quiet (first | (go_at_call 77; exact Calls.quiet_of_same (restOf_any _ _ _)) | (go_at_call 51; exact Calls.quiet_of_same (MO.out _)))
      go_wp2_with fail
      go_meet
      case rel => exact ⟨rfl, _, rfl⟩
    · simp only [Bool.true_or] at MO
      go_quiet (first | (go_at_call 77; exact Calls.quiet_of_same (restOf_any _ _ _)) | (go_at_call 51; exact Calls.quiet_of_same (MO.out _)))
      go_wp2_with fail
      go_meet
      case rel => exact ⟨rfl, _, rfl⟩
  case rest =>
    obtain ⟨rfl, nq, hwc⟩ := hcut
    have X3 : Ext u2 wc := by rw [hwc]; exact xdrewN (xr _) _
    clear hwc hod MO
    have B3 := B2.later X3
    have Br3 := Br2.later X3
    have Br3' := Br3
    have B3' := B3
    obtain ⟨⟨a0, a1⟩, c0, c1⟩ := B3'
    obtain ⟨⟨r0', r1'⟩, s0', s1'⟩ := Br3'
    clear B2 Br2 a0' a1' c0' c1' r0 r1 s0 s1
    cases g
    · have HR : Hid (WV (.agg #[.int .u64 h2, .int .u64 l2]) (rndM 0 P n more)) := by rw [HRN.out]; exact W2.out
      go_wp2_with fail
      exact bodyPost_ret (v := .agg #[.int .u64 h2, .int .u64 l2]) (by simp [results, Tryz.results39, go_sem, r0', r1']) rfl ⟨_, rfl, HR.out, xset (xset (xt X2 X3) (Nat.le_succ _) _) (Nat.le_succ _) _⟩
    · go_wp2_with fail
      refine (plus_any _ W2.out (b := 1) ⟨0, 1, rfl, by decide, by decide, rfl⟩ (short_fit PB.out n1)).mono ?_
      rintro e w3 ⟨v3, rfl, hW3, x3'⟩
      have hW3' := hW3
      obtain ⟨h3, l3, rfl, _⟩ := hW3'
      have HR : Hid (WV (.agg #[.int .u64 h3, .int .u64 l3]) (rndM 0 P n more)) := by rw [HRN.out]; exact hW3
      have B4 := (B3.later x3').put (.int .u64 h3) (.int .u64 l3)
      have Br4 := ((Br3.later x3').far (p := ⟨w.heap.size, 0, none⟩) (show w.heap.size ≠ w.heap.size + 1 by omega) (.int .u64 h3)).far (p := ⟨w.heap.size, 1, none⟩) (show w.heap.size ≠ w.heap.size + 1 by omega) (.int .u64 l3)
      have X4 := xset (xset (xt (xt X2 X3) x3') (p := ⟨w.heap.size, 0, none⟩) (Nat.le_refl _) (.int .u64 h3)) (p := ⟨w.heap.size, 1, none⟩) (Nat.le_refl _) (.int .u64 l3)
      obtain ⟨⟨g0, g1⟩, j0, j1⟩ := B3.later x3'
      obtain ⟨u4, hu4⟩ : ∃ u, (w3.setCell ⟨w.heap.size, 0, none⟩ (.int .u64 h3)).setCell ⟨w.heap.size, 1, none⟩ (.int .u64 l3) = u := ⟨_, rfl⟩
      rw [hu4] at B4 Br4 X4
      obtain ⟨⟨b0, b1⟩, _⟩ := B4
      obtain ⟨⟨q0, q1⟩, z0, z1⟩ := Br4
      clear hW3 a0 a1 c0 c1 r0' r1' s0' s1' B3 Br3 x3' X2 X3
      go_wp2_with fail
      exact bodyPost_ret (v := .agg #[.int .u64 h3, .int .u64 l3]) (by simp [results, Tryz.results39, go_sem, q0, q1]) rfl ⟨_, rfl, HR.out, xset (xset X4 (Nat.le_succ _) _) (Nat.le_succ _) _⟩

set_option maxRecDepth 4000 in
set_option maxHeartbeats 2000000 in
theorem short_toAway {v : Value} {P : Nat} (n : Nat) (more : Bool) (w : World) (hv : WV v P) (n1 : 1 ≤ n) (hn : n ≤ 100000) (hT : Tens w) :
    Calls Tryz.prog 39 #[v, .int .i64 n, .bool more, Value.func (Fn.func 72) #[] #[]] w fun e w' => ∃ v', e = .returned v' ∧ WV v' (rndM 1 P n more) ∧ Ext w w' := by
  obtain ⟨h, l, rfl, h1, h2, e1⟩ := hv
  have LO : Hid (∀ w, Tens w → Calls Tryz.prog 75 #[.agg #[.int .u64 h, .int .u64 l], .int .i64 ((n : Int) - 1)] w fun e w' => ∃ h' l' : Nat, e = .returned (.tuple #[.agg #[.int .u64 h', .int .u64 l'], .bool (decide (P % 10 ^ (n - 1) ≠ 0))]) ∧ Hid (WV (.agg #[.int .u64 h', .int .u64 l']) (P / 10 ^ (n - 1))) ∧ Ext w w') := fun w hT => by
    have e : ((n : Int) - 1) = ((n - 1 : Nat) : Int) := by omega
    rw [e]
    refine (lowered_any (n - 1) w ⟨h, l, rfl, h1, h2, e1⟩ (by omega) hT).mono ?_
    rintro e w' ⟨v', rfl, hW, hx⟩
    have hW' := hW
    obtain ⟨h', l', rfl, _⟩ := hW
    exact ⟨h', l', rfl, hW', hx⟩
  have PB : Hid (P < 340282366920938463463374607431768211456) := by show P < _; omega
  have B := (Box2.made w (.int .u64 h) (.int .u64 l) 40).later (x1 _ (.cells #[.int .u64 0, .int .u64 0] 40))
  have Br := Box2.made (w.alloc (.cells #[.int .u64 h, .int .u64 l] 40)) (.int .u64 0) (.int .u64 0) 40
  simp only [World.size_alloc] at Br
  have T := hT.later (xa (x1 w (.cells #[.int .u64 h, .int .u64 l] 40)) (.cells #[.int .u64 0, .int .u64 0] 40))
  have X0 : Ext w ((w.alloc (.cells #[.int .u64 h, .int .u64 l] 40)).alloc (.cells #[.int .u64 0, .int .u64 0] 40)) := xa (x1 _ _) _
  clear e1 hT h1 h2
  go_enter Tryz.func39, Tryz.ntmps39
  go_wp2_with fail
  refine (LO.out _ T).mono ?_
  rintro e w1 ⟨h', l', rfl, W1, x1'⟩
  obtain ⟨lost, hlost⟩ : ∃ b : Bool, decide (P % 10 ^ (n - 1) ≠ 0) = b := ⟨_, rfl⟩
  rw [hlost]
  have HLo : Hid (decide (P % 10 ^ (n - 1) ≠ 0) = lost) := hlost
  have B1 := (B.later x1').put (.int .u64 h') (.int .u64 l')
  have Br1 := ((Br.later x1').far (p := ⟨w.heap.size, 0, none⟩) (show w.heap.size ≠ w.heap.size + 1 by omega) (.int .u64 h')).far (p := ⟨w.heap.size, 1, none⟩) (show w.heap.size ≠ w.heap.size + 1 by omega) (.int .u64 l')
  have X1 := xset (xset (xt X0 x1') (p := ⟨w.heap.size, 0, none⟩) (Nat.le_refl _) (.int .u64 h')) (p := ⟨w.heap.size, 1, none⟩) (Nat.le_refl _) (.int .u64 l')
  obtain ⟨⟨g0, g1⟩, j0, j1⟩ := B.later x1'
  obtain ⟨u1, hu1⟩ : ∃ u, (w1.setCell ⟨w.heap.size, 0, none⟩ (.int .u64 h')).setCell ⟨w.heap.size, 1, none⟩ (.int .u64 l') = u := ⟨_, rfl⟩
  rw [hu1] at B1 Br1 X1
  have B1' := B1
  obtain ⟨⟨a0, a1⟩, c0, c1⟩ := B1'
  clear hlost LO T X0
  go_wp2_with fail
  refine (over_any 10 _ W1.out (by decide) (by decide)).mono ?_
  rintro e w2 ⟨v2, rfl, hW2, x2'⟩
  rw [div_ten P n n1] at hW2
  obtain ⟨h2, l2, rfl, k1, k2, k3⟩ := hW2
  have W2 : Hid (WV (.agg #[.int .u64 h2, .int .u64 l2]) (P / 10 ^ n)) := ⟨h2, l2, rfl, k1, k2, k3⟩
  have OD := odd_low k3
  obtain ⟨d, hd⟩ : ∃ d, P / 10 ^ (n - 1) % 10 = d := ⟨_, rfl⟩
  rw [hd]
  have RN := rnd_one 1 P n more n1
  rw [hd, HLo.out, ← OD] at RN
  obtain ⟨od, hod⟩ : ∃ b : Bool, ((l2 : Int) % 2 == 1) = b := ⟨_, rfl⟩
  rw [hod] at RN
  obtain ⟨g, hg⟩ : ∃ b : Bool, goesOn 1 od (rest1 d (more || lost)) = b := ⟨_, rfl⟩
  rw [hg] at RN
  have MO : Hid (∀ w, Calls Tryz.prog 72 #[.bool od, .int .i64 (rest1 d (more || lost))] w fun e w' => e = .returned (.bool g) ∧ w' = w) := fun w => by rw [← hg]; exact toAway_any _ _ _
  have HRN : Hid (rndM 1 P n more = P / 10 ^ n + if g = true then 1 else 0) := RN
  have B2 := (B1.later x2').put (.int .u64 h2) (.int .u64 l2)
  have Br2 := ((Br1.later x2').far (p := ⟨w.heap.size, 0, none⟩) (show w.heap.size ≠ w.heap.size + 1 by omega) (.int .u64 h2)).far (p := ⟨w.heap.size, 1, none⟩) (show w.heap.size ≠ w.heap.size + 1 by omega) (.int .u64 l2)
  have X2 := xset (xset (xt X1 x2') (p := ⟨w.heap.size, 0, none⟩) (Nat.le_refl _) (.int .u64 h2)) (p := ⟨w.heap.size, 1, none⟩) (Nat.le_refl _) (.int .u64 l2)
  obtain ⟨⟨g0', g1'⟩, j0', j1'⟩ := B1.later x2'
  obtain ⟨u2, hu2⟩ : ∃ u, (w2.setCell ⟨w.heap.size, 0, none⟩ (.int .u64 h2)).setCell ⟨w.heap.size, 1, none⟩ (.int .u64 l2) = u := ⟨_, rfl⟩
  rw [hu2] at B2 Br2 X2
  have B2' := B2
  have Br2' := Br2
  obtain ⟨⟨a0', a1'⟩, c0', c1'⟩ := B2'
  obtain ⟨⟨r0, r1⟩, s0, s1⟩ := Br2'
  clear RN hg OD hd k3 hu1 g0 g1 j0 j1 a0 a1 c0 c1 B B1 Br Br1 x1' x2' X1 W1
  go_upto_region 3 with fail
  clear hu2 g0' g1' j0' j1'
  go_cut [34] (fun v wc => v = .bool g ∧ ∃ nq, wc = u2.drewN nq)
  case first =>
    cases more
    · simp only [Bool.false_or] at MO
      go_quiet (first | (go_at_call 77; exact Calls.quiet_of_same (restOf_any _ _ _)) | (go_at_call 72; exact Calls.quiet_of_same (MO.out _)))
      go_wp2_with fail
      go_meet
      case rel => exact ⟨rfl, _, rfl⟩
    · simp only [Bool.true_or] at MO
      go_quiet (first | (go_at_call 77; exact Calls.quiet_of_same (restOf_any _ _ _)) | (go_at_call 72; exact Calls.quiet_of_same (MO.out _)))
      go_wp2_with fail
      go_meet
      case rel => exact ⟨rfl, _, rfl⟩
  case rest =>
    obtain ⟨rfl, nq, hwc⟩ := hcut
    have X3 : Ext u2 wc := by rw [hwc]; exact xdrewN (xr _) _
    clear hwc hod MO
    have B3 := B2.later X3
    have Br3 := Br2.later X3
    have Br3' := Br3
    have B3' := B3
    obtain ⟨⟨a0, a1⟩, c0, c1⟩ := B3'
    obtain ⟨⟨r0', r1'⟩, s0', s1'⟩ := Br3'
    clear B2 Br2 a0' a1' c0' c1' r0 r1 s0 s1
    cases g
    · have HR : Hid (WV (.agg #[.int .u64 h2, .int .u64 l2]) (rndM 1 P n more)) := by rw [HRN.out]; exact W2.out
      go_wp2_with fail
      exact bodyPost_ret (v := .agg #[.int .u64 h2, .int .u64 l2]) (by simp [results, Tryz.results39, go_sem, r0', r1']) rfl ⟨_, rfl, HR.out, xset (xset (xt X2 X3) (Nat.le_succ _) _) (Nat.le_succ _) _⟩
    · go_wp2_with fail
      refine (plus_any _ W2.out (b := 1) ⟨0, 1, rfl, by decide, by decide, rfl⟩ (short_fit PB.out n1)).mono ?_
      rintro e w3 ⟨v3, rfl, hW3, x3'⟩
      have hW3' := hW3
      obtain ⟨h3, l3, rfl, _⟩ := hW3'
      have HR : Hid (WV (.agg #[.int .u64 h3, .int .u64 l3]) (rndM 1 P n more)) := by rw [HRN.out]; exact hW3
      have B4 := (B3.later x3').put (.int .u64 h3) (.int .u64 l3)
      have Br4 := ((Br3.later x3').far (p := ⟨w.heap.size, 0, none⟩) (show w.heap.size ≠ w.heap.size + 1 by omega) (.int .u64 h3)).far (p := ⟨w.heap.size, 1, none⟩) (show w.heap.size ≠ w.heap.size + 1 by omega) (.int .u64 l3)
      have X4 := xset (xset (xt (xt X2 X3) x3') (p := ⟨w.heap.size, 0, none⟩) (Nat.le_refl _) (.int .u64 h3)) (p := ⟨w.heap.size, 1, none⟩) (Nat.le_refl _) (.int .u64 l3)
      obtain ⟨⟨g0, g1⟩, j0, j1⟩ := B3.later x3'
      obtain ⟨u4, hu4⟩ : ∃ u, (w3.setCell ⟨w.heap.size, 0, none⟩ (.int .u64 h3)).setCell ⟨w.heap.size, 1, none⟩ (.int .u64 l3) = u := ⟨_, rfl⟩
      rw [hu4] at B4 Br4 X4
      obtain ⟨⟨b0, b1⟩, _⟩ := B4
      obtain ⟨⟨q0, q1⟩, z0, z1⟩ := Br4
      clear hW3 a0 a1 c0 c1 r0' r1' s0' s1' B3 Br3 x3' X2 X3
      go_wp2_with fail
      exact bodyPost_ret (v := .agg #[.int .u64 h3, .int .u64 l3]) (by simp [results, Tryz.results39, go_sem, q0, q1]) rfl ⟨_, rfl, HR.out, xset (xset X4 (Nat.le_succ _) _) (Nat.le_succ _) _⟩

set_option maxRecDepth 4000 in
set_option maxHeartbeats 2000000 in
theorem short_toDown {v : Value} {P : Nat} (n : Nat) (more : Bool) (w : World) (hv : WV v P) (n1 : 1 ≤ n) (hn : n ≤ 100000) (hT : Tens w) :
    Calls Tryz.prog 39 #[v, .int .i64 n, .bool more, Value.func (Fn.func 73) #[] #[]] w fun e w' => ∃ v', e = .returned v' ∧ WV v' (rndM 2 P n more) ∧ Ext w w' := by
  obtain ⟨h, l, rfl, h1, h2, e1⟩ := hv
  have LO : Hid (∀ w, Tens w → Calls Tryz.prog 75 #[.agg #[.int .u64 h, .int .u64 l], .int .i64 ((n : Int) - 1)] w fun e w' => ∃ h' l' : Nat, e = .returned (.tuple #[.agg #[.int .u64 h', .int .u64 l'], .bool (decide (P % 10 ^ (n - 1) ≠ 0))]) ∧ Hid (WV (.agg #[.int .u64 h', .int .u64 l']) (P / 10 ^ (n - 1))) ∧ Ext w w') := fun w hT => by
    have e : ((n : Int) - 1) = ((n - 1 : Nat) : Int) := by omega
    rw [e]
    refine (lowered_any (n - 1) w ⟨h, l, rfl, h1, h2, e1⟩ (by omega) hT).mono ?_
    rintro e w' ⟨v', rfl, hW, hx⟩
    have hW' := hW
    obtain ⟨h', l', rfl, _⟩ := hW
    exact ⟨h', l', rfl, hW', hx⟩
  have PB : Hid (P < 340282366920938463463374607431768211456) := by show P < _; omega
  have B := (Box2.made w (.int .u64 h) (.int .u64 l) 40).later (x1 _ (.cells #[.int .u64 0, .int .u64 0] 40))
  have Br := Box2.made (w.alloc (.cells #[.int .u64 h, .int .u64 l] 40)) (.int .u64 0) (.int .u64 0) 40
  simp only [World.size_alloc] at Br
  have T := hT.later (xa (x1 w (.cells #[.int .u64 h, .int .u64 l] 40)) (.cells #[.int .u64 0, .int .u64 0] 40))
  have X0 : Ext w ((w.alloc (.cells #[.int .u64 h, .int .u64 l] 40)).alloc (.cells #[.int .u64 0, .int .u64 0] 40)) := xa (x1 _ _) _
  clear e1 hT h1 h2
  go_enter Tryz.func39, Tryz.ntmps39
  go_wp2_with fail
  refine (LO.out _ T).mono ?_
  rintro e w1 ⟨h', l', rfl, W1, x1'⟩
  obtain ⟨lost, hlost⟩ : ∃ b : Bool, decide (P % 10 ^ (n - 1) ≠ 0) = b := ⟨_, rfl⟩
  rw [hlost]
  have HLo : Hid (decide (P % 10 ^ (n - 1) ≠ 0) = lost) := hlost
  have B1 := (B.later x1').put (.int .u64 h') (.int .u64 l')
  have Br1 := ((Br.later x1').far (p := ⟨w.heap.size, 0, none⟩) (show w.heap.size ≠ w.heap.size + 1 by omega) (.int .u64 h')).far (p := ⟨w.heap.size, 1, none⟩) (show w.heap.size ≠ w.heap.size + 1 by omega) (.int .u64 l')
  have X1 := xset (xset (xt X0 x1') (p := ⟨w.heap.size, 0, none⟩) (Nat.le_refl _) (.int .u64 h')) (p := ⟨w.heap.size, 1, none⟩) (Nat.le_refl _) (.int .u64 l')
  obtain ⟨⟨g0, g1⟩, j0, j1⟩ := B.later x1'
  obtain ⟨u1, hu1⟩ : ∃ u, (w1.setCell ⟨w.heap.size, 0, none⟩ (.int .u64 h')).setCell ⟨w.heap.size, 1, none⟩ (.int .u64 l') = u := ⟨_, rfl⟩
  rw [hu1] at B1 Br1 X1
  have B1' := B1
  obtain ⟨⟨a0, a1⟩, c0, c1⟩ := B1'
  clear hlost LO T X0
  go_wp2_with fail
  refine (over_any 10 _ W1.out (by decide) (by decide)).mono ?_
  rintro e w2 ⟨v2, rfl, hW2, x2'⟩
  rw [div_ten P n n1] at hW2
  obtain ⟨h2, l2, rfl, k1, k2, k3⟩ := hW2
  have W2 : Hid (WV (.agg #[.int .u64 h2, .int .u64 l2]) (P / 10 ^ n)) := ⟨h2, l2, rfl, k1, k2, k3⟩
  have OD := odd_low k3
  obtain ⟨d, hd⟩ : ∃ d, P / 10 ^ (n - 1) % 10 = d := ⟨_, rfl⟩
  rw [hd]
  have RN := rnd_one 2 P n more n1
  rw [hd, HLo.out, ← OD] at RN
  obtain ⟨od, hod⟩ : ∃ b : Bool, ((l2 : Int) % 2 == 1) = b := ⟨_, rfl⟩
  rw [hod] at RN
  obtain ⟨g, hg⟩ : ∃ b : Bool, goesOn 2 od (rest1 d (more || lost)) = b := ⟨_, rfl⟩
  rw [hg] at RN
  have MO : Hid (∀ w, Calls Tryz.prog 73 #[.bool od, .int .i64 (rest1 d (more || lost))] w fun e w' => e = .returned (.bool g) ∧ w' = w) := fun w => by rw [← hg]; exact toDown_any _ _ _
  have HRN : Hid (rndM 2 P n more = P / 10 ^ n + if g = true then 1 else 0) := RN
  have B2 := (B1.later x2').put (.int .u64 h2) (.int .u64 l2)
  have Br2 := ((Br1.later x2').far (p := ⟨w.heap.size, 0, none⟩) (show w.heap.size ≠ w.heap.size + 1 by omega) (.int .u64 h2)).far (p := ⟨w.heap.size, 1, none⟩) (show w.heap.size ≠ w.heap.size + 1 by omega) (.int .u64 l2)
  have X2 := xset (xset (xt X1 x2') (p := ⟨w.heap.size, 0, none⟩) (Nat.le_refl _) (.int .u64 h2)) (p := ⟨w.heap.size, 1, none⟩) (Nat.le_refl _) (.int .u64 l2)
  obtain ⟨⟨g0', g1'⟩, j0', j1'⟩ := B1.later x2'
  obtain ⟨u2, hu2⟩ : ∃ u, (w2.setCell ⟨w.heap.size, 0, none⟩ (.int .u64 h2)).setCell ⟨w.heap.size, 1, none⟩ (.int .u64 l2) = u := ⟨_, rfl⟩
  rw [hu2] at B2 Br2 X2
  have B2' := B2
  have Br2' := Br2
  obtain ⟨⟨a0', a1'⟩, c0', c1'⟩ := B2'
  obtain ⟨⟨r0, r1⟩, s0, s1⟩ := Br2'
  clear RN hg OD hd k3 hu1 g0 g1 j0 j1 a0 a1 c0 c1 B B1 Br Br1 x1' x2' X1 W1
  go_upto_region 3 with fail
  clear hu2 g0' g1' j0' j1'
  go_cut [34] (fun v wc => v = .bool g ∧ ∃ nq, wc = u2.drewN nq)
  case first =>
    cases more
    · simp only [Bool.false_or] at MO
      go_quiet (first | (go_at_call 77; exact Calls.quiet_of_same (restOf_any _ _ _)) | (go_at_call 73; exact Calls.quiet_of_same (MO.out _)))
      go_wp2_with fail
      go_meet
      case rel => exact ⟨rfl, _, rfl⟩
    · simp only [Bool.true_or] at MO
      go_quiet (first | (go_at_call 77; exact Calls.quiet_of_same (restOf_any _ _ _)) | (go_at_call 73; exact Calls.quiet_of_same (MO.out _)))
      go_wp2_with fail
      go_meet
      case rel => exact ⟨rfl, _, rfl⟩
  case rest =>
    obtain ⟨rfl, nq, hwc⟩ := hcut
    have X3 : Ext u2 wc := by rw [hwc]; exact xdrewN (xr _) _
    clear hwc hod MO
    have B3 := B2.later X3
    have Br3 := Br2.later X3
    have Br3' := Br3
    have B3' := B3
    obtain ⟨⟨a0, a1⟩, c0, c1⟩ := B3'
    obtain ⟨⟨r0', r1'⟩, s0', s1'⟩ := Br3'
    clear B2 Br2 a0' a1' c0' c1' r0 r1 s0 s1
    cases g
    · have HR : Hid (WV (.agg #[.int .u64 h2, .int .u64 l2]) (rndM 2 P n more)) := by rw [HRN.out]; exact W2.out
      go_wp2_with fail
      exact bodyPost_ret (v := .agg #[.int .u64 h2, .int .u64 l2]) (by simp [results, Tryz.results39, go_sem, r0', r1']) rfl ⟨_, rfl, HR.out, xset (xset (xt X2 X3) (Nat.le_succ _) _) (Nat.le_succ _) _⟩
    · go_wp2_with fail
      refine (plus_any _ W2.out (b := 1) ⟨0, 1, rfl, by decide, by decide, rfl⟩ (short_fit PB.out n1)).mono ?_
      rintro e w3 ⟨v3, rfl, hW3, x3'⟩
      have hW3' := hW3
      obtain ⟨h3, l3, rfl, _⟩ := hW3'
      have HR : Hid (WV (.agg #[.int .u64 h3, .int .u64 l3]) (rndM 2 P n more)) := by rw [HRN.out]; exact hW3
      have B4 := (B3.later x3').put (.int .u64 h3) (.int .u64 l3)
      have Br4 := ((Br3.later x3').far (p := ⟨w.heap.size, 0, none⟩) (show w.heap.size ≠ w.heap.size + 1 by omega) (.int .u64 h3)).far (p := ⟨w.heap.size, 1, none⟩) (show w.heap.size ≠ w.heap.size + 1 by omega) (.int .u64 l3)
      have X4 := xset (xset (xt (xt X2 X3) x3') (p := ⟨w.heap.size, 0, none⟩) (Nat.le_refl _) (.int .u64 h3)) (p := ⟨w.heap.size, 1, none⟩) (Nat.le_refl _) (.int .u64 l3)
      obtain ⟨⟨g0, g1⟩, j0, j1⟩ := B3.later x3'
      obtain ⟨u4, hu4⟩ : ∃ u, (w3.setCell ⟨w.heap.size, 0, none⟩ (.int .u64 h3)).setCell ⟨w.heap.size, 1, none⟩ (.int .u64 l3) = u := ⟨_, rfl⟩
      rw [hu4] at B4 Br4 X4
      obtain ⟨⟨b0, b1⟩, _⟩ := B4
      obtain ⟨⟨q0, q1⟩, z0, z1⟩ := Br4
      clear hW3 a0 a1 c0 c1 r0' r1' s0' s1' B3 Br3 x3' X2 X3
      go_wp2_with fail
      exact bodyPost_ret (v := .agg #[.int .u64 h3, .int .u64 l3]) (by simp [results, Tryz.results39, go_sem, q0, q1]) rfl ⟨_, rfl, HR.out, xset (xset X4 (Nat.le_succ _) _) (Nat.le_succ _) _⟩

set_option maxRecDepth 4000 in
set_option maxHeartbeats 2000000 in
theorem short_toUp {v : Value} {P : Nat} (n : Nat) (more : Bool) (w : World) (hv : WV v P) (n1 : 1 ≤ n) (hn : n ≤ 100000) (hT : Tens w) :
    Calls Tryz.prog 39 #[v, .int .i64 n, .bool more, Value.func (Fn.func 74) #[] #[]] w fun e w' => ∃ v', e = .returned v' ∧ WV v' (rndM 3 P n more) ∧ Ext w w' := by
  obtain ⟨h, l, rfl, h1, h2, e1⟩ := hv
  have LO : Hid (∀ w, Tens w → Calls Tryz.prog 75 #[.agg #[.int .u64 h, .int .u64 l], .int .i64 ((n : Int) - 1)] w fun e w' => ∃ h' l' : Nat, e = .returned (.tuple #[.agg #[.int .u64 h', .int .u64 l'], .bool (decide (P % 10 ^ (n - 1) ≠ 0))]) ∧ Hid (WV (.agg #[.int .u64 h', .int .u64 l']) (P / 10 ^ (n - 1))) ∧ Ext w w') := fun w hT => by
    have e : ((n : Int) - 1) = ((n - 1 : Nat) : Int) := by omega
    rw [e]
    refine (lowered_any (n - 1) w ⟨h, l, rfl, h1, h2, e1⟩ (by omega) hT).mono ?_
    rintro e w' ⟨v', rfl, hW, hx⟩
    have hW' := hW
    obtain ⟨h', l', rfl, _⟩ := hW
    exact ⟨h', l', rfl, hW', hx⟩
  have PB : Hid (P < 340282366920938463463374607431768211456) := by show P < _; omega
  have B := (Box2.made w (.int .u64 h) (.int .u64 l) 40).later (x1 _ (.cells #[.int .u64 0, .int .u64 0] 40))
  have Br := Box2.made (w.alloc (.cells #[.int .u64 h, .int .u64 l] 40)) (.int .u64 0) (.int .u64 0) 40
  simp only [World.size_alloc] at Br
  have T := hT.later (xa (x1 w (.cells #[.int .u64 h, .int .u64 l] 40)) (.cells #[.int .u64 0, .int .u64 0] 40))
  have X0 : Ext w ((w.alloc (.cells #[.int .u64 h, .int .u64 l] 40)).alloc (.cells #[.int .u64 0, .int .u64 0] 40)) := xa (x1 _ _) _
  clear e1 hT h1 h2
  go_enter Tryz.func39, Tryz.ntmps39
  go_wp2_with fail
  refine (LO.out _ T).mono ?_
  rintro e w1 ⟨h', l', rfl, W1, x1'⟩
  obtain ⟨lost, hlost⟩ : ∃ b : Bool, decide (P % 10 ^ (n - 1) ≠ 0) = b := ⟨_, rfl⟩
  rw [hlost]
  have HLo : Hid (decide (P % 10 ^ (n - 1) ≠ 0) = lost) := hlost
  have B1 := (B.later x1').put (.int .u64 h') (.int .u64 l')
  have Br1 := ((Br.later x1').far (p := ⟨w.heap.size, 0, none⟩) (show w.heap.size ≠ w.heap.size + 1 by omega) (.int .u64 h')).far (p := ⟨w.heap.size, 1, none⟩) (show w.heap.size ≠ w.heap.size + 1 by omega) (.int .u64 l')
  have X1 := xset (xset (xt X0 x1') (p := ⟨w.heap.size, 0, none⟩) (Nat.le_refl _) (.int .u64 h')) (p := ⟨w.heap.size, 1, none⟩) (Nat.le_refl _) (.int .u64 l')
  obtain ⟨⟨g0, g1⟩, j0, j1⟩ := B.later x1'
  obtain ⟨u1, hu1⟩ : ∃ u, (w1.setCell ⟨w.heap.size, 0, none⟩ (.int .u64 h')).setCell ⟨w.heap.size, 1, none⟩ (.int .u64 l') = u := ⟨_, rfl⟩
  rw [hu1] at B1 Br1 X1
  have B1' := B1
  obtain ⟨⟨a0, a1⟩, c0, c1⟩ := B1'
  clear hlost LO T X0
  go_wp2_with fail
  refine (over_any 10 _ W1.out (by decide) (by decide)).mono ?_
  rintro e w2 ⟨v2, rfl, hW2, x2'⟩
  rw [div_ten P n n1] at hW2
  obtain ⟨h2, l2, rfl, k1, k2, k3⟩ := hW2
  have W2 : Hid (WV (.agg #[.int .u64 h2, .int .u64 l2]) (P / 10 ^ n)) := ⟨h2, l2, rfl, k1, k2, k3⟩
  have OD := odd_low k3
  obtain ⟨d, hd⟩ : ∃ d, P / 10 ^ (n - 1) % 10 = d := ⟨_, rfl⟩
  rw [hd]
  have RN := rnd_one 3 P n more n1
  rw [hd, HLo.out, ← OD] at RN
  obtain ⟨od, hod⟩ : ∃ b : Bool, ((l2 : Int) % 2 == 1) = b := ⟨_, rfl⟩
  rw [hod] at RN
  obtain ⟨g, hg⟩ : ∃ b : Bool, goesOn 3 od (rest1 d (more || lost)) = b := ⟨_, rfl⟩
  rw [hg] at RN
  have MO : Hid (∀ w, Calls Tryz.prog 74 #[.bool od, .int .i64 (rest1 d (more || lost))] w fun e w' => e = .returned (.bool g) ∧ w' = w) := fun w => by rw [← hg]; exact toUp_any _ _ _
  have HRN : Hid (rndM 3 P n more = P / 10 ^ n + if g = true then 1 else 0) := RN
  have B2 := (B1.later x2').put (.int .u64 h2) (.int .u64 l2)
  have Br2 := ((Br1.later x2').far (p := ⟨w.heap.size, 0, none⟩) (show w.heap.size ≠ w.heap.size + 1 by omega) (.int .u64 h2)).far (p := ⟨w.heap.size, 1, none⟩) (show w.heap.size ≠ w.heap.size + 1 by omega) (.int .u64 l2)
  have X2 := xset (xset (xt X1 x2') (p := ⟨w.heap.size, 0, none⟩) (Nat.le_refl _) (.int .u64 h2)) (p := ⟨w.heap.size, 1, none⟩) (Nat.le_refl _) (.int .u64 l2)
  obtain ⟨⟨g0', g1'⟩, j0', j1'⟩ := B1.later x2'
  obtain ⟨u2, hu2⟩ : ∃ u, (w2.setCell ⟨w.heap.size, 0, none⟩ (.int .u64 h2)).setCell ⟨w.heap.size, 1, none⟩ (.int .u64 l2) = u := ⟨_, rfl⟩
  rw [hu2] at B2 Br2 X2
  have B2' := B2
  have Br2' := Br2
  obtain ⟨⟨a0', a1'⟩, c0', c1'⟩ := B2'
  obtain ⟨⟨r0, r1⟩, s0, s1⟩ := Br2'
  clear RN hg OD hd k3 hu1 g0 g1 j0 j1 a0 a1 c0 c1 B B1 Br Br1 x1' x2' X1 W1
  go_upto_region 3 with fail
  clear hu2 g0' g1' j0' j1'
  go_cut [34] (fun v wc => v = .bool g ∧ ∃ nq, wc = u2.drewN nq)
  case first =>
    cases more
    · simp only [Bool.false_or] at MO
      go_quiet (first | (go_at_call 77; exact Calls.quiet_of_same (restOf_any _ _ _)) | (go_at_call 74; exact Calls.quiet_of_same (MO.out _)))
      go_wp2_with fail
      go_meet
      case rel => exact ⟨rfl, _, rfl⟩
    · simp only [Bool.true_or] at MO
      go_quiet (first | (go_at_call 77; exact Calls.quiet_of_same (restOf_any _ _ _)) | (go_at_call 74; exact Calls.quiet_of_same (MO.out _)))
      go_wp2_with fail
      go_meet
      case rel => exact ⟨rfl, _, rfl⟩
  case rest =>
    obtain ⟨rfl, nq, hwc⟩ := hcut
    have X3 : Ext u2 wc := by rw [hwc]; exact xdrewN (xr _) _
    clear hwc hod MO
    have B3 := B2.later X3
    have Br3 := Br2.later X3
    have Br3' := Br3
    have B3' := B3
    obtain ⟨⟨a0, a1⟩, c0, c1⟩ := B3'
    obtain ⟨⟨r0', r1'⟩, s0', s1'⟩ := Br3'
    clear B2 Br2 a0' a1' c0' c1' r0 r1 s0 s1
    cases g
    · have HR : Hid (WV (.agg #[.int .u64 h2, .int .u64 l2]) (rndM 3 P n more)) := by rw [HRN.out]; exact W2.out
      go_wp2_with fail
      exact bodyPost_ret (v := .agg #[.int .u64 h2, .int .u64 l2]) (by simp [results, Tryz.results39, go_sem, r0', r1']) rfl ⟨_, rfl, HR.out, xset (xset (xt X2 X3) (Nat.le_succ _) _) (Nat.le_succ _) _⟩
    · go_wp2_with fail
      refine (plus_any _ W2.out (b := 1) ⟨0, 1, rfl, by decide, by decide, rfl⟩ (short_fit PB.out n1)).mono ?_
      rintro e w3 ⟨v3, rfl, hW3, x3'⟩
      have hW3' := hW3
      obtain ⟨h3, l3, rfl, _⟩ := hW3'
      have HR : Hid (WV (.agg #[.int .u64 h3, .int .u64 l3]) (rndM 3 P n more)) := by rw [HRN.out]; exact hW3
      have B4 := (B3.later x3').put (.int .u64 h3) (.int .u64 l3)
      have Br4 := ((Br3.later x3').far (p := ⟨w.heap.size, 0, none⟩) (show w.heap.size ≠ w.heap.size + 1 by omega) (.int .u64 h3)).far (p := ⟨w.heap.size, 1, none⟩) (show w.heap.size ≠ w.heap.size + 1 by omega) (.int .u64 l3)
      have X4 := xset (xset (xt (xt X2 X3) x3') (p := ⟨w.heap.size, 0, none⟩) (Nat.le_refl _) (.int .u64 h3)) (p := ⟨w.heap.size, 1, none⟩) (Nat.le_refl _) (.int .u64 l3)
      obtain ⟨⟨g0, g1⟩, j0, j1⟩ := B3.later x3'
      obtain ⟨u4, hu4⟩ : ∃ u, (w3.setCell ⟨w.heap.size, 0, none⟩ (.int .u64 h3)).setCell ⟨w.heap.size, 1, none⟩ (.int .u64 l3) = u := ⟨_, rfl⟩
      rw [hu4] at B4 Br4 X4
      obtain ⟨⟨b0, b1⟩, _⟩ := B4
      obtain ⟨⟨q0, q1⟩, z0, z1⟩ := Br4
      clear hW3 a0 a1 c0 c1 r0' r1' s0' s1' B3 Br3 x3' X2 X3
      go_wp2_with fail
      exact bodyPost_ret (v := .agg #[.int .u64 h3, .int .u64 l3]) (by simp [results, Tryz.results39, go_sem, q0, q1]) rfl ⟨_, rfl, HR.out, xset (xset X4 (Nat.le_succ _) _) (Nat.le_succ _) _⟩

end Go.Proofs.YtfkihaihbaobeaaGreatDoor

