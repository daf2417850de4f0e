/-
  Several texts in one: ImD, ImE, Ten, WideD.
-/
import Derived.Test.YtpeobfkenekmhaaDoorImC
import Derived.Test.YtpeobfkenekmhaaDoorMg12
import Derived.Test.YtpeobfkenekmhaaDoorMg15
namespace Go.Proofs.YtpeobfkenekmhaaDoor
open Go.RowKit

theorem odd_low {h l Q : Nat} (e : h * 18446744073709551616 + l = Q) : (((l : Int) % 2 == 1)) = decide (Q % 2 = 1) := by
  rw [Bool.eq_iff_iff, beq_iff_eq, decide_eq_true_eq]
  omega
theorem rnd_one (mode P n : Nat) (more : Bool) (hn : 1 ≤ n) : rndM mode P n more = P / 10 ^ n + if goesOn mode (decide (P / 10 ^ n % 2 = 1)) (rest1 (P / 10 ^ (n - 1) % 10) (more || decide (P % 10 ^ (n - 1) ≠ 0))) = true then 1 else 0 := by
  obtain ⟨m, rfl⟩ : ∃ m, n = m + 1 := ⟨n - 1, by omega⟩
  unfold rndM
  rw [rest_step, Nat.add_sub_cancel, rest1_eq]
theorem div_ten (P n : Nat) (hn : 1 ≤ n) : P / 10 ^ (n - 1) / 10 = P / 10 ^ n := by
  obtain ⟨m, rfl⟩ : ∃ m, n = m + 1 := ⟨n - 1, by omega⟩
  rw [Nat.add_sub_cancel, Nat.div_div_eq_div_mul, Nat.pow_succ]
theorem short_fit {P n : Nat} (h : P < 340282366920938463463374607431768211456) (hn : 1 ≤ n) : P / 10 ^ n + 1 < 340282366920938463463374607431768211456 := by
  have h1 := div_ten P n hn
  have h2 := Nat.div_le_self P (10 ^ (n - 1))
  rw [← h1]
  omega

set_option maxRecDepth 4000 in
set_option maxHeartbeats 2000000 in
theorem short_toEven {v : Value} {P : Nat} (n : Nat) (more : Bool) (w : World) (hv : WV v P) (n1 : 1 ≤ n) (hn : n ≤ 100000) (hT : Tens w) :
    Calls Tryd.prog 39 #[v, .int .i64 n, .bool more, Value.func (Fn.func 40) #[] #[]] w fun e w' => ∃ v', e = .returned v' ∧ WV v' (rndM 0 P n more) ∧ Ext w w' := by
  obtain ⟨h, l, rfl, h1, h2, e1⟩ := hv
  have LO : Hid (∀ w, Tens w → Calls Tryd.prog 60 #[.agg #[.int .u64 h, .int .u64 l], .int .i64 ((n : Int) - 1)] w fun e w' => ∃ h' l' : Nat, e = .returned (.tuple #[.agg #[.int .u64 h', .int .u64 l'], .bool (decide (P % 10 ^ (n - 1) ≠ 0))]) ∧ Hid (WV (.agg #[.int .u64 h', .int .u64 l']) (P / 10 ^ (n - 1))) ∧ Ext w w') := fun w hT => by
    have e : ((n : Int) - 1) = ((n - 1 : Nat) : Int) := by omega
    rw [e]
    refine (lowered_any (n - 1) w ⟨h, l, rfl, h1, h2, e1⟩ (by omega) hT).mono ?_
    rintro e w' ⟨v', rfl, hW, hx⟩
    have hW' := hW
    obtain ⟨h', l', rfl, _⟩ := hW
    exact ⟨h', l', rfl, hW', hx⟩
  have PB : Hid (P < 340282366920938463463374607431768211456) := by show P < _; omega
  have B := (Box2.made w (.int .u64 h) (.int .u64 l) 43).later (x1 _ (.cells #[.int .u64 0, .int .u64 0] 43))
  have Br := Box2.made (w.alloc (.cells #[.int .u64 h, .int .u64 l] 43)) (.int .u64 0) (.int .u64 0) 43
  simp only [World.size_alloc] at Br
  have T := hT.later (xa (x1 w (.cells #[.int .u64 h, .int .u64 l] 43)) (.cells #[.int .u64 0, .int .u64 0] 43))
  have X0 : Ext w ((w.alloc (.cells #[.int .u64 h, .int .u64 l] 43)).alloc (.cells #[.int .u64 0, .int .u64 0] 43)) := xa (x1 _ _) _
  clear e1 hT h1 h2
  go_enter Tryd.func39, Tryd.ntmps39
  go_wp2_with fail
  refine (LO.out _ T).mono ?_
  rintro e w1 ⟨h', l', rfl, W1, x1'⟩
  obtain ⟨lost, hlost⟩ : ∃ b : Bool, decide (P % 10 ^ (n - 1) ≠ 0) = b := ⟨_, rfl⟩
  rw [hlost]
  have HLo : Hid (decide (P % 10 ^ (n - 1) ≠ 0) = lost) := hlost
  have B1 := (B.later x1').put (.int .u64 h') (.int .u64 l')
  have Br1 := ((Br.later x1').far (p := ⟨w.heap.size, 0, none⟩) (show w.heap.size ≠ w.heap.size + 1 by omega) (.int .u64 h')).far (p := ⟨w.heap.size, 1, none⟩) (show w.heap.size ≠ w.heap.size + 1 by omega) (.int .u64 l')
  have X1 := xset (xset (xt X0 x1') (p := ⟨w.heap.size, 0, none⟩) (Nat.le_refl _) (.int .u64 h')) (p := ⟨w.heap.size, 1, none⟩) (Nat.le_refl _) (.int .u64 l')
  obtain ⟨⟨g0, g1⟩, j0, j1⟩ := B.later x1'
  obtain ⟨u1, hu1⟩ : ∃ u, (w1.setCell ⟨w.heap.size, 0, none⟩ (.int .u64 h')).setCell ⟨w.heap.size, 1, none⟩ (.int .u64 l') = u := ⟨_, rfl⟩
  rw [hu1] at B1 Br1 X1
  have B1' := B1
  obtain ⟨⟨a0, a1⟩, c0, c1⟩ := B1'
  clear hlost LO T X0
  go_wp2_with fail
  refine (over_any 10 _ W1.out (by decide) (by decide)).mono ?_
  rintro e w2 ⟨v2, rfl, hW2, x2'⟩
  rw [div_ten P n n1] at hW2
  obtain ⟨h2, l2, rfl, k1, k2, k3⟩ := hW2
  have W2 : Hid (WV (.agg #[.int .u64 h2, .int .u64 l2]) (P / 10 ^ n)) := ⟨h2, l2, rfl, k1, k2, k3⟩
  have OD := odd_low k3
  obtain ⟨d, hd⟩ : ∃ d, P / 10 ^ (n - 1) % 10 = d := ⟨_, rfl⟩
  rw [hd]
  have RN := rnd_one 0 P n more n1
  rw [hd, HLo.out, ← OD] at RN
  obtain ⟨od, hod⟩ : ∃ b : Bool, ((l2 : Int) % 2 == 1) = b := ⟨_, rfl⟩
  rw [hod] at RN
  obtain ⟨g, hg⟩ : ∃ b : Bool, goesOn 0 od (rest1 d (more || lost)) = b := ⟨_, rfl⟩
  rw [hg] at RN
  have MO : Hid (∀ w, Calls Tryd.prog 40 #[.bool od, .int .i64 (rest1 d (more || lost))] w fun e w' => e = .returned (.bool g) ∧ w' = w) := fun w => by rw [← hg]; exact toEven_any _ _ _
  have HRN : Hid (rndM 0 P n more = P / 10 ^ n + if g = true then 1 else 0) := RN
  have B2 := (B1.later x2').put (.int .u64 h2) (.int .u64 l2)
  have Br2 := ((Br1.later x2').far (p := ⟨w.heap.size, 0, none⟩) (show w.heap.size ≠ w.heap.size + 1 by omega) (.int .u64 h2)).far (p := ⟨w.heap.size, 1, none⟩) (show w.heap.size ≠ w.heap.size + 1 by omega) (.int .u64 l2)
  have X2 := xset (xset (xt X1 x2') (p := ⟨w.heap.size, 0, none⟩) (Nat.le_refl _) (.int .u64 h2)) (p := ⟨w.heap.size, 1, none⟩) (Nat.le_refl _) (.int .u64 l2)
  obtain ⟨⟨g0', g1'⟩, j0', j1'⟩ := B1.later x2'
  obtain ⟨u2, hu2⟩ : ∃ u, (w2.setCell ⟨w.heap.size, 0, none⟩ (.int .u64 h2)).setCell ⟨w.heap.size, 1, none⟩ (.int .u64 l2) = u := ⟨_, rfl⟩
  rw [hu2] at B2 Br2 X2
  have B2' := B2
  have Br2' := Br2
  obtain ⟨⟨a0', a1'⟩, c0', c1'⟩ := B2'
  obtain ⟨⟨r0, r1⟩, s0, s1⟩ := Br2'
  clear RN hg OD hd k3 hu1 g0 g1 j0 j1 a0 a1 c0 c1 B B1 Br Br1 x1' x2' X1 W1
  go_upto_region 3 with fail
  clear hu2 g0' g1' j0' j1'
  go_cut [34] (fun v wc => v = .bool g ∧ ∃ nq, wc = u2.drewN nq)
  case first =>
    cases more
    · simp only [Bool.false_or] at MO
      go_quiet (first | (go_at_call 61; exact Calls.quiet_of_same (restOf_any _ _ _)) | (go_at_call 40; exact Calls.quiet_of_same (MO.out _)))
      go_wp2_with fail
      go_meet
      case rel => exact ⟨rfl, _, rfl⟩
    · simp only [Bool.true_or] at MO
      go_quiet (first | (go_at_call 61; exact Calls.quiet_of_same (restOf_any _ _ _)) | (go_at_call 40; exact Calls.quiet_of_same (MO.out _)))
      go_wp2_with fail
      go_meet
      case rel => exact ⟨rfl, _, rfl⟩
  case rest =>
    obtain ⟨rfl, nq, hwc⟩ := hcut
    have X3 : Ext u2 wc := by rw [hwc]; exact xdrewN (xr _) _
    clear hwc hod MO
    have B3 := B2.later X3
    have Br3 := Br2.later X3
    have Br3' := Br3
    have B3' := B3
    obtain ⟨⟨a0, a1⟩, c0, c1⟩ := B3'
    obtain ⟨⟨r0', r1'⟩, s0', s1'⟩ := Br3'
    clear B2 Br2 a0' a1' c0' c1' r0 r1 s0 s1
    cases g
    · have HR : Hid (WV (.agg #[.int .u64 h2, .int .u64 l2]) (rndM 0 P n more)) := by rw [HRN.out]; exact W2.out
      go_wp2_with fail
      exact bodyPost_ret (v := .agg #[.int .u64 h2, .int .u64 l2]) (by simp [results, Tryd.results39, go_sem, r0', r1']) rfl ⟨_, rfl, HR.out, xset (xset (xt X2 X3) (Nat.le_succ _) _) (Nat.le_succ _) _⟩
    · go_wp2_with fail
      refine (plus_any _ W2.out (b := 1) ⟨0, 1, rfl, by decide, by decide, rfl⟩ (short_fit PB.out n1)).mono ?_
      rintro e w3 ⟨v3, rfl, hW3, x3'⟩
      have hW3' := hW3
      obtain ⟨h3, l3, rfl, _⟩ := hW3'
      have HR : Hid (WV (.agg #[.int .u64 h3, .int .u64 l3]) (rndM 0 P n more)) := by rw [HRN.out]; exact hW3
      have B4 := (B3.later x3').put (.int .u64 h3) (.int .u64 l3)
      have Br4 := ((Br3.later x3').far (p := ⟨w.heap.size, 0, none⟩) (show w.heap.size ≠ w.heap.size + 1 by omega) (.int .u64 h3)).far (p := ⟨w.heap.size, 1, none⟩) (show w.heap.size ≠ w.heap.size + 1 by omega) (.int .u64 l3)
      have X4 := xset (xset (xt (xt X2 X3) x3') (p := ⟨w.heap.size, 0, none⟩) (Nat.le_refl _) (.int .u64 h3)) (p := ⟨w.heap.size, 1, none⟩) (Nat.le_refl _) (.int .u64 l3)
      obtain ⟨⟨g0, g1⟩, j0, j1⟩ := B3.later x3'
      obtain ⟨u4, hu4⟩ : ∃ u, (w3.setCell ⟨w.heap.size, 0, none⟩ (.int .u64 h3)).setCell ⟨w.heap.size, 1, none⟩ (.int .u64 l3) = u := ⟨_, rfl⟩
      rw [hu4] at B4 Br4 X4
      obtain ⟨⟨b0, b1⟩, _⟩ := B4
      obtain ⟨⟨q0, q1⟩, z0, z1⟩ := Br4
      clear hW3 a0 a1 c0 c1 r0' r1' s0' s1' B3 Br3 x3' X2 X3
      go_wp2_with fail
      exact bodyPost_ret (v := .agg #[.int .u64 h3, .int .u64 l3]) (by simp [results, Tryd.results39, go_sem, q0, q1]) rfl ⟨_, rfl, HR.out, xset (xset X4 (Nat.le_succ _) _) (Nat.le_succ _) _⟩

theorem Dig.nd {a k : Nat} (h : Dig a k) : nd a = k := nd_eq h.1 h.2
theorem WV.val {v : Value} {n : Nat} (h : WV v n) (hn : n < 18446744073709551616) : v = .agg #[.int .u64 0, .int .u64 n] := by
  obtain ⟨h, l, rfl, h1, h2, h3⟩ := h
  obtain rfl : h = 0 := by omega
  obtain rfl : l = n := by omega
  rfl
theorem Box4.far {w : World} {b : Nat} {v0 v1 v2 v3 : Value} (h : Box4 w b v0 v1 v2 v3) {p : Addr} (hp : p.block ≠ b) (u : Value) : Box4 (w.setCell p u) b v0 v1 v2 v3 := by
  obtain ⟨⟨h0, h1, h2, h3⟩, f0, f1, f2, f3⟩ := h
  have ne : ∀ i, p ≠ ⟨b, i, none⟩ := fun i e => hp (congrArg Addr.block e)
  refine ⟨⟨?_, ?_, ?_, ?_⟩, ?_, ?_, ?_, ?_⟩
  · rw [World.cell?_setCell_other _ _ _ _ (ne 0)]; exact h0
  · rw [World.cell?_setCell_other _ _ _ _ (ne 1)]; exact h1
  · rw [World.cell?_setCell_other _ _ _ _ (ne 2)]; exact h2
  · rw [World.cell?_setCell_other _ _ _ _ (ne 3)]; exact h3
  · rw [World.frozen?_setCell]; exact f0
  · rw [World.frozen?_setCell]; exact f1
  · rw [World.frozen?_setCell]; exact f2
  · rw [World.frozen?_setCell]; exact f3
theorem rnd_lt {P : Nat} {more : Bool} (h : 15 < nd P) : rndM 0 P (nd P - 15) more ≤ 1000000000000000 := by
  unfold rndM
  have h1 : P / 10 ^ (nd P - 15) < 10 ^ 15 := by
    refine Nat.div_lt_of_lt_mul ?_
    rw [← Nat.pow_add, show nd P - 15 + 15 = nd P by omega]
    exact (nd_dig P).1
  have e : (10 : Nat) ^ 15 = 1000000000000000 := by decide
  split <;> omega

set_option maxRecDepth 4000 in
set_option maxHeartbeats 2000000 in
theorem put_any {v : Value} {P : Nat} (neg : Bool) (e : Int) (more : Bool) (w : World) (hv : WV v P) (e0 : -90000 ≤ e) (e1 : e ≤ 90000) (hT : Tens w) :
    Calls Tryd.prog 21 #[.bool neg, v, .int .i64 e, .bool more] w fun r w' => r = .returned (resV (putR neg P e more)) ∧ Ext w w' := by
  obtain ⟨R, hR⟩ : ∃ R, putR neg P e more = R := ⟨_, rfl⟩
  rw [hR]
  have HPR : Hid (putR neg P e more = R) := hR
  clear hR
  obtain ⟨h, l, rfl, h1, h2, e2⟩ := hv
  have HW : Hid (WV (.agg #[.int .u64 h, .int .u64 l]) P) := ⟨h, l, rfl, h1, h2, e2⟩
  have HP : Hid (h * 18446744073709551616 + l = P) := e2
  have X0 : Ext w ((w.alloc (.cells #[.int .u64 h, .int .u64 l] 43)).alloc (.cells #[.bool false, .bool false, .int .i64 0, .int .i64 0] 27)) := xa (x1 _ _) _
  have B := (Box2.made w (.int .u64 h) (.int .u64 l) 43).later (x1 _ (.cells #[.bool false, .bool false, .int .i64 0, .int .i64 0] 27))
  have Br := Box4.made (w.alloc (.cells #[.int .u64 h, .int .u64 l] 43)) (.bool false) (.bool false) (.int .i64 0) (.int .i64 0) 27
  simp only [World.size_alloc] at Br
  clear e2
  go_enter Tryd.func21, Tryd.ntmps21
  go_wp2_with fail
  refine (length_any _ HW.out (hT.later X0)).mono ?_
  rintro r w1 ⟨k, rfl, hk, k39, x1'⟩
  obtain rfl := hk.nd
  clear hk
  have B1 := B.later x1'
  have Br1 := Br.later x1'
  have X1 := xt X0 x1'
  have B1' := B1
  obtain ⟨⟨p0, p1⟩, f0, f1⟩ := B1'
  by_cases hk15 : 15 < nd P
  · have HR : Hid (R = fitR neg (rndM 0 P (nd P - 15) more) (e + ((nd P - 15 : Nat) : Int))) := by rw [← HPR.out]; unfold putR; rw [if_pos hk15]; rfl
    have RL : Hid (rndM 0 P (nd P - 15) more ≤ 1000000000000000) := rnd_lt hk15
    have SH : Hid (∀ w, Tens w → Calls Tryd.prog 39 #[.agg #[.int .u64 h, .int .u64 l], .int .i64 (((nd P) : Int) - 15), .bool more, Value.func (Fn.func 40) #[] #[]] w fun e w' => e = .returned (.agg #[.int .u64 0, .int .u64 ((rndM 0 P (nd P - 15) more : Nat) : Int)]) ∧ Ext w w') := fun w hT => by
      have e3 : (((nd P) : Int) - 15) = ((nd P - 15 : Nat) : Int) := by omega
      rw [e3]
      refine (short_toEven (nd P - 15) more w HW.out (by omega) (by omega) hT).mono ?_
      rintro e w' ⟨v', rfl, hW, hx⟩
      exact ⟨by rw [hW.val (by have := RL.out; omega)], hx⟩
    obtain ⟨Q, hQ⟩ : ∃ Q, rndM 0 P (nd P - 15) more = Q := ⟨_, rfl⟩
    rw [hQ] at HR RL SH
    have FI : Hid (∀ w, Calls Tryd.prog 41 #[.bool neg, .int .u64 Q, .int .i64 (e + (((nd P) : Int) - 15))] w fun r w' => r = .returned (resV R) ∧ Ext w w') := fun w => by
      rw [HR.out]
      have e3 : (((nd P) : Int) - 15) = ((nd P - 15 : Nat) : Int) := by omega
      rw [e3]
      exact fitted_any neg Q _ w (by have := RL.out; omega) (by omega) (by omega)
    have k15' : (15 : Int) < ((nd P) : Int) := by omega
    clear hQ HR RL h1 h2 HP HPR
    go_wp2_with fail
    refine (SH.out _ (hT.later X1)).mono ?_
    rintro r w2 ⟨rfl, x2'⟩
    have B2 := (B1.later x2').put (.int .u64 0) (.int .u64 Q)
    have Br2 := Br1.later x2'
    have X2 := xset (xset (xt X1 x2') (p := ⟨w.heap.size, 0, none⟩) (Nat.le_refl _) (.int .u64 0)) (p := ⟨w.heap.size, 1, none⟩) (Nat.le_refl _) (.int .u64 Q)
    obtain ⟨⟨g0, g1⟩, j0, j1⟩ := B1.later x2'
    obtain ⟨u2, hu2⟩ : ∃ u, (w2.setCell ⟨w.heap.size, 0, none⟩ (.int .u64 0)).setCell ⟨w.heap.size, 1, none⟩ (.int .u64 Q) = u := ⟨_, rfl⟩
    have Br3 : Box4 u2 (w.heap.size + 1) (.bool false) (.bool false) (.int .i64 0) (.int .i64 0) := by
      rw [← hu2]
      exact (Br2.far (p := ⟨w.heap.size, 0, none⟩) (show w.heap.size ≠ w.heap.size + 1 by omega) _).far (p := ⟨w.heap.size, 1, none⟩) (show w.heap.size ≠ w.heap.size + 1 by omega) _
    rw [hu2] at B2 X2
    have B2' := B2
    obtain ⟨⟨a0, a1⟩, c0, c1⟩ := B2'
    clear B Br B1 Br1 Br2 x1' x2' X0 X1 p0 p1 f0 f1
    go_wp2_with fail
    refine (FI.out _).mono ?_
    rintro r w3 ⟨rfl, x3'⟩
    obtain ⟨⟨q0, q1, q2, q3⟩, z0, z1, z2, z3⟩ := Br3.later x3'
    clear hu2 g0 g1 j0 j1 a0 a1 c0 c1
    go_wp2_with fail
    exact bodyPost_ret (v := resV R) (by simp [results, Tryd.results21, go_sem, q0, q1, q2, q3]) rfl ⟨rfl, xset (xset (xset (xset (xt X2 x3') (Nat.le_succ _) _) (Nat.le_succ _) _) (Nat.le_succ _) _) (Nat.le_succ _) _⟩
  · have HR : Hid (R = fitR neg P e) := by rw [← HPR.out]; unfold putR; rw [if_neg hk15]; rfl
    have hP : P < 1000000000000000 := by
      have := (nd_dig P).1
      have := pow10_le (show nd P ≤ 15 by omega)
      have e : (10 : Nat) ^ 15 = 1000000000000000 := by decide
      omega
    obtain ⟨rfl, rfl⟩ : h = 0 ∧ l = P := by have := HP.out; omega
    have FI : Hid (∀ w, Calls Tryd.prog 41 #[.bool neg, .int .u64 l, .int .i64 e] w fun r w' => r = .returned (resV R) ∧ Ext w w') := fun w => by
      rw [HR.out]
      exact fitted_any neg l _ w (by omega) (by omega) (by omega)
    have k15' : ¬ (15 : Int) < ((nd l) : Int) := by omega
    clear HR h1 h2 HP HPR HW
    go_wp2_with fail
    refine (FI.out _).mono ?_
    rintro r w3 ⟨rfl, x3'⟩
    obtain ⟨⟨q0, q1, q2, q3⟩, z0, z1, z2, z3⟩ := Br1.later x3'
    go_wp2_with fail
    exact bodyPost_ret (v := resV R) (by simp [results, Tryd.results21, go_sem, q0, q1, q2, q3]) rfl ⟨rfl, xset (xset (xset (xset (xt X1 x3') (Nat.le_succ _) _) (Nat.le_succ _) _) (Nat.le_succ _) _) (Nat.le_succ _) _⟩

theorem Box3.set3_same {w : World} {b : Nat} {v0 v1 v2 : Value} (h : Box3 w b v0 v1 v2) (c0 c1 c2 : Value) : Box3 (set3 w b c0 c1 c2) b c0 c1 c2 := by
  obtain ⟨⟨q0, q1, q2⟩, f0, f1, f2⟩ := h
  have n01 : (⟨b, 0, none⟩ : Addr) ≠ ⟨b, 1, none⟩ := addr_ne (by decide)
  have n02 : (⟨b, 0, none⟩ : Addr) ≠ ⟨b, 2, none⟩ := addr_ne (by decide)
  have n12 : (⟨b, 1, none⟩ : Addr) ≠ ⟨b, 2, none⟩ := addr_ne (by decide)
  refine ⟨⟨?_, ?_, ?_⟩, ?_, ?_, ?_⟩
  · rw [World.cell?_setCell_other _ _ _ _ n02.symm, World.cell?_setCell_other _ _ _ _ n01.symm]
    exact World.cell?_setCell_same _ _ _ q0
  · rw [World.cell?_setCell_other _ _ _ _ n12.symm]
    exact World.cell?_setCell_same _ _ _ (by rw [World.cell?_setCell_other _ _ _ _ n01]; exact q1)
  · exact World.cell?_setCell_same _ _ _ (by rw [World.cell?_setCell_other _ _ _ _ n12, World.cell?_setCell_other _ _ _ _ n02]; exact q2)
  · simp [World.frozen?_setCell, f0]
  · simp [World.frozen?_setCell, f1]
  · simp [World.frozen?_setCell, f2]
theorem addr_far {b g i j : Nat} (h : b ≠ g) : (⟨g, i, none⟩ : Addr) ≠ ⟨b, j, none⟩ := fun e => h (by cases e; rfl)
theorem Box3.set3_other {w : World} {b g : Nat} {v0 v1 v2 : Value} (h : Box3 w b v0 v1 v2) (hb : b ≠ g) (c0 c1 c2 : Value) : Box3 (set3 w g c0 c1 c2) b v0 v1 v2 := by
  obtain ⟨⟨q0, q1, q2⟩, f0, f1, f2⟩ := h
  refine ⟨⟨?_, ?_, ?_⟩, ?_, ?_, ?_⟩
  · rw [World.cell?_setCell_other _ _ _ _ (addr_far hb), World.cell?_setCell_other _ _ _ _ (addr_far hb), World.cell?_setCell_other _ _ _ _ (addr_far hb)]; exact q0
  · rw [World.cell?_setCell_other _ _ _ _ (addr_far hb), World.cell?_setCell_other _ _ _ _ (addr_far hb), World.cell?_setCell_other _ _ _ _ (addr_far hb)]; exact q1
  · rw [World.cell?_setCell_other _ _ _ _ (addr_far hb), World.cell?_setCell_other _ _ _ _ (addr_far hb), World.cell?_setCell_other _ _ _ _ (addr_far hb)]; exact q2
  · simp [World.frozen?_setCell, f0]
  · simp [World.frozen?_setCell, f1]
  · simp [World.frozen?_setCell, f2]

set_option maxHeartbeats 2000000 in
theorem power_any {va : Value} {a : Int} (n : Nat) (w : World) (ha : ZV w va a) (hn : n ≤ 1000000) (k : Nat) (hk : k ≤ 1000000000) (ka : (a.natAbs : Int) < 1000000000 ^ k) (kp : ∀ i, i ≤ n → ((a ^ i).natAbs : Int) < 1000000000 ^ k) :
    Calls Tryd.prog 54 #[va, .int .i64 n] w fun e w' => ∃ v', e = .returned v' ∧ ZV w' v' (a ^ n) ∧ Ext w w' := by
  obtain ⟨a0, a1, pa, na, ca, rfl⟩ := ha.shape
  go_enter Tryd.func54, Tryd.ntmps54
  go_wp2_with fail
  refine (small_any 1 _ (by decide) (by decide)).mono ?_
  rintro e w1 ⟨v1, rfl, h1, e1⟩
  obtain ⟨o0, o1, po, no, co, rfl⟩ := h1.shape
  have Ba := ((Box3.made w (.int .i64 a0) (.bool a1) (.slice pa na ca) 52).later (x1 _ _)).later e1
  have Br := (Box3.made (w.alloc (.cells #[.int .i64 a0, .bool a1, .slice pa na ca] 52)) (.int .i64 0) (.bool false) (.slice none 0 0) 52).later e1
  simp only [World.size_alloc] at Br
  have X1 := xt (xa (x1 _ _) _) e1
  have sz := e1.size
  simp only [World.size_alloc] at sz
  have KH : Hid ((a.natAbs : Int) < 1000000000 ^ k ∧ ∀ i, i ≤ n → ((a ^ i).natAbs : Int) < 1000000000 ^ k) := ⟨ka, kp⟩
  clear e1 ka kp
  go_wp2_with fail
  go_loopw [6] (fun i wr => ∃ (m : Nat) (c0 : Int) (c1 : Bool) (pc : Option Addr) (nc cc : Nat), m ≤ n ∧ i = .int .i64 m ∧ Box3 wr w1.heap.size (.int .i64 c0) (.bool c1) (.slice pc nc cc) ∧ ZV wr (.agg #[.int .i64 c0, .bool c1, .slice pc nc cc]) (a ^ m) ∧
      Box3 wr w.heap.size (.int .i64 a0) (.bool a1) (.slice pa na ca) ∧ Box3 wr (w.heap.size + 1) (.int .i64 0) (.bool false) (.slice none 0 0) ∧ Ext w wr) (fun i _ => n - (intOf i).toNat)
  case atStart => exact ⟨0, o0, o1, po, no, co, Nat.zero_le _, rfl, Box3.made _ _ _ _ _, by rw [Int.pow_zero]; exact h1.later (x1 _ _), Ba.later (x1 _ _), Br.later (x1 _ _), xa X1 _⟩
  case round =>
    obtain ⟨m, c0, c1, pc, nc, cc, hm, rfl, Bo, ho, Bar, Brr, X⟩ := hrel
    by_cases hlt : m < n
    · have Bo' := Bo
      have Ba' := Bar
      obtain ⟨⟨q0, q1, q2⟩, _⟩ := Bo'
      obtain ⟨⟨p0, p1, p2⟩, _⟩ := Ba'
      clear Ba Br
      go_wp2_with fail
      refine (mul_any _ ho (ha.later X) k hk (KH.out.2 m hm) KH.out.1).mono ?_
      rintro e w2 ⟨v2, rfl, h2, e2⟩
      obtain ⟨d0, d1, pd, nd, cd, rfl⟩ := h2.shape
      have B2 := Bo.later e2
      have R : Hid (Box3 (set3 w2 w1.heap.size (.int .i64 d0) (.bool d1) (.slice pd nd cd)) w1.heap.size (.int .i64 d0) (.bool d1) (.slice pd nd cd) ∧ ZV (set3 w2 w1.heap.size (.int .i64 d0) (.bool d1) (.slice pd nd cd)) (.agg #[.int .i64 d0, .bool d1, .slice pd nd cd]) (a ^ (m + 1)) ∧
          Box3 (set3 w2 w1.heap.size (.int .i64 d0) (.bool d1) (.slice pd nd cd)) w.heap.size (.int .i64 a0) (.bool a1) (.slice pa na ca) ∧ Box3 (set3 w2 w1.heap.size (.int .i64 d0) (.bool d1) (.slice pd nd cd)) (w.heap.size + 1) (.int .i64 0) (.bool false) (.slice none 0 0) ∧ Ext w (set3 w2 w1.heap.size (.int .i64 d0) (.bool d1) (.slice pd nd cd))) :=
        ⟨B2.set3_same _ _ _, by rw [Int.pow_succ]; exact h2.set3 B2 _ _ _, (Bar.later e2).set3_other (by omega) _ _ _, (Brr.later e2).set3_other (by omega) _ _ _, Ext.set3 (xt X e2) (by omega) _ _ _⟩
      obtain ⟨⟨r0, r1, r2⟩, s0, s1, s2⟩ := B2
      clear Bo ho Bar Brr X h2 e2
      go_wp2
      go_roundw
      case rel => exact ⟨m + 1, d0, d1, pd, nd, cd, by omega, by go_num, R.out.1, R.out.2.1, R.out.2.2.1, R.out.2.2.2.1, R.out.2.2.2.2⟩
      case measure => simp [intOf]; omega
    · obtain rfl : m = n := by omega
      have Hz := ho.set3 Brr (.int .i64 c0) (.bool c1) (.slice pc nc cc)
      have Hx := Ext.set3 (b := w.heap.size + 1) X (by omega) (.int .i64 c0) (.bool c1) (.slice pc nc cc)
      obtain ⟨⟨q0, q1, q2⟩, _⟩ := Bo
      obtain ⟨⟨r0, r1, r2⟩, s0, s1, s2⟩ := Brr
      clear Ba Br
      go_wp2
      exact bodyPost_ret (v := .agg #[.int .i64 c0, .bool c1, .slice pc nc cc]) (by simp [results, Tryd.results54, go_sem, r0, r1, r2]) rfl ⟨_, rfl, Hz, Hx⟩

/-- The cells of a box behind one new block, whatever it is. -/
theorem Box2.up {w : World} {b : Nat} {v0 v1 : Value} (h : Box2 w b v0 v1) : ((∀ o, (w.alloc o).cell? ⟨b, 0, none⟩ = some v0) ∧ ∀ o, (w.alloc o).cell? ⟨b, 1, none⟩ = some v1) ∧ (∀ o, (w.alloc o).frozen? ⟨b, 0, none⟩ = false) ∧ ∀ o, (w.alloc o).frozen? ⟨b, 1, none⟩ = false :=
  ⟨⟨fun o => (h.later (x1 w o)).1.1, fun o => (h.later (x1 w o)).1.2⟩, fun o => (h.later (x1 w o)).2.1, fun o => (h.later (x1 w o)).2.2⟩

theorem times_fit {a n h l h' l' : Nat} (e : h * 18446744073709551616 + l = a) (e' : h' * 18446744073709551616 + l' = l * n) (hlt : a * n < 340282366920938463463374607431768211456) :
    h * n < 18446744073709551616 ∧ h' + h * n < 18446744073709551616 ∧ (h' + h * n) * 18446744073709551616 + l' = a * n := by
  have h1 : a * n = h * n * 18446744073709551616 + l * n := by rw [← e, Nat.add_mul, Nat.mul_right_comm]
  rw [h1] at hlt ⊢
  generalize h * n = p at *
  generalize l * n = q at *
  omega

set_option maxRecDepth 100000 in
set_option maxHeartbeats 1000000 in
theorem times_any {v : Value} {a : Nat} (n : Nat) (w : World) (hv : WV v a) (hn : n < 18446744073709551616) (hlt : a * n < 340282366920938463463374607431768211456) :
    Calls Tryd.prog 38 #[v, .int .u64 n] w fun e w' => ∃ v', e = .returned v' ∧ WV v' (a * n) ∧ Ext w w' := by
  obtain ⟨h, l, rfl, h1, h2, e1⟩ := hv
  have E1 : Hid (h * 18446744073709551616 + l = a) := e1
  have HL : Hid (a * n < 340282366920938463463374607431768211456) := hlt
  clear e1 hlt
  go_enter Tryd.func38, Tryd.ntmps38
  go_wp2_with fail
  refine (product_any l n h2 hn _).mono ?_
  rintro e w1 ⟨v', rfl, hv', x1'⟩
  obtain ⟨h', l', rfl, h1', h2', e2⟩ := hv'
  obtain ⟨t1, t2, t3⟩ := times_fit E1.out e2 HL.out
  obtain ⟨p, hp⟩ : ∃ p : Nat, h * n = p := ⟨_, rfl⟩
  have hpi : (h : Int) * (n : Int) = (p : Int) := by rw [← Int.natCast_mul, hp]
  rw [hp] at t1 t2 t3
  have T3 : Hid ((h' + p) * 18446744073709551616 + l' = a * n) := t3
  have B1 := (Box2.made w (.int .u64 h) (.int .u64 l) 43).later (xt (x1 _ _) x1')
  have Br := (Box2.made (w.alloc (.cells #[.int .u64 h, .int .u64 l] 43)) (.int .u64 0) (.int .u64 0) 43).later x1'
  simp only [World.size_alloc] at Br
  obtain ⟨⟨q0, q1⟩, _⟩ := B1.up
  obtain ⟨⟨r0, r1⟩, s0, s1⟩ := Br.up
  have sz := x1'.size
  simp only [World.size_alloc] at sz
  clear e2 t3 E1 HL hp
  have n0 : w.heap.size + 1 ≠ w1.heap.size := by omega
  go_wp2
  exact bodyPost_ret (v := .agg #[.int .u64 ((h' + p : Nat) : Int), .int .u64 l']) (by simp [results, Tryd.results38, go_sem, r0, r1]) rfl
    ⟨_, rfl, ⟨h' + p, l', rfl, t2, h2', T3.out⟩, xset (xset (xa (xt (xa (x1 _ _) _) x1') _) (Nat.le_succ _) _) (Nat.le_succ _) _⟩

end Go.Proofs.YtpeobfkenekmhaaDoor

