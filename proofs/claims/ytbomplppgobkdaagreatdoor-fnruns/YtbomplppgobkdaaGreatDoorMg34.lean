/-
  Several texts in one: Qh, Ru1.
-/
import Derived.Test.YtbomplppgobkdaaGreatDoorMg33
namespace Go.Proofs.YtbomplppgobkdaaGreatDoor
open Go.RowKit

theorem cmpSQ (a b : VT) (w : World) (hl : a.t.length ≤ 2000000) (hl' : b.t.length ≤ 2000000) (ga : a.good = true) (gb : b.good = true) (h4 : a.k ≠ 4) (h4' : b.k ≠ 4) :
    Calls Tryz.prog 48 #[a.val, b.val] w fun e w' => e = .returned (.int .i64 (cmpQ a b)) ∧ Ext w w' := by
  obtain ⟨k, n, d, x, t⟩ := a
  obtain ⟨k', n', d', x', t'⟩ := b
  obtain ⟨v1, z1⟩ := beside_eq (k := k) (n := n) (d := d) (x := x) (t := t) ga k'
  obtain ⟨v2, z2⟩ := beside_eq (k := k') (n := n') (d := d') (x := x') (t := t') gb k
  have e : cmpQ ⟨k, n, d, x, t⟩ ⟨k', n', d', x', t'⟩ = cmpR (bk k k') n d x (bt k t k') (bk k' k) n' d' x' (bt k' t' k) := by
    unfold cmpQ compareV
    rw [if_pos ⟨ga, gb, h4, h4'⟩]
  rw [e]
  exact cmpS6 k n d x t k' n' d' x' t' w _ _ _ _ _ v1 z1 (bt_len k k' hl) _ _ _ _ _ v2 z2 (bt_len k' k hl')
set_option maxHeartbeats 1000000 in
theorem isErrQ (k : Int) (n : Bool) (d x : Int) (t : List UInt8) (w : World) :
    Calls Tryz.prog 20 #[valV k n d x t] w fun e w' => e = .returned (.bool (decide (k = 4))) ∧ Ext w w' := by
  have X := x1 w (.cells #[.int .i64 k, .bool n, .int .i64 d, .int .i64 x, sV t] 50)
  by_cases h : k = 4
  · subst h
    go_enter Tryz.func20, Tryz.ntmps20
    go_wp2_with fail
    go_ret
    exact ⟨rfl, X⟩
  · rw [show decide (k = 4) = false by simpa using h]
    have hb : (k == 4) = false := by simpa using h
    go_enter Tryz.func20, Tryz.ntmps20
    go_wp2_with fail
    go_ret
    exact ⟨rfl, X⟩
set_option maxRecDepth 8000 in
set_option maxHeartbeats 2000000 in
theorem sameS (a b : VT) (w : World) (hl : a.t.length ≤ 2000000) (hl' : b.t.length ≤ 2000000) (ga : a.good = true) (gb : b.good = true) :
    Calls Tryz.prog 19 #[a.val, b.val] w fun e w' => e = .returned (.bool (likeB a b)) ∧ Ext w w' := by
  have CM : a.k = b.k → a.k ≠ 4 → Hid (∀ W, Calls Tryz.prog 48 #[a.val, b.val] W fun e w' => e = .returned (.int .i64 (cmpQ a b)) ∧ Ext W w') := fun hk h4 W => cmpSQ a b W hl hl' ga gb h4 (hk ▸ h4)
  have HL : Hid (likeB a b = (decide (a.k = b.k) && (if a.k = 4 then sameQ a b else decide (cmpQ a b = 0)))) := rfl
  obtain ⟨k, n, d, x, t⟩ := a
  obtain ⟨k', n', d', x', t'⟩ := b
  obtain ⟨u0, u1, h0, h1, s0, s1, B0, B1, X⟩ := mkB2 w (valL k n d x t) (valL k' n' d' x' t') 50 50
  have EQ := fun W => valQ_eql k n d x t k' n' d' x' t' W
  obtain ⟨S, hS⟩ : ∃ S, sameQ ⟨k, n, d, x, t⟩ ⟨k', n', d', x', t'⟩ = S := ⟨_, rfl⟩
  obtain ⟨R, hR⟩ : ∃ R, cmpQ ⟨k, n, d, x, t⟩ ⟨k', n', d', x', t'⟩ = R := ⟨_, rfl⟩
  obtain ⟨Q, hQ⟩ : ∃ Q, likeB ⟨k, n, d, x, t⟩ ⟨k', n', d', x', t'⟩ = Q := ⟨_, rfl⟩
  rw [hS] at EQ HL
  rw [hR] at CM HL
  rw [hQ] at HL ⊢
  simp only at CM HL
  clear hS hR hQ ga gb hl hl'
  obtain ⟨a0, a1, a2, a3, a4⟩ := Vec.five B0
  obtain ⟨b0, b1, b2, b3, b4⟩ := Vec.five B1
  by_cases hk : k = k'
  · subst hk
    have CE := fun W => isErrQ k n d x t W
    by_cases h4 : k = 4
    · have HF : Hid (S = Q) := by show _ = _; rw [HL.out, if_pos h4]; simp
      subst h4
      go_enter Tryz.func19, Tryz.ntmps19
      go_wp2_with (go_at_call 20; refine (CE u1).mono ?_; rintro e w1 ⟨rfl, e1⟩; obtain ⟨a0, a1, a2, a3, a4⟩ := Vec.five (B0.later e1); obtain ⟨b0, b1, b2, b3, b4⟩ := Vec.five (B1.later e1))
      go_ret
      exact ⟨ret_bool HF.out, xt X e1⟩
    · have HF : Hid (decide (R = 0) = Q) := by show _ = _; rw [HL.out, if_neg h4]; simp
      have C0 := CM rfl h4
      rw [decide_eq_false h4] at CE
      by_cases hR : R = 0
      · subst hR
        go_enter Tryz.func19, Tryz.ntmps19
        go_wp2_with (first
          | (go_at_call 20; refine (CE u1).mono ?_; rintro e w1 ⟨rfl, e1⟩; obtain ⟨a0, a1, a2, a3, a4⟩ := Vec.five (B0.later e1); obtain ⟨b0, b1, b2, b3, b4⟩ := Vec.five (B1.later e1))
          | (go_at_call 48; refine (C0.out w1).mono ?_; rintro e w2 ⟨rfl, e2⟩))
        go_ret
        exact ⟨ret_bool HF.out, xt X (xt e1 e2)⟩
      · have hRb : (R == 0) = false := by simpa using hR
        have HF : Hid (false = Q) := by show _ = _; rw [← HF.out, decide_eq_false hR]
        go_enter Tryz.func19, Tryz.ntmps19
        go_wp2_with (first
          | (go_at_call 20; refine (CE u1).mono ?_; rintro e w1 ⟨rfl, e1⟩; obtain ⟨a0, a1, a2, a3, a4⟩ := Vec.five (B0.later e1); obtain ⟨b0, b1, b2, b3, b4⟩ := Vec.five (B1.later e1))
          | (go_at_call 48; refine (C0.out w1).mono ?_; rintro e w2 ⟨rfl, e2⟩))
        go_ret
        exact ⟨ret_bool HF.out, xt X (xt e1 e2)⟩
  · have hkb : (k == k') = false := by simpa using hk
    have HF : Hid (false = Q) := by show _ = _; rw [HL.out, decide_eq_false hk]; rfl
    go_enter Tryz.func19, Tryz.ntmps19
    go_wp2_with fail
    go_ret
    exact ⟨ret_bool HF.out, X⟩

def faultB (l : List VT) (C x R : Nat) : Bool := (List.range R).any fun i => decide ((cel l (i * C + (x - 1))).k = 4)
theorem faultB_succ (l : List VT) (C x R : Nat) : faultB l C x (R + 1) = (faultB l C x R || decide ((cel l (R * C + (x - 1))).k = 4)) := by
  unfold faultB
  rw [List.range_succ, List.any_append]
  simp
theorem faultB_mono {l : List VT} {C x k R : Nat} (h : faultB l C x k = true) (hk : k ≤ R) : faultB l C x R = true := by
  unfold faultB at *
  obtain ⟨i, hi, hq⟩ := List.any_eq_true.1 h
  exact List.any_eq_true.2 ⟨i, by simp at hi ⊢; omega, hq⟩
set_option maxRecDepth 8000 in
set_option maxHeartbeats 2000000 in
theorem hasFaultS (R C x : Nat) (v : Value) (l : List VT) (w : World) (h : ValsIn w v l) (hlen : l.length = R * C) (h2 : R * C ≤ 2000) (x1' : 1 ≤ x) (x2' : x ≤ C) (hR : R ≤ 2000) (hC : C ≤ 2000) :
    Calls Tryz.prog 8 #[grV R C v, .int .i64 x] w fun e w' => e = .returned (.bool (faultB l C x R)) ∧ Ext w w' := by
  have X0 := x1 w (.cells #[.int .i64 R, .int .i64 C, v] 25)
  have B0 := vec_made w [.int .i64 R, .int .i64 C, v] 25
  obtain ⟨u0, hu0⟩ : ∃ u, w.alloc (.cells #[.int .i64 R, .int .i64 C, v] 25) = u := ⟨_, rfl⟩
  change Vec (w.alloc (.cells #[.int .i64 R, .int .i64 C, v] 25)) _ _ at B0
  rw [hu0] at X0 B0
  have HB : Hid (Vec u0 w.heap.size [.int .i64 R, .int .i64 C, v] ∧ Ext w u0) := ⟨B0, X0⟩
  have HV : Hid (ValsIn w v l) := h
  obtain ⟨p, cap, rfl, hcap, -⟩ := h
  obtain ⟨N, hN⟩ : ∃ N, l.length = N := ⟨_, rfl⟩
  have HN : Hid (l.length = N) := hN
  rw [hN] at hlen hcap HB HV hu0 ⊢
  have HL : Hid (N = R * C) := hlen
  clear X0 B0 hN hlen
  go_enter Tryz.func8, Tryz.ntmps8
  go_wp2_with fail
  try rw [hu0]
  clear hu0
  go_loopw [5] (fun i wr => ∃ k : Nat, k ≤ R ∧ i = .int .i64 k ∧ Hid (faultB l C x k = false ∧ Ext u0 wr)) (fun i _ => R - (intOf i).toNat)
  case atStart => exact ⟨0, by omega, rfl, rfl, xr _⟩
  case round =>
    obtain ⟨k, hk, rfl, HI⟩ := hrel
    obtain ⟨a0, a1, a2⟩ := Vec.three (HB.out.1.later HI.out.2)
    by_cases hlt : k < R
    · have i2 : (k : Int) < (R : Int) := by omega
      have hpl : k * C + (x - 1) < R * C := place_lt hlt (by omega)
      obtain ⟨m, hm⟩ : ∃ m, k * C + (x - 1) = m := ⟨_, rfl⟩
      have hmN : m < l.length := by rw [HN.out, HL.out]; omega
      have e1 := cel_at hmN
      obtain ⟨p', cap', hp', hc', hrow⟩ := HV.out.later (xt HB.out.2 HI.out.2)
      rw [HN.out] at hp'
      cases hp'
      obtain ⟨b, o, rfl, RW⟩ := hrow (by omega)
      obtain ⟨c0, c1, c2, c3, c4⟩ := RW.five e1
      have HS := faultB_succ l C x k
      rw [hm] at HS
      have HFS : Hid (faultB l C x (k + 1) = (faultB l C x k || decide ((cel l m).k = 4))) := HS
      obtain ⟨⟨vk, vn, vd, vx, vt⟩, hA⟩ : ∃ A, cel l m = A := ⟨_, rfl⟩
      rw [hA] at c0 c1 c2 c3 c4 HFS
      have kc : k * C ≤ 2000 := by omega
      obtain ⟨kC, hkC⟩ : ∃ q, k * C = q := ⟨_, rfl⟩
      have m1 : (k : Int) * (C : Int) = (kC : Int) := by rw [← hkC]; simp
      have m2 : IntKind.i64.wrap ((kC : Int) + (x : Int)) = (kC : Int) + (x : Int) := by rw [IntKind.wrap_i64]; omega
      have m3 : (kC : Int) + (x : Int) - 1 = (m : Int) := by omega
      have m4 : (m : Int) < (N : Int) := by rw [HN.out] at hmN; omega
      have CE := fun W => isErrQ vk vn vd vx vt W
      clear RW hrow HS e1 hA hmN hm hkC hpl
      go_wp2_with fail
      refine (CE _).mono ?_
      rintro e w1 ⟨rfl, e1⟩
      have X1 := xt HI.out.2 e1
      by_cases q4 : vk = 4
      · have HT : Hid (faultB l C x R = true) := by
          refine faultB_mono (k := k + 1) ?_ (by omega)
          rw [HFS.out]
          simp [q4]
        have d4 : decide (vk = 4) = true := decide_eq_true q4
        rw [d4]
        go_wp2_with fail
        go_ret
        exact ⟨ret_bool (by rw [HT.out]), xt HB.out.2 X1⟩
      · have d4 : decide (vk = 4) = false := decide_eq_false q4
        rw [d4]
        have HN2 : Hid (faultB l C x (k + 1) = false ∧ Ext u0 w1) := ⟨by rw [HFS.out, HI.out.1]; simp [q4], X1⟩
        go_wp2_with fail
        go_roundw
        case rel => exact ⟨k + 1, by omega, by go_num, HN2⟩
        case measure => simp [intOf]; omega
    · obtain rfl : k = R := by omega
      have i2 : ¬ (k : Int) < (k : Int) := by omega
      go_wp2_with fail
      go_ret
      exact ⟨ret_bool (by rw [HI.out.1]), xt HB.out.2 HI.out.2⟩

end Go.Proofs.YtbomplppgobkdaaGreatDoor

