/-
  Several texts in one: Qg, Qh.
-/
import Derived.Test.YtlofnhhoopefcaaGreatDoorMg26
namespace Go.Proofs.YtlofnhhoopefcaaGreatDoor
open Go.RowKit

/-- A run begins at a row of a column. -/
def runB (L : List VT) (i : Nat) : Bool := decide (i = 0) || !likeB (cel L i) (cel L (i - 1))
set_option maxRecDepth 8000 in
set_option maxHeartbeats 4000000 in
theorem runs1I (v : Value) (L : List VT) (i : Nat) (w : World) (h : ValsIn w v L) (hi : i < L.length) (hl : L.length ≤ 2000) (hr : ∀ e ∈ L, e.room) (hT : Tens w) (hE : ErrTab w) :
  Calls Tryz.prog 37 #[v, numV i] w fun e w' => e = .returned (.bool (runB L i)) ∧ Ext w w' := by
 have h' := h
 obtain ⟨p, cap, rfl, hcap, hrow⟩ := h'
 obtain ⟨b, o, rfl, RW⟩ := hrow (by omega)
 obtain ⟨n, hn⟩ : ∃ n, L.length = n := ⟨_, rfl⟩
 by_cases h0 : i = 0
 ·
  subst h0
  have e : runB L 0 = true := by simp [runB]
  rw [e]
  rw [hn] at hi hl ⊢
  clear h hr hT hE hcap RW hrow
  go_enter Tryz.func37, Tryz.ntmps37
  go_wp2_with fail
  go_quiet (fail)
  go_wp2_with fail
  go_ret
  exact ⟨rfl, ⟨rfl, rfl, rfl, Nat.le_refl _, fun _ _ => rfl⟩⟩
 ·
  obtain ⟨y, hy⟩ : ∃ y, i - 1 = y := ⟨_, rfl⟩
  have e1 := cel_at hi
  have e0 := cel_at (show y < L.length by omega)
  have CL : Hid (∀ W, Ext w W → Calls Tryz.prog 38 #[(cel L i).val, (cel L y).val] W fun e w' => e = .returned (.bool (likeB (cel L i) (cel L y))) ∧ Ext W w') := fun W hW => likeI _ _ W (hr _ (cel_mem hi)) (hr _ (cel_mem (by omega))) (hT.later hW) (hE.later hW)
  have er : runB L i = !likeB (cel L i) (cel L y) := by simp [runB, h0, hy]
  rw [er]
  obtain ⟨R, hR⟩ : ∃ R, likeB (cel L i) (cel L y) = R := ⟨_, rfl⟩
  rw [hR] at CL ⊢
  obtain ⟨⟨k, m, d, x, t⟩, hA⟩ : ∃ A, cel L i = A := ⟨_, rfl⟩
  obtain ⟨⟨k', m', d', x', t'⟩, hB⟩ : ∃ B, cel L y = B := ⟨_, rfl⟩
  rw [hA] at e1 CL
  rw [hB] at e0 CL
  obtain ⟨c0, c1, c2, c3, c4⟩ := RW.five e1
  obtain ⟨d0, d1, d2, d3, d4⟩ := RW.five e0
  rw [hn] at hi hl ⊢
  have i2 : (i : Int) < (n : Int) := by omega
  have i4 : (y : Int) < (n : Int) := by omega
  have iw : IntKind.i64.wrap ((i : Int) - 1) = (y : Int) := by rw [IntKind.wrap_i64]; omega
  have i5 : ((i : Int) == 0) = false := beq_eq_false_iff_ne.2 (by omega)
  clear h hr hT hE hcap RW hrow hR hA hB er e0 e1 h0 hn hy
  go_enter Tryz.func37, Tryz.ntmps37
  go_wp2_with fail
  go_region_held3 (fun w' => w'.cell? ⟨b, o + i * 5, none⟩ = some (.int .i64 k) ∧ w'.cell? ⟨b, o + i * 5 + 1, none⟩ = some (.bool m) ∧ w'.cell? ⟨b, o + i * 5 + 2, none⟩ = some (.int .i64 d) ∧ w'.cell? ⟨b, o + i * 5 + 3, none⟩ = some (.int .i64 x) ∧ w'.cell? ⟨b, o + i * 5 + 4, none⟩ = some (sV t) ∧ w'.cell? ⟨b, o + y * 5, none⟩ = some (.int .i64 k') ∧ w'.cell? ⟨b, o + y * 5 + 1, none⟩ = some (.bool m') ∧ w'.cell? ⟨b, o + y * 5 + 2, none⟩ = some (.int .i64 d') ∧ w'.cell? ⟨b, o + y * 5 + 3, none⟩ = some (.int .i64 x') ∧ w'.cell? ⟨b, o + y * 5 + 4, none⟩ = some (sV t')) (go_keep)
   (first
    | (go_at_call 38; refine (CL.out _ (xd (xr _))).mono ?_; rintro e w' ⟨rfl, E⟩; have Y := xt (xd (xr _)) E; have rc0 := cell_later Y c0; have rc1 := cell_later Y c1; have rc2 := cell_later Y c2; have rc3 := cell_later Y c3; have rc4 := cell_later Y c4; have rd0 := cell_later Y d0; have rd1 := cell_later Y d1; have rd2 := cell_later Y d2; have rd3 := cell_later Y d3; have rd4 := cell_later Y d4))
  all_goals
   go_wp2_with fail
   go_ret
   exact ⟨rfl, Y⟩

theorem colL_room {l : List VT} {c j n : Nat} (h : ∀ e ∈ l, e.room) (hn : ∀ i, i < n → i * c + j < l.length) : ∀ e ∈ colL l c j n, e.room := by
 intro e he
 obtain ⟨i, hi, rfl⟩ := List.getElem_of_mem he
 rw [colL_length] at hi
 have e2 := colL_at l c j n hi
 rw [List.getElem?_eq_getElem (by rw [colL_length]; exact hi)] at e2
 have e3 := Option.some.inj e2
 rw [e3]
 exact h _ (cel_mem (hn i hi))
/-- The rows at which runs begin. -/
def runsR (r c : Int) (l : List VT) (x : Int) : List Nat := rowsR (goodG r c l) r c x (runB (colL l c.toNat (x.toNat - 1) r.toNat))
theorem good_dims {r c : Int} {l : List VT} (h : goodG r c l = true) : ∃ R C : Nat, r = R ∧ c = C ∧ l.length = R * C ∧ R * C ≤ 2000 ∧ 1 ≤ R ∧ 1 ≤ C ∧ R ≤ 2000 ∧ C ≤ 2000 := by
 have hg := goodG_all h
 have hs : 1 ≤ r ∧ 1 ≤ c ∧ r * c ≤ 2000 ∧ (l.length : Int) = r * c := of_decide_eq_true hg.1
 obtain ⟨R, rfl⟩ := Int.eq_ofNat_of_zero_le (show 0 ≤ r by omega)
 obtain ⟨C, rfl⟩ := Int.eq_ofNat_of_zero_le (show 0 ≤ c by omega)
 have e : ((R * C : Nat) : Int) = (R : Int) * (C : Int) := by simp
 refine ⟨R, C, rfl, rfl, ?_, ?_, ?_, ?_, ?_, ?_⟩ <;> omega
set_option maxRecDepth 8000 in
set_option maxHeartbeats 2000000 in
theorem runsI (r c : Int) (v : Value) (l : List VT) (x : Int) (w : World) (h : ValsIn w v l) (hl : l.length ≤ 1048576) (hr : ∀ e ∈ l, e.room) (hT : Tens w) (hE : ErrTab w)
  (x1' : -9223372036854775808 ≤ x) (x2' : x ≤ 9223372036854775807) :
  Calls Tryz.prog 19 #[grV r c v, .int .i64 x] w fun e w' => ∃ ans, e = .returned ans ∧ AnsI w w' ans (runsR r c l x) := by
 have X0 := x1 w (.cells #[.int .i64 r, .int .i64 c, v] 32)
 have B0 := vec_made w [.int .i64 r, .int .i64 c, v] 32
 change Vec (w.alloc (.cells #[.int .i64 r, .int .i64 c, v] 32)) _ _ at B0
 have C0 : Hid (∀ W, Ext w W → Calls Tryz.prog 36 #[grV r c v, .int .i64 x, .func (.func 37) #[] #[]] W fun e w' => ∃ ans, e = .returned ans ∧ AnsI W w' ans (runsR r c l x)) := fun W hW => by
  refine rowsByI r c v l x 37 #[] _ W (h.later hW) hl hr (hT.later hW) (hE.later hW) x1' x2' (fun hg h1 h2 => ⟨enters_of Tryz.func37 (by kernel_rfl) rfl, fun W' sv i hX hV hi => ?_⟩)
  obtain ⟨R, C, rfl, rfl, hlen, h3, h4, h5, h6, h7⟩ := good_dims hg
  rw [Int.toNat_natCast, Int.toNat_natCast] at hV hi ⊢
  exact runs1I sv _ i W' hV hi (by rw [colL_length]; exact h6) (colL_room hr (fun i hi => by rw [hlen]; exact place_lt hi (by omega))) (hT.later (xt hW hX)) (hE.later (xt hW hX))
 obtain ⟨RR, hRR⟩ : ∃ RR, runsR r c l x = RR := ⟨_, rfl⟩
 rw [hRR] at C0 ⊢
 obtain ⟨p, n, rfl⟩ : ∃ p n, v = .slice p l.length n := by obtain ⟨p, n, h, _⟩ := h; exact ⟨p, n, h⟩
 obtain ⟨N, hN⟩ : ∃ N, l.length = N := ⟨_, rfl⟩
 rw [hN] at C0 B0 X0 ⊢
 obtain ⟨a0, a1, a2⟩ := Vec.three B0
 clear h hl hr hT hE hRR hN
 go_enter Tryz.func19, Tryz.ntmps19
 go_wp2_with fail
 refine (C0.out _ X0).mono ?_
 rintro e w1 ⟨ans, rfl, A1, A2, A3⟩
 have HA : Hid (AnsI w w1 ans RR) := ⟨A1, fun h0 g hg => Nat.le_trans X0.size (A2 h0 g hg), xt X0 A3⟩
 obtain ⟨p1, n1, rfl⟩ : ∃ p n, ans = .slice p RR.length n := by obtain ⟨p, n, h, _⟩ := A1; exact ⟨p, n, h⟩
 clear A1 A2 A3 a0 a1 a2
 go_wp2_with fail
 go_ret
 exact ⟨_, rfl, HA.out⟩

theorem cmpSQ (a b : VT) (w : World) (hl : a.t.length ≤ 2000000) (hl' : b.t.length ≤ 2000000) (ga : a.good = true) (gb : b.good = true) (h4 : a.k ≠ 4) (h4' : b.k ≠ 4) :
  Calls Tryz.prog 53 #[a.val, b.val] w fun e w' => e = .returned (.int .i64 (cmpQ a b)) ∧ Ext w w' := by
 obtain ⟨k, n, d, x, t⟩ := a
 obtain ⟨k', n', d', x', t'⟩ := b
 obtain ⟨v1, z1⟩ := beside_eq (k := k) (n := n) (d := d) (x := x) (t := t) ga k'
 obtain ⟨v2, z2⟩ := beside_eq (k := k') (n := n') (d := d') (x := x') (t := t') gb k
 have e : cmpQ ⟨k, n, d, x, t⟩ ⟨k', n', d', x', t'⟩ = cmpR (bk k k') n d x (bt k t k') (bk k' k) n' d' x' (bt k' t' k) := by
  unfold cmpQ compareV
  rw [if_pos ⟨ga, gb, h4, h4'⟩]
 rw [e]
 exact cmpS6 k n d x t k' n' d' x' t' w _ _ _ _ _ v1 z1 (bt_len k k' hl) _ _ _ _ _ v2 z2 (bt_len k' k hl')
set_option maxHeartbeats 1000000 in
theorem isErrQ (k : Int) (n : Bool) (d x : Int) (t : List UInt8) (w : World) :
  Calls Tryz.prog 52 #[valV k n d x t] w fun e w' => e = .returned (.bool (decide (k = 4))) ∧ Ext w w' := by
 have X := x1 w (.cells #[.int .i64 k, .bool n, .int .i64 d, .int .i64 x, sV t] 70)
 by_cases h : k = 4
 ·
  subst h
  go_enter Tryz.func52, Tryz.ntmps52
  go_wp2_with fail
  go_ret
  exact ⟨rfl, X⟩
 ·
  rw [show decide (k = 4) = false by simpa using h]
  have hb : (k == 4) = false := by simpa using h
  go_enter Tryz.func52, Tryz.ntmps52
  go_wp2_with fail
  go_ret
  exact ⟨rfl, X⟩
set_option maxRecDepth 8000 in
set_option maxHeartbeats 2000000 in
theorem sameS (a b : VT) (w : World) (hl : a.t.length ≤ 2000000) (hl' : b.t.length ≤ 2000000) (ga : a.good = true) (gb : b.good = true) :
  Calls Tryz.prog 35 #[a.val, b.val] w fun e w' => e = .returned (.bool (likeB a b)) ∧ Ext w w' := by
 have CM : a.k = b.k → a.k ≠ 4 → Hid (∀ W, Calls Tryz.prog 53 #[a.val, b.val] W fun e w' => e = .returned (.int .i64 (cmpQ a b)) ∧ Ext W w') := fun hk h4 W => cmpSQ a b W hl hl' ga gb h4 (hk ▸ h4)
 have HL : Hid (likeB a b = (decide (a.k = b.k) && (if a.k = 4 then sameQ a b else decide (cmpQ a b = 0)))) := rfl
 obtain ⟨k, n, d, x, t⟩ := a
 obtain ⟨k', n', d', x', t'⟩ := b
 obtain ⟨u0, u1, h0, h1, s0, s1, B0, B1, X⟩ := mkB2 w (valL k n d x t) (valL k' n' d' x' t') 70 70
 have EQ := fun W => valQ_eql k n d x t k' n' d' x' t' W
 obtain ⟨S, hS⟩ : ∃ S, sameQ ⟨k, n, d, x, t⟩ ⟨k', n', d', x', t'⟩ = S := ⟨_, rfl⟩
 obtain ⟨R, hR⟩ : ∃ R, cmpQ ⟨k, n, d, x, t⟩ ⟨k', n', d', x', t'⟩ = R := ⟨_, rfl⟩
 obtain ⟨Q, hQ⟩ : ∃ Q, likeB ⟨k, n, d, x, t⟩ ⟨k', n', d', x', t'⟩ = Q := ⟨_, rfl⟩
 rw [hS] at EQ HL
 rw [hR] at CM HL
 rw [hQ] at HL ⊢
 simp only at CM HL
 clear hS hR hQ ga gb hl hl'
 obtain ⟨a0, a1, a2, a3, a4⟩ := Vec.five B0
 obtain ⟨b0, b1, b2, b3, b4⟩ := Vec.five B1
 by_cases hk : k = k'
 ·
  subst hk
  have CE := fun W => isErrQ k n d x t W
  by_cases h4 : k = 4
  ·
   have HF : Hid (S = Q) := by show _ = _; rw [HL.out, if_pos h4]; simp
   subst h4
   go_enter Tryz.func35, Tryz.ntmps35
   go_wp2_with (go_at_call 52; refine (CE u1).mono ?_; rintro e w1 ⟨rfl, e1⟩; obtain ⟨a0, a1, a2, a3, a4⟩ := Vec.five (B0.later e1); obtain ⟨b0, b1, b2, b3, b4⟩ := Vec.five (B1.later e1))
   go_ret
   exact ⟨ret_bool HF.out, xt X e1⟩
  ·
   have HF : Hid (decide (R = 0) = Q) := by show _ = _; rw [HL.out, if_neg h4]; simp
   have C0 := CM rfl h4
   rw [decide_eq_false h4] at CE
   by_cases hR : R = 0
   ·
    subst hR
    go_enter Tryz.func35, Tryz.ntmps35
    go_wp2_with (first
     | (go_at_call 52; refine (CE u1).mono ?_; rintro e w1 ⟨rfl, e1⟩; obtain ⟨a0, a1, a2, a3, a4⟩ := Vec.five (B0.later e1); obtain ⟨b0, b1, b2, b3, b4⟩ := Vec.five (B1.later e1))
     | (go_at_call 53; refine (C0.out w1).mono ?_; rintro e w2 ⟨rfl, e2⟩))
    go_ret
    exact ⟨ret_bool HF.out, xt X (xt e1 e2)⟩
   ·
    have hRb : (R == 0) = false := by simpa using hR
    have HF : Hid (false = Q) := by show _ = _; rw [← HF.out, decide_eq_false hR]
    go_enter Tryz.func35, Tryz.ntmps35
    go_wp2_with (first
     | (go_at_call 52; refine (CE u1).mono ?_; rintro e w1 ⟨rfl, e1⟩; obtain ⟨a0, a1, a2, a3, a4⟩ := Vec.five (B0.later e1); obtain ⟨b0, b1, b2, b3, b4⟩ := Vec.five (B1.later e1))
     | (go_at_call 53; refine (C0.out w1).mono ?_; rintro e w2 ⟨rfl, e2⟩))
    go_ret
    exact ⟨ret_bool HF.out, xt X (xt e1 e2)⟩
 ·
  have hkb : (k == k') = false := by simpa using hk
  have HF : Hid (false = Q) := by show _ = _; rw [HL.out, decide_eq_false hk]; rfl
  go_enter Tryz.func35, Tryz.ntmps35
  go_wp2_with fail
  go_ret
  exact ⟨ret_bool HF.out, X⟩

end Go.Proofs.YtlofnhhoopefcaaGreatDoor

