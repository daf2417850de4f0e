/-
  Several texts in one: Qh, E12, Qs.
-/
import Derived.Test.YtgpfddneablcpaaGreatDoorMg27
import Derived.Test.YtgpfddneablcpaaGreatDoorMg23
import Derived.Deep.RegionHeld3
import Derived.Test.YtgpfddneablcpaaGreatDoorQl
namespace Go.Proofs.YtgpfddneablcpaaGreatDoor
open Go.RowKit

theorem cmpSQ (a b : VT) (w : World) (hl : a.t.length ≤ 2000000) (hl' : b.t.length ≤ 2000000) (ga : a.good = true) (gb : b.good = true) (h4 : a.k ≠ 4) (h4' : b.k ≠ 4) :
  Calls Tryz.prog 77 #[a.val, b.val] w fun e w' => e = .returned (.int .i64 (cmpQ a b)) ∧ Ext w w' := by
 obtain ⟨k, n, d, x, t⟩ := a
 obtain ⟨k', n', d', x', t'⟩ := b
 obtain ⟨v1, z1⟩ := beside_eq (k := k) (n := n) (d := d) (x := x) (t := t) ga k'
 obtain ⟨v2, z2⟩ := beside_eq (k := k') (n := n') (d := d') (x := x') (t := t') gb k
 have e : cmpQ ⟨k, n, d, x, t⟩ ⟨k', n', d', x', t'⟩ = cmpR (bk k k') n d x (bt k t k') (bk k' k) n' d' x' (bt k' t' k) := by
  unfold cmpQ compareV
  rw [if_pos ⟨ga, gb, h4, h4'⟩]
 rw [e]
 exact cmpS6 k n d x t k' n' d' x' t' w _ _ _ _ _ v1 z1 (bt_len k k' hl) _ _ _ _ _ v2 z2 (bt_len k' k hl')
set_option maxHeartbeats 1000000 in
theorem isErrQ (k : Int) (n : Bool) (d x : Int) (t : List UInt8) (w : World) :
  Calls Tryz.prog 55 #[valV k n d x t] w fun e w' => e = .returned (.bool (decide (k = 4))) ∧ Ext w w' := by
 have X := x1 w (.cells #[.int .i64 k, .bool n, .int .i64 d, .int .i64 x, sV t] 51)
 by_cases h : k = 4
 ·
  subst h
  go_enter Tryz.func55, Tryz.ntmps55
  go_wp2_with fail
  go_ret
  exact ⟨rfl, X⟩
 ·
  rw [show decide (k = 4) = false by simpa using h]
  have hb : (k == 4) = false := by simpa using h
  go_enter Tryz.func55, Tryz.ntmps55
  go_wp2_with fail
  go_ret
  exact ⟨rfl, X⟩
set_option maxRecDepth 8000 in
set_option maxHeartbeats 2000000 in
theorem sameS (a b : VT) (w : World) (hl : a.t.length ≤ 2000000) (hl' : b.t.length ≤ 2000000) (ga : a.good = true) (gb : b.good = true) :
  Calls Tryz.prog 54 #[a.val, b.val] w fun e w' => e = .returned (.bool (likeB a b)) ∧ Ext w w' := by
 have CM : a.k = b.k → a.k ≠ 4 → Hid (∀ W, Calls Tryz.prog 77 #[a.val, b.val] W fun e w' => e = .returned (.int .i64 (cmpQ a b)) ∧ Ext W w') := fun hk h4 W => cmpSQ a b W hl hl' ga gb h4 (hk ▸ h4)
 have HL : Hid (likeB a b = (decide (a.k = b.k) && (if a.k = 4 then sameQ a b else decide (cmpQ a b = 0)))) := rfl
 obtain ⟨k, n, d, x, t⟩ := a
 obtain ⟨k', n', d', x', t'⟩ := b
 obtain ⟨u0, u1, h0, h1, s0, s1, B0, B1, X⟩ := mkB2 w (valL k n d x t) (valL k' n' d' x' t') 51 51
 have EQ := fun W => valQ_eql k n d x t k' n' d' x' t' W
 obtain ⟨S, hS⟩ : ∃ S, sameQ ⟨k, n, d, x, t⟩ ⟨k', n', d', x', t'⟩ = S := ⟨_, rfl⟩
 obtain ⟨R, hR⟩ : ∃ R, cmpQ ⟨k, n, d, x, t⟩ ⟨k', n', d', x', t'⟩ = R := ⟨_, rfl⟩
 obtain ⟨Q, hQ⟩ : ∃ Q, likeB ⟨k, n, d, x, t⟩ ⟨k', n', d', x', t'⟩ = Q := ⟨_, rfl⟩
 rw [hS] at EQ HL
 rw [hR] at CM HL
 rw [hQ] at HL ⊢
 simp only at CM HL
 clear hS hR hQ ga gb hl hl'
 obtain ⟨a0, a1, a2, a3, a4⟩ := Vec.five B0
 obtain ⟨b0, b1, b2, b3, b4⟩ := Vec.five B1
 by_cases hk : k = k'
 ·
  subst hk
  have CE := fun W => isErrQ k n d x t W
  by_cases h4 : k = 4
  ·
   have HF : Hid (S = Q) := by show _ = _; rw [HL.out, if_pos h4]; simp
   subst h4
   go_enter Tryz.func54, Tryz.ntmps54
   go_wp2_with (go_at_call 55; refine (CE u1).mono ?_; rintro e w1 ⟨rfl, e1⟩; obtain ⟨a0, a1, a2, a3, a4⟩ := Vec.five (B0.later e1); obtain ⟨b0, b1, b2, b3, b4⟩ := Vec.five (B1.later e1))
   go_ret
   exact ⟨ret_bool HF.out, xt X e1⟩
  ·
   have HF : Hid (decide (R = 0) = Q) := by show _ = _; rw [HL.out, if_neg h4]; simp
   have C0 := CM rfl h4
   rw [decide_eq_false h4] at CE
   by_cases hR : R = 0
   ·
    subst hR
    go_enter Tryz.func54, Tryz.ntmps54
    go_wp2_with (first
     | (go_at_call 55; refine (CE u1).mono ?_; rintro e w1 ⟨rfl, e1⟩; obtain ⟨a0, a1, a2, a3, a4⟩ := Vec.five (B0.later e1); obtain ⟨b0, b1, b2, b3, b4⟩ := Vec.five (B1.later e1))
     | (go_at_call 77; refine (C0.out w1).mono ?_; rintro e w2 ⟨rfl, e2⟩))
    go_ret
    exact ⟨ret_bool HF.out, xt X (xt e1 e2)⟩
   ·
    have hRb : (R == 0) = false := by simpa using hR
    have HF : Hid (false = Q) := by show _ = _; rw [← HF.out, decide_eq_false hR]
    go_enter Tryz.func54, Tryz.ntmps54
    go_wp2_with (first
     | (go_at_call 55; refine (CE u1).mono ?_; rintro e w1 ⟨rfl, e1⟩; obtain ⟨a0, a1, a2, a3, a4⟩ := Vec.five (B0.later e1); obtain ⟨b0, b1, b2, b3, b4⟩ := Vec.five (B1.later e1))
     | (go_at_call 77; refine (C0.out w1).mono ?_; rintro e w2 ⟨rfl, e2⟩))
    go_ret
    exact ⟨ret_bool HF.out, xt X (xt e1 e2)⟩
 ·
  have hkb : (k == k') = false := by simpa using hk
  have HF : Hid (false = Q) := by show _ = _; rw [HL.out, decide_eq_false hk]; rfl
  go_enter Tryz.func54, Tryz.ntmps54
  go_wp2_with fail
  go_ret
  exact ⟨ret_bool HF.out, X⟩

theorem nrmL_same {la lb : List VT} (hn : la.length = lb.length) (ga : ∀ e ∈ la, e.good = true) (gb : ∀ e ∈ lb, e.good = true) (h : ∀ (j : Nat) (a b : VT), la[j]? = some a → lb[j]? = some b → likeB a b = true) : la.map nrm = lb.map nrm := by
 apply List.ext_getElem?
 intro i
 rw [List.getElem?_map, List.getElem?_map]
 by_cases hi : i < la.length
 ·
  have e1 := List.getElem?_eq_getElem hi
  have e2 := List.getElem?_eq_getElem (show i < lb.length by omega)
  rw [e1, e2]
  simp only [Option.map_some]
  exact congrArg some ((like_nrm (ga _ (List.mem_of_getElem? e1)) (gb _ (List.mem_of_getElem? e2))).1 (h i _ _ e1 e2))
 ·
  rw [List.getElem?_eq_none (by omega), List.getElem?_eq_none (by omega)]
theorem nrmL_other {la lb : List VT} (ga : ∀ e ∈ la, e.good = true) (gb : ∀ e ∈ lb, e.good = true) {j : Nat} {a b : VT} (h1 : la[j]? = some a) (h2 : lb[j]? = some b) (h : likeB a b = false) : la.map nrm ≠ lb.map nrm := fun e => by
 have e1 : (la.map nrm)[j]? = (lb.map nrm)[j]? := by rw [e]
 rw [List.getElem?_map, List.getElem?_map, h1, h2] at e1
 simp only [Option.map_some, Option.some.injEq] at e1
 rw [(like_nrm (ga _ (List.mem_of_getElem? h1)) (gb _ (List.mem_of_getElem? h2))).2 e1] at h
 cases h
set_option maxRecDepth 8000 in
set_option maxHeartbeats 4000000 in
theorem sameGS (va vb : Value) (la lb : List VT) (w : World) (ha : ValsIn w va la) (hb : ValsIn w vb lb) (ga : ∀ e ∈ la, e.good = true ∧ e.t.length ≤ 2000000) (gb : ∀ e ∈ lb, e.good = true ∧ e.t.length ≤ 2000000) (l1 : la.length ≤ 2000) (hl : la.length = lb.length) :
  Calls Tryz.prog 36 #[va, vb] w fun e w' => e = .returned (.bool (decide (la.map nrm = lb.map nrm))) ∧ Ext w w' := by
 have CR : Hid (∀ a b W, a ∈ la → b ∈ lb → Calls Tryz.prog 54 #[a.val, b.val] W fun e w' => e = .returned (.bool (likeB a b)) ∧ Ext W w') := fun a b W h1 h2 => sameS a b W (ga a h1).2 (gb b h2).2 (ga a h1).1 (gb b h2).1
 have HG : Hid ((∀ e ∈ la, e.good = true) ∧ (∀ e ∈ lb, e.good = true) ∧ la.length = lb.length) := ⟨fun e h => (ga e h).1, fun e h => (gb e h).1, hl⟩
 obtain ⟨pa, ca, rfl, hca, hra⟩ := ha
 obtain ⟨pb, cb, rfl, hcb, hrb⟩ := hb
 have HA : Hid (0 < la.length → ∃ b o, pa = some ⟨b, o, none⟩ ∧ RowV w b o la) := hra
 have HB : Hid (0 < lb.length → ∃ b o, pb = some ⟨b, o, none⟩ ∧ RowV w b o lb) := hrb
 obtain ⟨n, hn⟩ : ∃ n, la.length = n := ⟨_, rfl⟩
 have HN : Hid (la.length = n ∧ lb.length = n) := ⟨hn, by rw [← hl]; exact hn⟩
 rw [← hl] at hcb HB ⊢
 rw [hn] at hca hcb l1 HA HB ⊢
 obtain ⟨Q, hQ⟩ : ∃ Q, decide (la.map nrm = lb.map nrm) = Q := ⟨_, rfl⟩
 have HQ : Hid (decide (la.map nrm = lb.map nrm) = Q) := hQ
 rw [hQ]
 clear hra hrb hn hQ ga gb hl
 go_enter Tryz.func36, Tryz.ntmps36
 go_wp2_with fail
 go_loopw [8] (fun i wr => ∃ k : Nat, k ≤ n ∧ i = .int .i64 k ∧ Hid (Ext w wr ∧ ∀ j a b, j < k → la[j]? = some a → lb[j]? = some b → likeB a b = true)) (fun i _ => n - (intOf i).toNat)
 case atStart => exact ⟨0, by omega, rfl, xr _, fun j a b hj => absurd hj (by omega)⟩
 case round =>
  obtain ⟨k, hk, rfl, HO⟩ := hrel
  by_cases hlt : k < n
  ·
   have i2 : (k : Int) < (n : Int) := by omega
   obtain ⟨⟨k1, n1, d1, x1, t1⟩, hx⟩ : ∃ x, la[k]? = some x := ⟨_, List.getElem?_eq_getElem (by rw [HN.out.1]; exact hlt)⟩
   obtain ⟨⟨k2, n2, d2, x2, t2⟩, hy⟩ : ∃ x, lb[k]? = some x := ⟨_, List.getElem?_eq_getElem (by rw [HN.out.2]; exact hlt)⟩
   obtain ⟨b, o, rfl, RW⟩ := HA.out (by omega)
   obtain ⟨b', o', rfl, RW'⟩ := HB.out (by omega)
   obtain ⟨c0, c1, c2, c3, c4⟩ := (RW.later HO.out.1).five hx
   obtain ⟨e0, e1, e2, e3, e4⟩ := (RW'.later HO.out.1).five hy
   simp only at c0 c1 c2 c3 c4 e0 e1 e2 e3 e4
   have CL : Hid (∀ W, Calls Tryz.prog 54 #[valV k1 n1 d1 x1 t1, valV k2 n2 d2 x2 t2] W fun e w' => e = .returned (.bool (likeB ⟨k1, n1, d1, x1, t1⟩ ⟨k2, n2, d2, x2, t2⟩)) ∧ Ext W w') := fun W => CR.out _ _ W (List.mem_of_getElem? hx) (List.mem_of_getElem? hy)
   have HX : Hid (la[k]? = some ⟨k1, n1, d1, x1, t1⟩ ∧ lb[k]? = some ⟨k2, n2, d2, x2, t2⟩) := ⟨hx, hy⟩
   obtain ⟨LK, hLK⟩ : ∃ LK, likeB ⟨k1, n1, d1, x1, t1⟩ ⟨k2, n2, d2, x2, t2⟩ = LK := ⟨_, rfl⟩
   have HLK : Hid (likeB ⟨k1, n1, d1, x1, t1⟩ ⟨k2, n2, d2, x2, t2⟩ = LK) := hLK
   rw [hLK] at CL
   have kc1 : (k : Int) ≤ (ca : Int) := by omega
   clear hx hy RW RW' hLK
   go_wp2_with fail
   go_region_held3 (fun w' => w'.cell? ⟨b, o + k * 5, none⟩ = some (.int .i64 k1) ∧ w'.cell? ⟨b, o + k * 5 + 1, none⟩ = some (.bool n1) ∧ w'.cell? ⟨b, o + k * 5 + 2, none⟩ = some (.int .i64 d1) ∧ w'.cell? ⟨b, o + k * 5 + 3, none⟩ = some (.int .i64 x1) ∧ w'.cell? ⟨b, o + k * 5 + 4, none⟩ = some (sV t1) ∧ w'.cell? ⟨b', o' + k * 5, none⟩ = some (.int .i64 k2) ∧ w'.cell? ⟨b', o' + k * 5 + 1, none⟩ = some (.bool n2) ∧ w'.cell? ⟨b', o' + k * 5 + 2, none⟩ = some (.int .i64 d2) ∧ w'.cell? ⟨b', o' + k * 5 + 3, none⟩ = some (.int .i64 x2) ∧ w'.cell? ⟨b', o' + k * 5 + 4, none⟩ = some (sV t2)) (go_keep)
    (first
     | (go_at_call 54; refine (CL.out _).mono ?_; rintro e w' ⟨rfl, E⟩; have Y := xt (xd (xr _)) E; have rc0 := cell_later Y c0; have rc1 := cell_later Y c1; have rc2 := cell_later Y c2; have rc3 := cell_later Y c3; have rc4 := cell_later Y c4; have rd0 := cell_later Y e0; have rd1 := cell_later Y e1; have rd2 := cell_later Y e2; have rd3 := cell_later Y e3; have rd4 := cell_later Y e4))
   have Y1 := xt HO.out.1 Y
   cases LK
   ·
    have HF : Hid (false = Q) := by
     show _ = _
     rw [← HQ.out]
     exact (decide_eq_false (nrmL_other HG.out.1 HG.out.2.1 HX.out.1 HX.out.2 HLK.out)).symm
    clear CL
    go_wp2_with fail
    go_ret
    exact ⟨ret_bool HF.out, Y1⟩
   ·
    have HM : Hid (Ext w w' ∧ ∀ j a b, j < k + 1 → la[j]? = some a → lb[j]? = some b → likeB a b = true) := ⟨Y1, fun j a b hj h1 h2 => by
     by_cases e : j = k
     ·
      subst e
      rw [HX.out.1] at h1
      rw [HX.out.2] at h2
      cases h1
      cases h2
      exact HLK.out
     ·
      exact HO.out.2 j a b (by omega) h1 h2⟩
    clear CL
    go_wp2_with fail
    go_roundw
    case rel => exact ⟨k + 1, by omega, by go_num, HM⟩
    case measure => simp [intOf]; omega
  ·
   obtain rfl : k = n := by omega
   have i2 : ¬ (k : Int) < (k : Int) := by omega
   have HF : Hid (true = Q) := by
    show _ = _
    rw [← HQ.out]
    exact (decide_eq_true (nrmL_same HG.out.2.2 HG.out.1 HG.out.2.1 (fun j a b h1 h2 => HO.out.2 j a b (by have := (List.getElem?_eq_some_iff.1 h1).1; rw [HN.out.1] at this; exact this) h1 h2))).symm
   go_wp2_with fail
   go_ret
   exact ⟨ret_bool HF.out, HO.out.1⟩

set_option maxHeartbeats 1000000 in
theorem lateS (e : VT) (w : World) : Calls Tryz.prog 78 #[e.val] w fun z w' => z = .returned (.int .i64 (lateV e)) ∧ Ext w w' := by
 obtain ⟨k, n, d, x, t⟩ := e
 have X0 := x1 w (.cells #[.int .i64 k, .bool n, .int .i64 d, .int .i64 x, sV t] 51)
 by_cases h0 : k = 0
 ·
  subst h0
  have e : lateV ⟨0, n, d, x, t⟩ = 1 := rfl
  rw [e]
  go_enter Tryz.func78, Tryz.ntmps78
  go_wp2_with fail
  go_ret
  exact ⟨rfl, X0⟩
 ·
  have h0b : (k == 0) = false := by simpa using h0
  by_cases h4 : k = 4
  ·
   subst h4
   have e : lateV ⟨4, n, d, x, t⟩ = 2 := rfl
   rw [e]
   go_enter Tryz.func78, Tryz.ntmps78
   go_wp2_with fail
   go_ret
   exact ⟨rfl, X0⟩
  ·
   have h4b : (k == 4) = false := by simpa using h4
   have e : lateV ⟨k, n, d, x, t⟩ = 0 := by unfold lateV; rw [if_neg h0, if_neg h4]
   rw [e]
   go_enter Tryz.func78, Tryz.ntmps78
   go_wp2_with fail
   go_ret
   exact ⟨rfl, X0⟩
theorem cmpI_lt0 (a b : Int) : cmpI a b < 0 ↔ a < b := by unfold cmpI; split <;> (try split) <;> constructor <;> intro <;> omega
set_option maxRecDepth 8000 in
set_option maxHeartbeats 4000000 in
theorem aheadS (a b : VT) (s : Int) (hs : s = 1 ∨ s = -1) (w : World) (ha : a.room) (hb : b.room) (ga : a.good = true) (gb : b.good = true) :
  Calls Tryz.prog 56 #[a.val, b.val, .int .i64 s] w fun e w' => e = .returned (.bool (decide (standB a b s < 0))) ∧ Ext w w' := by
 have CA := fun W => lateS a W
 have CB := fun W => lateS b W
 have CC : lateV a = 0 → lateV b = 0 → Hid (∀ W, Calls Tryz.prog 77 #[a.val, b.val] W fun e w' => e = .returned (.int .i64 (cmpQ a b)) ∧ Ext W w') := fun h1 h2 W => by
  have k1 := late_good ga h1
  have k2 := late_good gb h2
  exact cmpSQ a b W ha.1 hb.1 ga gb (by omega) (by omega)
 have bd := cmpQ_bd a b
 have la := late_bd a
 have lb := late_bd b
 have HS : Hid (standB a b s = if lateV a ≠ lateV b ∨ lateV a ≠ 0 then cmpI (lateV a) (lateV b) else cmpQ a b * s) := rfl
 obtain ⟨k, n, d, x, t⟩ := a
 obtain ⟨k', n', d', x', t'⟩ := b
 obtain ⟨A, hA⟩ : ∃ A, lateV ⟨k, n, d, x, t⟩ = A := ⟨_, rfl⟩
 obtain ⟨B, hB⟩ : ∃ B, lateV ⟨k', n', d', x', t'⟩ = B := ⟨_, rfl⟩
 obtain ⟨R, hR⟩ : ∃ R, cmpQ ⟨k, n, d, x, t⟩ ⟨k', n', d', x', t'⟩ = R := ⟨_, rfl⟩
 obtain ⟨Q, hQ⟩ : ∃ Q, standB ⟨k, n, d, x, t⟩ ⟨k', n', d', x', t'⟩ s = Q := ⟨_, rfl⟩
 rw [hA] at CA HS la CC
 rw [hB] at CB HS lb CC
 rw [hR] at CC HS bd
 rw [hQ] at HS ⊢
 obtain ⟨u0, u1, h0, h1, s0', s1', B0, B1, X⟩ := mkB2 w (valL k n d x t) (valL k' n' d' x' t') 51 51
 obtain ⟨a0, a1, a2, a3, a4⟩ := Vec.five B0
 obtain ⟨a5, a6, a7, a8, a9⟩ := Vec.five B1
 clear hA hB hR hQ ha hb ga gb
 by_cases hL : A = 0 ∧ B = 0
 ·
  obtain ⟨rfl, rfl⟩ := hL
  have HF : Hid (decide (R * s < 0) = decide (Q < 0)) := by show _ = _; rw [HS.out, if_neg (by omega)]
  have C0 := CC rfl rfl
  have hw9 : IntKind.i64.wrap (R * s) = R * s := by rcases hs with rfl | rfl <;> rw [IntKind.wrap_i64] <;> omega
  obtain ⟨Z, hZ⟩ : ∃ Z, R * s = Z := ⟨_, rfl⟩
  rw [hZ] at hw9 HF
  go_enter Tryz.func56, Tryz.ntmps56
  go_wp2_with (first
   | (go_at_call 78; first | (refine (CA u1).mono ?_; rintro e w1 ⟨rfl, e1⟩; obtain ⟨a0, a1, a2, a3, a4⟩ := Vec.five (B0.later e1); obtain ⟨a5, a6, a7, a8, a9⟩ := Vec.five (B1.later e1)) | (refine (CB w1).mono ?_; rintro e w2 ⟨rfl, e2⟩; obtain ⟨a0, a1, a2, a3, a4⟩ := Vec.five (B0.later (xt e1 e2)); obtain ⟨a5, a6, a7, a8, a9⟩ := Vec.five (B1.later (xt e1 e2))))
   | (go_at_call 77; refine (C0.out w2).mono ?_; rintro e w3 ⟨rfl, e3⟩))
  go_ret
  exact ⟨ret_bool HF.out, xt X (xt e1 (xt e2 e3))⟩
 ·
  have HF : Hid (decide (A < B) = decide (Q < 0)) := by
   show _ = _
   rw [HS.out]
   by_cases h2 : A ≠ B ∨ A ≠ 0
   ·
    rw [if_pos h2]; exact decide_eq_decide.2 (cmpI_lt0 A B).symm
   ·
    exact absurd (show A = 0 ∧ B = 0 by omega) hL
  by_cases hA0 : A > 0
  ·
   have f1 : decide (A > 0) = true := decide_eq_true hA0
   clear CC
   go_enter Tryz.func56, Tryz.ntmps56
   go_wp2_with (first
    | (go_at_call 78; first | (refine (CA u1).mono ?_; rintro e w1 ⟨rfl, e1⟩; obtain ⟨a0, a1, a2, a3, a4⟩ := Vec.five (B0.later e1); obtain ⟨a5, a6, a7, a8, a9⟩ := Vec.five (B1.later e1)) | (refine (CB w1).mono ?_; rintro e w2 ⟨rfl, e2⟩)))
   go_ret
   exact ⟨ret_bool HF.out, xt X (xt e1 e2)⟩
  ·
   have hB0 : B > 0 := by omega
   obtain rfl : A = 0 := by omega
   have f2 : decide (B > 0) = true := decide_eq_true hB0
   have HF : Hid (true = decide (Q < 0)) := by show _ = _; rw [← HF.out]; exact (decide_eq_true (by omega)).symm
   clear CC
   go_enter Tryz.func56, Tryz.ntmps56
   go_wp2_with (first
    | (go_at_call 78; first | (refine (CA u1).mono ?_; rintro e w1 ⟨rfl, e1⟩; obtain ⟨a0, a1, a2, a3, a4⟩ := Vec.five (B0.later e1); obtain ⟨a5, a6, a7, a8, a9⟩ := Vec.five (B1.later e1)) | (refine (CB w1).mono ?_; rintro e w2 ⟨rfl, e2⟩)))
   go_ret
   exact ⟨ret_bool HF.out, xt X (xt e1 e2)⟩

end Go.Proofs.YtgpfddneablcpaaGreatDoor

