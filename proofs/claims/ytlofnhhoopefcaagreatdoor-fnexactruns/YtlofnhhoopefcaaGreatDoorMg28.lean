/-
  Several texts in one: Qi, W9h.
-/
import Derived.Test.YtlofnhhoopefcaaGreatDoorMg27
import Derived.Test.YtlofnhhoopefcaaGreatDoorW9t
import Derived.Test.YtlofnhhoopefcaaGreatDoorMg24
namespace Go.Proofs.YtlofnhhoopefcaaGreatDoor
open Go.RowKit

theorem cel_col {l : List VT} {c j n i : Nat} (hi : i < n) : cel (colL l c j n) i = cel l (i * c + j) := by
 have := colL_at l c j n hi
 unfold cel at this ⊢
 rw [List.getD_eq_getElem?_getD, this]
 rfl
theorem filter_succ (q : Nat → Bool) (k : Nat) : (List.range (k + 1)).filter q = (List.range k).filter q ++ (if q k then [k] else []) := by
 rw [List.range_succ, List.filter_append]
 cases h : q k <;> simp [h]
theorem filter_lt (q : Nat → Bool) (k : Nat) : ((List.range k).filter q).length ≤ k := by
 have := List.length_filter_le q (List.range k)
 rwa [List.length_range] at this
set_option maxRecDepth 8000 in
set_option maxHeartbeats 4000000 in
theorem runsS (r c : Int) (v : Value) (l : List VT) (x : Int) (w : World) (h : ValsIn w v l) (hl : l.length ≤ 1048576) (hr : ∀ e ∈ l, e.room)
  (x1' : -9223372036854775808 ≤ x) (x2' : x ≤ 9223372036854775807) :
  Calls Tryz.prog 18 #[grV r c v, .int .i64 x] w fun e w' => ∃ ans, e = .returned ans ∧ AnsI w w' ans (runsR r c l x) := by
 have X0 := x1 w (.cells #[.int .i64 r, .int .i64 c, v] 32)
 have B0 := vec_made w [.int .i64 r, .int .i64 c, v] 32
 have S0 : (w.alloc (.cells #[.int .i64 r, .int .i64 c, v] 32)).heap.size = w.heap.size + 1 := by rw [World.size_alloc]
 change Vec (w.alloc (.cells #[.int .i64 r, .int .i64 c, v] 32)) _ _ at B0
 obtain ⟨u0, hu0⟩ : ∃ u, w.alloc (.cells #[.int .i64 r, .int .i64 c, v] 32) = u := ⟨_, rfl⟩
 rw [hu0] at X0 B0 S0
 have C0 := goodGS r c v l u0 (h.later X0) (by omega) (fun e he => (hr e he).1)
 have HV : Hid (ValsIn w v l) := h
 have HH : Hid (∀ e ∈ l, e.room) := hr
 have HG : Hid (goodG r c l = true → (∃ R C : Nat, r = R ∧ c = C ∧ l.length = R * C ∧ R * C ≤ 2000 ∧ 1 ≤ R ∧ 1 ≤ C ∧ R ≤ 2000 ∧ C ≤ 2000) ∧ ∀ e ∈ l, e.good = true) := fun h => ⟨good_dims h, (goodG_all h).2.1⟩
 have HR : Hid (runsR r c l x = if goodG r c l && !decide (x < 1 ∨ c < x) then (List.range r.toNat).filter (runB (colL l c.toNat (x.toNat - 1) r.toNat)) else []) := rfl
 obtain ⟨RR, hRR⟩ : ∃ RR, runsR r c l x = RR := ⟨_, rfl⟩
 rw [hRR] at HR ⊢
 obtain ⟨G, hG⟩ : ∃ G, goodG r c l = G := ⟨_, rfl⟩
 rw [hG] at C0 HR HG
 obtain ⟨p, n, rfl⟩ : ∃ p n, v = .slice p l.length n := by obtain ⟨p, n, h, _⟩ := h; exact ⟨p, n, h⟩
 obtain ⟨N, hN⟩ : ∃ N, l.length = N := ⟨_, rfl⟩
 have HN : Hid (l.length = N) := hN
 rw [hN] at C0 B0 hu0 HV HG hl ⊢
 obtain ⟨a0, a1, a2⟩ := Vec.three B0
 clear hRR hG h hr hN
 cases G
 ·
  have HF : Hid ([] = RR) := by show _ = _; rw [HR.out]; rfl
  go_enter Tryz.func18, Tryz.ntmps18
  go_wp2_with (go_at_call 21; refine C0.mono ?_; rintro e w1 ⟨rfl, e1⟩)
  go_ret
  exact ⟨_, rfl, by rw [← HF.out]; exact ⟨nums_nil _, fun h => absurd h (by simp), xt X0 e1⟩⟩
 ·
  obtain ⟨⟨R, C, rfl, rfl, hlen, h3, h4, h5, h6, h7⟩, hgd⟩ := HG.out rfl
  have HGD : Hid (∀ e ∈ l, e.good = true) := hgd
  have HLN : Hid (N = R * C) := hlen
  have n2000 : N ≤ 2000 := by omega
  clear HG hgd hlen
  by_cases hx1 : x < 1
  ·
   have HF : Hid ([] = RR) := by show _ = _; rw [HR.out, decide_eq_true (Or.inl hx1)]; rfl
   go_enter Tryz.func18, Tryz.ntmps18
   go_wp2_with (go_at_call 21; refine C0.mono ?_; rintro e w1 ⟨rfl, e1⟩)
   go_ret
   exact ⟨_, rfl, by rw [← HF.out]; exact ⟨nums_nil _, fun h => absurd h (by simp), xt X0 e1⟩⟩
  ·
   by_cases hx2 : (C : Int) < x
   ·
    have HF : Hid ([] = RR) := by show _ = _; rw [HR.out, decide_eq_true (Or.inr hx2)]; rfl
    go_enter Tryz.func18, Tryz.ntmps18
    go_wp2_with (go_at_call 21; refine C0.mono ?_; rintro e w1 ⟨rfl, e1⟩; obtain ⟨a0, a1, a2⟩ := Vec.three (B0.later e1))
    go_ret
    exact ⟨_, rfl, by rw [← HF.out]; exact ⟨nums_nil _, fun h => absurd h (by simp), xt X0 e1⟩⟩
   ·
    obtain ⟨x, rfl⟩ := Int.eq_ofNat_of_zero_le (show 0 ≤ x by omega)
    obtain ⟨j, rfl⟩ : ∃ j, x = j + 1 := ⟨x - 1, by omega⟩
    have j1 : j < C := by omega
    obtain ⟨q, hq⟩ : ∃ q, runB (colL l C j R) = q := ⟨_, rfl⟩
    have HF : Hid ((List.range R).filter q = RR) := by
     show _ = _
     rw [HR.out, decide_eq_false (fun h => h.elim hx1 hx2), ← hq]
     rfl
    have HQ : Hid (runB (colL l C j R) = q) := hq
    have jx : ((j + 1 : Nat) : Int) = (j : Int) + 1 := by omega
    obtain ⟨z, hz⟩ : ∃ z, j + 1 = z := ⟨_, rfl⟩
    have HZ : Hid (j + 1 = z) := hz
    rw [hz] at hx1 hx2 ⊢
    have z1 : (z : Int) ≤ 2000 := by omega
    have f1 : decide ((z : Int) < 1) = false := decide_eq_false (by omega)
    have f2 : decide (C < z) = false := decide_eq_false (by omega)
    have f3 : decide ((C : Int) < (z : Int)) = false := decide_eq_false (by omega)
    have z0 : (1 : Int) ≤ (z : Int) := by omega
    have zC : (z : Int) ≤ (C : Int) := by omega
    clear hx1 hx2
    clear HR hq jx hz x1' x2'
    go_enter Tryz.func18, Tryz.ntmps18
    go_wp2_with (go_at_call 21; refine C0.mono ?_; rintro e w1 ⟨rfl, e1⟩; obtain ⟨a0, a1, a2⟩ := Vec.three (B0.later e1))
    have HX1 : Hid (Ext u0 w1) := e1
    clear a0 a1 a2 C0
    go_loopw [5, 6] (fun s i wr => ∃ (k nn cc : Nat) (pp : Option Addr), k ≤ R ∧ i = .int .i64 k ∧ s = .slice pp nn cc ∧ Hid (OwnI wr (w.heap.size + 1) (.slice pp nn cc) ((List.range k).filter q) ∧ Ext u0 wr)) (fun _ i _ => R - (intOf i).toNat)
    case atStart => exact ⟨0, 0, 0, none, by omega, rfl, rfl, World.ownsRow_nil _ _ _ _, HX1.out⟩
    case round =>
     obtain ⟨k, nn, cc, pp, hk, rfl, rfl, HO⟩ := hrel
     have B1 := B0.later HO.out.2
     obtain ⟨a0, a1, a2⟩ := Vec.three B1
     by_cases hlt : k < R
     ·
      have i2 : (k : Int) < (R : Int) := by omega
      have Y0 := HO.out.2
      by_cases hk0 : k = 0
      ·
       subst hk0
       have HK : Hid (q 0 = true) := by show _ = _; rw [← HQ.out]; simp [runB]
       go_wp2_with fail
       go_quiet (fail)
       have E : Ext wr (wr.drewN nq) := xdNv (xr _) nq
       generalize wr.drewN nq = wq at E
       have OQ : Hid (OwnI wq (w.heap.size + 1) (.slice pp nn cc) ((List.range 0).filter q)) := ownI_later HO.out.1 E
       have Y1 := xt Y0 E
       have hs1 : w.heap.size + 1 ≤ (wq).heap.size := by have := Y1.size; omega
       have fl := filter_lt q 0
       obtain ⟨inf, hi, hz, hz1, hz2⟩ := infoI
       clear HO a0 a1 a2 B1
       go_wp2_with (at_builtin; refine wpList_append_own _ rfl _ _ 28 rfl (w.heap.size + 1) 3 inf (.int .i64 0) 1 8 Tryz.underlying28 hi hz hz1 hz2 rfl (by decide) _ _ _ rfl (OQ.out.alloc _) ⟨(wq).heap.size, 0, none⟩ 1 1 [.int .i64 0] rfl rfl (World.news_of_block (heap_alloc_new (wq) (.cells [.int .i64 0].toArray 3))) (by simp [Value.oneCell']) (by simp only [maxLen]; omega) (by omega) (by simp; omega) ?_)
       intro v7 wC ownC gC _
       have lb := ownI_block OQ.out
       have Y5 : Ext u0 wC := (xa Y1 _).grown gC (xa Y1 _).size (fun r hr => by have := lb r hr; omega)
       have OC : OwnI wC (w.heap.size + 1) v7 ((List.range (0 + 1)).filter q) := by
        have hq' : q 0 = true := HK.out
        rw [filter_succ, hq']
        show World.ownsRow _ _ _ _ _ _ _
        rw [List.map_append, List.length_append]
        exact ownC
       obtain ⟨p7, c7, rfl, _⟩ := ownI_slice OC
       obtain ⟨n7, hn7⟩ : ∃ n7, ((List.range (0 + 1)).filter q).length = n7 := ⟨_, rfl⟩
       have HN1 : Hid (OwnI wC (w.heap.size + 1) (.slice p7 n7 c7) ((List.range (0 + 1)).filter q) ∧ Ext u0 wC) := ⟨by rw [← hn7]; exact OC, Y5⟩
       rw [hn7]
       clear ownC gC lb OQ Y1 hi hz hz1 hz2 Y5 OC hn7
       go_wp2_with fail
       go_roundw
       case rel => exact ⟨0 + 1, n7, c7, p7, by omega, by go_num, rfl, HN1⟩
       case measure => simp [intOf]; omega
      ·
       obtain ⟨y, hy⟩ : ∃ y, k - 1 = y := ⟨_, rfl⟩
       obtain ⟨m, hm⟩ : ∃ m, k * C = m := ⟨_, rfl⟩
       obtain ⟨m2, hm2⟩ : ∃ m, y * C = m := ⟨_, rfl⟩
       have p1 := place_lt hlt j1
       have p2 := place_lt (show y < R by omega) j1
       rw [hm, ← HLN.out] at p1
       rw [hm2, ← HLN.out] at p2
       have hm' : (k : Int) * (C : Int) = (m : Int) := by rw [← hm]; simp
       have hm2' : (y : Int) * (C : Int) = (m2 : Int) := by rw [← hm2]; simp
       have e1 := cel_at (show m + j < l.length by rw [HN.out]; exact p1)
       have e0 := cel_at (show m2 + j < l.length by rw [HN.out]; exact p2)
       have HK0 : Hid (q k = !likeB (cel l (m + j)) (cel l (m2 + j))) := by
        show _ = _
        rw [← HQ.out]
        unfold runB
        rw [cel_col hlt, cel_col (show k - 1 < R by omega), hy, hm, hm2]
        simp [hk0]
       have CL : Hid (∀ W, Calls Tryz.prog 35 #[(cel l (m + j)).val, (cel l (m2 + j)).val] W fun e w' => e = .returned (.bool (likeB (cel l (m + j)) (cel l (m2 + j)))) ∧ Ext W w') := fun W =>
        sameS _ _ W (HH.out _ (List.mem_of_getElem? e1)).1 (HH.out _ (List.mem_of_getElem? e0)).1 (HGD.out _ (List.mem_of_getElem? e1)) (HGD.out _ (List.mem_of_getElem? e0))
       obtain ⟨LK, hLK⟩ : ∃ LK, likeB (cel l (m + j)) (cel l (m2 + j)) = LK := ⟨_, rfl⟩
       rw [hLK] at CL HK0
       obtain ⟨⟨k1, n1, d1, x1, t1⟩, hA⟩ : ∃ A, cel l (m + j) = A := ⟨_, rfl⟩
       obtain ⟨⟨k2, n2, d2, x2, t2⟩, hB⟩ : ∃ B, cel l (m2 + j) = B := ⟨_, rfl⟩
       rw [hA] at e1 CL
       rw [hB] at e0 CL
       obtain ⟨p', cap', hsl, hcap, hrow⟩ := HV.out.later (xt X0 Y0)
       rw [HN.out] at hsl
       cases hsl
       obtain ⟨b, o, rfl, RW⟩ := hrow (by rw [HN.out]; omega)
       obtain ⟨c0, c1, c2, c3, c4⟩ := RW.five e1
       obtain ⟨d0', d1', d2', d3', d4'⟩ := RW.five e0
       obtain ⟨f1, hf1⟩ : ∃ f, m + j = f := ⟨_, rfl⟩
       obtain ⟨f2, hf2⟩ : ∃ f, m2 + j = f := ⟨_, rfl⟩
       rw [hf1] at c0 c1 c2 c3 c4 p1
       rw [hf2] at d0' d1' d2' d3' d4' p2
       have hz' := HZ.out
       have wr1 : IntKind.i64.wrap ((k : Int) * (C : Int)) = (m : Int) := by rw [hm', IntKind.wrap_i64]; omega
       have wr2 : IntKind.i64.wrap ((m : Int) + (z : Int)) = ((f1 + 1 : Nat) : Int) := by rw [IntKind.wrap_i64]; omega
       have wr3 : IntKind.i64.wrap (((f1 + 1 : Nat) : Int) - 1) = (f1 : Int) := by rw [IntKind.wrap_i64]; omega
       have wr4 : IntKind.i64.wrap ((k : Int) - 1) = (y : Int) := by rw [IntKind.wrap_i64]; omega
       have wr5 : IntKind.i64.wrap ((y : Int) * (C : Int)) = (m2 : Int) := by rw [hm2', IntKind.wrap_i64]; omega
       have wr6 : IntKind.i64.wrap ((m2 : Int) + (z : Int)) = ((f2 + 1 : Nat) : Int) := by rw [IntKind.wrap_i64]; omega
       have wr7 : IntKind.i64.wrap (((f2 + 1 : Nat) : Int) - 1) = (f2 : Int) := by rw [IntKind.wrap_i64]; omega
       obtain ⟨g1, hg1⟩ : ∃ g : Nat, f1 + 1 = g := ⟨_, rfl⟩
       obtain ⟨g2, hg2⟩ : ∃ g : Nat, f2 + 1 = g := ⟨_, rfl⟩
       rw [hg1] at wr2 wr3
       rw [hg2] at wr6 wr7
       have i3 : (f1 : Int) < (N : Int) := by omega
       have i4 : (f2 : Int) < (N : Int) := by omega
       have i5 : ((k : Int) == 0) = false := beq_eq_false_iff_ne.2 (by omega)
       clear hy hm hm2 hm' hm2' hA hB e1 e0 RW hrow hcap hf1 hf2 hg1 hg2 hz' hLK hk0 p1 p2
       go_wp2_with fail
       go_region_held3 (fun w' => w'.cell? ⟨w.heap.size, 1, none⟩ = some (.int .i64 C) ∧ w'.cell? ⟨w.heap.size, 2, none⟩ = some (.slice (some ⟨b, o, none⟩) N n) ∧ w'.cell? ⟨b, o + f1 * 5, none⟩ = some (.int .i64 k1) ∧ w'.cell? ⟨b, o + f1 * 5 + 1, none⟩ = some (.bool n1) ∧ w'.cell? ⟨b, o + f1 * 5 + 2, none⟩ = some (.int .i64 d1) ∧ w'.cell? ⟨b, o + f1 * 5 + 3, none⟩ = some (.int .i64 x1) ∧ w'.cell? ⟨b, o + f1 * 5 + 4, none⟩ = some (sV t1) ∧ w'.cell? ⟨b, o + f2 * 5, none⟩ = some (.int .i64 k2) ∧ w'.cell? ⟨b, o + f2 * 5 + 1, none⟩ = some (.bool n2) ∧ w'.cell? ⟨b, o + f2 * 5 + 2, none⟩ = some (.int .i64 d2) ∧ w'.cell? ⟨b, o + f2 * 5 + 3, none⟩ = some (.int .i64 x2) ∧ w'.cell? ⟨b, o + f2 * 5 + 4, none⟩ = some (sV t2)) (go_keep)
        (first
         | (go_at_call 35; refine (CL.out _).mono ?_; rintro e w' ⟨rfl, E⟩; have Y := xt (xd (xr _)) E; have ra1 := cell_later Y a1; have ra2 := cell_later Y a2; have rc0 := cell_later Y c0; have rc1 := cell_later Y c1; have rc2 := cell_later Y c2; have rc3 := cell_later Y c3; have rc4 := cell_later Y c4; have rd0 := cell_later Y d0'; have rd1 := cell_later Y d1'; have rd2 := cell_later Y d2'; have rd3 := cell_later Y d3'; have rd4 := cell_later Y d4'))
       cases LK
       ·
        have HK : Hid (q k = true) := by show _ = _; rw [HK0.out]; rfl
        clear CL
        have OQ : Hid (OwnI w' (w.heap.size + 1) (.slice pp nn cc) ((List.range k).filter q)) := ownI_later HO.out.1 Y
        have Y1 := xt Y0 Y
        have hs1 : w.heap.size + 1 ≤ (w').heap.size := by have := Y1.size; omega
        have fl := filter_lt q k
        obtain ⟨inf, hi, hz, hz1, hz2⟩ := infoI
        clear HO a0 a1 a2 B1
        go_wp2_with (at_builtin; refine wpList_append_own _ rfl _ _ 28 rfl (w.heap.size + 1) 3 inf (.int .i64 0) 1 8 Tryz.underlying28 hi hz hz1 hz2 rfl (by decide) _ _ _ rfl (OQ.out.alloc _) ⟨(w').heap.size, 0, none⟩ 1 1 [.int .i64 (k : Int)] rfl rfl (World.news_of_block (heap_alloc_new (w') (.cells [.int .i64 (k : Int)].toArray 3))) (by simp [Value.oneCell']) (by simp only [maxLen]; omega) (by omega) (by simp; omega) ?_)
        intro v7 wC ownC gC _
        have lb := ownI_block OQ.out
        have Y5 : Ext u0 wC := (xa Y1 _).grown gC (xa Y1 _).size (fun r hr => by have := lb r hr; omega)
        have OC : OwnI wC (w.heap.size + 1) v7 ((List.range (k + 1)).filter q) := by
         have hq' : q k = true := HK.out
         rw [filter_succ, hq']
         show World.ownsRow _ _ _ _ _ _ _
         rw [List.map_append, List.length_append]
         exact ownC
        obtain ⟨p7, c7, rfl, _⟩ := ownI_slice OC
        obtain ⟨n7, hn7⟩ : ∃ n7, ((List.range (k + 1)).filter q).length = n7 := ⟨_, rfl⟩
        have HN1 : Hid (OwnI wC (w.heap.size + 1) (.slice p7 n7 c7) ((List.range (k + 1)).filter q) ∧ Ext u0 wC) := ⟨by rw [← hn7]; exact OC, Y5⟩
        rw [hn7]
        clear ownC gC lb OQ Y1 hi hz hz1 hz2 Y5 OC hn7
        go_wp2_with fail
        go_roundw
        case rel => exact ⟨k + 1, n7, c7, p7, by omega, by go_num, rfl, HN1⟩
        case measure => simp [intOf]; omega
       ·
        have HN1 : Hid (OwnI w' (w.heap.size + 1) (.slice pp nn cc) ((List.range (k + 1)).filter q) ∧ Ext u0 w') := by
         refine ⟨?_, xt Y0 Y⟩
         have hq' : q k = false := HK0.out
         rw [filter_succ, hq']
         simpa using ownI_later HO.out.1 Y
        clear CL
        go_wp2_with fail
        go_roundw
        case rel => exact ⟨k + 1, nn, cc, pp, by omega, by go_num, rfl, HN1⟩
        case measure => simp [intOf]; omega
     ·
      obtain rfl : k = R := by omega
      have i2 : ¬ (k : Int) < (k : Int) := by omega
      go_wp2_with fail
      go_ret
      refine ⟨_, rfl, ?_⟩
      rw [← HF.out]
      exact ⟨ownI_nums HO.out.1, fun _ g hg => by have := ownI_block HO.out.1 g hg; omega, xt X0 HO.out.2⟩

theorem ext_grown {a b c : World} {r : Option Nat} (e : Ext a b) (h : b.grownBy c r) : a.grownBy c r :=
 ⟨h.os.trans e.os, h.tape.trans e.tape, h.output.trans e.output, Nat.le_trans e.size h.size, fun k hk hne => (h.block k (Nat.lt_of_lt_of_le hk e.size) hne).trans (e.block k hk)⟩
set_option maxRecDepth 8000 in
set_option maxHeartbeats 2000000 in
theorem markGridL (r c : Int) (v : Value) (n : Nat) (L : List Value) (k0 : Nat) (w : World) (h : RowAt w v n L) (hn : n ≤ 1048576) (k1 : 1 ≤ k0) (k2 : k0 ≤ 10000000) :
  Calls Tryz.prog 14 #[grV r c v, .int .i64 k0] w fun e w' => e = .returned (.int .i64 ((k0 + n * 5 : Nat) : Int)) ∧ (∃ M, RowAt w' v n M ∧ MarkedV M k0 n) ∧ w.grownBy w' (if n = 0 then none else v.ownBlock) := by
 have X := x1 w (.cells #[.int .i64 r, .int .i64 c, v] 32)
 have C := markVals v n L k0 _ (h.later X) hn k1 k2
 obtain ⟨m, hm⟩ : ∃ m : Nat, k0 + n * 5 = m := ⟨_, rfl⟩
 obtain ⟨row, hrow⟩ : ∃ q, (if n = 0 then none else v.ownBlock) = q := ⟨_, rfl⟩
 rw [hm, hrow] at C
 rw [hm, hrow]
 clear h hm hrow
 go_enter Tryz.func14, Tryz.ntmps14
 go_wp2_with fail
 refine C.mono ?_
 rintro e w1 ⟨rfl, hM, g1⟩
 have HM : Hid (∃ M, RowAt w1 v n M ∧ MarkedV M k0 n) := hM
 clear hM C
 go_wp2_with fail
 go_ret
 exact ⟨rfl, HM.out, ext_grown X g1⟩

end Go.Proofs.YtlofnhhoopefcaaGreatDoor

