/-
  Several texts in one: Qi, E17, E19, E20, E23, E26, Sta, E27.
-/
import Derived.Test.YtbomplppgobkdaaGreatDoorMg34
import Derived.Test.YtbomplppgobkdaaGreatDoorMg40
import Derived.Test.YtbomplppgobkdaaGreatDoorMg37
import Derived.Test.YtbomplppgobkdaaGreatDoorMg26
import Derived.Test.YtbomplppgobkdaaGreatDoorMg0
import Derived.Deep.RegionLaw
namespace Go.Proofs.YtbomplppgobkdaaGreatDoor
open Go.RowKit

theorem cel_col {l : List VT} {c j n i : Nat} (hi : i < n) : cel (colL l c j n) i = cel l (i * c + j) := by
  have := colL_at l c j n hi
  unfold cel at this ⊢
  rw [List.getD_eq_getElem?_getD, this]
  rfl
theorem filter_succ (q : Nat → Bool) (k : Nat) : (List.range (k + 1)).filter q = (List.range k).filter q ++ (if q k then [k] else []) := by
  rw [List.range_succ, List.filter_append]
  cases h : q k <;> simp [h]
theorem filter_lt (q : Nat → Bool) (k : Nat) : ((List.range k).filter q).length ≤ k := by
  have := List.length_filter_le q (List.range k)
  rwa [List.length_range] at this
set_option maxRecDepth 8000 in
set_option maxHeartbeats 4000000 in
theorem runsS (r c : Int) (v : Value) (l : List VT) (x : Int) (w : World) (h : ValsIn w v l) (hl : l.length ≤ 1048576) (hr : ∀ e ∈ l, e.room)
    (x1' : -9223372036854775808 ≤ x) (x2' : x ≤ 9223372036854775807) :
    Calls Tryz.prog 7 #[grV r c v, .int .i64 x] w fun e w' => ∃ ans, e = .returned ans ∧ AnsI w w' ans (runsR r c l x) := by
  have X0 := x1 w (.cells #[.int .i64 r, .int .i64 c, v] 25)
  have B0 := vec_made w [.int .i64 r, .int .i64 c, v] 25
  have S0 : (w.alloc (.cells #[.int .i64 r, .int .i64 c, v] 25)).heap.size = w.heap.size + 1 := by rw [World.size_alloc]
  change Vec (w.alloc (.cells #[.int .i64 r, .int .i64 c, v] 25)) _ _ at B0
  obtain ⟨u0, hu0⟩ : ∃ u, w.alloc (.cells #[.int .i64 r, .int .i64 c, v] 25) = u := ⟨_, rfl⟩
  rw [hu0] at X0 B0 S0
  have C0 := goodGS r c v l u0 (h.later X0) (by omega) (fun e he => (hr e he).1)
  have HV : Hid (ValsIn w v l) := h
  have HH : Hid (∀ e ∈ l, e.room) := hr
  have HG : Hid (goodG r c l = true → (∃ R C : Nat, r = R ∧ c = C ∧ l.length = R * C ∧ R * C ≤ 2000 ∧ 1 ≤ R ∧ 1 ≤ C ∧ R ≤ 2000 ∧ C ≤ 2000) ∧ ∀ e ∈ l, e.good = true) := fun h => ⟨good_dims h, (goodG_all h).2.1⟩
  have HR : Hid (runsR r c l x = if goodG r c l && !decide (x < 1 ∨ c < x) then (List.range r.toNat).filter (runB (colL l c.toNat (x.toNat - 1) r.toNat)) else []) := rfl
  obtain ⟨RR, hRR⟩ : ∃ RR, runsR r c l x = RR := ⟨_, rfl⟩
  rw [hRR] at HR ⊢
  obtain ⟨G, hG⟩ : ∃ G, goodG r c l = G := ⟨_, rfl⟩
  rw [hG] at C0 HR HG
  obtain ⟨p, n, rfl⟩ : ∃ p n, v = .slice p l.length n := by obtain ⟨p, n, h, _⟩ := h; exact ⟨p, n, h⟩
  obtain ⟨N, hN⟩ : ∃ N, l.length = N := ⟨_, rfl⟩
  have HN : Hid (l.length = N) := hN
  rw [hN] at C0 B0 hu0 HV HG hl ⊢
  obtain ⟨a0, a1, a2⟩ := Vec.three B0
  clear hRR hG h hr hN
  cases G
  · have HF : Hid ([] = RR) := by show _ = _; rw [HR.out]; rfl
    go_enter Tryz.func7, Tryz.ntmps7
    go_wp2_with (go_at_call 18; refine C0.mono ?_; rintro e w1 ⟨rfl, e1⟩)
    go_ret
    exact ⟨_, rfl, by rw [← HF.out]; exact ⟨nums_nil _, fun h => absurd h (by simp), xt X0 e1⟩⟩
  · obtain ⟨⟨R, C, rfl, rfl, hlen, h3, h4, h5, h6, h7⟩, hgd⟩ := HG.out rfl
    have HGD : Hid (∀ e ∈ l, e.good = true) := hgd
    have HLN : Hid (N = R * C) := hlen
    have n2000 : N ≤ 2000 := by omega
    clear HG hgd hlen
    by_cases hx1 : x < 1
    · have HF : Hid ([] = RR) := by show _ = _; rw [HR.out, decide_eq_true (Or.inl hx1)]; rfl
      go_enter Tryz.func7, Tryz.ntmps7
      go_wp2_with (go_at_call 18; refine C0.mono ?_; rintro e w1 ⟨rfl, e1⟩)
      go_ret
      exact ⟨_, rfl, by rw [← HF.out]; exact ⟨nums_nil _, fun h => absurd h (by simp), xt X0 e1⟩⟩
    · by_cases hx2 : (C : Int) < x
      · have HF : Hid ([] = RR) := by show _ = _; rw [HR.out, decide_eq_true (Or.inr hx2)]; rfl
        go_enter Tryz.func7, Tryz.ntmps7
        go_wp2_with (go_at_call 18; refine C0.mono ?_; rintro e w1 ⟨rfl, e1⟩; obtain ⟨a0, a1, a2⟩ := Vec.three (B0.later e1))
        go_ret
        exact ⟨_, rfl, by rw [← HF.out]; exact ⟨nums_nil _, fun h => absurd h (by simp), xt X0 e1⟩⟩
      · obtain ⟨x, rfl⟩ := Int.eq_ofNat_of_zero_le (show 0 ≤ x by omega)
        obtain ⟨j, rfl⟩ : ∃ j, x = j + 1 := ⟨x - 1, by omega⟩
        have j1 : j < C := by omega
        obtain ⟨q, hq⟩ : ∃ q, runB (colL l C j R) = q := ⟨_, rfl⟩
        have HF : Hid ((List.range R).filter q = RR) := by
          show _ = _
          rw [HR.out, decide_eq_false (fun h => h.elim hx1 hx2), ← hq]
          rfl
        have HQ : Hid (runB (colL l C j R) = q) := hq
        have jx : ((j + 1 : Nat) : Int) = (j : Int) + 1 := by omega
        obtain ⟨z, hz⟩ : ∃ z, j + 1 = z := ⟨_, rfl⟩
        have HZ : Hid (j + 1 = z) := hz
        rw [hz] at hx1 hx2 ⊢
        have z1 : (z : Int) ≤ 2000 := by omega
        have f1 : decide ((z : Int) < 1) = false := decide_eq_false (by omega)
        have f2 : decide (C < z) = false := decide_eq_false (by omega)
        have f3 : decide ((C : Int) < (z : Int)) = false := decide_eq_false (by omega)
        have z0 : (1 : Int) ≤ (z : Int) := by omega
        have zC : (z : Int) ≤ (C : Int) := by omega
        clear hx1 hx2
        clear HR hq jx hz x1' x2'
        go_enter Tryz.func7, Tryz.ntmps7
        go_wp2_with (go_at_call 18; refine C0.mono ?_; rintro e w1 ⟨rfl, e1⟩; obtain ⟨a0, a1, a2⟩ := Vec.three (B0.later e1))
        have HX1 : Hid (Ext u0 w1) := e1
        clear a0 a1 a2 C0
        go_loopw [5, 6] (fun s i wr => ∃ (k nn cc : Nat) (pp : Option Addr), k ≤ R ∧ i = .int .i64 k ∧ s = .slice pp nn cc ∧ Hid (OwnI wr (w.heap.size + 1) (.slice pp nn cc) ((List.range k).filter q) ∧ Ext u0 wr)) (fun _ i _ => R - (intOf i).toNat)
        case atStart => exact ⟨0, 0, 0, none, by omega, rfl, rfl, World.ownsRow_nil _ _ _ _, HX1.out⟩
        case round =>
          obtain ⟨k, nn, cc, pp, hk, rfl, rfl, HO⟩ := hrel
          have B1 := B0.later HO.out.2
          obtain ⟨a0, a1, a2⟩ := Vec.three B1
          by_cases hlt : k < R
          · have i2 : (k : Int) < (R : Int) := by omega
            have Y0 := HO.out.2
            by_cases hk0 : k = 0
            · subst hk0
              have HK : Hid (q 0 = true) := by show _ = _; rw [← HQ.out]; simp [runB]
              go_wp2_with fail
              go_quiet (fail)
              have E : Ext wr (wr.drewN nq) := xdNv (xr _) nq
              generalize wr.drewN nq = wq at E
              have OQ : Hid (OwnI wq (w.heap.size + 1) (.slice pp nn cc) ((List.range 0).filter q)) := ownI_later HO.out.1 E
              have Y1 := xt Y0 E
              have hs1 : w.heap.size + 1 ≤ (wq).heap.size := by have := Y1.size; omega
              have fl := filter_lt q 0
              obtain ⟨inf, hi, hz, hz1, hz2⟩ := infoI
              clear HO a0 a1 a2 B1
              go_wp2_with (at_builtin; refine wpList_append_own _ rfl _ _ 28 rfl (w.heap.size + 1) 3 inf (.int .i64 0) 1 8 Tryz.underlying28 hi hz hz1 hz2 rfl (by decide) _ _ _ rfl (OQ.out.alloc _) ⟨(wq).heap.size, 0, none⟩ 1 1 [.int .i64 0] rfl rfl (World.news_of_block (heap_alloc_new (wq) (.cells [.int .i64 0].toArray 3))) (by simp [Value.oneCell']) (by simp only [maxLen]; omega) (by omega) (by simp; omega) ?_)
              intro v7 wC ownC gC _
              have lb := ownI_block OQ.out
              have Y5 : Ext u0 wC := (xa Y1 _).grown gC (xa Y1 _).size (fun r hr => by have := lb r hr; omega)
              have OC : OwnI wC (w.heap.size + 1) v7 ((List.range (0 + 1)).filter q) := by
                have hq' : q 0 = true := HK.out
                rw [filter_succ, hq']
                show World.ownsRow _ _ _ _ _ _ _
                rw [List.map_append, List.length_append]
                exact ownC
              obtain ⟨p7, c7, rfl, _⟩ := ownI_slice OC
              obtain ⟨n7, hn7⟩ : ∃ n7, ((List.range (0 + 1)).filter q).length = n7 := ⟨_, rfl⟩
              have HN1 : Hid (OwnI wC (w.heap.size + 1) (.slice p7 n7 c7) ((List.range (0 + 1)).filter q) ∧ Ext u0 wC) := ⟨by rw [← hn7]; exact OC, Y5⟩
              rw [hn7]
              clear ownC gC lb OQ Y1 hi hz hz1 hz2 Y5 OC hn7
              go_wp2_with fail
              go_roundw
              case rel => exact ⟨0 + 1, n7, c7, p7, by omega, by go_num, rfl, HN1⟩
              case measure => simp [intOf]; omega
            · obtain ⟨y, hy⟩ : ∃ y, k - 1 = y := ⟨_, rfl⟩
              obtain ⟨m, hm⟩ : ∃ m, k * C = m := ⟨_, rfl⟩
              obtain ⟨m2, hm2⟩ : ∃ m, y * C = m := ⟨_, rfl⟩
              have p1 := place_lt hlt j1
              have p2 := place_lt (show y < R by omega) j1
              rw [hm, ← HLN.out] at p1
              rw [hm2, ← HLN.out] at p2
              have hm' : (k : Int) * (C : Int) = (m : Int) := by rw [← hm]; simp
              have hm2' : (y : Int) * (C : Int) = (m2 : Int) := by rw [← hm2]; simp
              have e1 := cel_at (show m + j < l.length by rw [HN.out]; exact p1)
              have e0 := cel_at (show m2 + j < l.length by rw [HN.out]; exact p2)
              have HK0 : Hid (q k = !likeB (cel l (m + j)) (cel l (m2 + j))) := by
                show _ = _
                rw [← HQ.out]
                unfold runB
                rw [cel_col hlt, cel_col (show k - 1 < R by omega), hy, hm, hm2]
                simp [hk0]
              have CL : Hid (∀ W, Calls Tryz.prog 19 #[(cel l (m + j)).val, (cel l (m2 + j)).val] W fun e w' => e = .returned (.bool (likeB (cel l (m + j)) (cel l (m2 + j)))) ∧ Ext W w') := fun W =>
                sameS _ _ W (HH.out _ (List.mem_of_getElem? e1)).1 (HH.out _ (List.mem_of_getElem? e0)).1 (HGD.out _ (List.mem_of_getElem? e1)) (HGD.out _ (List.mem_of_getElem? e0))
              obtain ⟨LK, hLK⟩ : ∃ LK, likeB (cel l (m + j)) (cel l (m2 + j)) = LK := ⟨_, rfl⟩
              rw [hLK] at CL HK0
              obtain ⟨⟨k1, n1, d1, x1, t1⟩, hA⟩ : ∃ A, cel l (m + j) = A := ⟨_, rfl⟩
              obtain ⟨⟨k2, n2, d2, x2, t2⟩, hB⟩ : ∃ B, cel l (m2 + j) = B := ⟨_, rfl⟩
              rw [hA] at e1 CL
              rw [hB] at e0 CL
              obtain ⟨p', cap', hsl, hcap, hrow⟩ := HV.out.later (xt X0 Y0)
              rw [HN.out] at hsl
              cases hsl
              obtain ⟨b, o, rfl, RW⟩ := hrow (by rw [HN.out]; omega)
              obtain ⟨c0, c1, c2, c3, c4⟩ := RW.five e1
              obtain ⟨d0', d1', d2', d3', d4'⟩ := RW.five e0
              obtain ⟨f1, hf1⟩ : ∃ f, m + j = f := ⟨_, rfl⟩
              obtain ⟨f2, hf2⟩ : ∃ f, m2 + j = f := ⟨_, rfl⟩
              rw [hf1] at c0 c1 c2 c3 c4 p1
              rw [hf2] at d0' d1' d2' d3' d4' p2
              have hz' := HZ.out
              have wr1 : IntKind.i64.wrap ((k : Int) * (C : Int)) = (m : Int) := by rw [hm', IntKind.wrap_i64]; omega
              have wr2 : IntKind.i64.wrap ((m : Int) + (z : Int)) = ((f1 + 1 : Nat) : Int) := by rw [IntKind.wrap_i64]; omega
              have wr3 : IntKind.i64.wrap (((f1 + 1 : Nat) : Int) - 1) = (f1 : Int) := by rw [IntKind.wrap_i64]; omega
              have wr4 : IntKind.i64.wrap ((k : Int) - 1) = (y : Int) := by rw [IntKind.wrap_i64]; omega
              have wr5 : IntKind.i64.wrap ((y : Int) * (C : Int)) = (m2 : Int) := by rw [hm2', IntKind.wrap_i64]; omega
              have wr6 : IntKind.i64.wrap ((m2 : Int) + (z : Int)) = ((f2 + 1 : Nat) : Int) := by rw [IntKind.wrap_i64]; omega
              have wr7 : IntKind.i64.wrap (((f2 + 1 : Nat) : Int) - 1) = (f2 : Int) := by rw [IntKind.wrap_i64]; omega
              obtain ⟨g1, hg1⟩ : ∃ g : Nat, f1 + 1 = g := ⟨_, rfl⟩
              obtain ⟨g2, hg2⟩ : ∃ g : Nat, f2 + 1 = g := ⟨_, rfl⟩
              rw [hg1] at wr2 wr3
              rw [hg2] at wr6 wr7
              have i3 : (f1 : Int) < (N : Int) := by omega
              have i4 : (f2 : Int) < (N : Int) := by omega
              have i5 : ((k : Int) == 0) = false := beq_eq_false_iff_ne.2 (by omega)
              clear hy hm hm2 hm' hm2' hA hB e1 e0 RW hrow hcap hf1 hf2 hg1 hg2 hz' hLK hk0 p1 p2
              go_wp2_with fail
              go_region_held3 (fun w' => w'.cell? ⟨w.heap.size, 1, none⟩ = some (.int .i64 C) ∧ w'.cell? ⟨w.heap.size, 2, none⟩ = some (.slice (some ⟨b, o, none⟩) N n) ∧ w'.cell? ⟨b, o + f1 * 5, none⟩ = some (.int .i64 k1) ∧ w'.cell? ⟨b, o + f1 * 5 + 1, none⟩ = some (.bool n1) ∧ w'.cell? ⟨b, o + f1 * 5 + 2, none⟩ = some (.int .i64 d1) ∧ w'.cell? ⟨b, o + f1 * 5 + 3, none⟩ = some (.int .i64 x1) ∧ w'.cell? ⟨b, o + f1 * 5 + 4, none⟩ = some (sV t1) ∧ w'.cell? ⟨b, o + f2 * 5, none⟩ = some (.int .i64 k2) ∧ w'.cell? ⟨b, o + f2 * 5 + 1, none⟩ = some (.bool n2) ∧ w'.cell? ⟨b, o + f2 * 5 + 2, none⟩ = some (.int .i64 d2) ∧ w'.cell? ⟨b, o + f2 * 5 + 3, none⟩ = some (.int .i64 x2) ∧ w'.cell? ⟨b, o + f2 * 5 + 4, none⟩ = some (sV t2)) (go_keep)
                (first
                  | (go_at_call 19; refine (CL.out _).mono ?_; rintro e w' ⟨rfl, E⟩; have Y := xt (xd (xr _)) E; have ra1 := cell_later Y a1; have ra2 := cell_later Y a2; have rc0 := cell_later Y c0; have rc1 := cell_later Y c1; have rc2 := cell_later Y c2; have rc3 := cell_later Y c3; have rc4 := cell_later Y c4; have rd0 := cell_later Y d0'; have rd1 := cell_later Y d1'; have rd2 := cell_later Y d2'; have rd3 := cell_later Y d3'; have rd4 := cell_later Y d4'))
              cases LK
              · have HK : Hid (q k = true) := by show _ = _; rw [HK0.out]; rfl
                clear CL
                have OQ : Hid (OwnI w' (w.heap.size + 1) (.slice pp nn cc) ((List.range k).filter q)) := ownI_later HO.out.1 Y
                have Y1 := xt Y0 Y
                have hs1 : w.heap.size + 1 ≤ (w').heap.size := by have := Y1.size; omega
                have fl := filter_lt q k
                obtain ⟨inf, hi, hz, hz1, hz2⟩ := infoI
                clear HO a0 a1 a2 B1
                go_wp2_with (at_builtin; refine wpList_append_own _ rfl _ _ 28 rfl (w.heap.size + 1) 3 inf (.int .i64 0) 1 8 Tryz.underlying28 hi hz hz1 hz2 rfl (by decide) _ _ _ rfl (OQ.out.alloc _) ⟨(w').heap.size, 0, none⟩ 1 1 [.int .i64 (k : Int)] rfl rfl (World.news_of_block (heap_alloc_new (w') (.cells [.int .i64 (k : Int)].toArray 3))) (by simp [Value.oneCell']) (by simp only [maxLen]; omega) (by omega) (by simp; omega) ?_)
                intro v7 wC ownC gC _
                have lb := ownI_block OQ.out
                have Y5 : Ext u0 wC := (xa Y1 _).grown gC (xa Y1 _).size (fun r hr => by have := lb r hr; omega)
                have OC : OwnI wC (w.heap.size + 1) v7 ((List.range (k + 1)).filter q) := by
                  have hq' : q k = true := HK.out
                  rw [filter_succ, hq']
                  show World.ownsRow _ _ _ _ _ _ _
                  rw [List.map_append, List.length_append]
                  exact ownC
                obtain ⟨p7, c7, rfl, _⟩ := ownI_slice OC
                obtain ⟨n7, hn7⟩ : ∃ n7, ((List.range (k + 1)).filter q).length = n7 := ⟨_, rfl⟩
                have HN1 : Hid (OwnI wC (w.heap.size + 1) (.slice p7 n7 c7) ((List.range (k + 1)).filter q) ∧ Ext u0 wC) := ⟨by rw [← hn7]; exact OC, Y5⟩
                rw [hn7]
                clear ownC gC lb OQ Y1 hi hz hz1 hz2 Y5 OC hn7
                go_wp2_with fail
                go_roundw
                case rel => exact ⟨k + 1, n7, c7, p7, by omega, by go_num, rfl, HN1⟩
                case measure => simp [intOf]; omega
              · have HN1 : Hid (OwnI w' (w.heap.size + 1) (.slice pp nn cc) ((List.range (k + 1)).filter q) ∧ Ext u0 w') := by
                  refine ⟨?_, xt Y0 Y⟩
                  have hq' : q k = false := HK0.out
                  rw [filter_succ, hq']
                  simpa using ownI_later HO.out.1 Y
                clear CL
                go_wp2_with fail
                go_roundw
                case rel => exact ⟨k + 1, nn, cc, pp, by omega, by go_num, rfl, HN1⟩
                case measure => simp [intOf]; omega
          · obtain rfl : k = R := by omega
            have i2 : ¬ (k : Int) < (k : Int) := by omega
            go_wp2_with fail
            go_ret
            refine ⟨_, rfl, ?_⟩
            rw [← HF.out]
            exact ⟨ownI_nums HO.out.1, fun _ g hg => by have := ownI_block HO.out.1 g hg; omega, xt X0 HO.out.2⟩

set_option maxRecDepth 8000 in
set_option maxHeartbeats 4000000 in
theorem groupNone (r c : Int) (v u : Value) (l : List VT) (cl : List Int) (w : World) (h : ValsIn w v l) (hl : l.length ≤ 1048576) (hr : ∀ e ∈ l, e.room) (hu : IntsIn w u cl) (hc : cl.length ≤ 1048576) (hT : Tens w) (hE : ErrTab w) (hb : grpB r c l cl = false) :
    Calls Tryz.prog 11 #[grV r c v, u] w fun e w' => e = .returned (.slice none 0 0) ∧ Ext w w' := by
  have CG : Hid (∀ W, Ext w W → Calls Tryz.prog 23 #[grV r c v] W fun e w' => e = .returned (.bool (goodG r c l)) ∧ Ext W w') := fun W hW => goodGI r c v l W (h.later hW) (by omega) (fun e he => (hr e he).1) (fun e he => (hr e he).2) (hT.later hW) (hE.later hW)
  have CO : cl.length ≤ 4 → Hid (∀ W, Ext w W → Calls Tryz.prog 29 #[grV r c v, u] W fun e w' => e = .returned (.bool (onceB c cl)) ∧ Ext W w') := fun h4 W hW => hasOnceI r c v u cl W (hu.later hW) (by omega)
  have X0 := x1 w (.cells #[.int .i64 r, .int .i64 c, v] 25)
  have B0 := vec_made w [.int .i64 r, .int .i64 c, v] 25
  obtain ⟨u0, hu0⟩ : ∃ u, w.alloc (.cells #[.int .i64 r, .int .i64 c, v] 25) = u := ⟨_, rfl⟩
  change Vec (w.alloc (.cells #[.int .i64 r, .int .i64 c, v] 25)) _ _ at B0
  rw [hu0] at X0 B0
  obtain ⟨a0, a1, a2⟩ := Vec.three B0
  have C0 := CG.out u0 X0
  obtain ⟨pu, cu, e, hcu, -⟩ := hu
  subst e
  unfold grpB at hb
  obtain ⟨n, hn⟩ : ∃ n, cl.length = n := ⟨_, rfl⟩
  rw [hn] at hcu hc hb CO ⊢
  clear h hr hT hE CG hl hn
  by_cases hg : goodG r c l = true
  · rw [hg] at C0 hb
    by_cases h4 : n ≤ 4
    · have i4 : ¬ (n : Int) > 4 := by omega
      have C1 := CO h4
      have ho : onceB c cl = false := by rw [decide_eq_true h4] at hb; simpa using hb
      rw [ho] at C1
      go_enter Tryz.func11, Tryz.ntmps11
      go_wp2_with fail
      refine C0.mono ?_
      rintro e w1 ⟨rfl, e1⟩
      obtain ⟨a0, a1, a2⟩ := Vec.three (B0.later e1)
      have C2 := C1.out w1 (xt X0 e1)
      go_wp2_with fail
      refine C2.mono ?_
      rintro e w2 ⟨rfl, e2⟩
      go_wp2_with fail
      go_ret
      exact ⟨rfl, xt X0 (xt e1 e2)⟩
    · have i4 : (n : Int) > 4 := by omega
      go_enter Tryz.func11, Tryz.ntmps11
      go_wp2_with fail
      refine C0.mono ?_
      rintro e w1 ⟨rfl, e1⟩
      obtain ⟨a0, a1, a2⟩ := Vec.three (B0.later e1)
      go_wp2_with fail
      go_ret
      exact ⟨rfl, xt X0 e1⟩
  · have hg' : goodG r c l = false := by simpa using hg
    rw [hg'] at C0
    go_enter Tryz.func11, Tryz.ntmps11
    go_wp2_with fail
    refine C0.mono ?_
    rintro e w1 ⟨rfl, e1⟩
    obtain ⟨a0, a1, a2⟩ := Vec.three (B0.later e1)
    go_wp2_with fail
    go_ret
    exact ⟨rfl, xt X0 e1⟩

/-- What is still to come. -/
def TodoQ (left : Lit → Bool) (T : List QT) : Prop := (T.Pairwise fun a b => kqOf a ≠ kqOf b) ∧ ∀ k, left k = T.any fun K => isKq K k
theorem TodoQ.none {left : Lit → Bool} {T : List QT} (h : TodoQ left T) (hl : ∀ k, left k = false) : T = [] := by
  cases T with
  | nil => rfl
  | cons e T =>
    have := h.2 (kqOf e)
    rw [hl, List.any_cons, isKq_iff.2 rfl] at this
    cases this
theorem TodoQ.some {left : Lit → Bool} {T : List QT} (h : TodoQ left T) {k : Lit} (hk : left k = true) : ∃ K ∈ T, kqOf K = k := by
  rw [h.2, List.any_eq_true] at hk
  obtain ⟨K, hK, hq⟩ := hk
  exact ⟨K, hK, isKq_iff.1 hq⟩
set_option maxRecDepth 20000 in
theorem TodoQ.next {left : Lit → Bool} {T : List QT} (h : TodoQ left T) {K : QT} (hI : InQ K) : TodoQ (fun z => left z && !z.sameKey (kqOf K)) (T.filter fun q => !isKq q (kqOf K)) := by
  refine ⟨h.1.filter _, fun k => ?_⟩
  show (left k && !k.sameKey (kqOf K)) = _
  rw [h.2, List.any_filter]
  by_cases q : k = kqOf K
  · subst q
    rw [WideAt.sameKey_self (kqOf_lit hI), Bool.not_true, Bool.and_false]
    symm
    rw [List.any_eq_false]
    intro x _
    cases isKq x (kqOf K) <;> simp
  · have : k.sameKey (kqOf K) = false := by
      cases p : k.sameKey (kqOf K) with
      | false => rfl
      | true => exact absurd (WideAt.sameKey_eq p) q
    rw [this, Bool.not_false, Bool.and_true]
    congr 1
    funext x
    cases p : isKq x k with
    | false => simp
    | true =>
      rw [isKq_false.2 (by rw [isKq_iff.1 p]; exact q)]
      rfl
theorem TodoQ.start {D : DataW Unit} {f : QT → Option GE} {T : List QT} (h : HoldsQ D f T) (hN : T.Nodup) (hI : ∀ K ∈ T, InQ K) : TodoQ (Maps.has D) T := by
  refine ⟨?_, h.2.1⟩
  refine List.Pairwise.imp_of_mem (fun {a b} ha hb hab q => hab (kqOf_inj (hI a ha) (hI b hb) q)) hN
/-- What comes up of the map under a key. -/
theorem HoldsQ.entry {D : DataW Unit} {f : QT → Option GE} {T : List QT} (h : HoldsQ D f T) {K : QT} (hK : InQ K) {e : GE} (he : f K = some e) {v : Value} {y : DataW Unit × List MemPlace}
    (hv : glR v = some y) (hat : ∀ z, D.atKey (kqOf K) z = y.1) : v = e.sl := by
  have h1 := hat .nil
  rw [h.2.2 K hK, he] at h1
  rcases glR_inv hv with ⟨rfl, e1⟩ | ⟨g, n, c, rfl, e1⟩
  · rw [e1] at h1
    cases h1
  · rw [e1] at h1
    simp [GE.d] at h1
    obtain ⟨a, b, c'⟩ := h1
    have a' : e.g = g := by omega
    have b' : e.ns.length = n := by omega
    have c'' : e.cp = c := by omega
    rw [← a', ← b', ← c'']

/-- Groups that lie apart from each other and from a block. -/
structure ApartG (g : Nat) (L : List GG) : Prop where
  own : ∀ (i : Nat) (x : GG), L[i]? = some x → x.kv.ownBlock ≠ some g ∧ x.e.g ≠ g ∧ x.kv.ownBlock ≠ some x.e.g
  kk : ∀ (i j : Nat) (x y : GG) (b : Nat), L[i]? = some x → L[j]? = some y → i ≠ j → x.kv.ownBlock = some b → y.kv.ownBlock ≠ some b ∧ y.e.g ≠ b
  ee : ∀ (i j : Nat) (x y : GG), L[i]? = some x → L[j]? = some y → i ≠ j → x.e.g ≠ y.e.g
/-- Only groups' own blocks have turned. -/
structure OnlyG (w w' : World) (L : List GG) : Prop where
  os : w'.os = w.os
  tape : w'.tape = w.tape
  output : w'.output = w.output
  size : w.heap.size ≤ w'.heap.size
  block : ∀ b, b < w.heap.size → (∀ x ∈ L, x.kv.ownBlock ≠ some b ∧ x.e.g ≠ b) → w'.heap[b]? = w.heap[b]?

theorem perm_map_inv {α β : Type} {G : α → β} {a b : List β} (h : a.Perm b) : ∀ l : List α, b = l.map G → ∃ m : List α, m.Perm l ∧ m.map G = a := by
  induction h with
  | nil => intro l hl; exact ⟨l, .refl _, hl.symm⟩
  | cons x h ih =>
    intro l hl
    cases l with
    | nil => cases hl
    | cons y l =>
      simp only [List.map_cons, List.cons.injEq] at hl
      obtain ⟨m, hm, he⟩ := ih l hl.2
      exact ⟨y :: m, hm.cons y, by rw [List.map_cons, he, hl.1]⟩
  | swap x y l0 =>
    intro l hl
    match l, hl with
    | [], hl => cases hl
    | [_], hl => simp at hl
    | p :: q :: l, hl =>
      simp only [List.map_cons, List.cons.injEq] at hl
      exact ⟨q :: p :: l, .swap p q l, by rw [List.map_cons, List.map_cons, hl.1, hl.2.1, hl.2.2]⟩
  | trans h1 h2 ih1 ih2 =>
    intro l hl
    obtain ⟨m, hm, he⟩ := ih2 l hl
    obtain ⟨m', hm', he'⟩ := ih1 m he.symm
    exact ⟨m', hm'.trans hm, he'⟩

theorem ownsRow_stay {w w' : World} {base sz n : Nat} {t : TypeId} {v : Value} {xs : List Value} {row : Option Nat} (h : w.ownsRow base t sz v n xs) (hg : w.grownBy w' row) (hr : ∀ k, v.ownBlock = some k → row ≠ some k) : w'.ownsRow base t sz v n xs := by
  refine ⟨h.1, h.2.imp id ?_⟩
  rintro ⟨g, cap, cur, rfl, h2, h3, h4⟩
  have hlt : g < w.heap.size := by
    rcases Nat.lt_or_ge g w.heap.size with q | q
    · exact q
    · rw [Array.getElem?_eq_none q] at h3; cases h3
  exact ⟨g, cap, cur, rfl, h2, by rw [hg.block g hlt (fun q => hr g rfl q.symm)]; exact h3, h4⟩
theorem ownsRow_ltG {w : World} {base sz n : Nat} {t : TypeId} {v : Value} {xs : List Value} (h : w.ownsRow base t sz v n xs) : ∀ k, v.ownBlock = some k → k < w.heap.size := by
  intro k hk
  rcases h.2 with ⟨rfl, _⟩ | ⟨g, cap, cur, rfl, h2, h3, h4⟩
  · cases hk
  · have e : g = k := by simpa [Value.ownBlock] using hk
    subst e
    rcases Nat.lt_or_ge g w.heap.size with q | q
    · exact q
    · rw [Array.getElem?_eq_none q] at h3; cases h3
theorem ownsRow_laterG {w w' : World} {base sz n : Nat} {t : TypeId} {v : Value} {xs : List Value} (h : w.ownsRow base t sz v n xs) (x : Ext w w') : w'.ownsRow base t sz v n xs := by
  refine ⟨h.1, h.2.imp id ?_⟩
  rintro ⟨g, cap, cur, rfl, h2, h3, h4⟩
  have hlt : g < w.heap.size := by
    rcases Nat.lt_or_ge g w.heap.size with q | q
    · exact q
    · rw [Array.getElem?_eq_none q] at h3; cases h3
  exact ⟨g, cap, cur, rfl, h2, by rw [x.block g hlt]; exact h3, h4⟩
theorem sl_block (e : GE) : e.sl.ownBlock = some e.g := rfl

/-- Two groups whose memory lies apart. -/
def offG (x y : GG) : Prop := (∀ b, x.kv.ownBlock = some b → y.kv.ownBlock ≠ some b ∧ y.e.g ≠ b) ∧ (∀ b, y.kv.ownBlock = some b → x.e.g ≠ b) ∧ x.e.g ≠ y.e.g
theorem offG_symm {x y : GG} (h : offG x y) : offG y x := ⟨fun b hb => ⟨fun q => (h.1 b q).1 hb, h.2.1 b hb⟩, fun b hb => (h.1 b hb).2, Ne.symm h.2.2⟩
/-- A list of groups, each with memory of its own. -/
structure LieG (w : World) (bl br : Nat) (v : Value) (L : List GG) : Prop where
  list : OwnG w bl v L
  keys : ∀ x ∈ L, OwnW w bl x.kv x.K
  rows : ∀ x ∈ L, OwnI w br x.e.sl x.e.ns
  own : ∀ x ∈ L, x.kv.ownBlock ≠ some x.e.g ∧ ∀ g, v.ownBlock = some g → x.kv.ownBlock ≠ some g ∧ x.e.g ≠ g
  off : L.Pairwise offG
theorem LieG.nil (w : World) (bl br : Nat) : LieG w bl br (.slice none 0 0) [] := ⟨ownG_nil _ _, fun _ h => (by cases h), fun _ h => (by cases h), fun _ h => (by cases h), .nil⟩
theorem LieG.later {w w' : World} {bl br : Nat} {v : Value} {L : List GG} (h : LieG w bl br v L) (x : Ext w w') : LieG w' bl br v L :=
  ⟨ownG_later h.list x, fun y hy => ownsRow_laterG (h.keys y hy) x, fun y hy => ownsRow_laterG (h.rows y hy) x, h.own, h.off⟩
/-- A block of others has turned. -/
theorem LieG.stay {w w' : World} {bl br : Nat} {v : Value} {L : List GG} {row : Option Nat} (h : LieG w bl br v L) (g : w.grownBy w' row) (hl : ∀ k, v.ownBlock = some k → row ≠ some k) (hx : ∀ x ∈ L, (∀ k, x.kv.ownBlock = some k → row ≠ some k) ∧ row ≠ some x.e.g) : LieG w' bl br v L :=
  ⟨ownsRow_stay h.list g hl, fun y hy => ownsRow_stay (h.keys y hy) g (hx y hy).1, fun y hy => ownsRow_stay (h.rows y hy) g (fun k hk => by rw [sl_block] at hk; cases hk; exact (hx y hy).2), h.own, h.off⟩
/-- The list put in another order. -/
theorem LieG.perm {w w' : World} {bl br : Nat} {v : Value} {L M : List GG} (h : LieG w bl br v L) (p : M.Perm L) (hO : OwnG w' bl v M) (g : w.grownBy w' v.ownBlock) : LieG w' bl br v M := by
  have mem : ∀ x ∈ M, x ∈ L := fun x hx => p.mem_iff.1 hx
  refine ⟨hO, fun y hy => ownsRow_stay (h.keys y (mem y hy)) g (fun k hk q => ((h.own y (mem y hy)).2 k q).1 hk), fun y hy => ownsRow_stay (h.rows y (mem y hy)) g (fun k hk q => ?_), fun y hy => h.own y (mem y hy), ?_⟩
  · rw [sl_block] at hk
    cases hk
    exact ((h.own y (mem y hy)).2 _ q).2 rfl
  · exact (p.pairwise_iff (fun {a b} h => offG_symm h)).2 h.off
theorem app_group2 (w : World) (base : Nat) (v : Value) (l : List GG) (O : OwnG w base v l) (x : GG) (b : Nat) (V : Vec w b [x.kv, x.e.sl]) (ho : x.kv.oneCell' = true) (hl : l.length ≤ 1000000) (hb : base ≤ w.heap.size) :
    ∃ v' w', (Builtin.append_ #[37, 37] 37 #[v, .slice (some ⟨b, 0, none⟩) 1 1]).run Tryz.prog w = .ok v' w' ∧ OwnG w' base v' (l ++ [x]) ∧ w.grownBy w' v.ownBlock ∧ (v'.ownBlock = v.ownBlock ∨ v'.ownBlock = some w.heap.size) := by
  obtain ⟨inf, hi, hz, hsz, hby⟩ := infoGr
  obtain ⟨v', w', hrun, O', GW, hbk⟩ := app_srcG (P := Tryz.prog) w base 37 37 37 73 inf (.agg #[.slice none 0 0, .slice none 0 0]) Tryz.underlying37 hi hz 2 hsz (by rw [hby]; omega) rfl v l.length _ O (.slice (some ⟨b, 0, none⟩) 1 1) 1 [x.kv, x.e.sl]
    (Src.ofSlice (size := 2) w Tryz.underlying37 ⟨b, 0, none⟩ 1 1 [x.kv, x.e.sl] rfl (fun j u hj => by rw [Addr.add_lit, Nat.zero_add]; exact (V j u hj).1) (fun u hu => by simp at hu; rcases hu with rfl | rfl; exact ho; rfl)) (by omega) hb
  refine ⟨v', w', hrun, ?_, GW, hbk⟩
  show World.ownsRow _ _ _ _ _ _ _
  rw [List.length_append, List.flatMap_append]
  simpa using O'
theorem ownW_one {w : World} {base : Nat} {v : Value} {l : List VT} (h : OwnW w base v l) : v.oneCell' = true := by
  obtain ⟨p, n, c, rfl⟩ := ownW_slice h
  rfl
/-- One more group. -/
theorem LieG.add {w : World} {bl br : Nat} {v : Value} {L : List GG} (h : LieG w bl br v L) (x : GG) (hk : OwnW w bl x.kv x.K) (hr : OwnI w br x.e.sl x.e.ns) (ho : x.kv.ownBlock ≠ some x.e.g ∧ ∀ g, v.ownBlock = some g → x.kv.ownBlock ≠ some g ∧ x.e.g ≠ g)
    (hof : ∀ y ∈ L, offG y x) (b : Nat) (V : Vec w b [x.kv, x.e.sl]) (hl : L.length ≤ 1000000) (hb : bl ≤ w.heap.size) :
    ∃ v' w', (Builtin.append_ #[37, 37] 37 #[v, .slice (some ⟨b, 0, none⟩) 1 1]).run Tryz.prog w = .ok v' w' ∧ LieG w' bl br v' (L ++ [x]) ∧ w.grownBy w' v.ownBlock := by
  obtain ⟨v', w', hrun, O', GW, hbk⟩ := app_group2 w bl v L h.list x b V (ownW_one hk) hl hb
  have each : ∀ y ∈ L ++ [x], OwnW w bl y.kv y.K ∧ OwnI w br y.e.sl y.e.ns ∧ y.kv.ownBlock ≠ some y.e.g ∧ ∀ g, v.ownBlock = some g → y.kv.ownBlock ≠ some g ∧ y.e.g ≠ g := fun y hy => by
    rcases List.mem_append.1 hy with q | q
    · exact ⟨h.keys y q, h.rows y q, h.own y q⟩
    · cases List.mem_singleton.1 q
      exact ⟨hk, hr, ho⟩
  refine ⟨v', w', hrun, ⟨O', fun y hy => ?_, fun y hy => ?_, fun y hy => ?_, ?_⟩, GW⟩
  · obtain ⟨a, _, _, d⟩ := each y hy
    exact ownsRow_stay a GW (fun k hk q => (d k q).1 hk)
  · obtain ⟨_, a, _, d⟩ := each y hy
    exact ownsRow_stay a GW (fun k hk q => by rw [sl_block] at hk; cases hk; exact (d _ q).2 rfl)
  · obtain ⟨a, a', c, d⟩ := each y hy
    refine ⟨c, fun g hg => ?_⟩
    rcases hbk with q | q
    · exact d g (by rw [← q]; exact hg)
    · rw [q] at hg
      cases hg
      refine ⟨fun e => ?_, fun e => ?_⟩
      · have := ownsRow_ltG a _ e
        omega
      · have := ownsRow_ltG a' _ (sl_block y.e)
        omega
  · refine List.pairwise_append.2 ⟨h.off, List.pairwise_singleton _ _, fun a ha b hb => ?_⟩
    cases List.mem_singleton.1 hb
    exact hof a ha
theorem LieG.base {w : World} {bl br bl' br' : Nat} {v : Value} {L : List GG} (h : LieG w bl br v L) (h1 : bl' ≤ bl) (h2 : br' ≤ br) : LieG w bl' br' v L := by
  have lower : ∀ {b b' sz n : Nat} {t : TypeId} {v : Value} {xs : List Value}, b' ≤ b → w.ownsRow b t sz v n xs → w.ownsRow b' t sz v n xs := fun hb h => by
    refine ⟨h.1, h.2.imp id ?_⟩
    rintro ⟨g, cap, cur, a1, a2, a3⟩
    exact ⟨g, cap, cur, a1, by omega, a3⟩
  exact ⟨lower h1 h.list, fun x hx => lower h1 (h.keys x hx), fun x hx => lower h2 (h.rows x hx), h.own, h.off⟩

theorem step_append_runG {P : Program} {ops : Array Oper} {o : Oper} {a : Act} {w : World} {K : Act → World → Prop} {Q : Exit → Act → World → Prop} {E : Prop}
    (hg : o.guard = none) (s x : Operand) (t tx : TypeId) (hop : o.op = Op.call { callee := Callee.builtin Builtin.append, args := #[s, x], argTypes := #[t, tx] })
    (v u : Value) (hs : a.eval s = v) (hx : a.eval x = u) (v' : Value) (w' : World) (hrun : (Builtin.append_ #[t, tx] o.type #[v, u]).run P w = .ok v' w') (hK : K (a.put o.dst v') w') :
    if Region.wanted o (yielded ops a.tmps) = true then Oper.wp P o a w K Q else E := by
  have hw : Region.wanted o (yielded ops a.tmps) = true := by simp [Region.wanted, hg]
  rw [if_pos hw]
  unfold Oper.wp
  simp [execOp, hop, resolve, invoke, builtin, hs, hx, hrun, Result.andThen]
  exact hK

theorem RowsQ.off {w w' : World} {base m : Nat} {f : QT → Option GE} {row : Option Nat} (h : RowsQ w base m f) (g : w.grownBy w' row) (hr : ∀ K e, InQ K → f K = some e → row ≠ some e.g) : RowsQ w' base m f :=
  ⟨fun K hK e he => ⟨ownI_far (h.1 K hK e he).1 g (fun k hk q => by rw [sl_block] at hk; cases hk; exact hr K e hK he q.symm), (h.1 K hK e he).2.1, Nat.lt_of_lt_of_le (h.1 K hK e he).2.2 g.size⟩, h.2⟩
theorem ext_none {w u : World} (x : Ext w u) : w.grownBy u none := ⟨x.os, x.tape, x.output, x.size, fun i hi _ => x.block i hi⟩
/-- One of a list taken out, by its key. -/
theorem pickJ {g : Nat → QT} {J : List Nat} (h : J.Pairwise fun a b => kqOf (g a) ≠ kqOf (g b)) {i : Nat} (hi : i ∈ J) : J.Perm (i :: J.filter fun j => !isKq (g j) (kqOf (g i))) := by
  induction J with
  | nil => cases hi
  | cons x J ih =>
    obtain ⟨h1, h2⟩ := List.pairwise_cons.1 h
    rw [List.filter_cons]
    rcases List.mem_cons.1 hi with rfl | hi
    · rw [isKq_iff.2 rfl]
      have : (J.filter fun j => !isKq (g j) (kqOf (g i))) = J := List.filter_eq_self.2 fun j hj => by rw [isKq_false.2 (h1 j hj).symm]; rfl
      rw [this]
      exact List.Perm.refl _
    · rw [isKq_false.2 (h1 i hi)]
      exact ((ih h2 hi).cons x).trans (List.Perm.swap _ _ _)
/-- What the map has under a group's key. -/
theorem GrpF.entry {κ : Nat → List VT} {y : Nat} {f : QT → Option GE} {T : List QT} (h : GrpF κ y f T) {i : Nat} (hi : i ∈ firstsG κ y) : ∃ e, f (quadOf (κ i)) = some e ∧ e.ns = rowsG κ y i ∧ ∃ r, e.ns = i :: r := by
  obtain ⟨h1, h2⟩ := firstsG_mem.1 hi
  obtain ⟨r, hr⟩ := rowsG_head h2 y h1
  have hn := h.2 i
  unfold nsQ at hn
  cases hf : f (quadOf (κ i)) with
  | none => rw [hf, hr] at hn; cases hn
  | some e =>
    rw [hf] at hn
    have hn2 : e.ns = rowsG κ y i := hn
    exact ⟨e, rfl, hn2, r, by rw [hn2, hr]⟩
/-- Groups in order, out of groups of which none comes behind. -/
theorem ord_of {l : List VT} (h : ∀ e ∈ l, e.good = true) {c : Nat} {cols : List Nat} {n : Nat} {F : Nat → List VT × List Nat} (hF : ∀ i, (F i).1 = keyG l c cols i) {I Ix : List Nat} {M : List GG} (p : I.Perm (firstsG (kapG l c cols) n)) (q : Ix.Perm I) (e : Ix.map F = M.map GG.told) (s : M.Pairwise fun x y => 0 ≤ lexG y.K x.K) :
    OrdG l c cols n Ix := by
  refine ⟨q.trans p, ?_⟩
  have s1 : (M.map GG.told).Pairwise fun a b => 0 ≤ lexG b.1 a.1 := List.pairwise_map.2 s
  rw [← e, List.pairwise_map] at s1
  have nd : Ix.Nodup := (q.trans p).nodup_iff.2 (firstsG_nodup _ _)
  have mem : ∀ i ∈ Ix, i ∈ firstsG (kapG l c cols) n := fun i hi => (q.trans p).mem_iff.1 hi
  refine List.Pairwise.imp_of_mem (fun {a b} ha hb hab => ?_) (s1.and nd)
  obtain ⟨h1, h2⟩ := hab
  rw [hF, hF] at h1
  have hne : kapG l c cols a ≠ kapG l c cols b := fun z => h2 (firstsG_one (mem a ha) (mem b hb) z)
  rcases lessG_tot h c cols a b hne with z | z
  · exact z
  · unfold lessG at z
    have := of_decide_eq_true z
    omega
theorem ownW_grok {w : World} {base blk : Nat} {x : GG} (h : OwnW w base x.kv x.K) (hb : x.kv.ownBlock ≠ some blk) (hg : ∀ e ∈ x.K, e.good = true ∧ e.room) (hl : x.K.length ≤ 2000) : GrOK w blk x := by
  obtain ⟨p, cap, h1, h2, h3⟩ := ownW_vals h
  refine ⟨⟨p, cap, h1, h2, fun h0 => ?_⟩, hg, hl⟩
  obtain ⟨b, o, rfl, hr⟩ := h3 h0
  refine ⟨b, o, rfl, fun q => hb ?_, hr⟩
  subst q
  rcases h.2 with ⟨e9, _⟩ | ⟨g, cap', cur, e9, _⟩
  · rw [h1] at e9; cases e9
  · rw [h1] at e9
    cases e9
    rw [h1]
    rfl
/-- The group that is found next. -/
theorem LieG.next {w w4 : World} {r m : Nat} {v : Value} {L : List GG} (h : LieG w (r + 1) m v L) (E : Ext w w4) (e : GE) (K : List VT) (sv : Value) (hk : OwnW w4 w.heap.size sv K) (hr : OwnI w m e.sl e.ns) (her : e.g < r) (hrw : r < w.heap.size)
    (hx : ∀ y ∈ L, y.e.g ≠ e.g ∧ y.e.g < r) (hl : L.length ≤ 1000000) :
    ∃ v' w', (Builtin.append_ #[37, 37] 37 #[v, .slice (some ⟨w4.heap.size, 0, none⟩) 1 1]).run Tryz.prog (w4.alloc (.cells #[sv, e.sl] 73)) = .ok v' w' ∧ LieG w' (r + 1) m v' (L ++ [⟨sv, K, e⟩]) ∧ (w4.alloc (.cells #[sv, e.sl] 73)).grownBy w' v.ownBlock := by
  have X1 := x1 w4 (.cells #[sv, e.sl] 73)
  have V := vec_made w4 [sv, e.sl] 73
  have h4 := h.later (xt E X1)
  have hs := E.size
  have kb := ownW_block hk
  have kl := ownW_lt hk
  have lv : ∀ g, v.ownBlock = some g → r + 1 ≤ g ∧ g < w.heap.size := fun g hg => ⟨ownG_block h.list g hg, ownsRow_ltG h.list g hg⟩
  refine LieG.add h4 ⟨sv, K, e⟩ (ownW_base (ownW_later hk X1) (by omega)) (ownsRow_laterG hr (xt E X1)) ⟨fun q => ?_, fun g hg => ⟨fun q => ?_, fun q => ?_⟩⟩ (fun y hy => ⟨fun b hb => ⟨fun q => ?_, fun q => ?_⟩, fun b hb q => ?_, fun q => ?_⟩) w4.heap.size V hl (by have := X1.size; omega)
  · have := kb _ q
    have : w.heap.size ≤ e.g := this
    omega
  · have := kb _ q; have := lv g hg; omega
  · have := lv g hg; have : e.g = g := q; omega
  · have := kb _ q; have := ownsRow_ltG (h.keys y hy) b hb; omega
  · have := ownW_block (h.keys y hy) b hb; have : e.g = b := q; omega
  · have := kb _ hb; have := (hx y hy).2; omega
  · exact (hx y hy).1 q
theorem keyG_fine {l : List VT} (h : ∀ e ∈ l, e.good = true ∧ e.room) (c : Nat) (cols : List Nat) (i : Nat) : ∀ e ∈ keyG l c cols i, e.good = true ∧ e.room := fun e he => by
  unfold keyG at he
  obtain ⟨j, _, rfl⟩ := List.mem_map.1 he
  by_cases hj : i * c + (j - 1) < l.length
  · exact h _ (cel_mem hj)
  · have : cel l (i * c + (j - 1)) = zeroVT := by unfold cel; rw [List.getD_eq_getElem?_getD, List.getElem?_eq_none (by omega)]; rfl
    rw [this]
    exact ⟨by decide, by decide, by decide, by decide⟩
theorem told_mem {L : List GG} {I : List Nat} {F : Nat → List VT × List Nat} (h : L.map GG.told = I.map F) {x : GG} (hx : x ∈ L) : ∃ i ∈ I, x.told = F i := by
  have : x.told ∈ I.map F := by rw [← h]; exact List.mem_map.2 ⟨x, hx, rfl⟩
  obtain ⟨i, hi, he⟩ := List.mem_map.1 this
  exact ⟨i, hi, he.symm⟩
set_option maxRecDepth 20000 in
/-- What is left when one more is found. -/
theorem TodoQ.pick {left : Lit → Bool} {g : Nat → QT} {J : List Nat} (h : TodoQ left (J.map g)) {i : Nat} (hi : i ∈ J) (hI : InQ (g i)) : TodoQ (fun z => left z && !z.sameKey (kqOf (g i))) ((J.filter fun j => !isKq (g j) (kqOf (g i))).map g) ∧ J.Perm (i :: J.filter fun j => !isKq (g j) (kqOf (g i))) := by
  have h1 := h.next hI
  rw [List.filter_map] at h1
  have h2 := h.1
  rw [List.pairwise_map] at h2
  exact ⟨h1, pickJ h2 hi⟩
theorem first_cell {w : World} {b : Nat} {e : GE} {i : Nat} {q : List Nat} (h : OwnI w b e.sl e.ns) (he : e.ns = i :: q) : w.cell? ⟨e.g, 0, none⟩ = some (.int .i64 i) ∧ 0 < e.ns.length := by
  have hl : 0 < e.ns.length := by rw [he]; simp
  obtain ⟨p, cap, h1, _, h3⟩ := ownI_nums h
  obtain ⟨g, rfl, hv⟩ := h3 hl
  cases h1
  refine ⟨(hv 0 (numV i) ?_).1, hl⟩
  rw [he]
  rfl
/-- The map as it begins to be gone through. -/
theorem range_start {w2 wr : World} {m y n : Nat} {κ : Nat → List VT} (HI : ∃ f T, MapQ wr m y f T ∧ RowsQ wr m m f ∧ GrpF κ y f T ∧ Ext w2 wr) (HNK : ∀ i, (κ i).length = n) (h4 : n ≤ 4) (HKA : ∀ i, ∀ e ∈ κ i, InK e) :
    ∃ (f : QT → Option GE) (T : List QT) (D : DataW Unit) (w0 : World), (Instr.range 67 (.map (some m))).run Tryz.prog wr = .ok (.pointer (some ⟨wr.heap.size, 0, none⟩)) w0 ∧ w0.ranges Tryz.prog 68 glR m wr.heap.size y D (Maps.has D) (Maps.size D) ∧ TodoQ (Maps.has D) ((firstsG κ y).map fun i => quadOf (κ i)) ∧ HoldsQ D f T ∧
      (∀ i ∈ firstsG κ y, ∃ e, f (quadOf (κ i)) = some e ∧ e.ns = rowsG κ y i ∧ (∃ q, e.ns = i :: q) ∧ e.g < wr.heap.size) ∧ (∀ i ∈ firstsG κ y, ∀ j ∈ firstsG κ y, ∀ e q, f (quadOf (κ i)) = some e → f (quadOf (κ j)) = some q → i ≠ j → e.g ≠ q.g) ∧ RowsQ w0 m m f ∧ Ext w2 w0 ∧ m < wr.heap.size ∧ wr.heap.size < w0.heap.size ∧ (∀ K e, InQ K → f K = some e → e.g < wr.heap.size) := by
  obtain ⟨f, T, ⟨D, hD, hH⟩, hRQ, hGF, hX2⟩ := HI
  have HIN : ∀ i, InQ (quadOf (κ i)) := fun i => quadOf_in (HKA i)
  have TS := TodoQ.start hH (hGF.apart HNK h4) (fun K hK => by
    rw [hGF.1] at hK
    obtain ⟨i, _, rfl⟩ := List.mem_map.1 hK
    exact HIN i)
  rw [hGF.1] at TS
  obtain ⟨w0, hrun0, hrg0, hg0, hs0⟩ := hD.range quadK mapQ_type
  refine ⟨f, T, D, w0, hrun0, hrg0, TS, hH, fun i hi => ?_, fun i hi j hj e q he hq hne => ?_, hRQ.off hg0 (fun K e _ _ q => by cases q), ext_grownJ hX2 hg0 (fun k hk => by cases hk), hD.lt, by omega, fun K e hK he => (hRQ.1 K hK e he).2.2⟩
  · obtain ⟨e, a1, a2, a3⟩ := hGF.entry hi
    exact ⟨e, a1, a2, a3, (hRQ.1 _ (HIN i) e a1).2.2⟩
  · refine hRQ.2 _ _ e q (HIN i) (HIN j) (fun z => hne ?_) he hq
    exact firstsG_one hi hj (quadOf_inj (by rw [HNK, HNK]) (by rw [HNK]; exact h4) z)
/-- What stays as it was when one more group is found. -/
theorem range_done {w1 W w2 w9 : World} {m r y cnt : Nat} {D : DataW Unit} {left : Lit → Bool} {f : QT → Option GE} {o : Obj} {lb : Option Nat} (hrg : w1.ranges Tryz.prog 68 glR m r y D left cnt) (E : Ext w1 W) (G : (W.alloc o).grownBy w9 lb) (hlb : ∀ k, lb = some k → r + 1 ≤ k) (hmr : m < r) (hw2 : w2.heap.size = m)
    (HR : RowsQ w1 m m f) (HF : ∀ K e, InQ K → f K = some e → e.g < r) (X : Ext w2 w1) (r1 : r < w1.heap.size) : w9.ranges Tryz.prog 68 glR m r y D left cnt ∧ RowsQ w9 m m f ∧ Ext w2 w9 ∧ r < w9.heap.size := by
  have E9 := xt E (x1 W o)
  have h1 := hrg.kept (ext_none E9) (by simp) (by simp)
  refine ⟨h1.kept G (fun q => ?_) (fun q => ?_), (HR.later E9).off G (fun K e hK he z => ?_), ext_grownJ (xt X E9) G (fun k hk => ?_), ?_⟩
  · have := hlb m q.symm; omega
  · have := hlb r q.symm; omega
  · have := hlb _ z; have := HF K e hK he; omega
  · have := hlb k hk; omega
  · have := E9.size; have := G.size; omega

end Go.Proofs.YtbomplppgobkdaaGreatDoor

