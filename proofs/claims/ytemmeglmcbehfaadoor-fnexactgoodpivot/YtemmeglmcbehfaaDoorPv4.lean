/-
  Chapter 12: GoodPivot of the specification.
-/
import Derived.Test.YtemmeglmcbehfaaDoorPv1
import Derived.Test.YtemmeglmcbehfaaDoorPv2
import Derived.Test.YtemmeglmcbehfaaDoorPv3
import Derived.Test.YtemmeglmcbehfaaDoorRh
namespace Go.Proofs.YtemmeglmcbehfaaDoor
open Go.RowKit

/-- Whether a measure may stand. -/
def measB (c : Int) (m : MT) : Bool := !(decide (m.cl < 1 ∨ c < m.cl)) && decide (1 ≤ m.fd ∧ m.fd ≤ 5)
def goodP (r c : Int) (l : List VT) (rl cl : List Int) (ml : List MT) : Bool :=
  goodG r c l && decide (1 ≤ rl.length ∧ rl.length ≤ 3 ∧ cl.length ≤ 3) && onceB c (rl ++ cl) && decide (1 ≤ ml.length ∧ ml.length ≤ 4) && ml.all (measB c)
theorem goodP_g {r c : Int} {l : List VT} {rl cl : List Int} {ml : List MT} (h : goodG r c l = false) : goodP r c l rl cl ml = false := by simp [goodP, h]
theorem goodP_s {r c : Int} {l : List VT} {rl cl : List Int} {ml : List MT} (h : ¬ (1 ≤ rl.length ∧ rl.length ≤ 3 ∧ cl.length ≤ 3)) : goodP r c l rl cl ml = false := by
  unfold goodP; rw [decide_eq_false h]; simp
theorem goodP_o {r c : Int} {l : List VT} {rl cl : List Int} {ml : List MT} (h : onceB c (rl ++ cl) = false) : goodP r c l rl cl ml = false := by simp [goodP, h]
theorem goodP_m {r c : Int} {l : List VT} {rl cl : List Int} {ml : List MT} (h : ¬ (1 ≤ ml.length ∧ ml.length ≤ 4)) : goodP r c l rl cl ml = false := by
  unfold goodP; rw [decide_eq_false h]; simp
theorem goodP_a {r c : Int} {l : List VT} {rl cl : List Int} {ml : List MT} (h : ml.all (measB c) = false) : goodP r c l rl cl ml = false := by
  unfold goodP; rw [h]; simp
theorem goodP_t {r c : Int} {l : List VT} {rl cl : List Int} {ml : List MT} (h1 : goodG r c l = true) (h2 : 1 ≤ rl.length ∧ rl.length ≤ 3 ∧ cl.length ≤ 3) (h3 : onceB c (rl ++ cl) = true) (h4 : 1 ≤ ml.length ∧ ml.length ≤ 4) (h5 : ml.all (measB c) = true) : goodP r c l rl cl ml = true := by
  unfold goodP; rw [h1, decide_eq_true h2, h3, decide_eq_true h4, h5]; rfl
set_option maxRecDepth 8000 in
set_option maxHeartbeats 4000000 in
theorem goodPS (r c : Int) (v rv cv mv : Value) (t : Bool) (l : List VT) (rl cl : List Int) (ml : List MT) (w : World) (h : ValsIn w v l) (hr : IntsIn w rv rl) (hc : IntsIn w cv cl) (hm : MeasuresIn w mv ml)
    (hl : l.length ≤ 2000000) (ht : ∀ e ∈ l, e.t.length ≤ 2000000) (lr : rl.length ≤ 1048576) (lc : cl.length ≤ 1048576) (lm : ml.length ≤ 1048576) :
    Calls Tryd.prog 6 #[grV r c v, pivV rv cv mv t] w fun e w' => e = .returned (.bool (goodP r c l rl cl ml)) ∧ Ext w w' := by
  have HG : Hid (ValsIn w v l) := h
  have HT : Hid (∀ e ∈ l, e.t.length ≤ 2000000) := ht
  obtain ⟨n1, hn1⟩ : ∃ n, rl.length = n := ⟨_, rfl⟩
  obtain ⟨n2, hn2⟩ : ∃ n, cl.length = n := ⟨_, rfl⟩
  obtain ⟨n3, hn3⟩ : ∃ n, ml.length = n := ⟨_, rfl⟩
  have HN1 : Hid (rl.length = n1) := hn1
  have HN2 : Hid (cl.length = n2) := hn2
  have HN3 : Hid (ml.length = n3) := hn3
  have hr' := hr
  have hc' := hc
  obtain ⟨pr, kr, er, hkr, -⟩ := hr'
  obtain ⟨pc, kc, ec, hkc, -⟩ := hc'
  obtain ⟨pm, km, em, hkm, hrow⟩ := hm
  rw [hn1] at er hkr lr
  rw [hn2] at ec hkc lc
  rw [hn3] at em hkm lm hrow
  subst er ec em
  have HRI : Hid (IntsIn w (.slice pr n1 kr) rl) := hr
  have HCI : Hid (IntsIn w (.slice pc n2 kc) cl) := hc
  have HMI : Hid (0 < n3 → ∃ b o, pm = some ⟨b, o, none⟩ ∧ RowM w b o ml) := hrow
  obtain ⟨u0, u1, h0, h1, s0, s1, B0, B1, X⟩ := mkB2 w [.int .i64 r, .int .i64 c, v] [.slice pr n1 kr, .slice pc n2 kc, .slice pm n3 km, .bool t] 34 38
  obtain ⟨R, hR⟩ : ∃ R, goodP r c l rl cl ml = R := ⟨_, rfl⟩
  have HR : Hid (goodP r c l rl cl ml = R) := hR
  rw [hR]
  clear hR h ht hr hc hrow hn1 hn2 hn3
  go_enter Tryd.func6, Tryd.ntmps6
  go_wp2_with fail
  refine wp_region_letters_g (fun lx : Nat → Value => { tmps := #[grV r c v, pivV (.slice pr n1 kr) (.slice pc n2 kc) (.slice pm n3 km) t, .pointer (some ⟨w.heap.size, 0, none⟩), .pointer (some ⟨w.heap.size + 1, 0, none⟩), .bool false, lx 5, undef, undef, lx 8, lx 9, lx 10, lx 11, lx 12, lx 13, lx 14, undef, undef, undef, undef, undef, undef, undef, undef, undef, undef, undef, undef, undef, undef, undef, undef, undef, undef, undef, undef, undef, undef, undef, undef, undef, undef, undef, undef, undef, undef, undef, undef, undef, undef, undef, undef, undef, undef, undef, undef, undef, undef, undef, undef, undef, undef, undef, undef, undef, undef, undef, undef, undef, undef, undef, undef, undef, undef, undef, undef, undef, undef, undef, undef, undef, undef, undef], defers := [] }) (fun L lx lw => Hid (Ext w lw ∧ w.heap.size + 1 + 1 ≤ lw.heap.size ∧ Vec lw w.heap.size [.int .i64 r, .int .i64 c, v] ∧ Vec lw (w.heap.size + 1) [.slice pr n1 kr, .slice pc n2 kc, .slice pm n3 km, .bool t] ∧ (L 0 = true → lx 8 = .slice none 0 0) ∧ (L 1 = true → lx 9 = .pointer (some ⟨w.heap.size + 1, 0, none⟩)) ∧ (L 2 = true → lx 10 = .slice pr n1 kr) ∧ (L 3 = true → L 6 = false → OwnZ lw (w.heap.size + 1 + 1) (lx 11) rl) ∧ (L 4 = true → lx 12 = .pointer (some ⟨w.heap.size + 1, 1, none⟩)) ∧ (L 5 = true → lx 13 = .slice pc n2 kc) ∧ (L 6 = true → OwnZ lw (w.heap.size + 1 + 1) (lx 14) (rl ++ cl)) ∧ (L 7 = true → lx 5 = lx 14) ∧ (L 0 = false → lx 5 = .slice none 0 0) ∧ (L 6 = true → L 3 = true) ∧ (L 7 = true → L 6 = true))) rfl (by kernel_rfl) (fun jj => if jj = 5 then .slice none 0 0 else undef) rfl ?_ ?_ ?_
  · exact ⟨xd X, by show _ ≤ u1.heap.size; omega, B0.later (xd (xr _)), B1.later (xd (xr _)), (fun h => by cases h), (fun h => by cases h), (fun h => by cases h), (fun h => by cases h), (fun h => by cases h), (fun h => by cases h), (fun h => by cases h), (fun h => by cases h), (fun _ => rfl), (fun h => by cases h), (fun h => by cases h)⟩
  · intro L lx wl i o K hK ho hL haf hI
    obtain ⟨X, SZ, G0, G1, f0, f1, f2, f3, f4, f5, f6, f7, f8, g3, g7⟩ := hI.out
    match i, ho, hL, haf, hK with
    | 0, ho, hL, haf, hK =>
      cases ho
      (try dsimp only)
      refine Eq.mpr (if_pos (by rfl)) ?_
      rw [f8 hL]
      go_wp2_with fail
      exact hK (fun jj => if jj = 8 then .slice none 0 0 else if jj = 5 then .slice none 0 0 else lx jj) _ ⟨X, SZ, G0, G1, fun _ => rfl, f1, f2, f3, f4, f5, f6, (fun h => by have := f7 h; rw [f8 hL] at this; exact this), fun _ => rfl, g3, g7⟩
    | 1, ho, hL, haf, hK =>
      cases ho
      (try dsimp only)
      refine Eq.mpr (if_pos (by rfl)) ?_
      go_wp2_with fail
      exact hK (fun jj => if jj = 9 then .pointer (some ⟨w.heap.size + 1, 0, none⟩) else lx jj) _ ⟨X, SZ, G0, G1, f0, fun _ => rfl, f2, f3, f4, f5, f6, f7, f8, g3, g7⟩
    | 2, ho, hL, haf, hK =>
      cases ho
      (try dsimp only)
      refine Eq.mpr (if_pos (by rfl)) ?_
      rw [f1 (haf ⟨1, .data⟩ (by simp) rfl)]
      obtain ⟨a0, a1, a2, a3⟩ := Vec.four G1
      go_wp2_with fail
      exact hK (fun jj => if jj = 10 then (.slice pr n1 kr) else if jj = 9 then .pointer (some ⟨w.heap.size + 1, 0, none⟩) else lx jj) _ ⟨X, SZ, G0, G1, f0, fun _ => rfl, fun _ => rfl, f3, f4, f5, f6, f7, f8, g3, g7⟩
    | 3, ho, hL, haf, hK =>
      cases ho
      (try dsimp only)
      refine Eq.mpr (if_pos (by rfl)) ?_
      rw [f0 (haf ⟨0, .data⟩ (by simp) rfl), f2 (haf ⟨2, .data⟩ (by simp) rfl)]
      refine wpList_app_ints wl rfl (.tmp 8) (.tmp 10) rfl (w.heap.size + 1 + 1) (.slice none 0 0) (.slice pr n1 kr) [] rl rfl (ownZ_nil _ _) rfl (HRI.out.later X) (by have := HN1.out; simp; omega) SZ (fun v' w' O G => ?_)
      go_wp2_with fail
      have h6 : L 6 = true → False := fun h => by have := g3 h; rw [hL] at this; cases this
      exact hK (fun jj => if jj = 11 then v' else if jj = 8 then .slice none 0 0 else if jj = 10 then (.slice pr n1 kr) else lx jj) _ ⟨ext_grownZ X G (fun k hk => by cases hk), Nat.le_trans SZ G.size, vec_keepZ G0 G (fun e => by cases e), vec_keepZ G1 G (fun e => by cases e), fun _ => rfl, f1, fun _ => rfl, fun _ _ => O, f4, f5, fun h => (h6 h).elim, f7, f8, (fun _ => rfl), g7⟩
    | 4, ho, hL, haf, hK =>
      cases ho
      (try dsimp only)
      refine Eq.mpr (if_pos (by rfl)) ?_
      go_wp2_with fail
      exact hK (fun jj => if jj = 12 then .pointer (some ⟨w.heap.size + 1, 1, none⟩) else lx jj) _ ⟨X, SZ, G0, G1, f0, f1, f2, f3, fun _ => rfl, f5, f6, f7, f8, g3, g7⟩
    | 5, ho, hL, haf, hK =>
      cases ho
      (try dsimp only)
      refine Eq.mpr (if_pos (by rfl)) ?_
      rw [f4 (haf ⟨4, .data⟩ (by simp) rfl)]
      obtain ⟨a0, a1, a2, a3⟩ := Vec.four G1
      go_wp2_with fail
      exact hK (fun jj => if jj = 13 then (.slice pc n2 kc) else if jj = 12 then .pointer (some ⟨w.heap.size + 1, 1, none⟩) else lx jj) _ ⟨X, SZ, G0, G1, f0, f1, f2, f3, fun _ => rfl, fun _ => rfl, f6, f7, f8, g3, g7⟩
    | 6, ho, hL, haf, hK =>
      cases ho
      (try dsimp only)
      refine Eq.mpr (if_pos (by rfl)) ?_
      have h3 := haf ⟨3, .data⟩ (by simp) rfl
      have O3 := f3 h3 hL
      have hb := ownZ_block O3
      rw [f5 (haf ⟨5, .data⟩ (by simp) rfl)]
      refine wpList_app_ints wl rfl (.tmp 11) (.tmp 13) rfl (w.heap.size + 1 + 1) (lx 11) (.slice pc n2 kc) rl cl rfl O3 rfl (HCI.out.later X) (by have := HN1.out; have := HN2.out; omega) SZ (fun v' w' O G => ?_)
      go_wp2_with fail
      exact hK (fun jj => if jj = 14 then v' else if jj = 13 then (.slice pc n2 kc) else lx jj) _ ⟨ext_grownZ X G (fun k hk => by have := hb k hk; omega), Nat.le_trans SZ G.size, vec_keepZ G0 G (fun e => by have := hb _ e.symm; omega), vec_keepZ G1 G (fun e => by have := hb _ e.symm; omega), f0, f1, f2, (fun _ h => by cases h), f4, fun _ => rfl, fun _ => O, (fun h => by have := g7 h; rw [hL] at this; cases this), f8, (fun _ => h3), (fun _ => rfl)⟩
    | 7, ho, hL, haf, hK =>
      cases ho
      (try dsimp only)
      refine Eq.mpr (if_pos (by rfl)) ?_
      go_wp2_with fail
      exact hK (fun jj => if jj = 5 then lx 14 else lx jj) _ ⟨X, SZ, G0, G1, f0, f1, f2, f3, f4, f5, f6, fun _ => rfl, (fun h => by have h0 := haf ⟨0, .phase⟩ (by simp) rfl; have h' : L 0 = false := h; rw [h0] at h'; cases h'), g3, (fun _ => haf ⟨6, .data⟩ (by simp) rfl)⟩
    | k + 8, ho, _, _, _ => simp at ho
  · intro L lx wr hall hI
    obtain ⟨XR, SZ, G0, G1, f0, f1, f2, f3, f4, f5, f6, f7, f8, g3, g7⟩ := hI.out
    clear hI f3 f8 g3 g7
    replace f0 := f0 (hall 0 (by simp))
    replace f1 := f1 (hall 1 (by simp))
    replace f2 := f2 (hall 2 (by simp))
    replace f4 := f4 (hall 4 (by simp))
    replace f5 := f5 (hall 5 (by simp))
    replace f6 := f6 (hall 6 (by simp))
    replace f7 := f7 (hall 7 (by simp))
    have HZ : Hid (IntsIn wr (lx 14) (rl ++ cl)) := ownZ_ints f6
    obtain ⟨pz, kz, ez, hkz⟩ := ownZ_slice f6
    have nz : (rl ++ cl).length = n1 + n2 := by rw [List.length_append, HN1.out, HN2.out]
    rw [nz] at ez hkz
    rw [ez] at f7 HZ
    obtain ⟨q11, e11⟩ : ∃ q, lx 11 = q := ⟨_, rfl⟩
    (try dsimp only)
    rw [f0, f1, f2, e11, f4, f5, ez, f7]
    clear hall f0 f1 f2 e11 f4 f5 f6 f7 ez lx L
    obtain ⟨b0, b1, b2⟩ := Vec.three G0
    go_wp2_with fail
    refine (goodGS r c v l wr (HG.out.later XR) hl HT.out).mono ?_
    rintro e w2 ⟨rfl, e2⟩
    have H0 := G0.later e2
    have H1 := G1.later e2
    have X2 := xt XR e2
    have HZ2 : Hid (IntsIn w2 (.slice pz (n1 + n2) kz) (rl ++ cl)) := HZ.out.later e2
    clear G0 G1 HZ b0 b1 b2 e2 XR SZ
    obtain ⟨b0, b1, b2⟩ := Vec.three H0
    obtain ⟨a0, a1, a2, a3⟩ := Vec.four H1
    cases hg : goodG r c l with
    | false =>
      have hr0 : R = false := by rw [← HR.out]; exact goodP_g hg
      subst hr0
      clear hg
      go_wp2_with fail
      go_ret
      exact ⟨rfl, X2⟩
    | true =>
      have HGT : Hid (goodG r c l = true) := hg
      clear hg
      by_cases t1 : n1 < 1
      · have d1 : decide ((n1 : Int) < 1) = true := decide_eq_true (by omega)
        have hr0 : R = false := by rw [← HR.out]; exact goodP_s (by rw [HN1.out]; omega)
        subst hr0
        go_wp2_with fail
        go_ret
        exact ⟨rfl, X2⟩
      · have d1 : decide ((n1 : Int) < 1) = false := decide_eq_false (by omega)
        by_cases t2 : 3 < n1
        · have d2 : decide ((n1 : Int) > 3) = true := decide_eq_true (by omega)
          have d2' : decide ((3 : Int) < n1) = true := decide_eq_true (by omega)
          have hr0 : R = false := by rw [← HR.out]; exact goodP_s (by rw [HN1.out]; omega)
          subst hr0
          go_wp2_with fail
          go_ret
          exact ⟨rfl, X2⟩
        · have d2 : decide ((n1 : Int) > 3) = false := decide_eq_false (by omega)
          have d2' : decide ((3 : Int) < n1) = false := decide_eq_false (by omega)
          by_cases t3 : 3 < n2
          · have d3 : decide ((n2 : Int) > 3) = true := decide_eq_true (by omega)
            have d3' : decide ((3 : Int) < n2) = true := decide_eq_true (by omega)
            have hr0 : R = false := by rw [← HR.out]; exact goodP_s (by rw [HN2.out]; omega)
            subst hr0
            go_wp2_with fail
            go_ret
            exact ⟨rfl, X2⟩
          · have d3 : decide ((n2 : Int) > 3) = false := decide_eq_false (by omega)
            have d3' : decide ((3 : Int) < n2) = false := decide_eq_false (by omega)
            have HS : Hid (1 ≤ rl.length ∧ rl.length ≤ 3 ∧ cl.length ≤ 3) := by show _ ∧ _; rw [HN1.out, HN2.out]; omega
            go_wp2_with fail
            clear a0 a1 a2 a3 b0 b1 b2 d1 d2 d2' d3 d3'
            refine (colsS r c v _ (rl ++ cl) w2 HZ2.out (by rw [nz]; omega)).mono ?_
            rintro e w3 ⟨rfl, e3⟩
            have J0 := H0.later e3
            have J1 := H1.later e3
            have X3 := xt X2 e3
            clear H0 H1 HZ2 X2 e3
            obtain ⟨b0, b1, b2⟩ := Vec.three J0
            obtain ⟨a0, a1, a2, a3⟩ := Vec.four J1
            cases ho : onceB c (rl ++ cl) with
            | false =>
              have hr0 : R = false := by rw [← HR.out]; exact goodP_o ho
              subst hr0
              clear ho
              go_wp2_with fail
              go_ret
              exact ⟨rfl, X3⟩
            | true =>
              have HOT : Hid (onceB c (rl ++ cl) = true) := ho
              clear ho
              by_cases t4 : n3 < 1
              · have d4 : decide ((n3 : Int) < 1) = true := decide_eq_true (by omega)
                have hr0 : R = false := by rw [← HR.out]; exact goodP_m (by rw [HN3.out]; omega)
                subst hr0
                go_wp2_with fail
                go_ret
                exact ⟨rfl, X3⟩
              · have d4 : decide ((n3 : Int) < 1) = false := decide_eq_false (by omega)
                by_cases t5 : 4 < n3
                · have d5 : decide ((n3 : Int) > 4) = true := decide_eq_true (by omega)
                  have d5' : decide ((4 : Int) < n3) = true := decide_eq_true (by omega)
                  have hr0 : R = false := by rw [← HR.out]; exact goodP_m (by rw [HN3.out]; omega)
                  subst hr0
                  go_wp2_with fail
                  go_ret
                  exact ⟨rfl, X3⟩
                · have d5 : decide ((n3 : Int) > 4) = false := decide_eq_false (by omega)
                  have d5' : decide ((4 : Int) < n3) = false := decide_eq_false (by omega)
                  have HM4 : Hid (1 ≤ ml.length ∧ ml.length ≤ 4) := by show _ ∧ _; rw [HN3.out]; omega
                  go_wp2_with fail
                  clear a0 a1 a2 a3 b0 b1 b2 d4 d5 d5'
                  go_loopw [57] (fun i wq => ∃ k : Nat, k ≤ n3 ∧ i = .int .i64 k ∧ Hid (Ext w wq ∧ Ext w3 wq ∧ ∀ j x, j < k → ml[j]? = some x → measB c x = true)) (fun i _ => n3 - (intOf i).toNat)
                  case atStart => exact ⟨0, by omega, rfl, X3, xr _, fun j x hj => absurd hj (by omega)⟩
                  case round =>
                    obtain ⟨k, hk, rfl, HO⟩ := hrel
                    by_cases hlt : k < n3
                    · have i2 : (k : Int) < (n3 : Int) := by omega
                      obtain ⟨⟨z, f⟩, hx⟩ : ∃ x, ml[k]? = some x := ⟨_, List.getElem?_eq_getElem (by rw [HN3.out]; exact hlt)⟩
                      obtain ⟨b, o, rfl, RW⟩ := HMI.out (by omega)
                      obtain ⟨a0, a1⟩ := (RW.later HO.out.1).all hx
                      obtain ⟨b0, b1, b2⟩ := Vec.three (J0.later HO.out.2.1)
                      have HX : Hid (ml[k]? = some ⟨z, f⟩) := hx
                      simp only at a0 a1
                      obtain ⟨wb, hb, E, MB⟩ : ∃ wb, wr.alloc (.cells #[.int .i64 z, .int .i64 f] 49) = wb ∧ Ext wr wb ∧ Vec wb wr.heap.size [.int .i64 z, .int .i64 f] :=
                        ⟨_, rfl, x1 wr _, vec_made wr [.int .i64 z, .int .i64 f] 49⟩
                      have m0 := (MB 0 _ rfl).1
                      have m1 := (MB 1 _ rfl).1
                      have g1 := cell_later E b1
                      have XE : Hid (Ext w wb ∧ Ext w3 wb) := ⟨xt HO.out.1 E, xt HO.out.2.1 E⟩
                      obtain ⟨q, hq⟩ : ∃ q, measB c ⟨z, f⟩ = q := ⟨_, rfl⟩
                      have HQ : Hid (measB c ⟨z, f⟩ = q) := hq
                      clear hx RW E MB hq
                      have HF : Hid (measB c ⟨z, f⟩ = false → R = false) := fun h => by
                        rw [← HR.out]
                        refine goodP_a (Bool.eq_false_iff.2 fun ha => ?_)
                        have := (List.all_eq_true.1 ha) _ (List.mem_of_getElem? HX.out)
                        rw [h] at this
                        cases this
                      by_cases h1 : z < 1
                      · have f1 : decide (z < 1) = true := decide_eq_true h1
                        have hr0 : R = false := HF.out (by unfold measB; rw [decide_eq_true (Or.inl h1)]; rfl)
                        subst hr0
                        go_wp2_with fail
                        go_ret
                        exact ⟨rfl, XE.out.1⟩
                      · have f1 : decide (z < 1) = false := decide_eq_false h1
                        by_cases h2 : c < z
                        · have f2 : decide (z > c) = true := decide_eq_true h2
                          have f2' : decide (c < z) = true := decide_eq_true h2
                          have hr0 : R = false := HF.out (by unfold measB; rw [decide_eq_true (Or.inr h2)]; rfl)
                          subst hr0
                          go_wp2_with fail
                          go_ret
                          exact ⟨rfl, XE.out.1⟩
                        · have f2 : decide (z > c) = false := decide_eq_false h2
                          have f2' : decide (c < z) = false := decide_eq_false h2
                          by_cases h3 : f < 1
                          · have f3 : decide (f < 1) = true := decide_eq_true h3
                            have hr0 : R = false := HF.out (by unfold measB; rw [decide_eq_false (p := 1 ≤ f ∧ f ≤ 5) (by omega)]; simp)
                            subst hr0
                            go_wp2_with fail
                            go_ret
                            exact ⟨rfl, XE.out.1⟩
                          · have f3 : decide (f < 1) = false := decide_eq_false h3
                            by_cases h4 : 5 < f
                            · have f4 : decide (f > 5) = true := decide_eq_true h4
                              have f4' : decide (5 < f) = true := decide_eq_true h4
                              have hr0 : R = false := HF.out (by unfold measB; rw [decide_eq_false (p := 1 ≤ f ∧ f ≤ 5) (by omega)]; simp)
                              subst hr0
                              go_wp2_with fail
                              go_ret
                              exact ⟨rfl, XE.out.1⟩
                            · have f4 : decide (f > 5) = false := decide_eq_false h4
                              have f4' : decide (5 < f) = false := decide_eq_false h4
                              have HM : Hid (Ext w wb ∧ Ext w3 wb ∧ ∀ j x, j < k + 1 → ml[j]? = some x → measB c x = true) := ⟨XE.out.1, XE.out.2, fun j x hj hx => by
                                by_cases e : j = k
                                · subst e
                                  rw [HX.out] at hx
                                  cases hx
                                  unfold measB
                                  rw [decide_eq_false (p := z < 1 ∨ c < z) (by omega), decide_eq_true (p := 1 ≤ f ∧ f ≤ 5) (by omega)]
                                  rfl
                                · exact HO.out.2.2 j x (by omega) hx⟩
                              go_wp2_with fail
                              go_roundw
                              case rel => exact ⟨k + 1, by omega, by go_num, HM⟩
                              case measure => simp [intOf]; omega
                    · obtain rfl : k = n3 := by omega
                      have hr0 : R = true := by
                        rw [← HR.out]
                        refine goodP_t HGT.out HS.out HOT.out HM4.out (List.all_eq_true.2 fun x hx => ?_)
                        obtain ⟨j, hj, rfl⟩ := List.getElem_of_mem hx
                        exact HO.out.2.2 j _ (by rw [← HN3.out]; exact hj) (List.getElem?_eq_getElem hj)
                      subst hr0
                      have HF : Hid (Ext w wr) := HO.out.1
                      go_wp2_with fail
                      go_ret
                      exact ⟨rfl, HF.out⟩

end Go.Proofs.YtemmeglmcbehfaaDoor
