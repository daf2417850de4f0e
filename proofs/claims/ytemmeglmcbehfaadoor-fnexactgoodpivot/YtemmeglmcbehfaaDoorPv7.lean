/-
  Chapter 12: GoodPivot of the program.
-/
import Derived.Test.YtemmeglmcbehfaaDoorPv6
namespace Go.Proofs.YtemmeglmcbehfaaDoor
open Go.RowKit

set_option maxRecDepth 8000 in
set_option maxHeartbeats 4000000 in
theorem goodPI (r c : Int) (v rv cv mv : Value) (t : Bool) (l : List VT) (rl cl : List Int) (ml : List MT) (w : World) (h : ValsIn w v l) (hr : IntsIn w rv rl) (hc : IntsIn w cv cl) (hm : MeasuresIn w mv ml)
    (hl : l.length ≤ 2000000) (ht : ∀ e ∈ l, e.t.length ≤ 2000000) (hd : ∀ e ∈ l, -9223372036854775808 ≤ e.d ∧ e.d ≤ 9223372036854775807) (hT : Tens w) (hE : ErrTab w) (lr : rl.length ≤ 1048576) (lc : cl.length ≤ 1048576) (lm : ml.length ≤ 1048576) :
    Calls Tryd.prog 9 #[grV r c v, pivV rv cv mv t] w fun e w' => e = .returned (.bool (goodP r c l rl cl ml)) ∧ Ext w w' := by
  obtain ⟨n1, hn1⟩ : ∃ n, rl.length = n := ⟨_, rfl⟩
  obtain ⟨n2, hn2⟩ : ∃ n, cl.length = n := ⟨_, rfl⟩
  obtain ⟨n3, hn3⟩ : ∃ n, ml.length = n := ⟨_, rfl⟩
  have HN1 : Hid (rl.length = n1) := hn1
  have HN2 : Hid (cl.length = n2) := hn2
  have HN3 : Hid (ml.length = n3) := hn3
  obtain ⟨pr, kr, er, hkr, -⟩ := id hr
  obtain ⟨pc, kc, ec, hkc, -⟩ := id hc
  obtain ⟨pm, km, em, hkm, -⟩ := id hm
  rw [hn1] at er hkr lr
  rw [hn2] at ec hkc lc
  rw [hn3] at em hkm lm
  subst er ec em
  obtain ⟨u0, u1, h0, h1, s0, s1, B0, B1, X⟩ := mkB2 w [.int .i64 r, .int .i64 c, v] [.slice pr n1 kr, .slice pc n2 kc, .slice pm n3 km, .bool t] 34 38
  have CG : Hid (∀ W, Ext w W → Calls Tryd.prog 23 #[grV r c v] W fun e w' => e = .returned (.bool (goodG r c l)) ∧ Ext W w') := fun W x => goodGI r c v l W (h.later x) hl ht hd (hT.later x) (hE.later x)
  have HRI : Hid (∀ W, Ext w W → IntsIn W (.slice pr n1 kr) rl) := fun W x => hr.later x
  have HCI : Hid (∀ W, Ext w W → IntsIn W (.slice pc n2 kc) cl) := fun W x => hc.later x
  have HMI : Hid (∀ W, Ext w W → MeasuresIn W (.slice pm n3 km) ml) := fun W x => hm.later x
  obtain ⟨R, hR⟩ : ∃ R, goodP r c l rl cl ml = R := ⟨_, rfl⟩
  have HR : Hid (goodP r c l rl cl ml = R) := hR
  rw [hR]
  clear hR h ht hd hr hc hm hn1 hn2 hn3 hT hE
  obtain ⟨a0, a1, a2, a3⟩ := Vec.four B1
  by_cases t1 : n1 < 1
  · have d1 : decide ((n1 : Int) < 1) = true := decide_eq_true (by omega)
    have hr0 : R = false := by rw [← HR.out]; exact goodP_s (by rw [HN1.out, HN2.out]; omega)
    subst hr0
    go_enter Tryd.func9, Tryd.ntmps9
    go_wp2_with fail
    go_ret
    exact ⟨rfl, X⟩
  · have d1 : decide ((n1 : Int) < 1) = false := decide_eq_false (by omega)
    by_cases t2 : 3 < n1
    · have d2 : decide ((n1 : Int) > 3) = true := decide_eq_true (by omega)
      have d2' : decide ((3 : Int) < n1) = true := decide_eq_true (by omega)
      have hr0 : R = false := by rw [← HR.out]; exact goodP_s (by rw [HN1.out, HN2.out]; omega)
      subst hr0
      go_enter Tryd.func9, Tryd.ntmps9
      go_wp2_with fail
      go_ret
      exact ⟨rfl, X⟩
    · have d2 : decide ((n1 : Int) > 3) = false := decide_eq_false (by omega)
      have d2' : decide ((3 : Int) < n1) = false := decide_eq_false (by omega)
      by_cases t3 : 3 < n2
      · have d3 : decide ((n2 : Int) > 3) = true := decide_eq_true (by omega)
        have d3' : decide ((3 : Int) < n2) = true := decide_eq_true (by omega)
        have hr0 : R = false := by rw [← HR.out]; exact goodP_s (by rw [HN1.out, HN2.out]; omega)
        subst hr0
        go_enter Tryd.func9, Tryd.ntmps9
        go_wp2_with fail
        go_ret
        exact ⟨rfl, X⟩
      · have d3 : decide ((n2 : Int) > 3) = false := decide_eq_false (by omega)
        have d3' : decide ((3 : Int) < n2) = false := decide_eq_false (by omega)
        by_cases t4 : n3 < 1
        · have d4 : decide ((n3 : Int) < 1) = true := decide_eq_true (by omega)
          have hr0 : R = false := by rw [← HR.out]; exact goodP_m (by rw [HN3.out]; omega)
          subst hr0
          go_enter Tryd.func9, Tryd.ntmps9
          go_wp2_with fail
          go_ret
          exact ⟨rfl, X⟩
        · have d4 : decide ((n3 : Int) < 1) = false := decide_eq_false (by omega)
          by_cases t5 : 4 < n3
          · have d5 : decide ((n3 : Int) > 4) = true := decide_eq_true (by omega)
            have d5' : decide ((4 : Int) < n3) = true := decide_eq_true (by omega)
            have hr0 : R = false := by rw [← HR.out]; exact goodP_m (by rw [HN3.out]; omega)
            subst hr0
            go_enter Tryd.func9, Tryd.ntmps9
            go_wp2_with fail
            go_ret
            exact ⟨rfl, X⟩
          · have d5 : decide ((n3 : Int) > 4) = false := decide_eq_false (by omega)
            have d5' : decide ((4 : Int) < n3) = false := decide_eq_false (by omega)
            go_enter Tryd.func9, Tryd.ntmps9
            go_wp2_with fail
            clear a0 a1 a2 a3 h0 h1 s0 s1 d1 d2 d2' d3 d3' d4 d5 d5'
            have HS : Hid (1 ≤ rl.length ∧ rl.length ≤ 3 ∧ cl.length ≤ 3) := by show _ ∧ _; rw [HN1.out, HN2.out]; omega
            have HM4 : Hid (1 ≤ ml.length ∧ ml.length ≤ 4) := by show _ ∧ _; rw [HN3.out]; omega
            cases hg : goodG r c l with
            | false =>
              have CGX : Hid (∀ W, Ext w W → Calls Tryd.prog 23 #[grV r c v] W fun e w' => e = .returned (.bool false) ∧ Ext W w') := fun W x => by rw [← hg]; exact CG.out W x
              have HB : Hid (false = R) := by show _ = _; rw [← HR.out]; exact (goodP_g hg).symm
              clear hg
              refine wp_region_letters_g (fun lx : Nat → Value => { tmps := #[grV r c v, pivV (Value.slice pr n1 kr) (Value.slice pc n2 kc) (Value.slice pm n3 km) t, Value.pointer (some ⟨w.heap.size, 0, none⟩), Value.pointer (some ⟨w.heap.size + 1, 0, none⟩), lx 4, Value.func (Fn.func 20) #[] #[Value.pointer (some ⟨w.heap.size, 0, none⟩)], Value.pointer (some ⟨w.heap.size + 1, 0, none⟩), Value.slice pr n1 kr, Value.int .i64 (n1 : Int), Value.bool false, Value.bool false, Value.pointer (some ⟨w.heap.size + 1, 0, none⟩), Value.slice pr n1 kr, Value.int .i64 (n1 : Int), Value.bool false, Value.bool false, Value.bool false, Value.pointer (some ⟨w.heap.size + 1, 1, none⟩), Value.slice pc n2 kc, Value.int .i64 (n2 : Int), Value.bool false, Value.bool false, Value.bool false, Value.pointer (some ⟨w.heap.size + 1, 2, none⟩), Value.slice pm n3 km, Value.int .i64 (n3 : Int), Value.bool false, Value.bool false, Value.bool false, Value.pointer (some ⟨w.heap.size + 1, 2, none⟩), Value.slice pm n3 km, Value.int .i64 (n3 : Int), Value.bool false, Value.bool false, Value.func (Fn.func 20) #[] #[Value.pointer (some ⟨w.heap.size, 0, none⟩)], lx 35, lx 36, lx 37, lx 38, lx 39, lx 40, lx 41, lx 42, lx 43, lx 44, lx 45, lx 46, lx 47, lx 48, lx 49, lx 50, lx 51, lx 52, lx 53], defers := [] }) (fun L lx lw => Hid (Ext w lw ∧ Vec lw w.heap.size [.int .i64 r, .int .i64 c, v] ∧ Vec lw (w.heap.size + 1) [.slice pr n1 kr, .slice pc n2 kc, .slice pm n3 km, .bool t] ∧ (L 0 = true → lx 35 = .agg #[.int .i64 r, .int .i64 c, v]) ∧ (L 1 = true → lx 36 = .bool false) ∧ (L 2 = true → lx 37 = .bool false) ∧ (L 3 = true → lx 38 = undef) ∧ (L 4 = true → lx 39 = undef) ∧ (L 5 = true → lx 40 = undef) ∧ (L 6 = true → lx 41 = undef) ∧ (L 7 = true → lx 42 = undef) ∧ (L 8 = true → lx 43 = undef) ∧ (L 9 = true → lx 44 = undef) ∧ (L 10 = true → lx 45 = undef) ∧ (L 11 = true → lx 46 = .bool false) ∧ (L 12 = true → lx 47 = .bool false) ∧ (L 13 = true → lx 48 = undef) ∧ (L 14 = true → lx 49 = undef) ∧ (L 15 = true → lx 50 = undef) ∧ (L 16 = true → lx 51 = undef) ∧ (L 17 = true → lx 52 = undef) ∧ (L 18 = true → lx 53 = .bool false) ∧ (L 19 = true → lx 4 = .bool false))) rfl (by kernel_rfl) (fun jj => if jj = 4 then .bool false else undef) rfl ?_ ?_ ?_
              · refine ⟨xd X, B0.later (xd (xr _)), B1.later (xd (xr _)), ?_, ?_, ?_, ?_, ?_, ?_, ?_, ?_, ?_, ?_, ?_, ?_, ?_, ?_, ?_, ?_, ?_, ?_, ?_, ?_⟩ <;> (intro h; cases h)
              · intro L lx wl i o K hK ho hL haf hI
                obtain ⟨X5, G0, G1, f0, f1, f2, f3, f4, f5, f6, f7, f8, f9, f10, f11, f12, f13, f14, f15, f16, f17, f18, f19⟩ := hI.out
                match i, ho, hL, haf, hK with
                | 0, ho, hL, haf, hK =>
                  cases ho
                  refine Eq.mpr (if_pos (by rfl)) ?_
                  (try dsimp only)
                  obtain ⟨b0, b1, b2⟩ := Vec.three G0
                  go_wp2_with fail
                  exact hK (fun jj => if jj = 35 then .agg #[.int .i64 r, .int .i64 c, v] else lx jj) _ ⟨X5, G0, G1, (fun _ => rfl), f1, f2, f3, f4, f5, f6, f7, f8, f9, f10, f11, f12, f13, f14, f15, f16, f17, f18, f19⟩
                | 1, ho, hL, haf, hK =>
                  cases ho
                  (try dsimp only)
                  rw [f0 (haf ⟨0, .data⟩ (by simp) rfl)]
                  refine Eq.mpr (if_pos (by rfl)) ?_
                  (try dsimp only)
                  go_wp2_with fail
                  refine (CGX.out _ X5).mono ?_
                  rintro rr w' ⟨rfl, E5⟩
                  go_wp2_with fail
                  exact hK (fun jj => if jj = 36 then .bool false else if jj = 35 then .agg #[.int .i64 r, .int .i64 c, v] else lx jj) _ ⟨(xt X5 E5), (G0.later E5), (G1.later E5), (fun _ => rfl), (fun _ => rfl), f2, f3, f4, f5, f6, f7, f8, f9, f10, f11, f12, f13, f14, f15, f16, f17, f18, f19⟩
                | 2, ho, hL, haf, hK =>
                  cases ho
                  (try dsimp only)
                  rw [f1 (haf ⟨1, .data⟩ (by simp) rfl)]
                  refine Eq.mpr (if_pos (by rfl)) ?_
                  (try dsimp only)
                  go_wp2_with fail
                  exact hK (fun jj => if jj = 37 then .bool false else if jj = 36 then .bool false else lx jj) _ ⟨X5, G0, G1, f0, (fun _ => rfl), (fun _ => rfl), f3, f4, f5, f6, f7, f8, f9, f10, f11, f12, f13, f14, f15, f16, f17, f18, f19⟩
                | 3, ho, hL, haf, hK =>
                  cases ho
                  (try dsimp only)
                  rw [f2 (haf ⟨2, .guard⟩ (by simp) rfl)]
                  refine Eq.mpr (if_neg (fun h => Bool.noConfusion (show false = true from h))) ?_
                  exact hK (fun jj => if jj = 38 then undef else if jj = 37 then .bool false else lx jj) _ ⟨X5, G0, G1, f0, f1, (fun _ => rfl), (fun _ => rfl), f4, f5, f6, f7, f8, f9, f10, f11, f12, f13, f14, f15, f16, f17, f18, f19⟩
                | 4, ho, hL, haf, hK =>
                  cases ho
                  (try dsimp only)
                  rw [f2 (haf ⟨2, .guard⟩ (by simp) rfl)]
                  refine Eq.mpr (if_neg (fun h => Bool.noConfusion (show false = true from h))) ?_
                  exact hK (fun jj => if jj = 39 then undef else if jj = 37 then .bool false else lx jj) _ ⟨X5, G0, G1, f0, f1, (fun _ => rfl), f3, (fun _ => rfl), f5, f6, f7, f8, f9, f10, f11, f12, f13, f14, f15, f16, f17, f18, f19⟩
                | 5, ho, hL, haf, hK =>
                  cases ho
                  (try dsimp only)
                  rw [f2 (haf ⟨2, .guard⟩ (by simp) rfl)]
                  refine Eq.mpr (if_neg (fun h => Bool.noConfusion (show false = true from h))) ?_
                  exact hK (fun jj => if jj = 40 then undef else if jj = 37 then .bool false else lx jj) _ ⟨X5, G0, G1, f0, f1, (fun _ => rfl), f3, f4, (fun _ => rfl), f6, f7, f8, f9, f10, f11, f12, f13, f14, f15, f16, f17, f18, f19⟩
                | 6, ho, hL, haf, hK =>
                  cases ho
                  (try dsimp only)
                  rw [f2 (haf ⟨2, .guard⟩ (by simp) rfl)]
                  refine Eq.mpr (if_neg (fun h => Bool.noConfusion (show false = true from h))) ?_
                  exact hK (fun jj => if jj = 41 then undef else if jj = 37 then .bool false else lx jj) _ ⟨X5, G0, G1, f0, f1, (fun _ => rfl), f3, f4, f5, (fun _ => rfl), f7, f8, f9, f10, f11, f12, f13, f14, f15, f16, f17, f18, f19⟩
                | 7, ho, hL, haf, hK =>
                  cases ho
                  (try dsimp only)
                  rw [f2 (haf ⟨2, .guard⟩ (by simp) rfl)]
                  refine Eq.mpr (if_neg (fun h => Bool.noConfusion (show false = true from h))) ?_
                  exact hK (fun jj => if jj = 42 then undef else if jj = 37 then .bool false else lx jj) _ ⟨X5, G0, G1, f0, f1, (fun _ => rfl), f3, f4, f5, f6, (fun _ => rfl), f8, f9, f10, f11, f12, f13, f14, f15, f16, f17, f18, f19⟩
                | 8, ho, hL, haf, hK =>
                  cases ho
                  (try dsimp only)
                  rw [f2 (haf ⟨2, .guard⟩ (by simp) rfl)]
                  refine Eq.mpr (if_neg (fun h => Bool.noConfusion (show false = true from h))) ?_
                  exact hK (fun jj => if jj = 43 then undef else if jj = 37 then .bool false else lx jj) _ ⟨X5, G0, G1, f0, f1, (fun _ => rfl), f3, f4, f5, f6, f7, (fun _ => rfl), f9, f10, f11, f12, f13, f14, f15, f16, f17, f18, f19⟩
                | 9, ho, hL, haf, hK =>
                  cases ho
                  (try dsimp only)
                  rw [f2 (haf ⟨2, .guard⟩ (by simp) rfl)]
                  refine Eq.mpr (if_neg (fun h => Bool.noConfusion (show false = true from h))) ?_
                  exact hK (fun jj => if jj = 44 then undef else if jj = 37 then .bool false else lx jj) _ ⟨X5, G0, G1, f0, f1, (fun _ => rfl), f3, f4, f5, f6, f7, f8, (fun _ => rfl), f10, f11, f12, f13, f14, f15, f16, f17, f18, f19⟩
                | 10, ho, hL, haf, hK =>
                  cases ho
                  (try dsimp only)
                  rw [f2 (haf ⟨2, .guard⟩ (by simp) rfl)]
                  refine Eq.mpr (if_neg (fun h => Bool.noConfusion (show false = true from h))) ?_
                  exact hK (fun jj => if jj = 45 then undef else if jj = 37 then .bool false else lx jj) _ ⟨X5, G0, G1, f0, f1, (fun _ => rfl), f3, f4, f5, f6, f7, f8, f9, (fun _ => rfl), f11, f12, f13, f14, f15, f16, f17, f18, f19⟩
                | 11, ho, hL, haf, hK =>
                  cases ho
                  (try dsimp only)
                  rw [f2 (haf ⟨2, .data⟩ (by simp) rfl)]
                  refine Eq.mpr (if_pos (by rfl)) ?_
                  (try dsimp only)
                  go_wp2_with fail
                  exact hK (fun jj => if jj = 46 then .bool false else if jj = 37 then .bool false else lx jj) _ ⟨X5, G0, G1, f0, f1, (fun _ => rfl), f3, f4, f5, f6, f7, f8, f9, f10, (fun _ => rfl), f12, f13, f14, f15, f16, f17, f18, f19⟩
                | 12, ho, hL, haf, hK =>
                  cases ho
                  (try dsimp only)
                  rw [f11 (haf ⟨11, .data⟩ (by simp) rfl)]
                  refine Eq.mpr (if_pos (by rfl)) ?_
                  (try dsimp only)
                  go_wp2_with fail
                  exact hK (fun jj => if jj = 47 then .bool false else if jj = 46 then .bool false else lx jj) _ ⟨X5, G0, G1, f0, f1, f2, f3, f4, f5, f6, f7, f8, f9, f10, (fun _ => rfl), (fun _ => rfl), f13, f14, f15, f16, f17, f18, f19⟩
                | 13, ho, hL, haf, hK =>
                  cases ho
                  (try dsimp only)
                  rw [f12 (haf ⟨12, .guard⟩ (by simp) rfl)]
                  refine Eq.mpr (if_neg (fun h => Bool.noConfusion (show false = true from h))) ?_
                  exact hK (fun jj => if jj = 48 then undef else if jj = 47 then .bool false else lx jj) _ ⟨X5, G0, G1, f0, f1, f2, f3, f4, f5, f6, f7, f8, f9, f10, f11, (fun _ => rfl), (fun _ => rfl), f14, f15, f16, f17, f18, f19⟩
                | 14, ho, hL, haf, hK =>
                  cases ho
                  (try dsimp only)
                  rw [f12 (haf ⟨12, .guard⟩ (by simp) rfl)]
                  refine Eq.mpr (if_neg (fun h => Bool.noConfusion (show false = true from h))) ?_
                  exact hK (fun jj => if jj = 49 then undef else if jj = 47 then .bool false else lx jj) _ ⟨X5, G0, G1, f0, f1, f2, f3, f4, f5, f6, f7, f8, f9, f10, f11, (fun _ => rfl), f13, (fun _ => rfl), f15, f16, f17, f18, f19⟩
                | 15, ho, hL, haf, hK =>
                  cases ho
                  (try dsimp only)
                  rw [f12 (haf ⟨12, .guard⟩ (by simp) rfl)]
                  refine Eq.mpr (if_neg (fun h => Bool.noConfusion (show false = true from h))) ?_
                  exact hK (fun jj => if jj = 50 then undef else if jj = 47 then .bool false else lx jj) _ ⟨X5, G0, G1, f0, f1, f2, f3, f4, f5, f6, f7, f8, f9, f10, f11, (fun _ => rfl), f13, f14, (fun _ => rfl), f16, f17, f18, f19⟩
                | 16, ho, hL, haf, hK =>
                  cases ho
                  (try dsimp only)
                  rw [f12 (haf ⟨12, .guard⟩ (by simp) rfl)]
                  refine Eq.mpr (if_neg (fun h => Bool.noConfusion (show false = true from h))) ?_
                  exact hK (fun jj => if jj = 51 then undef else if jj = 47 then .bool false else lx jj) _ ⟨X5, G0, G1, f0, f1, f2, f3, f4, f5, f6, f7, f8, f9, f10, f11, (fun _ => rfl), f13, f14, f15, (fun _ => rfl), f17, f18, f19⟩
                | 17, ho, hL, haf, hK =>
                  cases ho
                  (try dsimp only)
                  rw [f12 (haf ⟨12, .guard⟩ (by simp) rfl)]
                  refine Eq.mpr (if_neg (fun h => Bool.noConfusion (show false = true from h))) ?_
                  exact hK (fun jj => if jj = 52 then undef else if jj = 47 then .bool false else lx jj) _ ⟨X5, G0, G1, f0, f1, f2, f3, f4, f5, f6, f7, f8, f9, f10, f11, (fun _ => rfl), f13, f14, f15, f16, (fun _ => rfl), f18, f19⟩
                | 18, ho, hL, haf, hK =>
                  cases ho
                  (try dsimp only)
                  rw [f12 (haf ⟨12, .data⟩ (by simp) rfl)]
                  refine Eq.mpr (if_pos (by rfl)) ?_
                  (try dsimp only)
                  go_wp2_with fail
                  exact hK (fun jj => if jj = 53 then .bool false else if jj = 47 then .bool false else lx jj) _ ⟨X5, G0, G1, f0, f1, f2, f3, f4, f5, f6, f7, f8, f9, f10, f11, (fun _ => rfl), f13, f14, f15, f16, f17, (fun _ => rfl), f19⟩
                | 19, ho, hL, haf, hK =>
                  cases ho
                  (try dsimp only)
                  rw [f18 (haf ⟨18, .data⟩ (by simp) rfl)]
                  refine Eq.mpr (if_pos (by rfl)) ?_
                  (try dsimp only)
                  go_wp2_with fail
                  exact hK (fun jj => if jj = 4 then .bool false else if jj = 53 then .bool false else lx jj) _ ⟨X5, G0, G1, f0, f1, f2, f3, f4, f5, f6, f7, f8, f9, f10, f11, f12, f13, f14, f15, f16, f17, (fun _ => rfl), (fun _ => rfl)⟩
                | k + 20, ho, _, _, _ => simp at ho
              · intro L lx wl hall hI
                obtain ⟨X5, G0, G1, f0, f1, f2, f3, f4, f5, f6, f7, f8, f9, f10, f11, f12, f13, f14, f15, f16, f17, f18, f19⟩ := hI.out
                have v4 := f19 (hall 19 (by simp))
                clear hI hall G0 G1 f0 f1 f2 f3 f4 f5 f6 f7 f8 f9 f10 f11 f12 f13 f14 f15 f16 f17 f18 f19
                (try dsimp only)
                rw [v4]
                go_wp2_with fail
                go_ret
                exact ⟨ret_bool HB.out, X5⟩
            | true =>
              have CGX : Hid (∀ W, Ext w W → Calls Tryd.prog 23 #[grV r c v] W fun e w' => e = .returned (.bool true) ∧ Ext W w') := fun W x => by rw [← hg]; exact CG.out W x
              have HGT : Hid (goodG r c l = true) := hg
              have CCX : Hid (∀ W b0, Ext w W → Vec W b0 [.slice pr n1 kr, .slice pc n2 kc] → Calls Tryd.prog 25 #[.slice (some ⟨b0, 0, none⟩) 2 2] W fun e w' => ∃ v, e = .returned v ∧ IntsIn w' v (rl ++ cl) ∧ Ext W w') := fun W b0 x V => concatZ b0 _ _ rl cl W V (HRI.out W x) (HCI.out W x) (by rw [HN1.out]; omega) (by rw [HN1.out]; omega) (by rw [HN2.out]; omega)
              clear hg
              cases ho : onceB c (rl ++ cl) with
              | false =>
                have COX : Hid (∀ W u, IntsIn W u (rl ++ cl) → Calls Tryd.prog 24 #[grV r c v, u] W fun e w' => e = .returned (.bool false) ∧ Ext W w') := fun W u x => by rw [← ho]; exact hasOnceI r c v u (rl ++ cl) W x (by rw [List.length_append, HN1.out, HN2.out]; omega)
                have HB : Hid (false = R) := by show _ = _; rw [← HR.out]; exact (goodP_o ho).symm
                clear ho
                refine wp_region_letters_g (fun lx : Nat → Value => { tmps := #[grV r c v, pivV (Value.slice pr n1 kr) (Value.slice pc n2 kc) (Value.slice pm n3 km) t, Value.pointer (some ⟨w.heap.size, 0, none⟩), Value.pointer (some ⟨w.heap.size + 1, 0, none⟩), lx 4, Value.func (Fn.func 20) #[] #[Value.pointer (some ⟨w.heap.size, 0, none⟩)], Value.pointer (some ⟨w.heap.size + 1, 0, none⟩), Value.slice pr n1 kr, Value.int .i64 (n1 : Int), Value.bool false, Value.bool false, Value.pointer (some ⟨w.heap.size + 1, 0, none⟩), Value.slice pr n1 kr, Value.int .i64 (n1 : Int), Value.bool false, Value.bool false, Value.bool false, Value.pointer (some ⟨w.heap.size + 1, 1, none⟩), Value.slice pc n2 kc, Value.int .i64 (n2 : Int), Value.bool false, Value.bool false, Value.bool false, Value.pointer (some ⟨w.heap.size + 1, 2, none⟩), Value.slice pm n3 km, Value.int .i64 (n3 : Int), Value.bool false, Value.bool false, Value.bool false, Value.pointer (some ⟨w.heap.size + 1, 2, none⟩), Value.slice pm n3 km, Value.int .i64 (n3 : Int), Value.bool false, Value.bool false, Value.func (Fn.func 20) #[] #[Value.pointer (some ⟨w.heap.size, 0, none⟩)], lx 35, lx 36, lx 37, lx 38, lx 39, lx 40, lx 41, lx 42, lx 43, lx 44, lx 45, lx 46, lx 47, lx 48, lx 49, lx 50, lx 51, lx 52, lx 53], defers := [] }) (fun L lx lw => Hid (Ext w lw ∧ Vec lw w.heap.size [.int .i64 r, .int .i64 c, v] ∧ Vec lw (w.heap.size + 1) [.slice pr n1 kr, .slice pc n2 kc, .slice pm n3 km, .bool t] ∧ (L 0 = true → lx 35 = .agg #[.int .i64 r, .int .i64 c, v]) ∧ (L 1 = true → lx 36 = .bool true) ∧ (L 2 = true → lx 37 = .bool true) ∧ (L 3 = true → lx 38 = .agg #[.int .i64 r, .int .i64 c, v]) ∧ (L 4 = true → lx 39 = .pointer (some ⟨w.heap.size + 1, 0, none⟩)) ∧ (L 5 = true → lx 40 = .slice pr n1 kr) ∧ (L 6 = true → lx 41 = .pointer (some ⟨w.heap.size + 1, 1, none⟩)) ∧ (L 7 = true → lx 42 = .slice pc n2 kc) ∧ (L 8 = true → ∃ b0, lx 43 = .slice (some ⟨b0, 0, none⟩) 2 2 ∧ Vec lw b0 [.slice pr n1 kr, .slice pc n2 kc]) ∧ (L 9 = true → IntsIn lw (lx 44) (rl ++ cl)) ∧ (L 10 = true → lx 45 = .bool false) ∧ (L 11 = true → lx 46 = .bool false) ∧ (L 12 = true → lx 47 = .bool false) ∧ (L 13 = true → lx 48 = undef) ∧ (L 14 = true → lx 49 = undef) ∧ (L 15 = true → lx 50 = undef) ∧ (L 16 = true → lx 51 = undef) ∧ (L 17 = true → lx 52 = undef) ∧ (L 18 = true → lx 53 = .bool false) ∧ (L 19 = true → lx 4 = .bool false))) rfl (by kernel_rfl) (fun jj => if jj = 4 then .bool false else undef) rfl ?_ ?_ ?_
                · refine ⟨xd X, B0.later (xd (xr _)), B1.later (xd (xr _)), ?_, ?_, ?_, ?_, ?_, ?_, ?_, ?_, ?_, ?_, ?_, ?_, ?_, ?_, ?_, ?_, ?_, ?_, ?_, ?_⟩ <;> (intro h; cases h)
                · intro L lx wl i o K hK ho hL haf hI
                  obtain ⟨X5, G0, G1, f0, f1, f2, f3, f4, f5, f6, f7, f8, f9, f10, f11, f12, f13, f14, f15, f16, f17, f18, f19⟩ := hI.out
                  match i, ho, hL, haf, hK with
                  | 0, ho, hL, haf, hK =>
                    cases ho
                    refine Eq.mpr (if_pos (by rfl)) ?_
                    (try dsimp only)
                    obtain ⟨b0, b1, b2⟩ := Vec.three G0
                    go_wp2_with fail
                    exact hK (fun jj => if jj = 35 then .agg #[.int .i64 r, .int .i64 c, v] else lx jj) _ ⟨X5, G0, G1, (fun _ => rfl), f1, f2, f3, f4, f5, f6, f7, f8, f9, f10, f11, f12, f13, f14, f15, f16, f17, f18, f19⟩
                  | 1, ho, hL, haf, hK =>
                    cases ho
                    (try dsimp only)
                    rw [f0 (haf ⟨0, .data⟩ (by simp) rfl)]
                    refine Eq.mpr (if_pos (by rfl)) ?_
                    (try dsimp only)
                    go_wp2_with fail
                    refine (CGX.out _ X5).mono ?_
                    rintro rr w' ⟨rfl, E5⟩
                    go_wp2_with fail
                    exact hK (fun jj => if jj = 36 then .bool true else if jj = 35 then .agg #[.int .i64 r, .int .i64 c, v] else lx jj) _ ⟨(xt X5 E5), (G0.later E5), (G1.later E5), (fun _ => rfl), (fun _ => rfl), f2, f3, f4, f5, f6, f7, (fun h => by obtain ⟨b0, h1, h2⟩ := f8 h; exact ⟨b0, h1, h2.later E5⟩), (fun h => (f9 h).later E5), f10, f11, f12, f13, f14, f15, f16, f17, f18, f19⟩
                  | 2, ho, hL, haf, hK =>
                    cases ho
                    (try dsimp only)
                    rw [f1 (haf ⟨1, .data⟩ (by simp) rfl)]
                    refine Eq.mpr (if_pos (by rfl)) ?_
                    (try dsimp only)
                    go_wp2_with fail
                    exact hK (fun jj => if jj = 37 then .bool true else if jj = 36 then .bool true else lx jj) _ ⟨X5, G0, G1, f0, (fun _ => rfl), (fun _ => rfl), f3, f4, f5, f6, f7, f8, f9, f10, f11, f12, f13, f14, f15, f16, f17, f18, f19⟩
                  | 3, ho, hL, haf, hK =>
                    cases ho
                    (try dsimp only)
                    rw [f2 (haf ⟨2, .guard⟩ (by simp) rfl)]
                    refine Eq.mpr (if_pos (by rfl)) ?_
                    (try dsimp only)
                    obtain ⟨b0, b1, b2⟩ := Vec.three G0
                    go_wp2_with fail
                    exact hK (fun jj => if jj = 38 then .agg #[.int .i64 r, .int .i64 c, v] else if jj = 37 then .bool true else lx jj) _ ⟨X5, G0, G1, f0, f1, (fun _ => rfl), (fun _ => rfl), f4, f5, f6, f7, f8, f9, f10, f11, f12, f13, f14, f15, f16, f17, f18, f19⟩
                  | 4, ho, hL, haf, hK =>
                    cases ho
                    (try dsimp only)
                    rw [f2 (haf ⟨2, .guard⟩ (by simp) rfl)]
                    refine Eq.mpr (if_pos (by rfl)) ?_
                    (try dsimp only)
                    go_wp2_with fail
                    exact hK (fun jj => if jj = 39 then .pointer (some ⟨w.heap.size + 1, 0, none⟩) else if jj = 37 then .bool true else lx jj) _ ⟨X5, G0, G1, f0, f1, (fun _ => rfl), f3, (fun _ => rfl), f5, f6, f7, f8, f9, f10, f11, f12, f13, f14, f15, f16, f17, f18, f19⟩
                  | 5, ho, hL, haf, hK =>
                    cases ho
                    (try dsimp only)
                    rw [f4 (haf ⟨4, .data⟩ (by simp) rfl), f2 (haf ⟨2, .guard⟩ (by simp) rfl)]
                    refine Eq.mpr (if_pos (by rfl)) ?_
                    (try dsimp only)
                    obtain ⟨b0, b1, b2, b3⟩ := Vec.four G1
                    go_wp2_with fail
                    exact hK (fun jj => if jj = 40 then .slice pr n1 kr else if jj = 39 then .pointer (some ⟨w.heap.size + 1, 0, none⟩) else if jj = 37 then .bool true else lx jj) _ ⟨X5, G0, G1, f0, f1, (fun _ => rfl), f3, (fun _ => rfl), (fun _ => rfl), f6, f7, f8, f9, f10, f11, f12, f13, f14, f15, f16, f17, f18, f19⟩
                  | 6, ho, hL, haf, hK =>
                    cases ho
                    (try dsimp only)
                    rw [f2 (haf ⟨2, .guard⟩ (by simp) rfl)]
                    refine Eq.mpr (if_pos (by rfl)) ?_
                    (try dsimp only)
                    go_wp2_with fail
                    exact hK (fun jj => if jj = 41 then .pointer (some ⟨w.heap.size + 1, 1, none⟩) else if jj = 37 then .bool true else lx jj) _ ⟨X5, G0, G1, f0, f1, (fun _ => rfl), f3, f4, f5, (fun _ => rfl), f7, f8, f9, f10, f11, f12, f13, f14, f15, f16, f17, f18, f19⟩
                  | 7, ho, hL, haf, hK =>
                    cases ho
                    (try dsimp only)
                    rw [f6 (haf ⟨6, .data⟩ (by simp) rfl), f2 (haf ⟨2, .guard⟩ (by simp) rfl)]
                    refine Eq.mpr (if_pos (by rfl)) ?_
                    (try dsimp only)
                    obtain ⟨b0, b1, b2, b3⟩ := Vec.four G1
                    go_wp2_with fail
                    exact hK (fun jj => if jj = 42 then .slice pc n2 kc else if jj = 41 then .pointer (some ⟨w.heap.size + 1, 1, none⟩) else if jj = 37 then .bool true else lx jj) _ ⟨X5, G0, G1, f0, f1, (fun _ => rfl), f3, f4, f5, (fun _ => rfl), (fun _ => rfl), f8, f9, f10, f11, f12, f13, f14, f15, f16, f17, f18, f19⟩
                  | 8, ho, hL, haf, hK =>
                    cases ho
                    (try dsimp only)
                    rw [f5 (haf ⟨5, .data⟩ (by simp) rfl), f7 (haf ⟨7, .data⟩ (by simp) rfl), f2 (haf ⟨2, .guard⟩ (by simp) rfl)]
                    refine Eq.mpr (if_pos (by rfl)) ?_
                    (try dsimp only)
                    go_wp2_with fail
                    exact hK (fun jj => if jj = 43 then .slice (some ⟨wl.heap.size, 0, none⟩) 2 2 else if jj = 40 then .slice pr n1 kr else if jj = 42 then .slice pc n2 kc else if jj = 37 then .bool true else lx jj) _ ⟨(xa X5 _), (G0.later (x1 _ _)), (G1.later (x1 _ _)), f0, f1, (fun _ => rfl), f3, f4, (fun _ => rfl), f6, (fun _ => rfl), (fun _ => ⟨wl.heap.size, rfl, vec_made wl [.slice pr n1 kr, .slice pc n2 kc] _⟩), (fun h => (f9 h).later (x1 _ _)), f10, f11, f12, f13, f14, f15, f16, f17, f18, f19⟩
                  | 9, ho, hL, haf, hK =>
                    cases ho
                    (try dsimp only)
                    obtain ⟨b0, eb, hvb⟩ := f8 (haf ⟨8, .data⟩ (by simp) rfl)
                    rw [eb, f2 (haf ⟨2, .guard⟩ (by simp) rfl)]
                    refine Eq.mpr (if_pos (by rfl)) ?_
                    (try dsimp only)
                    go_wp2_with fail
                    refine (CCX.out wl b0 X5 hvb).mono ?_
                    rintro rr w' ⟨zv, rfl, IZ, E5⟩
                    go_wp2_with fail
                    exact hK (fun jj => if jj = 44 then zv else if jj = 43 then .slice (some ⟨b0, 0, none⟩) 2 2 else if jj = 37 then .bool true else lx jj) _ ⟨(xt X5 E5), (G0.later E5), (G1.later E5), f0, f1, (fun _ => rfl), f3, f4, f5, f6, f7, (fun _ => ⟨b0, rfl, hvb.later E5⟩), (fun _ => IZ), f10, f11, f12, f13, f14, f15, f16, f17, f18, f19⟩
                  | 10, ho, hL, haf, hK =>
                    cases ho
                    (try dsimp only)
                    have IZ := f9 (haf ⟨9, .data⟩ (by simp) rfl)
                    obtain ⟨zv, ez⟩ : ∃ z, lx 44 = z := ⟨_, rfl⟩
                    rw [ez, f3 (haf ⟨3, .data⟩ (by simp) rfl), f2 (haf ⟨2, .guard⟩ (by simp) rfl)]
                    rw [ez] at IZ
                    refine Eq.mpr (if_pos (by rfl)) ?_
                    (try dsimp only)
                    go_wp2_with fail
                    refine (COX.out wl zv IZ).mono ?_
                    rintro rr w' ⟨rfl, E5⟩
                    go_wp2_with fail
                    exact hK (fun jj => if jj = 45 then .bool false else if jj = 44 then zv else if jj = 38 then .agg #[.int .i64 r, .int .i64 c, v] else if jj = 37 then .bool true else lx jj) _ ⟨(xt X5 E5), (G0.later E5), (G1.later E5), f0, f1, (fun _ => rfl), (fun _ => rfl), f4, f5, f6, f7, (fun h => by obtain ⟨b0, h1, h2⟩ := f8 h; exact ⟨b0, h1, h2.later E5⟩), (fun _ => IZ.later E5), (fun _ => rfl), f11, f12, f13, f14, f15, f16, f17, f18, f19⟩
                  | 11, ho, hL, haf, hK =>
                    cases ho
                    (try dsimp only)
                    rw [f2 (haf ⟨2, .data⟩ (by simp) rfl), f10 (haf ⟨10, .data⟩ (by simp) rfl)]
                    refine Eq.mpr (if_pos (by rfl)) ?_
                    (try dsimp only)
                    go_wp2_with fail
                    exact hK (fun jj => if jj = 46 then .bool false else if jj = 37 then .bool true else if jj = 45 then .bool false else lx jj) _ ⟨X5, G0, G1, f0, f1, (fun _ => rfl), f3, f4, f5, f6, f7, f8, f9, (fun _ => rfl), (fun _ => rfl), f12, f13, f14, f15, f16, f17, f18, f19⟩
                  | 12, ho, hL, haf, hK =>
                    cases ho
                    (try dsimp only)
                    rw [f11 (haf ⟨11, .data⟩ (by simp) rfl)]
                    refine Eq.mpr (if_pos (by rfl)) ?_
                    (try dsimp only)
                    go_wp2_with fail
                    exact hK (fun jj => if jj = 47 then .bool false else if jj = 46 then .bool false else lx jj) _ ⟨X5, G0, G1, f0, f1, f2, f3, f4, f5, f6, f7, f8, f9, f10, (fun _ => rfl), (fun _ => rfl), f13, f14, f15, f16, f17, f18, f19⟩
                  | 13, ho, hL, haf, hK =>
                    cases ho
                    (try dsimp only)
                    rw [f12 (haf ⟨12, .guard⟩ (by simp) rfl)]
                    refine Eq.mpr (if_neg (fun h => Bool.noConfusion (show false = true from h))) ?_
                    exact hK (fun jj => if jj = 48 then undef else if jj = 47 then .bool false else lx jj) _ ⟨X5, G0, G1, f0, f1, f2, f3, f4, f5, f6, f7, f8, f9, f10, f11, (fun _ => rfl), (fun _ => rfl), f14, f15, f16, f17, f18, f19⟩
                  | 14, ho, hL, haf, hK =>
                    cases ho
                    (try dsimp only)
                    rw [f12 (haf ⟨12, .guard⟩ (by simp) rfl)]
                    refine Eq.mpr (if_neg (fun h => Bool.noConfusion (show false = true from h))) ?_
                    exact hK (fun jj => if jj = 49 then undef else if jj = 47 then .bool false else lx jj) _ ⟨X5, G0, G1, f0, f1, f2, f3, f4, f5, f6, f7, f8, f9, f10, f11, (fun _ => rfl), f13, (fun _ => rfl), f15, f16, f17, f18, f19⟩
                  | 15, ho, hL, haf, hK =>
                    cases ho
                    (try dsimp only)
                    rw [f12 (haf ⟨12, .guard⟩ (by simp) rfl)]
                    refine Eq.mpr (if_neg (fun h => Bool.noConfusion (show false = true from h))) ?_
                    exact hK (fun jj => if jj = 50 then undef else if jj = 47 then .bool false else lx jj) _ ⟨X5, G0, G1, f0, f1, f2, f3, f4, f5, f6, f7, f8, f9, f10, f11, (fun _ => rfl), f13, f14, (fun _ => rfl), f16, f17, f18, f19⟩
                  | 16, ho, hL, haf, hK =>
                    cases ho
                    (try dsimp only)
                    rw [f12 (haf ⟨12, .guard⟩ (by simp) rfl)]
                    refine Eq.mpr (if_neg (fun h => Bool.noConfusion (show false = true from h))) ?_
                    exact hK (fun jj => if jj = 51 then undef else if jj = 47 then .bool false else lx jj) _ ⟨X5, G0, G1, f0, f1, f2, f3, f4, f5, f6, f7, f8, f9, f10, f11, (fun _ => rfl), f13, f14, f15, (fun _ => rfl), f17, f18, f19⟩
                  | 17, ho, hL, haf, hK =>
                    cases ho
                    (try dsimp only)
                    rw [f12 (haf ⟨12, .guard⟩ (by simp) rfl)]
                    refine Eq.mpr (if_neg (fun h => Bool.noConfusion (show false = true from h))) ?_
                    exact hK (fun jj => if jj = 52 then undef else if jj = 47 then .bool false else lx jj) _ ⟨X5, G0, G1, f0, f1, f2, f3, f4, f5, f6, f7, f8, f9, f10, f11, (fun _ => rfl), f13, f14, f15, f16, (fun _ => rfl), f18, f19⟩
                  | 18, ho, hL, haf, hK =>
                    cases ho
                    (try dsimp only)
                    rw [f12 (haf ⟨12, .data⟩ (by simp) rfl)]
                    refine Eq.mpr (if_pos (by rfl)) ?_
                    (try dsimp only)
                    go_wp2_with fail
                    exact hK (fun jj => if jj = 53 then .bool false else if jj = 47 then .bool false else lx jj) _ ⟨X5, G0, G1, f0, f1, f2, f3, f4, f5, f6, f7, f8, f9, f10, f11, (fun _ => rfl), f13, f14, f15, f16, f17, (fun _ => rfl), f19⟩
                  | 19, ho, hL, haf, hK =>
                    cases ho
                    (try dsimp only)
                    rw [f18 (haf ⟨18, .data⟩ (by simp) rfl)]
                    refine Eq.mpr (if_pos (by rfl)) ?_
                    (try dsimp only)
                    go_wp2_with fail
                    exact hK (fun jj => if jj = 4 then .bool false else if jj = 53 then .bool false else lx jj) _ ⟨X5, G0, G1, f0, f1, f2, f3, f4, f5, f6, f7, f8, f9, f10, f11, f12, f13, f14, f15, f16, f17, (fun _ => rfl), (fun _ => rfl)⟩
                  | k + 20, ho, _, _, _ => simp at ho
                · intro L lx wl hall hI
                  obtain ⟨X5, G0, G1, f0, f1, f2, f3, f4, f5, f6, f7, f8, f9, f10, f11, f12, f13, f14, f15, f16, f17, f18, f19⟩ := hI.out
                  have v4 := f19 (hall 19 (by simp))
                  clear hI hall G0 G1 f0 f1 f2 f3 f4 f5 f6 f7 f8 f9 f10 f11 f12 f13 f14 f15 f16 f17 f18 f19
                  (try dsimp only)
                  rw [v4]
                  go_wp2_with fail
                  go_ret
                  exact ⟨ret_bool HB.out, X5⟩
              | true =>
                have COX : Hid (∀ W u, IntsIn W u (rl ++ cl) → Calls Tryd.prog 24 #[grV r c v, u] W fun e w' => e = .returned (.bool true) ∧ Ext W w') := fun W u x => by rw [← ho]; exact hasOnceI r c v u (rl ++ cl) W x (by rw [List.length_append, HN1.out, HN2.out]; omega)
                have HOT : Hid (onceB c (rl ++ cl) = true) := ho
                obtain ⟨q3, hq3⟩ : ∃ q, (ml.any fun m => !(measB c m)) = q := ⟨_, rfl⟩
                have CMX : Hid (∀ W, Vec W w.heap.size [.int .i64 r, .int .i64 c, v] → Ext w W → Calls Tryd.prog 26 #[.slice pm n3 km, .func (.func 20) #[] #[.pointer (some ⟨w.heap.size, 0, none⟩)]] W fun e w' => e = .returned (.bool q3) ∧ Ext W w') := fun W x y => by
                  rw [← hq3]
                  exact containsMI 20 #[.pointer (some ⟨w.heap.size, 0, none⟩)] (.slice pm n3 km) ml (fun m => !(measB c m)) W ⟨fun args w => by kernel_rfl, fun W' e x' => badMI r c v e w.heap.size W' (x.later x')⟩ (HMI.out W y) (by rw [HN3.out]; omega)
                have HB : Hid ((!q3) = R) := by
                  show _ = _
                  rw [← HR.out, ← hq3]
                  cases ha : ml.all (measB c) with
                  | false =>
                    rw [goodP_a ha]
                    have : (ml.any fun m => !(measB c m)) = true := by
                      obtain ⟨x, hx, hf⟩ := List.all_eq_false.1 ha
                      exact List.any_eq_true.2 ⟨x, hx, by simpa using hf⟩
                    rw [this]; rfl
                  | true =>
                    rw [goodP_t HGT.out HS.out HOT.out HM4.out ha]
                    have : (ml.any fun m => !(measB c m)) = false := by
                      rw [List.any_eq_false]
                      intro x hx
                      rw [(List.all_eq_true.1 ha) x hx]
                      simp
                    rw [this]; rfl
                clear ho hq3
                refine wp_region_letters_g (fun lx : Nat → Value => { tmps := #[grV r c v, pivV (Value.slice pr n1 kr) (Value.slice pc n2 kc) (Value.slice pm n3 km) t, Value.pointer (some ⟨w.heap.size, 0, none⟩), Value.pointer (some ⟨w.heap.size + 1, 0, none⟩), lx 4, Value.func (Fn.func 20) #[] #[Value.pointer (some ⟨w.heap.size, 0, none⟩)], Value.pointer (some ⟨w.heap.size + 1, 0, none⟩), Value.slice pr n1 kr, Value.int .i64 (n1 : Int), Value.bool false, Value.bool false, Value.pointer (some ⟨w.heap.size + 1, 0, none⟩), Value.slice pr n1 kr, Value.int .i64 (n1 : Int), Value.bool false, Value.bool false, Value.bool false, Value.pointer (some ⟨w.heap.size + 1, 1, none⟩), Value.slice pc n2 kc, Value.int .i64 (n2 : Int), Value.bool false, Value.bool false, Value.bool false, Value.pointer (some ⟨w.heap.size + 1, 2, none⟩), Value.slice pm n3 km, Value.int .i64 (n3 : Int), Value.bool false, Value.bool false, Value.bool false, Value.pointer (some ⟨w.heap.size + 1, 2, none⟩), Value.slice pm n3 km, Value.int .i64 (n3 : Int), Value.bool false, Value.bool false, Value.func (Fn.func 20) #[] #[Value.pointer (some ⟨w.heap.size, 0, none⟩)], lx 35, lx 36, lx 37, lx 38, lx 39, lx 40, lx 41, lx 42, lx 43, lx 44, lx 45, lx 46, lx 47, lx 48, lx 49, lx 50, lx 51, lx 52, lx 53], defers := [] }) (fun L lx lw => Hid (Ext w lw ∧ Vec lw w.heap.size [.int .i64 r, .int .i64 c, v] ∧ Vec lw (w.heap.size + 1) [.slice pr n1 kr, .slice pc n2 kc, .slice pm n3 km, .bool t] ∧ (L 0 = true → lx 35 = .agg #[.int .i64 r, .int .i64 c, v]) ∧ (L 1 = true → lx 36 = .bool true) ∧ (L 2 = true → lx 37 = .bool true) ∧ (L 3 = true → lx 38 = .agg #[.int .i64 r, .int .i64 c, v]) ∧ (L 4 = true → lx 39 = .pointer (some ⟨w.heap.size + 1, 0, none⟩)) ∧ (L 5 = true → lx 40 = .slice pr n1 kr) ∧ (L 6 = true → lx 41 = .pointer (some ⟨w.heap.size + 1, 1, none⟩)) ∧ (L 7 = true → lx 42 = .slice pc n2 kc) ∧ (L 8 = true → ∃ b0, lx 43 = .slice (some ⟨b0, 0, none⟩) 2 2 ∧ Vec lw b0 [.slice pr n1 kr, .slice pc n2 kc]) ∧ (L 9 = true → IntsIn lw (lx 44) (rl ++ cl)) ∧ (L 10 = true → lx 45 = .bool true) ∧ (L 11 = true → lx 46 = .bool true) ∧ (L 12 = true → lx 47 = .bool true) ∧ (L 13 = true → lx 48 = .pointer (some ⟨w.heap.size + 1, 2, none⟩)) ∧ (L 14 = true → lx 49 = .slice pm n3 km) ∧ (L 15 = true → lx 50 = .func (.func 20) #[] #[.pointer (some ⟨w.heap.size, 0, none⟩)]) ∧ (L 16 = true → lx 51 = .bool q3) ∧ (L 17 = true → lx 52 = .bool (!q3)) ∧ (L 18 = true → lx 53 = .bool (!q3)) ∧ (L 19 = true → lx 4 = .bool (!q3)))) rfl (by kernel_rfl) (fun jj => if jj = 4 then .bool false else undef) rfl ?_ ?_ ?_
                · refine ⟨xd X, B0.later (xd (xr _)), B1.later (xd (xr _)), ?_, ?_, ?_, ?_, ?_, ?_, ?_, ?_, ?_, ?_, ?_, ?_, ?_, ?_, ?_, ?_, ?_, ?_, ?_, ?_⟩ <;> (intro h; cases h)
                · intro L lx wl i o K hK ho hL haf hI
                  obtain ⟨X5, G0, G1, f0, f1, f2, f3, f4, f5, f6, f7, f8, f9, f10, f11, f12, f13, f14, f15, f16, f17, f18, f19⟩ := hI.out
                  match i, ho, hL, haf, hK with
                  | 0, ho, hL, haf, hK =>
                    cases ho
                    refine Eq.mpr (if_pos (by rfl)) ?_
                    (try dsimp only)
                    obtain ⟨b0, b1, b2⟩ := Vec.three G0
                    go_wp2_with fail
                    exact hK (fun jj => if jj = 35 then .agg #[.int .i64 r, .int .i64 c, v] else lx jj) _ ⟨X5, G0, G1, (fun _ => rfl), f1, f2, f3, f4, f5, f6, f7, f8, f9, f10, f11, f12, f13, f14, f15, f16, f17, f18, f19⟩
                  | 1, ho, hL, haf, hK =>
                    cases ho
                    (try dsimp only)
                    rw [f0 (haf ⟨0, .data⟩ (by simp) rfl)]
                    refine Eq.mpr (if_pos (by rfl)) ?_
                    (try dsimp only)
                    go_wp2_with fail
                    refine (CGX.out _ X5).mono ?_
                    rintro rr w' ⟨rfl, E5⟩
                    go_wp2_with fail
                    exact hK (fun jj => if jj = 36 then .bool true else if jj = 35 then .agg #[.int .i64 r, .int .i64 c, v] else lx jj) _ ⟨(xt X5 E5), (G0.later E5), (G1.later E5), (fun _ => rfl), (fun _ => rfl), f2, f3, f4, f5, f6, f7, (fun h => by obtain ⟨b0, h1, h2⟩ := f8 h; exact ⟨b0, h1, h2.later E5⟩), (fun h => (f9 h).later E5), f10, f11, f12, f13, f14, f15, f16, f17, f18, f19⟩
                  | 2, ho, hL, haf, hK =>
                    cases ho
                    (try dsimp only)
                    rw [f1 (haf ⟨1, .data⟩ (by simp) rfl)]
                    refine Eq.mpr (if_pos (by rfl)) ?_
                    (try dsimp only)
                    go_wp2_with fail
                    exact hK (fun jj => if jj = 37 then .bool true else if jj = 36 then .bool true else lx jj) _ ⟨X5, G0, G1, f0, (fun _ => rfl), (fun _ => rfl), f3, f4, f5, f6, f7, f8, f9, f10, f11, f12, f13, f14, f15, f16, f17, f18, f19⟩
                  | 3, ho, hL, haf, hK =>
                    cases ho
                    (try dsimp only)
                    rw [f2 (haf ⟨2, .guard⟩ (by simp) rfl)]
                    refine Eq.mpr (if_pos (by rfl)) ?_
                    (try dsimp only)
                    obtain ⟨b0, b1, b2⟩ := Vec.three G0
                    go_wp2_with fail
                    exact hK (fun jj => if jj = 38 then .agg #[.int .i64 r, .int .i64 c, v] else if jj = 37 then .bool true else lx jj) _ ⟨X5, G0, G1, f0, f1, (fun _ => rfl), (fun _ => rfl), f4, f5, f6, f7, f8, f9, f10, f11, f12, f13, f14, f15, f16, f17, f18, f19⟩
                  | 4, ho, hL, haf, hK =>
                    cases ho
                    (try dsimp only)
                    rw [f2 (haf ⟨2, .guard⟩ (by simp) rfl)]
                    refine Eq.mpr (if_pos (by rfl)) ?_
                    (try dsimp only)
                    go_wp2_with fail
                    exact hK (fun jj => if jj = 39 then .pointer (some ⟨w.heap.size + 1, 0, none⟩) else if jj = 37 then .bool true else lx jj) _ ⟨X5, G0, G1, f0, f1, (fun _ => rfl), f3, (fun _ => rfl), f5, f6, f7, f8, f9, f10, f11, f12, f13, f14, f15, f16, f17, f18, f19⟩
                  | 5, ho, hL, haf, hK =>
                    cases ho
                    (try dsimp only)
                    rw [f4 (haf ⟨4, .data⟩ (by simp) rfl), f2 (haf ⟨2, .guard⟩ (by simp) rfl)]
                    refine Eq.mpr (if_pos (by rfl)) ?_
                    (try dsimp only)
                    obtain ⟨b0, b1, b2, b3⟩ := Vec.four G1
                    go_wp2_with fail
                    exact hK (fun jj => if jj = 40 then .slice pr n1 kr else if jj = 39 then .pointer (some ⟨w.heap.size + 1, 0, none⟩) else if jj = 37 then .bool true else lx jj) _ ⟨X5, G0, G1, f0, f1, (fun _ => rfl), f3, (fun _ => rfl), (fun _ => rfl), f6, f7, f8, f9, f10, f11, f12, f13, f14, f15, f16, f17, f18, f19⟩
                  | 6, ho, hL, haf, hK =>
                    cases ho
                    (try dsimp only)
                    rw [f2 (haf ⟨2, .guard⟩ (by simp) rfl)]
                    refine Eq.mpr (if_pos (by rfl)) ?_
                    (try dsimp only)
                    go_wp2_with fail
                    exact hK (fun jj => if jj = 41 then .pointer (some ⟨w.heap.size + 1, 1, none⟩) else if jj = 37 then .bool true else lx jj) _ ⟨X5, G0, G1, f0, f1, (fun _ => rfl), f3, f4, f5, (fun _ => rfl), f7, f8, f9, f10, f11, f12, f13, f14, f15, f16, f17, f18, f19⟩
                  | 7, ho, hL, haf, hK =>
                    cases ho
                    (try dsimp only)
                    rw [f6 (haf ⟨6, .data⟩ (by simp) rfl), f2 (haf ⟨2, .guard⟩ (by simp) rfl)]
                    refine Eq.mpr (if_pos (by rfl)) ?_
                    (try dsimp only)
                    obtain ⟨b0, b1, b2, b3⟩ := Vec.four G1
                    go_wp2_with fail
                    exact hK (fun jj => if jj = 42 then .slice pc n2 kc else if jj = 41 then .pointer (some ⟨w.heap.size + 1, 1, none⟩) else if jj = 37 then .bool true else lx jj) _ ⟨X5, G0, G1, f0, f1, (fun _ => rfl), f3, f4, f5, (fun _ => rfl), (fun _ => rfl), f8, f9, f10, f11, f12, f13, f14, f15, f16, f17, f18, f19⟩
                  | 8, ho, hL, haf, hK =>
                    cases ho
                    (try dsimp only)
                    rw [f5 (haf ⟨5, .data⟩ (by simp) rfl), f7 (haf ⟨7, .data⟩ (by simp) rfl), f2 (haf ⟨2, .guard⟩ (by simp) rfl)]
                    refine Eq.mpr (if_pos (by rfl)) ?_
                    (try dsimp only)
                    go_wp2_with fail
                    exact hK (fun jj => if jj = 43 then .slice (some ⟨wl.heap.size, 0, none⟩) 2 2 else if jj = 40 then .slice pr n1 kr else if jj = 42 then .slice pc n2 kc else if jj = 37 then .bool true else lx jj) _ ⟨(xa X5 _), (G0.later (x1 _ _)), (G1.later (x1 _ _)), f0, f1, (fun _ => rfl), f3, f4, (fun _ => rfl), f6, (fun _ => rfl), (fun _ => ⟨wl.heap.size, rfl, vec_made wl [.slice pr n1 kr, .slice pc n2 kc] _⟩), (fun h => (f9 h).later (x1 _ _)), f10, f11, f12, f13, f14, f15, f16, f17, f18, f19⟩
                  | 9, ho, hL, haf, hK =>
                    cases ho
                    (try dsimp only)
                    obtain ⟨b0, eb, hvb⟩ := f8 (haf ⟨8, .data⟩ (by simp) rfl)
                    rw [eb, f2 (haf ⟨2, .guard⟩ (by simp) rfl)]
                    refine Eq.mpr (if_pos (by rfl)) ?_
                    (try dsimp only)
                    go_wp2_with fail
                    refine (CCX.out wl b0 X5 hvb).mono ?_
                    rintro rr w' ⟨zv, rfl, IZ, E5⟩
                    go_wp2_with fail
                    exact hK (fun jj => if jj = 44 then zv else if jj = 43 then .slice (some ⟨b0, 0, none⟩) 2 2 else if jj = 37 then .bool true else lx jj) _ ⟨(xt X5 E5), (G0.later E5), (G1.later E5), f0, f1, (fun _ => rfl), f3, f4, f5, f6, f7, (fun _ => ⟨b0, rfl, hvb.later E5⟩), (fun _ => IZ), f10, f11, f12, f13, f14, f15, f16, f17, f18, f19⟩
                  | 10, ho, hL, haf, hK =>
                    cases ho
                    (try dsimp only)
                    have IZ := f9 (haf ⟨9, .data⟩ (by simp) rfl)
                    obtain ⟨zv, ez⟩ : ∃ z, lx 44 = z := ⟨_, rfl⟩
                    rw [ez, f3 (haf ⟨3, .data⟩ (by simp) rfl), f2 (haf ⟨2, .guard⟩ (by simp) rfl)]
                    rw [ez] at IZ
                    refine Eq.mpr (if_pos (by rfl)) ?_
                    (try dsimp only)
                    go_wp2_with fail
                    refine (COX.out wl zv IZ).mono ?_
                    rintro rr w' ⟨rfl, E5⟩
                    go_wp2_with fail
                    exact hK (fun jj => if jj = 45 then .bool true else if jj = 44 then zv else if jj = 38 then .agg #[.int .i64 r, .int .i64 c, v] else if jj = 37 then .bool true else lx jj) _ ⟨(xt X5 E5), (G0.later E5), (G1.later E5), f0, f1, (fun _ => rfl), (fun _ => rfl), f4, f5, f6, f7, (fun h => by obtain ⟨b0, h1, h2⟩ := f8 h; exact ⟨b0, h1, h2.later E5⟩), (fun _ => IZ.later E5), (fun _ => rfl), f11, f12, f13, f14, f15, f16, f17, f18, f19⟩
                  | 11, ho, hL, haf, hK =>
                    cases ho
                    (try dsimp only)
                    rw [f2 (haf ⟨2, .data⟩ (by simp) rfl), f10 (haf ⟨10, .data⟩ (by simp) rfl)]
                    refine Eq.mpr (if_pos (by rfl)) ?_
                    (try dsimp only)
                    go_wp2_with fail
                    exact hK (fun jj => if jj = 46 then .bool true else if jj = 37 then .bool true else if jj = 45 then .bool true else lx jj) _ ⟨X5, G0, G1, f0, f1, (fun _ => rfl), f3, f4, f5, f6, f7, f8, f9, (fun _ => rfl), (fun _ => rfl), f12, f13, f14, f15, f16, f17, f18, f19⟩
                  | 12, ho, hL, haf, hK =>
                    cases ho
                    (try dsimp only)
                    rw [f11 (haf ⟨11, .data⟩ (by simp) rfl)]
                    refine Eq.mpr (if_pos (by rfl)) ?_
                    (try dsimp only)
                    go_wp2_with fail
                    exact hK (fun jj => if jj = 47 then .bool true else if jj = 46 then .bool true else lx jj) _ ⟨X5, G0, G1, f0, f1, f2, f3, f4, f5, f6, f7, f8, f9, f10, (fun _ => rfl), (fun _ => rfl), f13, f14, f15, f16, f17, f18, f19⟩
                  | 13, ho, hL, haf, hK =>
                    cases ho
                    (try dsimp only)
                    rw [f12 (haf ⟨12, .guard⟩ (by simp) rfl)]
                    refine Eq.mpr (if_pos (by rfl)) ?_
                    (try dsimp only)
                    go_wp2_with fail
                    exact hK (fun jj => if jj = 48 then .pointer (some ⟨w.heap.size + 1, 2, none⟩) else if jj = 47 then .bool true else lx jj) _ ⟨X5, G0, G1, f0, f1, f2, f3, f4, f5, f6, f7, f8, f9, f10, f11, (fun _ => rfl), (fun _ => rfl), f14, f15, f16, f17, f18, f19⟩
                  | 14, ho, hL, haf, hK =>
                    cases ho
                    (try dsimp only)
                    rw [f13 (haf ⟨13, .data⟩ (by simp) rfl), f12 (haf ⟨12, .guard⟩ (by simp) rfl)]
                    refine Eq.mpr (if_pos (by rfl)) ?_
                    (try dsimp only)
                    obtain ⟨b0, b1, b2, b3⟩ := Vec.four G1
                    go_wp2_with fail
                    exact hK (fun jj => if jj = 49 then .slice pm n3 km else if jj = 48 then .pointer (some ⟨w.heap.size + 1, 2, none⟩) else if jj = 47 then .bool true else lx jj) _ ⟨X5, G0, G1, f0, f1, f2, f3, f4, f5, f6, f7, f8, f9, f10, f11, (fun _ => rfl), (fun _ => rfl), (fun _ => rfl), f15, f16, f17, f18, f19⟩
                  | 15, ho, hL, haf, hK =>
                    cases ho
                    (try dsimp only)
                    rw [f12 (haf ⟨12, .guard⟩ (by simp) rfl)]
                    refine Eq.mpr (if_pos (by rfl)) ?_
                    (try dsimp only)
                    go_wp2_with fail
                    exact hK (fun jj => if jj = 50 then .func (.func 20) #[] #[.pointer (some ⟨w.heap.size, 0, none⟩)] else if jj = 47 then .bool true else lx jj) _ ⟨X5, G0, G1, f0, f1, f2, f3, f4, f5, f6, f7, f8, f9, f10, f11, (fun _ => rfl), f13, f14, (fun _ => rfl), f16, f17, f18, f19⟩
                  | 16, ho, hL, haf, hK =>
                    cases ho
                    (try dsimp only)
                    rw [f14 (haf ⟨14, .data⟩ (by simp) rfl), f15 (haf ⟨15, .data⟩ (by simp) rfl), f12 (haf ⟨12, .guard⟩ (by simp) rfl)]
                    refine Eq.mpr (if_pos (by rfl)) ?_
                    (try dsimp only)
                    go_wp2_with fail
                    refine (CMX.out _ G0 X5).mono ?_
                    rintro rr w' ⟨rfl, E5⟩
                    go_wp2_with fail
                    exact hK (fun jj => if jj = 51 then .bool q3 else if jj = 49 then .slice pm n3 km else if jj = 50 then .func (.func 20) #[] #[.pointer (some ⟨w.heap.size, 0, none⟩)] else if jj = 47 then .bool true else lx jj) _ ⟨(xt X5 E5), (G0.later E5), (G1.later E5), f0, f1, f2, f3, f4, f5, f6, f7, (fun h => by obtain ⟨b0, h1, h2⟩ := f8 h; exact ⟨b0, h1, h2.later E5⟩), (fun h => (f9 h).later E5), f10, f11, (fun _ => rfl), f13, (fun _ => rfl), (fun _ => rfl), (fun _ => rfl), f17, f18, f19⟩
                  | 17, ho, hL, haf, hK =>
                    cases ho
                    (try dsimp only)
                    rw [f16 (haf ⟨16, .data⟩ (by simp) rfl), f12 (haf ⟨12, .guard⟩ (by simp) rfl)]
                    refine Eq.mpr (if_pos (by rfl)) ?_
                    (try dsimp only)
                    go_wp2_with fail
                    exact hK (fun jj => if jj = 52 then .bool (!q3) else if jj = 51 then .bool q3 else if jj = 47 then .bool true else lx jj) _ ⟨X5, G0, G1, f0, f1, f2, f3, f4, f5, f6, f7, f8, f9, f10, f11, (fun _ => rfl), f13, f14, f15, (fun _ => rfl), (fun _ => rfl), f18, f19⟩
                  | 18, ho, hL, haf, hK =>
                    cases ho
                    (try dsimp only)
                    rw [f12 (haf ⟨12, .data⟩ (by simp) rfl), f17 (haf ⟨17, .data⟩ (by simp) rfl)]
                    refine Eq.mpr (if_pos (by rfl)) ?_
                    (try dsimp only)
                    go_wp2_with fail
                    exact hK (fun jj => if jj = 53 then .bool (!q3) else if jj = 47 then .bool true else if jj = 52 then .bool (!q3) else lx jj) _ ⟨X5, G0, G1, f0, f1, f2, f3, f4, f5, f6, f7, f8, f9, f10, f11, (fun _ => rfl), f13, f14, f15, f16, (fun _ => rfl), (fun _ => rfl), f19⟩
                  | 19, ho, hL, haf, hK =>
                    cases ho
                    (try dsimp only)
                    rw [f18 (haf ⟨18, .data⟩ (by simp) rfl)]
                    refine Eq.mpr (if_pos (by rfl)) ?_
                    (try dsimp only)
                    go_wp2_with fail
                    exact hK (fun jj => if jj = 4 then .bool (!q3) else if jj = 53 then .bool (!q3) else lx jj) _ ⟨X5, G0, G1, f0, f1, f2, f3, f4, f5, f6, f7, f8, f9, f10, f11, f12, f13, f14, f15, f16, f17, (fun _ => rfl), (fun _ => rfl)⟩
                  | k + 20, ho, _, _, _ => simp at ho
                · intro L lx wl hall hI
                  obtain ⟨X5, G0, G1, f0, f1, f2, f3, f4, f5, f6, f7, f8, f9, f10, f11, f12, f13, f14, f15, f16, f17, f18, f19⟩ := hI.out
                  have v4 := f19 (hall 19 (by simp))
                  clear hI hall G0 G1 f0 f1 f2 f3 f4 f5 f6 f7 f8 f9 f10 f11 f12 f13 f14 f15 f16 f17 f18 f19
                  (try dsimp only)
                  rw [v4]
                  go_wp2_with fail
                  go_ret
                  exact ⟨ret_bool HB.out, X5⟩

end Go.Proofs.YtemmeglmcbehfaaDoor
