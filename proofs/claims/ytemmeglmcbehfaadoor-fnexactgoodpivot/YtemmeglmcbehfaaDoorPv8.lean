/-
  Chapter 12: the law of GoodPivot.
-/
import Derived.Test.YtemmeglmcbehfaaDoorPv7
import Derived.Test.YtemmeglmcbehfaaDoorV7f
namespace Go.Proofs.YtemmeglmcbehfaaDoor
open Go.RowKit

/-- A pivot's lists as they lie. -/
def PivIn (w : World) (g : Value × Value × Value) (rl cl : List Int) (ml : List MT) : Prop := IntsIn w g.1 rl ∧ IntsIn w g.2.1 cl ∧ MeasuresIn w g.2.2 ml
theorem PivIn.later {w w' : World} {g : Value × Value × Value} {rl cl : List Int} {ml : List MT} (h : PivIn w g rl cl ml) (x : Ext w w') : PivIn w' g rl cl ml := ⟨h.1.later x, h.2.1.later x, h.2.2.later x⟩
set_option maxRecDepth 8000 in
set_option maxHeartbeats 4000000 in
theorem lawPivot (r c : Int) (v rv cv mv : Value) (t : Bool) (l : List VT) (rl cl : List Int) (ml : List MT) (w : World) (h : ValsIn w v l) (hr : IntsIn w rv rl) (hc : IntsIn w cv cl) (hm : MeasuresIn w mv ml)
    (hl : l.length ≤ 9223372036854775807) (ht : ∀ e ∈ l, e.t.length ≤ 9223372036854775807) (hd : ∀ e ∈ l, -9223372036854775808 ≤ e.d ∧ e.d ≤ 9223372036854775807) (lr : rl.length ≤ 9223372036854775807) (lc : cl.length ≤ 9223372036854775807) (lm : ml.length ≤ 9223372036854775807) (hT : Tens w) (hE : ErrTab w) :
    Calls Tryd.prog 3 #[grV r c v, pivV rv cv mv t] w fun e w' => e = .returned (.bool true) ∧ Ext w w' := by
  obtain ⟨NN, hNN⟩ : ∃ n, l.length = n := ⟨_, rfl⟩
  obtain ⟨n1, hn1⟩ : ∃ n, rl.length = n := ⟨_, rfl⟩
  obtain ⟨n2, hn2⟩ : ∃ n, cl.length = n := ⟨_, rfl⟩
  obtain ⟨n3, hn3⟩ : ∃ n, ml.length = n := ⟨_, rfl⟩
  obtain ⟨pv, nv, ev, -, -⟩ := id h
  obtain ⟨pr, kr, er, -, -⟩ := id hr
  obtain ⟨pc, kc, ec, -, -⟩ := id hc
  obtain ⟨pm, km, em, -, -⟩ := id hm
  rw [hNN] at ev
  rw [hn1] at er
  rw [hn2] at ec
  rw [hn3] at em
  subst ev er ec em
  have HV : Hid (ValsIn w (.slice pv NN nv) l) := h
  have HP : Hid (PivIn w (.slice pr n1 kr, .slice pc n2 kc, .slice pm n3 km) rl cl ml) := ⟨hr, hc, hm⟩
  have HNN : Hid (l.length = NN) := hNN
  have HN1 : Hid (rl.length = n1) := hn1
  have HN2 : Hid (cl.length = n2) := hn2
  have HN3 : Hid (ml.length = n3) := hn3
  obtain ⟨u0, u1, h0, h1, s0, s1, B0, C0, X0⟩ := mkB2 w [.int .i64 r, .int .i64 c, .slice pv NN nv] [.slice pr n1 kr, .slice pc n2 kc, .slice pm n3 km, .bool t] 24 28
  obtain ⟨a0, a1, a2⟩ := Vec.three B0
  clear hNN hn1 hn2 hn3 h hr hc hm
  go_enter Tryd.func3, Tryd.ntmps3
  go_wp2_with fail
  clear h0 h1 a0 a1 a2
  refine (szGridL r c _ l 1048576 u1 (HV.out.later X0) (by omega) (by omega) hl ht).mono ?_
  rintro e w1 ⟨⟨z, rfl, z0, z1, hz⟩, e1⟩
  have X1 := xt X0 e1
  by_cases hn : z < 0
  · clear hz B0 C0 hT hE
    go_wp2_with fail
    go_ret
    exact ⟨rfl, X1⟩
  obtain ⟨hl1, ht1⟩ := hz (by omega)
  have hl2 : l.length ≤ 1048576 := by omega
  have ht2 : ∀ e ∈ l, e.t.length ≤ 1048576 := fun e he => by have := ht1 e he; omega
  have hz9 : decide (z < 0) = false := by simpa using hn
  have B1 := B0.later e1
  have C1 := C0.later e1
  obtain ⟨a0, a1, a2, a3⟩ := Vec.four C1
  clear hl ht hl1 ht1 hz B0 C0
  go_wp2_with fail
  clear a0 a1 a2 a3
  refine (szPivotL _ _ _ t rl cl ml z w1 (HP.out.1.later X1) (HP.out.2.1.later X1) (HP.out.2.2.later X1) (by omega) (by omega) lr lc lm).mono ?_
  rintro e w2 ⟨⟨y, rfl, y0, y1, hy⟩, e2⟩
  have X2 := xt X1 e2
  by_cases hn2 : y < 0
  · clear hy B1 C1 hT hE
    go_wp2_with fail
    go_ret
    exact ⟨rfl, X2⟩
  obtain ⟨lr1, lc1, lm1⟩ := hy (by omega)
  have lr2 : rl.length ≤ 1048576 := by omega
  have lc2 : cl.length ≤ 1048576 := by omega
  have lm2 : ml.length ≤ 1048576 := by omega
  have hy9 : decide (y < 0) = false := by simpa using hn2
  have TG : Hid (∀ W, Ext w W → Calls Tryd.prog 7 #[grV r c (.slice pv NN nv)] W fun e w' => (∃ g, e = .returned (grV r c (.slice (some ⟨g, 0, none⟩) NN NN)) ∧ W.heap.size ≤ g ∧ OwnV w' g l) ∧ Ext W w') := fun W hW => by have := toGridL r c _ l W (HV.out.later hW) (by omega); rw [HNN.out] at this; exact this
  have TP : Hid (∀ W, Ext w W → Calls Tryd.prog 8 #[pivV (.slice pr n1 kr) (.slice pc n2 kc) (.slice pm n3 km) t] W fun e w' => (∃ g : Value × Value × Value, e = .returned (pivV g.1 g.2.1 g.2.2 t) ∧ True ∧ PivIn w' g rl cl ml) ∧ Ext W w') := fun W hW => (toPivotL _ _ _ t rl cl ml W (HP.out.1.later hW) (HP.out.2.1.later hW) (HP.out.2.2.later hW) lr2 lc2 lm2).mono fun e w' ⟨x, y, z, he, h1, h2, h3, hx⟩ => ⟨⟨(x, y, z), he, trivial, h1, h2, h3⟩, hx⟩
  have hv2 : Hid (∀ W g, OwnV W g l → ValsIn W (.slice (some ⟨g, 0, none⟩) NN NN) l) := fun W g O => by have := O.vals; rw [HNN.out] at this; exact this
  obtain ⟨Q, hQ⟩ : ∃ Q, goodP r c l rl cl ml = Q := ⟨_, rfl⟩
  have CS : Hid (∀ W g p, OwnV W g l → PivIn W p rl cl ml → Calls Tryd.prog 6 #[grV r c (.slice (some ⟨g, 0, none⟩) NN NN), pivV p.1 p.2.1 p.2.2 t] W fun e w' => e = .returned (.bool Q) ∧ Ext W w') := fun W g p O P => by rw [← hQ]; exact goodPS r c _ _ _ _ t l rl cl ml W (hv2.out W g O) P.1 P.2.1 P.2.2 (by omega) (fun e he => by have := ht2 e he; omega) lr2 lc2 lm2
  have CI : Hid (∀ W g p, Ext w W → OwnV W g l → PivIn W p rl cl ml → Calls Tryd.prog 9 #[grV r c (.slice (some ⟨g, 0, none⟩) NN NN), pivV p.1 p.2.1 p.2.2 t] W fun e w' => e = .returned (.bool Q) ∧ Ext W w') := fun W g p hW O P => by rw [← hQ]; exact goodPI r c _ _ _ _ t l rl cl ml W (hv2.out W g O) P.1 P.2.1 P.2.2 (by omega) (fun e he => by have := ht2 e he; omega) hd (hT.later hW) (hE.later hW) lr2 lc2 lm2
  have EG : Hid (∀ W g g', OwnV W g l → OwnV W g' l → Calls Tryd.prog 10 #[grV r c (.slice (some ⟨g, 0, none⟩) NN NN), grV r c (.slice (some ⟨g', 0, none⟩) NN NN)] W fun e w' => e = .returned (.bool true) ∧ Ext W w') := fun W g g' O O' => eqGridL r c _ _ l W (hv2.out W g O) (hv2.out W g' O') (by omega)
  have EP : Hid (∀ W (p p' : Value × Value × Value), PivIn W p rl cl ml → PivIn W p' rl cl ml → Calls Tryd.prog 11 #[pivV p.1 p.2.1 p.2.2 t, pivV p'.1 p'.2.1 p'.2.2 t] W fun e w' => e = .returned (.bool true) ∧ Ext W w') := fun W p p' P P' => eqPivotL _ _ _ _ _ _ t rl cl ml W P.1 P.2.1 P.2.2 P'.1 P'.2.1 P'.2.2 lr2 lc2 lm2
  have B2 := B1.later e2
  have C2 := C1.later e2
  have s2 : w.heap.size + 1 < w2.heap.size := by have := (xt e1 e2).size; omega
  clear hT hE hd hQ hv2 hl2 ht2 lr lc lm lr1 lc1 lm1 hy HV HP X0 X1 e1 e2 B1 C1 s0 s1 HNN
  go_wp2_with fail
  refine wp_region_letters (fun lx : Nat → Value => { tmps := #[grV r c (Value.slice pv NN nv), pivV (Value.slice pr n1 kr) (Value.slice pc n2 kc) (Value.slice pm n3 km) t, Value.pointer (some ⟨w.heap.size, 0, none⟩), Value.pointer (some ⟨w.heap.size + 1, 0, none⟩), Value.bool false, Value.int .i64 y, lx 6, undef, undef, undef, Value.agg #[Value.int .i64 r, Value.int .i64 c, Value.slice pv NN nv], Value.int .i64 1048576, Value.int .i64 z, Value.int .i64 z, Value.bool false, Value.agg #[Value.slice pr n1 kr, Value.slice pc n2 kc, Value.slice pm n3 km, Value.bool t], Value.int .i64 z, Value.int .i64 y, Value.int .i64 y, Value.bool false, lx 20, lx 21, lx 22, lx 23, lx 24, undef, undef, undef, undef, undef, undef, undef, undef, undef, undef, undef, undef, undef, undef, undef, undef, undef, undef, undef, undef], defers := [] }) (fun L lx lw => Hid (Ext w2 lw ∧ Vec lw (w.heap.size) [.int .i64 r, .int .i64 c, .slice pv NN nv] ∧ Vec lw (w.heap.size + 1) [.slice pr n1 kr, .slice pc n2 kc, .slice pm n3 km, .bool t] ∧ (L 0 = true → lx 20 = grV r c (.slice pv NN nv)) ∧ (L 1 = true → ∃ gg, lx 21 = grV r c (.slice (some ⟨gg, 0, none⟩) NN NN) ∧ OwnV lw gg l) ∧ (L 2 = true → lx 22 = pivV (.slice pr n1 kr) (.slice pc n2 kc) (.slice pm n3 km) t) ∧ (L 3 = true → ∃ gg, lx 23 = pivV gg.1 gg.2.1 gg.2.2 t ∧ PivIn lw gg rl cl ml) ∧ (L 4 = true → lx 24 = .bool Q) ∧ (L 5 = true → lx 6 = .bool Q))) rfl (by kernel_rfl) (fun jj => undef) rfl ?_ ?_ ?_
  · exact ⟨xd (xr w2), B2.later (xd (xr _)), C2.later (xd (xr _)), (fun h => by cases h), (fun h => by cases h), (fun h => by cases h), (fun h => by cases h), (fun h => by cases h), (fun h => by cases h)⟩
  · intro L lx wl i o K hK ho hL haf hI
    obtain ⟨X, f0, f1, f2, f3, f4, f5, f6, f7⟩ := hI.out
    match i, ho, hL, haf, hK with
    | 0, ho, hL, haf, hK =>
      cases ho
      (try dsimp only)
      have a0 := (f0 0 _ rfl).1
      have a1 := (f0 1 _ rfl).1
      have a2 := (f0 2 _ rfl).1
      go_wp2_with fail
      exact hK (fun jj => if jj = 20 then grV r c (.slice pv NN nv) else lx jj) _ ⟨X, (f0), (f1), (fun _ => rfl), (f3), (f4), (f5), (f6), (f7)⟩
    | 1, ho, hL, haf, hK =>
      cases ho
      (try dsimp only)
      rw [f2 (haf ⟨0, .data⟩ (by simp) rfl)]
      go_wp2_with fail
      refine (TG.out wl (xt X2 X)).mono ?_
      rintro rr w' ⟨⟨gg, rfl, hgg, OO⟩, E⟩
      go_wp2_with fail
      exact hK (fun jj => if jj = 21 then grV r c (.slice (some ⟨gg, 0, none⟩) NN NN) else if jj = 20 then grV r c (.slice pv NN nv) else lx jj) _ ⟨xt X E, (f0.later E), (f1.later E), (fun _ => rfl), (fun _ => ⟨gg, rfl, OO⟩), (f4), (fun a => by obtain ⟨gg, h1, h2⟩ := f5 a; exact ⟨gg, h1, h2.later E⟩), (f6), (f7)⟩
    | 2, ho, hL, haf, hK =>
      cases ho
      (try dsimp only)
      have a0 := (f1 0 _ rfl).1
      have a1 := (f1 1 _ rfl).1
      have a2 := (f1 2 _ rfl).1
      have a3 := (f1 3 _ rfl).1
      go_wp2_with fail
      exact hK (fun jj => if jj = 22 then pivV (.slice pr n1 kr) (.slice pc n2 kc) (.slice pm n3 km) t else lx jj) _ ⟨X, (f0), (f1), (f2), (f3), (fun _ => rfl), (f5), (f6), (f7)⟩
    | 3, ho, hL, haf, hK =>
      cases ho
      (try dsimp only)
      rw [f4 (haf ⟨2, .data⟩ (by simp) rfl)]
      go_wp2_with fail
      refine (TP.out wl (xt X2 X)).mono ?_
      rintro rr w' ⟨⟨gg, rfl, hgg, OO⟩, E⟩
      go_wp2_with fail
      exact hK (fun jj => if jj = 23 then pivV gg.1 gg.2.1 gg.2.2 t else if jj = 22 then pivV (.slice pr n1 kr) (.slice pc n2 kc) (.slice pm n3 km) t else lx jj) _ ⟨xt X E, (f0.later E), (f1.later E), (f2), (fun a => by obtain ⟨gg, h1, h2⟩ := f3 a; exact ⟨gg, h1, h2.later E⟩), (fun _ => rfl), (fun _ => ⟨gg, rfl, OO⟩), (f6), (f7)⟩
    | 4, ho, hL, haf, hK =>
      cases ho
      (try dsimp only)
      obtain ⟨gg1, q1, OO1⟩ := f3 (haf ⟨1, .data⟩ (by simp) rfl)
      obtain ⟨gg3, q3, OO3⟩ := f5 (haf ⟨3, .data⟩ (by simp) rfl)
      rw [q1, q3]
      go_wp2_with fail
      refine (CS.out wl gg1 gg3 OO1 OO3).mono ?_
      rintro rr w' ⟨rfl, E⟩
      go_wp2_with fail
      exact hK (fun jj => if jj = 24 then .bool Q else if jj = 21 then grV r c (.slice (some ⟨gg1, 0, none⟩) NN NN) else if jj = 23 then pivV gg3.1 gg3.2.1 gg3.2.2 t else lx jj) _ ⟨xt X E, (f0.later E), (f1.later E), (f2), (fun _ => ⟨gg1, rfl, OO1.later E⟩), (f4), (fun _ => ⟨gg3, rfl, OO3.later E⟩), (fun _ => rfl), (f7)⟩
    | 5, ho, hL, haf, hK =>
      cases ho
      (try dsimp only)
      rw [f6 (haf ⟨4, .data⟩ (by simp) rfl)]
      go_wp2_with fail
      exact hK (fun jj => if jj = 6 then .bool Q else if jj = 24 then .bool Q else lx jj) _ ⟨X, (f0), (f1), (f2), (f3), (f4), (f5), (fun _ => rfl), (fun _ => rfl)⟩
    | k + 6, ho, _, _, _ => simp at ho
  · intro L lx w3 hall hI
    obtain ⟨XR, f0, f1, f2, f3, f4, f5, f6, f7⟩ := hI.out
    clear hI
    obtain ⟨gg1, qq1, _⟩ := f3 (hall 1 (by simp))
    obtain ⟨gg3, qq3, _⟩ := f5 (hall 3 (by simp))
    (try dsimp only)
    rw [f2 (hall 0 (by simp)), qq1, f4 (hall 2 (by simp)), qq3, f6 (hall 4 (by simp)), f7 (hall 5 (by simp))]
    clear hall f2 f3 f4 f5 f6 f7 qq1 qq3
    have X3 := xt X2 XR
    have B3 := f0
    have C3 := f1
    clear f0 f1
    obtain ⟨a0, a1, a2⟩ := Vec.three B3
    have s3 : w.heap.size + 1 < w3.heap.size := by have := XR.size; omega
    clear XR B2 C2 X2
    go_wp2_with fail
    clear a0 a1 a2
    refine (TG.out w3 X3).mono ?_
    rintro e w4 ⟨⟨g2, rfl, hg2, O2⟩, e4⟩
    have X4 := xt X3 e4
    have D4 := vec_made w4 [.int .i64 r, .int .i64 c, .slice (some ⟨g2, 0, none⟩) NN NN] 34
    change Vec (w4.alloc (.cells #[.int .i64 r, .int .i64 c, .slice (some ⟨g2, 0, none⟩) NN NN] 34)) _ _ at D4
    have E5 := x1 w4 (.cells #[.int .i64 r, .int .i64 c, .slice (some ⟨g2, 0, none⟩) NN NN] 34)
    obtain ⟨u4, hu4⟩ : ∃ u, w4.alloc (.cells #[.int .i64 r, .int .i64 c, .slice (some ⟨g2, 0, none⟩) NN NN] 34) = u := ⟨_, rfl⟩
    rw [hu4] at D4 E5
    have s4 : w3.heap.size ≤ w4.heap.size := e4.size
    have X5 := xt X4 E5
    have B5 := B3.later (xt e4 E5)
    have C5 := C3.later (xt e4 E5)
    have O5 := O2.later E5
    obtain ⟨h4, hh4⟩ : ∃ h4, w4.heap.size = h4 := ⟨_, rfl⟩
    obtain ⟨a0, a1, a2, a3⟩ := Vec.four C5
    clear B3 C3 O2 hg2
    go_wp2_with fail
    clear a0 a1 a2 a3 hu4
    rw [hh4] at D4 s4
    clear hh4
    refine (TP.out u4 X5).mono ?_
    rintro e w6 ⟨⟨⟨x6, y6, z6⟩, rfl, -, P6⟩, e6⟩
    obtain ⟨px, kx, ex, -, -⟩ := id P6.1
    obtain ⟨py, ky, ey, -, -⟩ := id P6.2.1
    obtain ⟨pz, kz, ez, -, -⟩ := id P6.2.2
    simp only at ex ey ez
    rw [HN1.out] at ex
    rw [HN2.out] at ey
    rw [HN3.out] at ez
    subst ex ey ez
    have X6 := xt X5 e6
    have F6 := vec_made w6 [.slice px n1 kx, .slice py n2 ky, .slice pz n3 kz, .bool t] 38
    change Vec (w6.alloc (.cells #[.slice px n1 kx, .slice py n2 ky, .slice pz n3 kz, .bool t] 38)) _ _ at F6
    have E7 := x1 w6 (.cells #[.slice px n1 kx, .slice py n2 ky, .slice pz n3 kz, .bool t] 38)
    obtain ⟨u6, hu6⟩ : ∃ u, w6.alloc (.cells #[.slice px n1 kx, .slice py n2 ky, .slice pz n3 kz, .bool t] 38) = u := ⟨_, rfl⟩
    rw [hu6] at F6 E7
    have X7 := xt X6 E7
    have B7 := B5.later (xt e6 E7)
    have C7 := C5.later (xt e6 E7)
    have D7 := D4.later (xt e6 E7)
    have O7 := O5.later (xt e6 E7)
    have P7 := P6.later E7
    obtain ⟨h6, hh6⟩ : ∃ h6, w6.heap.size = h6 := ⟨_, rfl⟩
    obtain ⟨a0, a1, a2⟩ := Vec.three D7
    clear B5 C5 D4 O5 P6
    rw [hh6] at F6
    obtain ⟨b0, b1, b2, b3⟩ := Vec.four F6
    go_wp2_with fail
    clear a0 a1 a2 b0 b1 b2 b3 hu6 hh6
    refine (CI.out u6 g2 (.slice px n1 kx, .slice py n2 ky, .slice pz n3 kz) X7 O7 P7).mono ?_
    rintro e w8 ⟨rfl, e8⟩
    have X8 := xt X7 e8
    have B8 := B7.later e8
    have C8 := C7.later e8
    have D8 := D7.later e8
    have F8 := F6.later e8
    have O8 := O7.later e8
    have P8 := P7.later e8
    clear B7 C7 D7 F6 O7 P7 X7 X6 X5 X4 X3
    go_wp2_with fail
    refine wp_region_letters (fun lx : Nat → Value => { tmps := #[grV r c (Value.slice pv NN nv), pivV (Value.slice pr n1 kr) (Value.slice pc n2 kc) (Value.slice pm n3 km) t, Value.pointer (some ⟨w.heap.size, 0, none⟩), Value.pointer (some ⟨w.heap.size + 1, 0, none⟩), Value.bool false, Value.int .i64 y, Value.bool Q, Value.pointer (some ⟨h4, 0, none⟩), Value.pointer (some ⟨h6, 0, none⟩), Value.bool Q, Value.agg #[Value.int .i64 r, Value.int .i64 c, Value.slice pv NN nv], Value.int .i64 1048576, Value.int .i64 z, Value.int .i64 z, Value.bool false, Value.agg #[Value.slice pr n1 kr, Value.slice pc n2 kc, Value.slice pm n3 km, Value.bool t], Value.int .i64 z, Value.int .i64 y, Value.int .i64 y, Value.bool false, grV r c (Value.slice pv NN nv), grV r c (Value.slice (some ⟨gg1, 0, none⟩) NN NN), pivV (Value.slice pr n1 kr) (Value.slice pc n2 kc) (Value.slice pm n3 km) t, pivV gg3.fst gg3.snd.fst gg3.snd.snd t, Value.bool Q, Value.agg #[Value.int .i64 r, Value.int .i64 c, Value.slice pv NN nv], grV r c (Value.slice (some ⟨g2, 0, none⟩) NN NN), Value.agg #[Value.slice pr n1 kr, Value.slice pc n2 kc, Value.slice pm n3 km, Value.bool t], pivV (Value.slice px n1 kx) (Value.slice py n2 ky) (Value.slice pz n3 kz) t, Value.agg #[Value.int .i64 r, Value.int .i64 c, Value.slice (some ⟨g2, 0, none⟩) NN NN], Value.agg #[Value.slice px n1 kx, Value.slice py n2 ky, Value.slice pz n3 kz, Value.bool t], Value.bool Q, Value.bool Q, Value.bool Q, Value.bool false, lx 35, lx 36, lx 37, lx 38, lx 39, undef, undef, undef, undef, undef], defers := [] }) (fun L lx lw => Hid (Ext w8 lw ∧ Vec lw (w.heap.size) [.int .i64 r, .int .i64 c, .slice pv NN nv] ∧ Vec lw (w.heap.size + 1) [.slice pr n1 kr, .slice pc n2 kc, .slice pm n3 km, .bool t] ∧ Vec lw (h4) [.int .i64 r, .int .i64 c, .slice (some ⟨g2, 0, none⟩) NN NN] ∧ Vec lw (h6) [.slice px n1 kx, .slice py n2 ky, .slice pz n3 kz, .bool t] ∧ OwnV lw g2 l ∧ PivIn lw (.slice px n1 kx, .slice py n2 ky, .slice pz n3 kz) rl cl ml ∧ (L 0 = true → lx 35 = grV r c (.slice (some ⟨g2, 0, none⟩) NN NN)) ∧ (L 1 = true → lx 36 = grV r c (.slice pv NN nv)) ∧ (L 2 = true → ∃ gg, lx 37 = grV r c (.slice (some ⟨gg, 0, none⟩) NN NN) ∧ OwnV lw gg l) ∧ (L 3 = true → lx 38 = .bool true) ∧ (L 4 = true → lx 39 = .bool false))) rfl (by kernel_rfl) (fun _ => undef) rfl ?_ ?_ ?_
    · exact ⟨xd (xr w8), B8.later (xd (xr _)), C8.later (xd (xr _)), D8.later (xd (xr _)), F8.later (xd (xr _)), O8.later (xd (xr _)), P8.later (xd (xr _)), (fun h => by cases h), (fun h => by cases h), (fun h => by cases h), (fun h => by cases h), (fun h => by cases h)⟩
    · intro L lx wl i o K hK ho hL haf hI
      obtain ⟨X, f0, f1, f2, f3, f4, f5, f6, f7, f8, f9, f10⟩ := hI.out
      match i, ho, hL, haf, hK with
      | 0, ho, hL, haf, hK =>
        cases ho
        (try dsimp only)
        have a0 := (f2 0 _ rfl).1
        have a1 := (f2 1 _ rfl).1
        have a2 := (f2 2 _ rfl).1
        go_wp2_with fail
        exact hK (fun jj => if jj = 35 then grV r c (.slice (some ⟨g2, 0, none⟩) NN NN) else lx jj) _ ⟨X, f0, f1, f2, f3, f4, f5, (fun _ => rfl), f7, f8, f9, f10⟩
      | 1, ho, hL, haf, hK =>
        cases ho
        (try dsimp only)
        have a0 := (f0 0 _ rfl).1
        have a1 := (f0 1 _ rfl).1
        have a2 := (f0 2 _ rfl).1
        go_wp2_with fail
        exact hK (fun jj => if jj = 36 then grV r c (.slice pv NN nv) else lx jj) _ ⟨X, f0, f1, f2, f3, f4, f5, f6, (fun _ => rfl), f8, f9, f10⟩
      | 2, ho, hL, haf, hK =>
        cases ho
        (try dsimp only)
        rw [f7 (haf ⟨1, .data⟩ (by simp) rfl)]
        go_wp2_with fail
        refine (TG.out wl (xt X8 X)).mono ?_
        rintro rr w' ⟨⟨gg, rfl, hgg, OO⟩, E⟩
        go_wp2_with fail
        exact hK (fun jj => if jj = 37 then grV r c (.slice (some ⟨gg, 0, none⟩) NN NN) else if jj = 36 then grV r c (.slice pv NN nv) else lx jj) _ ⟨xt X E, (f0.later E), (f1.later E), (f2.later E), (f3.later E), (f4.later E), (f5.later E), (f6), (fun _ => rfl), (fun _ => ⟨gg, rfl, OO⟩), (f9), (f10)⟩
      | 3, ho, hL, haf, hK =>
        cases ho
        (try dsimp only)
        obtain ⟨gg, q1, OO⟩ := f8 (haf ⟨2, .data⟩ (by simp) rfl)
        rw [f6 (haf ⟨0, .data⟩ (by simp) rfl), q1]
        go_wp2_with fail
        refine (EG.out wl g2 gg f4 OO).mono ?_
        rintro rr w' ⟨rfl, E⟩
        go_wp2_with fail
        exact hK (fun jj => if jj = 38 then .bool true else if jj = 35 then grV r c (.slice (some ⟨g2, 0, none⟩) NN NN) else if jj = 37 then grV r c (.slice (some ⟨gg, 0, none⟩) NN NN) else lx jj) _ ⟨xt X E, (f0.later E), (f1.later E), (f2.later E), (f3.later E), (f4.later E), (f5.later E), (fun _ => rfl), (f7), (fun _ => ⟨gg, rfl, OO.later E⟩), (fun _ => rfl), (f10)⟩
      | 4, ho, hL, haf, hK =>
        cases ho
        (try dsimp only)
        rw [f9 (haf ⟨3, .data⟩ (by simp) rfl)]
        go_wp2_with fail
        exact hK (fun jj => if jj = 39 then .bool false else if jj = 38 then .bool true else lx jj) _ ⟨X, f0, f1, f2, f3, f4, f5, f6, f7, f8, (fun _ => rfl), (fun _ => rfl)⟩
      | k + 5, ho, _, _, _ => simp at ho
    · intro L lx w9 hall hI
      obtain ⟨XR, f0, f1, f2, f3, f4, f5, f6, f7, f8, f9, f10⟩ := hI.out
      clear hI
      obtain ⟨gg, q5, _⟩ := f8 (hall 2 (by simp))
      (try dsimp only)
      rw [f6 (hall 0 (by simp)), f7 (hall 1 (by simp)), q5, f9 (hall 3 (by simp)), f10 (hall 4 (by simp))]
      clear hall f6 f7 f8 f9 f10 q5
      have X9 := xt X8 XR
      have B9 := f0
      have C9 := f1
      have D9 := f2
      have F9 := f3
      have O9 := f4
      have P9 := f5
      clear f0 f1 f2 f3 f4 f5
      clear XR B8 C8 D8 F8 O8 P8 X8
      go_wp2_with fail
      refine wp_region_letters (fun lx : Nat → Value => { tmps := #[grV r c (Value.slice pv NN nv), pivV (Value.slice pr n1 kr) (Value.slice pc n2 kc) (Value.slice pm n3 km) t, Value.pointer (some ⟨w.heap.size, 0, none⟩), Value.pointer (some ⟨w.heap.size + 1, 0, none⟩), Value.bool false, Value.int .i64 y, Value.bool Q, Value.pointer (some ⟨h4, 0, none⟩), Value.pointer (some ⟨h6, 0, none⟩), Value.bool Q, Value.agg #[Value.int .i64 r, Value.int .i64 c, Value.slice pv NN nv], Value.int .i64 1048576, Value.int .i64 z, Value.int .i64 z, Value.bool false, Value.agg #[Value.slice pr n1 kr, Value.slice pc n2 kc, Value.slice pm n3 km, Value.bool t], Value.int .i64 z, Value.int .i64 y, Value.int .i64 y, Value.bool false, grV r c (Value.slice pv NN nv), grV r c (Value.slice (some ⟨gg1, 0, none⟩) NN NN), pivV (Value.slice pr n1 kr) (Value.slice pc n2 kc) (Value.slice pm n3 km) t, pivV gg3.fst gg3.snd.fst gg3.snd.snd t, Value.bool Q, Value.agg #[Value.int .i64 r, Value.int .i64 c, Value.slice pv NN nv], grV r c (Value.slice (some ⟨g2, 0, none⟩) NN NN), Value.agg #[Value.slice pr n1 kr, Value.slice pc n2 kc, Value.slice pm n3 km, Value.bool t], pivV (Value.slice px n1 kx) (Value.slice py n2 ky) (Value.slice pz n3 kz) t, Value.agg #[Value.int .i64 r, Value.int .i64 c, Value.slice (some ⟨g2, 0, none⟩) NN NN], Value.agg #[Value.slice px n1 kx, Value.slice py n2 ky, Value.slice pz n3 kz, Value.bool t], Value.bool Q, Value.bool Q, Value.bool Q, Value.bool false, grV r c (Value.slice (some ⟨g2, 0, none⟩) NN NN), grV r c (Value.slice pv NN nv), grV r c (Value.slice (some ⟨gg, 0, none⟩) NN NN), Value.bool true, Value.bool false, lx 40, lx 41, lx 42, lx 43, lx 44], defers := [] }) (fun L lx lw => Hid (Ext w9 lw ∧ Vec lw (w.heap.size) [.int .i64 r, .int .i64 c, .slice pv NN nv] ∧ Vec lw (w.heap.size + 1) [.slice pr n1 kr, .slice pc n2 kc, .slice pm n3 km, .bool t] ∧ Vec lw (h4) [.int .i64 r, .int .i64 c, .slice (some ⟨g2, 0, none⟩) NN NN] ∧ Vec lw (h6) [.slice px n1 kx, .slice py n2 ky, .slice pz n3 kz, .bool t] ∧ PivIn lw (.slice px n1 kx, .slice py n2 ky, .slice pz n3 kz) rl cl ml ∧ (L 0 = true → lx 40 = pivV (.slice px n1 kx) (.slice py n2 ky) (.slice pz n3 kz) t) ∧ (L 1 = true → lx 41 = pivV (.slice pr n1 kr) (.slice pc n2 kc) (.slice pm n3 km) t) ∧ (L 2 = true → ∃ gg, lx 42 = pivV gg.1 gg.2.1 gg.2.2 t ∧ PivIn lw gg rl cl ml) ∧ (L 3 = true → lx 43 = .bool true) ∧ (L 4 = true → lx 44 = .bool false))) rfl (by kernel_rfl) (fun _ => undef) rfl ?_ ?_ ?_
      · exact ⟨xd (xr w9), B9.later (xd (xr _)), C9.later (xd (xr _)), D9.later (xd (xr _)), F9.later (xd (xr _)), P9.later (xd (xr _)), (fun h => by cases h), (fun h => by cases h), (fun h => by cases h), (fun h => by cases h), (fun h => by cases h)⟩
      · intro L lx wl i o K hK ho hL haf hI
        obtain ⟨X, f0, f1, f2, f3, f4, f5, f6, f7, f8, f9⟩ := hI.out
        match i, ho, hL, haf, hK with
        | 0, ho, hL, haf, hK =>
          cases ho
          (try dsimp only)
          have a0 := (f3 0 _ rfl).1
          have a1 := (f3 1 _ rfl).1
          have a2 := (f3 2 _ rfl).1
          have a3 := (f3 3 _ rfl).1
          go_wp2_with fail
          exact hK (fun jj => if jj = 40 then pivV (.slice px n1 kx) (.slice py n2 ky) (.slice pz n3 kz) t else lx jj) _ ⟨X, f0, f1, f2, f3, f4, (fun _ => rfl), f6, f7, f8, f9⟩
        | 1, ho, hL, haf, hK =>
          cases ho
          (try dsimp only)
          have a0 := (f1 0 _ rfl).1
          have a1 := (f1 1 _ rfl).1
          have a2 := (f1 2 _ rfl).1
          have a3 := (f1 3 _ rfl).1
          go_wp2_with fail
          exact hK (fun jj => if jj = 41 then pivV (.slice pr n1 kr) (.slice pc n2 kc) (.slice pm n3 km) t else lx jj) _ ⟨X, f0, f1, f2, f3, f4, f5, (fun _ => rfl), f7, f8, f9⟩
        | 2, ho, hL, haf, hK =>
          cases ho
          (try dsimp only)
          rw [f6 (haf ⟨1, .data⟩ (by simp) rfl)]
          go_wp2_with fail
          refine (TP.out wl (xt X9 X)).mono ?_
          rintro rr w' ⟨⟨gg, rfl, hgg, OO⟩, E⟩
          go_wp2_with fail
          exact hK (fun jj => if jj = 42 then pivV gg.1 gg.2.1 gg.2.2 t else if jj = 41 then pivV (.slice pr n1 kr) (.slice pc n2 kc) (.slice pm n3 km) t else lx jj) _ ⟨xt X E, (f0.later E), (f1.later E), (f2.later E), (f3.later E), (f4.later E), (f5), (fun _ => rfl), (fun _ => ⟨gg, rfl, OO⟩), (f8), (f9)⟩
        | 3, ho, hL, haf, hK =>
          cases ho
          (try dsimp only)
          obtain ⟨gg, q1, OO⟩ := f7 (haf ⟨2, .data⟩ (by simp) rfl)
          rw [f5 (haf ⟨0, .data⟩ (by simp) rfl), q1]
          go_wp2_with fail
          refine (EP.out wl (.slice px n1 kx, .slice py n2 ky, .slice pz n3 kz) gg f4 OO).mono ?_
          rintro rr w' ⟨rfl, E⟩
          go_wp2_with fail
          exact hK (fun jj => if jj = 43 then .bool true else if jj = 40 then pivV (.slice px n1 kx) (.slice py n2 ky) (.slice pz n3 kz) t else if jj = 42 then pivV gg.1 gg.2.1 gg.2.2 t else lx jj) _ ⟨xt X E, (f0.later E), (f1.later E), (f2.later E), (f3.later E), (f4.later E), (fun _ => rfl), (f6), (fun _ => ⟨gg, rfl, OO.later E⟩), (fun _ => rfl), (f9)⟩
        | 4, ho, hL, haf, hK =>
          cases ho
          (try dsimp only)
          rw [f8 (haf ⟨3, .data⟩ (by simp) rfl)]
          go_wp2_with fail
          exact hK (fun jj => if jj = 44 then .bool false else if jj = 43 then .bool true else lx jj) _ ⟨X, f0, f1, f2, f3, f4, f5, f6, f7, (fun _ => rfl), (fun _ => rfl)⟩
        | k + 5, ho, _, _, _ => simp at ho
      · intro L lx w10 hall hI
        obtain ⟨XR, f0, f1, f2, f3, f4, f5, f6, f7, f8, f9⟩ := hI.out
        clear hI
        obtain ⟨gg, q5, _⟩ := f7 (hall 2 (by simp))
        (try dsimp only)
        rw [f5 (hall 0 (by simp)), f6 (hall 1 (by simp)), q5, f8 (hall 3 (by simp)), f9 (hall 4 (by simp))]
        clear hall f5 f6 f7 f8 f9 q5
        have X10 := xt X9 XR
        clear f0 f1 f2 f3 f4
        go_wp2_with fail
        go_ret
        exact ⟨rfl, X10⟩

end Go.Proofs.YtemmeglmcbehfaaDoor
