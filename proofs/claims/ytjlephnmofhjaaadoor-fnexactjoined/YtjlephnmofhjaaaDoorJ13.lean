/-
  Chapter 12: the law of Joined.
-/
import Derived.Test.YtjlephnmofhjaaaDoorJ12
import Derived.Test.YtjlephnmofhjaaaDoorW9h
namespace Go.Proofs.YtjlephnmofhjaaaDoor
open Go.RowKit

theorem joinR_len (ra ca : Int) (la : List VT) (rb cb : Int) (lb : List VT) (lt rt : Int) : (joinR ra ca la rb cb lb lt rt).2.2.length ≤ 2000 := by
 unfold joinR
 split
 ·
  unfold joinN
  split
  ·
   simp
  ·
   rename_i h
   simp only [gridN_length]
   omega
 ·
  simp
set_option maxRecDepth 8000 in
set_option maxHeartbeats 4000000 in
theorem lawJoined (r c : Int) (v : Value) (l : List VT) (r' c' : Int) (v' : Value) (l' : List VT) (lt rt : Int) (w : World) (h : ValsIn w v l) (h' : ValsIn w v' l') (hl : l.length ≤ 9223372036854775807) (hl' : l'.length ≤ 9223372036854775807) (ht : ∀ e ∈ l, e.t.length ≤ 9223372036854775807) (ht' : ∀ e ∈ l', e.t.length ≤ 9223372036854775807) (hd : ∀ e ∈ l, -9223372036854775808 ≤ e.d ∧ e.d ≤ 9223372036854775807) (hd' : ∀ e ∈ l', -9223372036854775808 ≤ e.d ∧ e.d ≤ 9223372036854775807) (lt1 : -9223372036854775808 ≤ lt) (lt2 : lt ≤ 9223372036854775807) (rt1 : -9223372036854775808 ≤ rt) (rt2 : rt ≤ 9223372036854775807) (hT : Tens w) (hE : ErrTab w) :
  Calls Tryd.prog 3 #[grV r c v, grV r' c' v', .int .i64 lt, .int .i64 rt] w fun e w' => e = .returned (.bool true) ∧ Ext w w' := by
 obtain ⟨u0, u1, h0, h1, s0, s1, B0, B1, X⟩ := mkB2 w [.int .i64 r, .int .i64 c, v] [.int .i64 r', .int .i64 c', v'] 24 24
 obtain ⟨a0, a1, a2⟩ := Vec.three (B0)
 go_enter Tryd.func3, Tryd.ntmps3
 go_wp2_with fail
 clear h0 s0 h1 s1 a0 a1 a2
 refine (szGridL r c v l 1048576 u1 (h.later X) (by omega) (by omega) hl ht).mono ?_
 rintro e w1 ⟨⟨z, rfl, z0, z1, hz⟩, e1⟩
 have X1 := xt X e1
 by_cases hn : z < 0
 ·
  clear hz B0 B1 hT hE
  go_wp2_with fail
  go_ret
  exact ⟨rfl, X1⟩
 ·
  obtain ⟨hl1, ht1⟩ := hz (by omega)
  have hl2 : l.length ≤ 1048576 := by omega
  have ht2 : ∀ e ∈ l, e.t.length ≤ 1048576 := fun e he => by have := ht1 e he; omega
  have hz9 : decide (z < 0) = false := by simpa using hn
  clear hl ht hl1 ht1 hz
  have C0 := B0.later e1
  have C1 := B1.later e1
  clear B0 B1 X e1
  obtain ⟨c0, c1, c2⟩ := Vec.three (C1)
  go_wp2_with fail
  clear c0 c1 c2
  refine (szGridL r' c' v' l' z w1 (h'.later X1) (by omega) (by omega) hl' ht').mono ?_
  rintro e w2 ⟨⟨z', rfl, z0', z1', hz'⟩, e2⟩
  have X2 := xt X1 e2
  by_cases hn' : z' < 0
  ·
   clear hz' C0 C1 hT hE
   go_wp2_with fail
   go_ret
   exact ⟨rfl, X2⟩
  ·
   obtain ⟨hl1, ht1⟩ := hz' (by omega)
   have hl2' : l'.length ≤ 1048576 := by omega
   have ht2' : ∀ e ∈ l', e.t.length ≤ 1048576 := fun e he => by have := ht1 e he; omega
   have hz8 : decide (z' < 0) = false := by simpa using hn'
   clear hl' ht' hl1 ht1 hz'
   have D0 := C0.later e2
   have D1 := C1.later e2
   clear C0 C1 X1 e2
   have hL0 := joinR_len r c l r' c' l' lt rt
   obtain ⟨⟨Rn, Cn, L0⟩, hG⟩ : ∃ G, joinR r c l r' c' l' lt rt = G := ⟨_, rfl⟩
   obtain ⟨R0, hR0⟩ : ∃ z : Int, (Rn : Int) = z := ⟨_, rfl⟩
   obtain ⟨C0, hC0⟩ : ∃ z : Int, (Cn : Int) = z := ⟨_, rfl⟩
   rw [hG] at hL0
   have hL0 : L0.length ≤ 2000 := hL0
   have hr1 : ∀ e ∈ l, e.room := fun e he => ⟨by have := ht2 e he; omega, hd e he⟩
   have hr2 : ∀ e ∈ l', e.room := fun e he => ⟨by have := ht2' e he; omega, hd' e he⟩
   have CS : Hid (∀ s1 s2 W, ValsIn W s1 l → ValsIn W s2 l' → Calls Tryd.prog 5 #[grV r c s1, grV r' c' s2, .int .i64 lt, .int .i64 rt] W fun e w' => (∃ sv, e = .returned (grV R0 C0 sv) ∧ OwnW w' W.heap.size sv L0) ∧ Ext W w') := fun s1 s2 W q1 q2 => by
    have := joinS r c s1 l r' c' s2 l' lt rt W q1 q2 hl2 hl2' hr1 hr2 lt1 lt2 rt1 rt2
    rw [hG] at this
    simp only [hR0, hC0] at this
    exact this.mono fun e w' ⟨sv, h1, h2, h3⟩ => ⟨⟨sv, h1, h2⟩, h3⟩
   have CI : Hid (∀ s1 s2 W, Ext w W → ValsIn W s1 l → ValsIn W s2 l' → Calls Tryd.prog 7 #[grV r c s1, grV r' c' s2, .int .i64 lt, .int .i64 rt] W fun e w' => (∃ sv, e = .returned (grV R0 C0 sv) ∧ OwnW w' W.heap.size sv L0) ∧ Ext W w') := fun s1 s2 W x q1 q2 => by
    have := joinI r c s1 l r' c' s2 l' lt rt W q1 q2 hl2 hl2' hr1 hr2 (hT.later x) (hE.later x) lt1 lt2 rt1 rt2
    rw [hG] at this
    simp only [hR0, hC0] at this
    exact this.mono fun e w' ⟨sv, h1, h2, h3⟩ => ⟨⟨sv, h1, h2⟩, h3⟩
   have TA : Hid (∀ W, Ext w W → Calls Tryd.prog 6 #[grV r c v] W fun e w' => (∃ g, e = .returned (grV r c (.slice (some ⟨g, 0, none⟩) l.length l.length)) ∧ W.heap.size ≤ g ∧ OwnV w' g l) ∧ Ext W w') := fun W x => toGridL r c v l W (h.later x) (by omega)
   have TB : Hid (∀ W, Ext w W → Calls Tryd.prog 6 #[grV r' c' v'] W fun e w' => (∃ g, e = .returned (grV r' c' (.slice (some ⟨g, 0, none⟩) l'.length l'.length)) ∧ W.heap.size ≤ g ∧ OwnV w' g l') ∧ Ext W w') := fun W x => toGridL r' c' v' l' W (h'.later x) (by omega)
   obtain ⟨n, hnl⟩ : ∃ n, l.length = n := ⟨_, rfl⟩
   obtain ⟨n', hnl'⟩ : ∃ n, l'.length = n := ⟨_, rfl⟩
   have HN : Hid (l.length = n) := hnl
   have HN' : Hid (l'.length = n') := hnl'
   rw [hnl] at TA hl2
   rw [hnl'] at TB hl2'
   obtain ⟨pv, nv, cv, hpv⟩ : ∃ p n c, v = .slice p n c := by obtain ⟨p, c, h, _⟩ := h; exact ⟨p, _, c, h⟩
   obtain ⟨pv', nv', cv', hpv'⟩ : ∃ p n c, v' = .slice p n c := by obtain ⟨p, c, h, _⟩ := h'; exact ⟨p, _, c, h⟩
   clear hG hT hE hd hd' ht2 ht2' h h' hnl hnl' hr1 hr2 hR0 hC0 lt1 lt2 rt1 rt2 hpv hpv'
   have ltd : w.heap.size + 1 < w2.heap.size := World.block_lt_of_cell? _ _ (D1 0 _ rfl).1
   go_wp2_with fail
   refine wp_region_letters (fun lx : Nat → Value => { tmps := #[grV r c v, grV r' c' v', Value.int .i64 lt, Value.int .i64 rt, Value.pointer (some ⟨w.heap.size, 0, none⟩), Value.pointer (some ⟨w.heap.size + 1, 0, none⟩), undef, undef, Value.bool false, Value.int .i64 z', lx 10, undef, undef, undef, undef, undef, undef, undef, Value.agg #[Value.int .i64 r, Value.int .i64 c, v], Value.int .i64 1048576, Value.int .i64 z, Value.int .i64 z, Value.bool false, Value.agg #[Value.int .i64 r', Value.int .i64 c', v'], Value.int .i64 z, Value.int .i64 z', Value.int .i64 z', Value.bool false, lx 28, lx 29, lx 30, lx 31, lx 32, lx 33, lx 34, undef, undef, undef, undef, undef, undef, undef, undef, undef, undef, undef, undef, undef, undef, undef, undef, undef, undef, undef, undef, undef, undef, undef, undef, undef, undef, undef, undef, undef, undef, undef, undef, undef, undef, undef, undef, undef, undef, undef, undef, undef, undef, undef, undef, undef, undef, undef, undef, undef, undef, undef, undef, undef, undef, undef, undef, undef, undef, undef, undef, undef, undef, undef, undef, undef, undef, undef], defers := [] }) (fun L lx lw => Hid (Ext w2 lw ∧ Vec lw (w.heap.size) [.int .i64 r, .int .i64 c, v] ∧ Vec lw (w.heap.size + 1) [.int .i64 r', .int .i64 c', v'] ∧ (L 0 = true → lx 28 = grV r c v) ∧ (L 1 = true → L 6 = false → ∃ sl, lx 29 = grV r c sl ∧ ValsIn lw sl l) ∧ (L 2 = true → lx 30 = grV r' c' v') ∧ (L 3 = true → L 6 = false → ∃ sl, lx 31 = grV r' c' sl ∧ ValsIn lw sl l') ∧ (L 4 = true → lx 32 = .int .i64 lt) ∧ (L 5 = true → lx 33 = .int .i64 rt) ∧ (L 6 = true → ∃ sv, lx 34 = grV R0 C0 sv ∧ RowAt lw sv L0.length (flatV L0)) ∧ (L 7 = true → ∃ b, lx 10 = .pointer (some ⟨b, 0, none⟩) ∧ w2.heap.size ≤ b ∧ (L 8 = false → Vec lw b [.int .i64 0, .int .i64 0, .slice none 0 0]) ∧ (L 8 = true → ∃ sv, lx 34 = grV R0 C0 sv ∧ RowAt lw sv L0.length (flatV L0) ∧ Vec lw b [.int .i64 R0, .int .i64 C0, sv])) ∧ (L 8 = true → L 7 = true) ∧ (L 8 = true → L 6 = true))) rfl (by kernel_rfl) (fun jj => undef) rfl ?_ ?_ ?_
   ·
    exact ⟨xd (xr w2), D0.later (xd (xr _)), D1.later (xd (xr _)), (fun h => by cases h), (fun h => by cases h), (fun h => by cases h), (fun h => by cases h), (fun h => by cases h), (fun h => by cases h), (fun h => by cases h), (fun h => by cases h), (fun h => by cases h), (fun h => by cases h)⟩
   ·
    intro L lx wl i o K hK ho hL haf hI
    obtain ⟨X, f0, f1, f2, f3, f4, f5, f6, f7, f8, f9, f10, f11⟩ := hI.out
    match i, ho, hL, haf, hK with
    | 0, ho, hL, haf, hK =>
     cases ho
     (try dsimp only)
     obtain ⟨a0, a1, a2⟩ := Vec.three (f0)
     go_wp2_with fail
     exact hK (fun jj => if jj = 28 then grV r c v else lx jj) _ ⟨X, f0, f1, (fun _ => rfl), f3, f4, f5, f6, f7, f8, f9, f10, f11⟩
    | 1, ho, hL, haf, hK =>
     cases ho
     (try dsimp only)
     rw [f2 (haf ⟨0, .data⟩ (by simp) rfl)]
     go_wp2_with fail
     refine (TA.out wl (xt X2 X)).mono ?_
     rintro rr w' ⟨⟨gg, rfl, hgg, OO⟩, E⟩
     go_wp2_with fail
     have VV := OO.vals
     rw [HN.out] at VV
     exact hK (fun jj => if jj = 29 then grV r c (.slice (some ⟨gg, 0, none⟩) n n) else if jj = 28 then grV r c v else lx jj) _ ⟨xt X E, (f0.later E), (f1.later E), (fun _ => rfl), (fun _ _ => ⟨_, rfl, VV⟩), (f4), (fun a q => by obtain ⟨sl, h1, h2⟩ := f5 a q; exact ⟨sl, h1, h2.later E⟩), (f6), (f7), (fun a => by obtain ⟨sv, h1, h2⟩ := f8 a; exact ⟨sv, h1, h2.later E⟩), (fun a => by obtain ⟨b, h1, h2, h3, h4⟩ := f9 a; exact ⟨b, h1, h2, fun q => (h3 q).later E, fun q => by obtain ⟨sv, k1, k2, k3⟩ := h4 q; exact ⟨sv, k1, k2.later E, k3.later E⟩⟩), (f10), (f11)⟩
    | 2, ho, hL, haf, hK =>
     cases ho
     (try dsimp only)
     obtain ⟨a0, a1, a2⟩ := Vec.three (f1)
     go_wp2_with fail
     exact hK (fun jj => if jj = 30 then grV r' c' v' else lx jj) _ ⟨X, f0, f1, f2, f3, (fun _ => rfl), f5, f6, f7, f8, f9, f10, f11⟩
    | 3, ho, hL, haf, hK =>
     cases ho
     (try dsimp only)
     rw [f4 (haf ⟨2, .data⟩ (by simp) rfl)]
     go_wp2_with fail
     refine (TB.out wl (xt X2 X)).mono ?_
     rintro rr w' ⟨⟨gg, rfl, hgg, OO⟩, E⟩
     go_wp2_with fail
     have VV := OO.vals
     rw [HN'.out] at VV
     exact hK (fun jj => if jj = 31 then grV r' c' (.slice (some ⟨gg, 0, none⟩) n' n') else if jj = 30 then grV r' c' v' else lx jj) _ ⟨xt X E, (f0.later E), (f1.later E), (f2), (fun a q => by obtain ⟨sl, h1, h2⟩ := f3 a q; exact ⟨sl, h1, h2.later E⟩), (fun _ => rfl), (fun _ _ => ⟨_, rfl, VV⟩), (f6), (f7), (fun a => by obtain ⟨sv, h1, h2⟩ := f8 a; exact ⟨sv, h1, h2.later E⟩), (fun a => by obtain ⟨b, h1, h2, h3, h4⟩ := f9 a; exact ⟨b, h1, h2, fun q => (h3 q).later E, fun q => by obtain ⟨sv, k1, k2, k3⟩ := h4 q; exact ⟨sv, k1, k2.later E, k3.later E⟩⟩), (f10), (f11)⟩
    | 4, ho, hL, haf, hK =>
     cases ho
     (try dsimp only)
     go_wp2_with fail
     exact hK (fun jj => if jj = 32 then .int .i64 lt else lx jj) _ ⟨X, f0, f1, f2, f3, f4, f5, (fun _ => rfl), f7, f8, f9, f10, f11⟩
    | 5, ho, hL, haf, hK =>
     cases ho
     (try dsimp only)
     go_wp2_with fail
     exact hK (fun jj => if jj = 33 then .int .i64 rt else lx jj) _ ⟨X, f0, f1, f2, f3, f4, f5, f6, (fun _ => rfl), f8, f9, f10, f11⟩
    | 6, ho, hL, haf, hK =>
     cases ho
     (try dsimp only)
     obtain ⟨sl1, q1, V1⟩ := f3 (haf ⟨1, .data⟩ (by simp) rfl) hL
     obtain ⟨sl2, q2, V2⟩ := f5 (haf ⟨3, .data⟩ (by simp) rfl) hL
     rw [q1, q2, f6 (haf ⟨4, .data⟩ (by simp) rfl), f7 (haf ⟨5, .data⟩ (by simp) rfl)]
     go_wp2_with fail
     refine (CS.out sl1 sl2 wl V1 V2).mono ?_
     rintro rr w' ⟨⟨sv, rfl, OV⟩, E⟩
     go_wp2_with fail
     exact hK (fun jj => if jj = 34 then grV R0 C0 sv else if jj = 29 then grV r c sl1 else if jj = 31 then grV r' c' sl2 else if jj = 32 then .int .i64 lt else if jj = 33 then .int .i64 rt else lx jj) _ ⟨xt X E, (f0.later E), (f1.later E), (f2), (fun _ q => by cases q), (f4), (fun _ q => by cases q), (fun _ => rfl), (fun _ => rfl), (fun _ => ⟨sv, rfl, RowAt.of_row OV⟩), (fun a => by obtain ⟨b, h1, h2, h3, h4⟩ := f9 a; exact ⟨b, h1, h2, fun q => (h3 q).later E, fun q => Bool.noConfusion (hL.symm.trans (f11 q))⟩), (f10), (fun _ => rfl)⟩
    | 7, ho, hL, haf, hK =>
     cases ho
     (try dsimp only)
     have hst : L 8 = true → False := fun h => by have := f10 h; rw [hL] at this; cases this
     have E := x1 wl (.cells #[.int .i64 0, .int .i64 0, .slice none 0 0] 28)
     go_wp2_with fail
     exact hK (fun jj => if jj = 10 then .pointer (some ⟨wl.heap.size, 0, none⟩) else lx jj) _ ⟨xt X E, (f0.later E), (f1.later E), (f2), (fun a q => by obtain ⟨sl, h1, h2⟩ := f3 a q; exact ⟨sl, h1, h2.later E⟩), (f4), (fun a q => by obtain ⟨sl, h1, h2⟩ := f5 a q; exact ⟨sl, h1, h2.later E⟩), (f6), (f7), (fun a => by obtain ⟨sv, h1, h2⟩ := f8 a; exact ⟨sv, h1, h2.later E⟩), (fun _ => ⟨wl.heap.size, rfl, by have := X.size; omega, fun _ => vec_made wl [.int .i64 0, .int .i64 0, .slice none 0 0] _, fun h => (hst h).elim⟩), (fun _ => rfl), (f11)⟩
    | 8, ho, hL, haf, hK =>
     cases ho
     (try dsimp only)
     have hmk : L 7 = true := haf ⟨7, .data⟩ (by simp) rfl
     have h5 : L 6 = true := haf ⟨6, .data⟩ (by simp) rfl
     obtain ⟨b, eb', hb, hz, _⟩ := f9 hmk
     have bx := hz hL
     obtain ⟨sv, q5, RV⟩ := f8 h5
     obtain ⟨pp, cc, hsv⟩ : ∃ pp cc, sv = .slice pp L0.length cc := by obtain ⟨_, pp, cc, q, _⟩ := RV; exact ⟨pp, cc, q⟩
     subst hsv
     rw [eb', q5]
     obtain ⟨b0, b1, b2⟩ := Vec.three (bx)
     obtain ⟨fb0, fb1, fb2⟩ := Vec.threeF (bx)
     have hX := Ext.setL (b := b) (by omega) [.int .i64 R0, .int .i64 C0, .slice pp L0.length cc] 0 X
     have hB := bx.put3 (.int .i64 R0) (.int .i64 C0) (.slice pp L0.length cc)
     have RN := RV.far bx [.int .i64 R0, .int .i64 C0, .slice pp L0.length cc]
     go_wp2_with fail
     exact hK (fun jj => if jj = 10 then .pointer (some ⟨b, 0, none⟩) else if jj = 34 then grV R0 C0 (.slice pp L0.length cc) else lx jj) _ ⟨hX, (Vec.farL (k := b) (by omega) [.int .i64 R0, .int .i64 C0, .slice pp L0.length cc] 0 f0), (Vec.farL (k := b) (by omega) [.int .i64 R0, .int .i64 C0, .slice pp L0.length cc] 0 f1), f2, (fun _ q => Bool.noConfusion (h5.symm.trans q)), f4, (fun _ q => Bool.noConfusion (h5.symm.trans q)), f6, f7, (fun _ => ⟨_, rfl, RN⟩), (fun _ => ⟨b, rfl, hb, (fun h => by cases h), fun _ => ⟨_, rfl, RN, hB⟩⟩), (fun _ => hmk), (fun _ => h5)⟩
    | k + 9, ho, _, _, _ => simp at ho
   ·
    intro L lx wA hall hI
    obtain ⟨XR, f0, f1, f2, f3, f4, f5, f6, f7, f8, f9, f10, f11⟩ := hI.out
    clear hI
    replace f2 := f2 (hall 0 (by simp))
    replace f4 := f4 (hall 2 (by simp))
    replace f6 := f6 (hall 4 (by simp))
    replace f7 := f7 (hall 5 (by simp))
    obtain ⟨bb, eb, lb, _, hz⟩ := f9 (hall 7 (by simp))
    obtain ⟨sv, q5, RV, BN⟩ := hz (hall 8 (by simp))
    (try dsimp only)
    rw [eb, f2, f4, f6, f7, q5]
    clear hall hz f0 f1 f2 f3 f4 f5 f6 f7 f8 f9 f10 f11 eb q5
    obtain ⟨b8, hb8⟩ : ∃ q, bb = q := ⟨_, rfl⟩
    rw [hb8] at BN ⊢
    clear hb8 lb
    have E0 := D0.later XR
    have E1 := D1.later XR
    have XA := xt X2 XR
    clear D0 D1 XR X2 CS
    obtain ⟨a0, a1, a2⟩ := Vec.three (E0)
    go_wp2_with fail
    clear a0 a1 a2
    refine (TA.out wA XA).mono ?_
    rintro e wB ⟨⟨g1, rfl, hg1, O1⟩, eB⟩
    obtain ⟨wz, wC, hz, hy, B9, X9, ⟨z0, z1, z2⟩, fz0, fz1, fz2⟩ := newG wB r c (some ⟨g1, 0, none⟩) n n
    have YC : Ext wA wC := xt eB X9
    obtain ⟨c0, c1, c2⟩ := Vec.three ((E1.later YC))
    go_wp2_with fail
    clear c0 c1 c2 hz hy z0 z1 z2 fz0 fz1 fz2
    refine (TB.out wC (xt XA YC)).mono ?_
    rintro e wD ⟨⟨g2, rfl, hg2, O2⟩, eD⟩
    obtain ⟨wz, wE, hz, hy, B10, X10, ⟨z0, z1, z2⟩, fz0, fz1, fz2⟩ := newG wD r' c' (some ⟨g2, 0, none⟩) n' n'
    have YE : Ext wC wE := xt eD X10
    have M9 := B9.later YE
    have VA1 : ValsIn wE (.slice (some ⟨g1, 0, none⟩) n n) l := by have := (O1.later (xt X9 YE)).vals; rw [HN.out] at this; exact this
    have VB1 : ValsIn wE (.slice (some ⟨g2, 0, none⟩) n' n') l' := by have := (O2.later X10).vals; rw [HN'.out] at this; exact this
    obtain ⟨a0, a1, a2⟩ := Vec.three (M9)
    obtain ⟨c0, c1, c2⟩ := Vec.three (B10)
    go_wp2_with fail
    clear a0 a1 a2 c0 c1 c2 hz hy z0 z1 z2 fz0 fz1 fz2
    refine (CI.out _ _ wE (xt (xt XA YC) YE) VA1 VB1).mono ?_
    rintro e wF ⟨⟨sg, rfl, OG⟩, eF⟩
    obtain ⟨pg, ng, cg, rfl⟩ := ownW_slice OG
    obtain ⟨wz, wG, hz, hy, B11, X11, ⟨z0, z1, z2⟩, fz0, fz1, fz2⟩ := newG wF R0 C0 pg ng cg
    have YG : Ext wE wG := xt eF X11
    have OH := ownW_later OG X11
    have N8 := BN.later (xt (xt YC YE) YG)
    have R8 := RV.later (xt (xt YC YE) YG)
    obtain ⟨a0, a1, a2⟩ := Vec.three (N8)
    obtain ⟨c0, c1, c2⟩ := Vec.three (B11)
    go_wp2_with fail
    clear a0 a1 a2 c0 c1 c2 hz hy z0 z1 z2 fz0 fz1 fz2
    refine (eqGridL R0 C0 _ sv L0 wG (ownW_vals OH) R8.vals (by omega)).mono ?_
    rintro e wH ⟨rfl, eH⟩
    have U0 := E0.later (xt (xt YC YE) YG)
    have U1 := E1.later (xt (xt YC YE) YG)
    have U9 := M9.later YG
    have U10 := B10.later YG
    have Q1 := O1.later (xt (xt X9 YE) YG)
    have Q2 := O2.later (xt X10 YG)
    have XG := xt (xt (xt XA YC) YE) YG
    go_upto_region 14 with fail
    have XH := xt XG eH
    have V9 : ValsIn wH (.slice (some ⟨g1, 0, none⟩) n n) l := by have := (Q1.later eH).vals; rw [HN.out] at this; exact this
    have HVA : Hid (∀ W g, OwnV W g l → ValsIn W (.slice (some ⟨g, 0, none⟩) n n) l) := fun W g o => by have := o.vals; rw [HN.out] at this; exact this
    have HVB : Hid (∀ W g, OwnV W g l' → ValsIn W (.slice (some ⟨g, 0, none⟩) n' n') l') := fun W g o => by have := o.vals; rw [HN'.out] at this; exact this
    have EGA : Hid (∀ (v1 v2 : Value) W, ValsIn W v1 l → ValsIn W v2 l → Calls Tryd.prog 8 #[grV r c v1, grV r c v2] W fun e w' => e = .returned (.bool true) ∧ Ext W w') := fun v1 v2 W q1 q2 => eqGridL r c v1 v2 l W q1 q2 (by rw [HN.out]; omega)
    have EGB : Hid (∀ (v1 v2 : Value) W, ValsIn W v1 l' → ValsIn W v2 l' → Calls Tryd.prog 8 #[grV r' c' v1, grV r' c' v2] W fun e w' => e = .returned (.bool true) ∧ Ext W w') := fun v1 v2 W q1 q2 => eqGridL r' c' v1 v2 l' W q1 q2 (by rw [HN'.out]; omega)
    obtain ⟨k0, k1, k2⟩ := Vec.three ((U9.later eH))
    obtain ⟨a0, a1, a2⟩ := Vec.three ((U0.later eH))
    go_cut [52] (fun s wc => s = .bool false ∧ Hid (Ext wG wc))
    case first =>
     go_region_with (first
      | (go_at_call 6; refine (TA.out _ (xt XH (xd (xr _)))).mono ?_; rintro e y7 ⟨⟨gx, rfl, hgx, OX⟩, e7⟩; have Y7 := xt (xd (xr _)) e7; have m0 := cell_later Y7 k0; have m1 := cell_later Y7 k1; have m2 := cell_later Y7 k2)
      | (go_at_call 8; refine (EGA.out _ _ _ (V9.later Y7) (HVA.out _ _ OX)).mono ?_; rintro e y8 ⟨rfl, e8⟩))
     all_goals
      go_wp2_with fail
      go_meet
      exact ⟨rfl, xt eH (xt Y7 e8)⟩
    case rest =>
     obtain ⟨rfl, hW⟩ := hcut
     rename World => wI
     have eI := hW.out
     clear hW k0 k1 k2 a0 a1 a2 eH V9 XH EGA HVA
     have XI := xt XG eI
     have V10 : ValsIn wI (.slice (some ⟨g2, 0, none⟩) n' n') l' := by have := (Q2.later eI).vals; rw [HN'.out] at this; exact this
     obtain ⟨k0, k1, k2⟩ := Vec.three ((U10.later eI))
     obtain ⟨a0, a1, a2⟩ := Vec.three ((U1.later eI))
     go_upto_region 16 with fail
     go_cut [57] (fun s wc => s = .bool false ∧ Hid (Ext wG wc))
     case first =>
      go_region_with (first
       | (go_at_call 6; refine (TB.out _ (xt XI (xd (xr _)))).mono ?_; rintro e y7 ⟨⟨gx, rfl, hgx, OX⟩, e7⟩; have Y7 := xt (xd (xr _)) e7; have m0 := cell_later Y7 k0; have m1 := cell_later Y7 k1; have m2 := cell_later Y7 k2)
       | (go_at_call 8; refine (EGB.out _ _ _ (V10.later Y7) (HVB.out _ _ OX)).mono ?_; rintro e y8 ⟨rfl, e8⟩))
      all_goals
       go_wp2_with fail
       go_meet
       exact ⟨rfl, xt eI (xt Y7 e8)⟩
     case rest =>
      obtain ⟨rfl, hW⟩ := hcut
      rename World => wJ
      have eJ := hW.out
      clear hW k0 k1 k2 a0 a1 a2 eI V10 XI EGB HVB
      obtain ⟨k0, k1, k2⟩ := Vec.three ((U9.later eJ))
      have RA1 := RowAt.of_own (Q1.later eJ) HN.out
      have hq1 : Hid (0 < n → g1 < wB.heap.size) := fun p => (RowAt.of_own O1 HN.out).lt p g1 rfl
      have hq2 : Hid (0 < n' → g2 < wD.heap.size) := fun p => (RowAt.of_own O2 HN'.out).lt p g2 rfl
      have s1 : wB.heap.size ≤ wC.heap.size := X9.size
      have s2 : wC.heap.size ≤ wD.heap.size := eD.size
      have s3 : wD.heap.size < wE.heap.size := World.block_lt_of_cell? _ _ (B10 0 _ rfl).1
      have s4 : wE.heap.size ≤ wF.heap.size := eF.size
      have s5 : wF.heap.size < wG.heap.size := World.block_lt_of_cell? _ _ (B11 0 _ rfl).1
      have s6 : wG.heap.size ≤ wJ.heap.size := eJ.size
      have s0 : wA.heap.size ≤ wB.heap.size := eB.size
      go_wp2_with fail
      clear k0 k1 k2
      refine (markGridL r c _ n (flatV l) 1 wJ RA1 hl2 (by omega) (by omega)).mono ?_
      rintro e wK ⟨rfl, _, gK⟩
      have gK : wJ.grownBy wK (if n = 0 then none else some g1) := gK
      have ZK : Ext wA wK := (xt (xt (xt YC YE) YG) eJ).grown gK (by omega) (fun k hk => by obtain ⟨_, rfl⟩ := row_is hk; exact hg1)
      have U10K := vec_same (U10.later eJ) (gK.block wD.heap.size (by omega) (fun q => by obtain ⟨p, e⟩ := row_is q.symm; have := hq1.out p; omega))
      have B11K := vec_same (B11.later eJ) (gK.block wF.heap.size (by omega) (fun q => by obtain ⟨p, e⟩ := row_is q.symm; have := hq1.out p; omega))
      have R2K := (RowAt.of_own (Q2.later eJ) HN'.out).keep gK (fun g p hg q => by obtain ⟨p', e⟩ := row_is q.symm; have := hq1.out p'; have hg : some g2 = some g := hg; cases hg; omega)
      have OHK := ownW_keep (ownW_later OH eJ) gK (fun k hk => by obtain ⟨p, e⟩ := row_is hk; have := hq1.out p; omega)
      have s7 := gK.size
      obtain ⟨m1, hm1⟩ : ∃ q : Nat, 1 + n * 5 = q := ⟨_, rfl⟩
      rw [hm1]
      clear gK U9 U10 Q1 Q2 U0 U1
      obtain ⟨k0, k1, k2⟩ := Vec.three (U10K)
      go_wp2_with fail
      clear k0 k1 k2
      refine (markGridL r' c' _ n' (flatV l') m1 wK R2K hl2' (by omega) (by omega)).mono ?_
      rintro e wL ⟨rfl, _, gL⟩
      have gL : wK.grownBy wL (if n' = 0 then none else some g2) := gL
      have ZL : Ext wA wL := ZK.grown gL ZK.size (fun k hk => by obtain ⟨_, rfl⟩ := row_is hk; omega)
      have B11L := vec_same B11K (gL.block wF.heap.size (by omega) (fun q => by obtain ⟨p, e⟩ := row_is q.symm; have := hq2.out p; omega))
      have OHL := ownW_keep OHK gL (fun k hk => by obtain ⟨p, e⟩ := row_is hk; have := hq2.out p; omega)
      have s8 := gL.size
      obtain ⟨m2, hm2⟩ : ∃ q : Nat, m1 + n' * 5 = q := ⟨_, rfl⟩
      rw [hm2]
      have hm3 : decide ((m2 : Int) < 0) = false := by simp
      clear gL ZK U10K B11K R2K OHK
      obtain ⟨a0, a1, a2⟩ := Vec.three ((BN.later ZL))
      obtain ⟨k0, k1, k2⟩ := Vec.three (B11L)
      go_wp2_with fail
      clear a0 a1 a2 k0 k1 k2
      refine (eqGridL R0 C0 _ sv L0 wL (ownW_vals OHL) (RV.later ZL).vals (by omega)).mono ?_
      rintro e wM ⟨rfl, eM⟩
      have RM0 := RowAt.of_row (ownW_later OHL eM)
      have lbG := ownW_block OHL
      have ltG := ownW_lt OG
      have B11M := B11L.later eM
      have s9 := eM.size
      obtain ⟨k0, k1, k2⟩ := Vec.three (B11M)
      go_wp2_with fail
      clear k0 k1 k2
      refine (markGridL R0 C0 _ L0.length (flatV L0) 1 wM RM0 (by omega) (by omega) (by omega)).mono ?_
      rintro e wN ⟨rfl, ⟨M, RM, hM⟩, gN⟩
      have ZN : Ext wA wN := (xt ZL eM).grown gN (xt ZL eM).size (fun k hk => by obtain ⟨_, e⟩ := row_own hk; have := lbG k e; omega)
      have B11N := vec_same B11M (gN.block wF.heap.size (by omega) (fun q => by obtain ⟨_, e⟩ := row_own q.symm; have := ltG _ e; omega))
      have HM : Hid (MarkedV M 1 L0.length) := hM
      obtain ⟨m3, hm4⟩ : ∃ q : Nat, 1 + L0.length * 5 = q := ⟨_, rfl⟩
      have HLD : Hid (∀ W, RowAt W (.slice pg ng cg) L0.length M → Calls Tryd.prog 10 #[grV R0 C0 (.slice pg ng cg), .int .i64 1] W fun e w' => e = .returned (.int .i64 (m3 : Int)) ∧ Ext W w') := fun W q => by have := heldGridL R0 C0 (.slice pg ng cg) L0.length M 1 W q HM.out (by omega) (by omega) (by omega); rw [hm4] at this; exact this
      rw [hm4]
      clear gN B11L B11M OHL OH RM0 hM lbG ltG ZL
      obtain ⟨k0, k1, k2⟩ := Vec.three (B11N)
      go_wp2_with fail
      clear k0 k1 k2
      refine (HLD.out wN RM).mono ?_
      rintro e wO ⟨rfl, eO⟩
      have ZO := xt ZN eO
      have X5 := xt XA ZO
      have T0 := E0.later ZO
      have T1 := E1.later ZO
      have ltd : w.heap.size + 1 < wO.heap.size := World.block_lt_of_cell? _ _ (T1 0 _ rfl).1
      go_wp2_with fail
      refine wp_region_letters (fun lx : Nat → Value => { tmps := #[grV r c v, grV r' c' v', Value.int .i64 lt, Value.int .i64 rt, Value.pointer (some ⟨w.heap.size, 0, none⟩), Value.pointer (some ⟨w.heap.size + 1, 0, none⟩), undef, undef, Value.bool false, Value.int .i64 z', Value.pointer (some ⟨b8, 0, none⟩), Value.pointer (some ⟨wB.heap.size, 0, none⟩), Value.pointer (some ⟨wD.heap.size, 0, none⟩), Value.pointer (some ⟨wF.heap.size, 0, none⟩), Value.int .i64 (m2 : Int), Value.int .i64 (m3 : Int), Value.int .i64 (m3 : Int), lx 17, u18, u19, u20, u21, u22, u23, u24, u25, u26, u27, u28, u29, u30, u31, u32, u33, u34, u35, u36, u37, u38, u39, u40, u41, u42, u43, u44, u45, u46, u47, u48, u49, u50, u51, u52, u53, u54, u55, u56, Value.bool false, Value.agg #[Value.int .i64 r, Value.int .i64 c, Value.slice (some ⟨g1, 0, none⟩) n n], Value.int .i64 1, Value.int .i64 (m1 : Int), Value.agg #[Value.int .i64 r', Value.int .i64 c', Value.slice (some ⟨g2, 0, none⟩) n' n'], Value.int .i64 (m1 : Int), Value.int .i64 (m2 : Int), Value.int .i64 (m2 : Int), Value.bool false, Value.bool false, Value.agg #[Value.int .i64 R0, Value.int .i64 C0, Value.slice pg ng cg], Value.agg #[Value.int .i64 R0, Value.int .i64 C0, sv], Value.bool true, Value.bool false, Value.bool false, Value.agg #[Value.int .i64 R0, Value.int .i64 C0, Value.slice pg ng cg], Value.int .i64 1, Value.int .i64 (m3 : Int), Value.agg #[Value.int .i64 R0, Value.int .i64 C0, Value.slice pg ng cg], Value.int .i64 1, Value.int .i64 (m3 : Int), Value.int .i64 (m3 : Int), Value.bool (decide ((m3 : Int) < 0)), Value.int .i64 (m3 : Int), Value.int .i64 (m3 : Int), Value.bool false, lx 83, lx 84, lx 85, lx 86, lx 87, lx 88, lx 89, u90, u91, u92, u93, u94, u95, u96, u97, u98, u99, u100, u101], defers := [] }) (fun L lx lw => Hid (Ext wO lw ∧ Vec lw (w.heap.size) [.int .i64 r, .int .i64 c, v] ∧ Vec lw (w.heap.size + 1) [.int .i64 r', .int .i64 c', v'] ∧ (L 0 = true → lx 83 = grV r c v) ∧ (L 1 = true → L 6 = false → ∃ sl, lx 84 = grV r c sl ∧ ValsIn lw sl l) ∧ (L 2 = true → lx 85 = grV r' c' v') ∧ (L 3 = true → L 6 = false → ∃ sl, lx 86 = grV r' c' sl ∧ ValsIn lw sl l') ∧ (L 4 = true → lx 87 = .int .i64 lt) ∧ (L 5 = true → lx 88 = .int .i64 rt) ∧ (L 6 = true → ∃ sv, lx 89 = grV R0 C0 sv ∧ RowAt lw sv L0.length (flatV L0)) ∧ (L 7 = true → ∃ b, lx 17 = .pointer (some ⟨b, 0, none⟩) ∧ wO.heap.size ≤ b ∧ (L 8 = false → Vec lw b [.int .i64 0, .int .i64 0, .slice none 0 0]) ∧ (L 8 = true → ∃ sv, lx 89 = grV R0 C0 sv ∧ RowAt lw sv L0.length (flatV L0) ∧ Vec lw b [.int .i64 R0, .int .i64 C0, sv])) ∧ (L 8 = true → L 7 = true) ∧ (L 8 = true → L 6 = true))) rfl (by kernel_rfl) (fun jj => if jj = 83 then u83 else if jj = 84 then u84 else if jj = 85 then u85 else if jj = 86 then u86 else if jj = 87 then u87 else if jj = 88 then u88 else if jj = 89 then u89 else undef) rfl ?_ ?_ ?_
      ·
       exact ⟨xd (xr wO), T0.later (xd (xr _)), T1.later (xd (xr _)), (fun h => by cases h), (fun h => by cases h), (fun h => by cases h), (fun h => by cases h), (fun h => by cases h), (fun h => by cases h), (fun h => by cases h), (fun h => by cases h), (fun h => by cases h), (fun h => by cases h)⟩
      ·
       intro L lx wl i o K hK ho hL haf hI
       obtain ⟨X, f0, f1, f2, f3, f4, f5, f6, f7, f8, f9, f10, f11⟩ := hI.out
       match i, ho, hL, haf, hK with
       | 0, ho, hL, haf, hK =>
        cases ho
        (try dsimp only)
        obtain ⟨a0, a1, a2⟩ := Vec.three (f0)
        go_wp2_with fail
        exact hK (fun jj => if jj = 83 then grV r c v else lx jj) _ ⟨X, f0, f1, (fun _ => rfl), f3, f4, f5, f6, f7, f8, f9, f10, f11⟩
       | 1, ho, hL, haf, hK =>
        cases ho
        (try dsimp only)
        rw [f2 (haf ⟨0, .data⟩ (by simp) rfl)]
        go_wp2_with fail
        refine (TA.out wl (xt X5 X)).mono ?_
        rintro rr w' ⟨⟨gg, rfl, hgg, OO⟩, E⟩
        go_wp2_with fail
        have VV := OO.vals
        rw [HN.out] at VV
        exact hK (fun jj => if jj = 84 then grV r c (.slice (some ⟨gg, 0, none⟩) n n) else if jj = 83 then grV r c v else lx jj) _ ⟨xt X E, (f0.later E), (f1.later E), (fun _ => rfl), (fun _ _ => ⟨_, rfl, VV⟩), (f4), (fun a q => by obtain ⟨sl, h1, h2⟩ := f5 a q; exact ⟨sl, h1, h2.later E⟩), (f6), (f7), (fun a => by obtain ⟨sv, h1, h2⟩ := f8 a; exact ⟨sv, h1, h2.later E⟩), (fun a => by obtain ⟨b, h1, h2, h3, h4⟩ := f9 a; exact ⟨b, h1, h2, fun q => (h3 q).later E, fun q => by obtain ⟨sv, k1, k2, k3⟩ := h4 q; exact ⟨sv, k1, k2.later E, k3.later E⟩⟩), (f10), (f11)⟩
       | 2, ho, hL, haf, hK =>
        cases ho
        (try dsimp only)
        obtain ⟨a0, a1, a2⟩ := Vec.three (f1)
        go_wp2_with fail
        exact hK (fun jj => if jj = 85 then grV r' c' v' else lx jj) _ ⟨X, f0, f1, f2, f3, (fun _ => rfl), f5, f6, f7, f8, f9, f10, f11⟩
       | 3, ho, hL, haf, hK =>
        cases ho
        (try dsimp only)
        rw [f4 (haf ⟨2, .data⟩ (by simp) rfl)]
        go_wp2_with fail
        refine (TB.out wl (xt X5 X)).mono ?_
        rintro rr w' ⟨⟨gg, rfl, hgg, OO⟩, E⟩
        go_wp2_with fail
        have VV := OO.vals
        rw [HN'.out] at VV
        exact hK (fun jj => if jj = 86 then grV r' c' (.slice (some ⟨gg, 0, none⟩) n' n') else if jj = 85 then grV r' c' v' else lx jj) _ ⟨xt X E, (f0.later E), (f1.later E), (f2), (fun a q => by obtain ⟨sl, h1, h2⟩ := f3 a q; exact ⟨sl, h1, h2.later E⟩), (fun _ => rfl), (fun _ _ => ⟨_, rfl, VV⟩), (f6), (f7), (fun a => by obtain ⟨sv, h1, h2⟩ := f8 a; exact ⟨sv, h1, h2.later E⟩), (fun a => by obtain ⟨b, h1, h2, h3, h4⟩ := f9 a; exact ⟨b, h1, h2, fun q => (h3 q).later E, fun q => by obtain ⟨sv, k1, k2, k3⟩ := h4 q; exact ⟨sv, k1, k2.later E, k3.later E⟩⟩), (f10), (f11)⟩
       | 4, ho, hL, haf, hK =>
        cases ho
        (try dsimp only)
        go_wp2_with fail
        exact hK (fun jj => if jj = 87 then .int .i64 lt else lx jj) _ ⟨X, f0, f1, f2, f3, f4, f5, (fun _ => rfl), f7, f8, f9, f10, f11⟩
       | 5, ho, hL, haf, hK =>
        cases ho
        (try dsimp only)
        go_wp2_with fail
        exact hK (fun jj => if jj = 88 then .int .i64 rt else lx jj) _ ⟨X, f0, f1, f2, f3, f4, f5, f6, (fun _ => rfl), f8, f9, f10, f11⟩
       | 6, ho, hL, haf, hK =>
        cases ho
        (try dsimp only)
        obtain ⟨sl1, q1, V1⟩ := f3 (haf ⟨1, .data⟩ (by simp) rfl) hL
        obtain ⟨sl2, q2, V2⟩ := f5 (haf ⟨3, .data⟩ (by simp) rfl) hL
        rw [q1, q2, f6 (haf ⟨4, .data⟩ (by simp) rfl), f7 (haf ⟨5, .data⟩ (by simp) rfl)]
        go_wp2_with fail
        refine (CI.out sl1 sl2 wl (xt X5 X) V1 V2).mono ?_
        rintro rr w' ⟨⟨sv, rfl, OV⟩, E⟩
        go_wp2_with fail
        exact hK (fun jj => if jj = 89 then grV R0 C0 sv else if jj = 84 then grV r c sl1 else if jj = 86 then grV r' c' sl2 else if jj = 87 then .int .i64 lt else if jj = 88 then .int .i64 rt else lx jj) _ ⟨xt X E, (f0.later E), (f1.later E), (f2), (fun _ q => by cases q), (f4), (fun _ q => by cases q), (fun _ => rfl), (fun _ => rfl), (fun _ => ⟨sv, rfl, RowAt.of_row OV⟩), (fun a => by obtain ⟨b, h1, h2, h3, h4⟩ := f9 a; exact ⟨b, h1, h2, fun q => (h3 q).later E, fun q => Bool.noConfusion (hL.symm.trans (f11 q))⟩), (f10), (fun _ => rfl)⟩
       | 7, ho, hL, haf, hK =>
        cases ho
        (try dsimp only)
        have hst : L 8 = true → False := fun h => by have := f10 h; rw [hL] at this; cases this
        have E := x1 wl (.cells #[.int .i64 0, .int .i64 0, .slice none 0 0] 28)
        go_wp2_with fail
        exact hK (fun jj => if jj = 17 then .pointer (some ⟨wl.heap.size, 0, none⟩) else lx jj) _ ⟨xt X E, (f0.later E), (f1.later E), (f2), (fun a q => by obtain ⟨sl, h1, h2⟩ := f3 a q; exact ⟨sl, h1, h2.later E⟩), (f4), (fun a q => by obtain ⟨sl, h1, h2⟩ := f5 a q; exact ⟨sl, h1, h2.later E⟩), (f6), (f7), (fun a => by obtain ⟨sv, h1, h2⟩ := f8 a; exact ⟨sv, h1, h2.later E⟩), (fun _ => ⟨wl.heap.size, rfl, by have := X.size; omega, fun _ => vec_made wl [.int .i64 0, .int .i64 0, .slice none 0 0] _, fun h => (hst h).elim⟩), (fun _ => rfl), (f11)⟩
       | 8, ho, hL, haf, hK =>
        cases ho
        (try dsimp only)
        have hmk : L 7 = true := haf ⟨7, .data⟩ (by simp) rfl
        have h5 : L 6 = true := haf ⟨6, .data⟩ (by simp) rfl
        obtain ⟨b, eb', hb, hz, _⟩ := f9 hmk
        have bx := hz hL
        obtain ⟨sv, q5, RV⟩ := f8 h5
        obtain ⟨pp, cc, hsv⟩ : ∃ pp cc, sv = .slice pp L0.length cc := by obtain ⟨_, pp, cc, q, _⟩ := RV; exact ⟨pp, cc, q⟩
        subst hsv
        rw [eb', q5]
        obtain ⟨b0, b1, b2⟩ := Vec.three (bx)
        obtain ⟨fb0, fb1, fb2⟩ := Vec.threeF (bx)
        have hX := Ext.setL (b := b) (by omega) [.int .i64 R0, .int .i64 C0, .slice pp L0.length cc] 0 X
        have hB := bx.put3 (.int .i64 R0) (.int .i64 C0) (.slice pp L0.length cc)
        have RN := RV.far bx [.int .i64 R0, .int .i64 C0, .slice pp L0.length cc]
        go_wp2_with fail
        exact hK (fun jj => if jj = 17 then .pointer (some ⟨b, 0, none⟩) else if jj = 89 then grV R0 C0 (.slice pp L0.length cc) else lx jj) _ ⟨hX, (Vec.farL (k := b) (by omega) [.int .i64 R0, .int .i64 C0, .slice pp L0.length cc] 0 f0), (Vec.farL (k := b) (by omega) [.int .i64 R0, .int .i64 C0, .slice pp L0.length cc] 0 f1), f2, (fun _ q => Bool.noConfusion (h5.symm.trans q)), f4, (fun _ q => Bool.noConfusion (h5.symm.trans q)), f6, f7, (fun _ => ⟨_, rfl, RN⟩), (fun _ => ⟨b, rfl, hb, (fun h => by cases h), fun _ => ⟨_, rfl, RN, hB⟩⟩), (fun _ => hmk), (fun _ => h5)⟩
       | k + 9, ho, _, _, _ => simp at ho
      ·
       intro L lx wP hall hI
       obtain ⟨XR, f0, f1, f2, f3, f4, f5, f6, f7, f8, f9, f10, f11⟩ := hI.out
       clear hI
       replace f2 := f2 (hall 0 (by simp))
       replace f4 := f4 (hall 2 (by simp))
       replace f6 := f6 (hall 4 (by simp))
       replace f7 := f7 (hall 5 (by simp))
       obtain ⟨bb, eb, lb, _, hz⟩ := f9 (hall 7 (by simp))
       obtain ⟨sh, q5, RH, BH⟩ := hz (hall 8 (by simp))
       (try dsimp only)
       rw [eb, f2, f4, f6, f7, q5]
       clear hall hz f0 f1 f2 f3 f4 f5 f6 f7 f8 f9 f10 f11 eb q5
       obtain ⟨bh, hbh⟩ : ∃ q, bb = q := ⟨_, rfl⟩
       rw [hbh] at BH ⊢
       clear hbh lb T0 T1 X5
       obtain ⟨a0, a1, a2⟩ := Vec.three ((BN.later (xt ZO XR)))
       obtain ⟨k0, k1, k2⟩ := Vec.three (BH)
       go_wp2_with fail
       clear a0 a1 a2 k0 k1 k2
       refine (eqGridL R0 C0 sh sv L0 wP RH.vals (RV.later (xt ZO XR)).vals (by omega)).mono ?_
       rintro e wQ ⟨rfl, eQ⟩
       have YQ := xt (xt eO XR) eQ
       obtain ⟨k0, k1, k2⟩ := Vec.three ((B11N.later YQ))
       go_wp2_with fail
       clear k0 k1 k2
       refine (HLD.out wQ (RM.later YQ)).mono ?_
       rintro e wR ⟨rfl, eR⟩
       go_wp2_with fail
       all_goals go_ret
       all_goals exact ⟨rfl, xt (xt XA ZN) (xt YQ eR)⟩

end Go.Proofs.YtjlephnmofhjaaaDoor

