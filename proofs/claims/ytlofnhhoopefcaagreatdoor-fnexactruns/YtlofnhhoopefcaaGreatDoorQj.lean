/-
  Chapter 11: the law of Runs.
-/
import Derived.Test.YtlofnhhoopefcaaGreatDoorMg28
namespace Go.Proofs.YtlofnhhoopefcaaGreatDoor
open Go.RowKit

theorem ownV_rowAt {w : World} {g : Nat} {l : List VT} {n : Nat} (h : OwnV w g l) (hn : l.length = n) : RowAt w (.slice (some ⟨g, 0, none⟩) n n) n (flatV l) := RowAt.of_own h hn
set_option maxRecDepth 8000 in
set_option maxHeartbeats 4000000 in
theorem lawRuns (r c : Int) (v : Value) (l : List VT) (x : Int) (w : World) (h : ValsIn w v l) (hl : l.length ≤ 9223372036854775807) (ht : ∀ e ∈ l, e.t.length ≤ 9223372036854775807) (hd : ∀ e ∈ l, -9223372036854775808 ≤ e.d ∧ e.d ≤ 9223372036854775807) (hT : Tens w) (hE : ErrTab w)
  (x1' : -9223372036854775808 ≤ x) (x2' : x ≤ 9223372036854775807) :
  Calls Tryz.prog 4 #[grV r c v, .int .i64 x] w fun e w' => e = .returned (.bool true) ∧ Ext w w' := by
 have X0 := x1 w (.cells #[.int .i64 r, .int .i64 c, v] 24)
 have B0 := vec_made w [.int .i64 r, .int .i64 c, v] 24
 change Vec (w.alloc (.cells #[.int .i64 r, .int .i64 c, v] 24)) _ _ at B0
 obtain ⟨u0, hu0⟩ : ∃ u, w.alloc (.cells #[.int .i64 r, .int .i64 c, v] 24) = u := ⟨_, rfl⟩
 rw [hu0] at X0 B0
 obtain ⟨a0, a1, a2⟩ := Vec.three B0
 obtain ⟨pv, nv, hv⟩ : ∃ p n, v = .slice p l.length n := by obtain ⟨p, n, h, _⟩ := h; exact ⟨p, n, h⟩
 go_enter Tryz.func4, Tryz.ntmps4
 subst hv
 go_wp2_with fail
 clear a0 a1 a2 hu0
 refine (szGridL r c _ l 1048576 u0 (h.later X0) (by omega) (by omega) hl ht).mono ?_
 rintro e w1 ⟨⟨z, rfl, z0, z1, hz⟩, e1⟩
 have X1 := xt X0 e1
 by_cases hn : z < 0
 ·
  clear hz B0 hT hE
  go_wp2_with fail
  go_ret
  exact ⟨rfl, X1⟩
 obtain ⟨hl1, ht1⟩ := hz (by omega)
 have hl2 : l.length ≤ 1048576 := by omega
 have hr : ∀ e ∈ l, e.room := fun e he => ⟨by have := ht1 e he; omega, hd e he⟩
 obtain ⟨NN, hNN⟩ : ∃ NN, l.length = NN := ⟨_, rfl⟩
 have HV : Hid (ValsIn w (.slice pv NN nv) l) := by rw [← hNN]; exact h
 have TG : Hid (∀ W, Ext w W → Calls Tryz.prog 8 #[grV r c (.slice pv NN nv)] W fun e w' => (∃ g, e = .returned (grV r c (.slice (some ⟨g, 0, none⟩) NN NN)) ∧ W.heap.size ≤ g ∧ OwnV w' g l) ∧ Ext W w') := fun W hW => by have := toGridL r c _ l W (HV.out.later hW) (by omega); rw [hNN] at this; exact this
 have CS : Hid (∀ W g, OwnV W g l → Calls Tryz.prog 18 #[grV r c (.slice (some ⟨g, 0, none⟩) NN NN), .int .i64 x] W fun e w' => ∃ ans, e = .returned ans ∧ AnsI W w' ans (runsR r c l x)) := fun W g O => runsS r c _ l x W (by have := O.vals; rw [hNN] at this; exact this) hl2 hr x1' x2'
 have CI : Hid (∀ W g, Ext w W → OwnV W g l → Calls Tryz.prog 19 #[grV r c (.slice (some ⟨g, 0, none⟩) NN NN), .int .i64 x] W fun e w' => ∃ ans, e = .returned ans ∧ AnsI W w' ans (runsR r c l x)) := fun W g hW O => runsI r c _ l x W (by have := O.vals; rw [hNN] at this; exact this) hl2 hr (hT.later hW) (hE.later hW) x1' x2'
 have EG : Hid (∀ W g g', OwnV W g l → OwnV W g' l → Calls Tryz.prog 12 #[grV r c (.slice (some ⟨g, 0, none⟩) NN NN), grV r c (.slice (some ⟨g', 0, none⟩) NN NN)] W fun e w' => e = .returned (.bool true) ∧ Ext W w') := fun W g g' O O' => eqGridL r c _ _ l W (by have := O.vals; rw [hNN] at this; exact this) (by have := O'.vals; rw [hNN] at this; exact this) (by omega)
 have rl : (runsR r c l x).length ≤ 2000 := rowsR_le
 obtain ⟨RR, hRR⟩ : ∃ RR, runsR r c l x = RR := ⟨_, rfl⟩
 rw [hRR] at CS CI rl
 have HNN : Hid (l.length = NN) := hNN
 have B1 := B0.later e1
 rw [hNN] at B1 hl2 ⊢
 have hz9 : decide (z < 0) = false := by simpa using hn
 obtain ⟨a0, a1, a2⟩ := Vec.three B1
 clear hl ht hl1 ht1 hz hd hT hE h hr B0 X0 e1 hRR hNN
 go_wp2_with fail
 clear a0 a1 a2
 refine (TG.out w1 X1).mono ?_
 rintro e w2 ⟨⟨g1, rfl, _, O1⟩, e2⟩
 have X2 := xt X1 e2
 have B2 := B1.later e2
 clear B1 X1 e2
 go_wp2_with fail
 refine (CS.out w2 g1 O1).mono ?_
 rintro e w3 ⟨s1, rfl, S1, _, e3⟩
 obtain ⟨ps, cs, rfl⟩ : ∃ p n, s1 = .slice p RR.length n := by obtain ⟨p, n, h, _⟩ := S1; exact ⟨p, n, h⟩
 have X3 := xt X2 e3
 have B3 := B2.later e3
 obtain ⟨LL, hLL⟩ : ∃ LL, RR.length = LL := ⟨_, rfl⟩
 have HLL : Hid (RR.length = LL) := hLL
 rw [hLL] at S1 rl ⊢
 have hsb : 0 < LL → ∀ k, (Value.slice ps LL cs).ownBlock = some k → k < w3.heap.size := fun h0 => S1.lt (by rw [HLL.out]; exact h0)
 obtain ⟨a0, a1, a2⟩ := Vec.three B3
 clear B2 X2 e3 O1 hLL
 go_wp2_with fail
 clear a0 a1 a2
 refine (TG.out w3 X3).mono ?_
 rintro e w4 ⟨⟨g2, rfl, hg2, O2⟩, e4⟩
 have X4 := xt X3 e4
 have hg2w : w.heap.size < g2 := Nat.lt_of_lt_of_le (vec_lt B3 (by simp)) hg2
 have w34 := e4.size
 have B4 := B3.later e4
 have S4 := S1.later e4
 -- the box of the program's grid
 have D4 := vec_made w4 [.int .i64 r, .int .i64 c, .slice (some ⟨g2, 0, none⟩) NN NN] 32
 change Vec (w4.alloc (.cells #[.int .i64 r, .int .i64 c, .slice (some ⟨g2, 0, none⟩) NN NN] 32)) _ _ at D4
 have E5 := x1 w4 (.cells #[.int .i64 r, .int .i64 c, .slice (some ⟨g2, 0, none⟩) NN NN] 32)
 obtain ⟨a0, a1, a2⟩ := Vec.three D4
 go_wp2_with fail
 clear a0 a1 a2
 obtain ⟨u4, hu4⟩ : ∃ u, w4.alloc (.cells #[.int .i64 r, .int .i64 c, .slice (some ⟨g2, 0, none⟩) NN NN] 32) = u := ⟨_, rfl⟩
 have S4s : u4.heap.size = w4.heap.size + 1 := by rw [← hu4, World.size_alloc]
 rw [hu4] at D4 E5 ⊢
 have g2l : g2 < w4.heap.size ∨ NN = 0 := by
  rcases Nat.eq_zero_or_pos NN with h | h
  ·
   exact Or.inr h
  ·
   left
   obtain ⟨q, hq⟩ : ∃ q, l[0]? = some q := ⟨_, List.getElem?_eq_getElem (by rw [HNN.out]; exact h)⟩
   exact World.block_lt_of_cell? _ _ (O2 0 q hq 0 _ rfl).1
 refine (CI.out u4 g2 (xt X4 E5) (O2.later E5)).mono ?_
 rintro e w5 ⟨s2, rfl, S2, F2, e5⟩
 obtain ⟨p2, c2, rfl⟩ : ∃ p n, s2 = .slice p RR.length n := by obtain ⟨p, n, h, _⟩ := S2; exact ⟨p, n, h⟩
 rw [HLL.out] at S2 F2 ⊢
 have X5 := xt X4 (xt E5 e5)
 have B5 := B4.later (xt E5 e5)
 have D5 := D4.later e5
 have S5 := S4.later (xt E5 e5)
 have O5 := O2.later (xt E5 e5)
 have hf2 : 0 < LL → ∀ g, (Value.slice p2 LL c2).ownBlock = some g → u4.heap.size ≤ g := F2
 have EN : Hid (∀ W u v, NumsAt W u RR → NumsAt W v RR → Calls Tryz.prog 11 #[u, v] W fun e w' => e = .returned (.bool true) ∧ Ext W w') := fun W u v hu hv => eqNums u v RR W hu hv (by rw [HLL.out]; omega)
 have w03 := X3.size
 clear B4 D4 S4 O2 F2 e5 E5 X4 S1 B3 X3 e4
 go_wp2_with fail
 refine (EN.out w5 _ _ S2 S5).mono ?_
 rintro e w6 ⟨rfl, e6⟩
 have X6 := xt X5 e6
 have B6 := B5.later e6
 have D6 := D5.later e6
 have S6 := S5.later e6
 have T6 := S2.later e6
 have O6 := O5.later e6
 obtain ⟨a0, a1, a2⟩ := Vec.three B6
 obtain ⟨d0, d1, d2⟩ := Vec.three D6
 clear B5 D5 S5 S2 O5 e6 X5
 go_wp2_with fail
 refine wp_region_letters (fun lx : Nat → Value => { tmps := #[grV r c (Value.slice pv NN nv), Value.int .i64 x, Value.pointer (some ⟨w.heap.size, 0, none⟩), undef, Value.bool false, Value.int .i64 z, Value.slice ps LL cs, Value.pointer (some ⟨w4.heap.size, 0, none⟩), Value.slice p2 LL c2, undef, undef, undef, undef, Value.agg #[Value.int .i64 r, Value.int .i64 c, Value.slice pv NN nv], Value.int .i64 1048576, Value.int .i64 z, Value.int .i64 z, Value.bool false, Value.agg #[Value.int .i64 r, Value.int .i64 c, Value.slice pv NN nv], grV r c (Value.slice (some ⟨g1, 0, none⟩) NN NN), Value.int .i64 x, Value.slice ps LL cs, Value.agg #[Value.int .i64 r, Value.int .i64 c, Value.slice pv NN nv], grV r c (Value.slice (some ⟨g2, 0, none⟩) NN NN), Value.agg #[Value.int .i64 r, Value.int .i64 c, Value.slice (some ⟨g2, 0, none⟩) NN NN], Value.int .i64 x, Value.slice p2 LL c2, Value.slice p2 LL c2, Value.slice ps LL cs, Value.bool true, Value.bool false, lx 31, lx 32, lx 33, lx 34, lx 35, undef, undef, undef, undef, undef, undef, undef, undef, undef, undef, undef, undef, undef, undef, undef, undef, undef, undef, undef, undef, undef, undef, undef, undef, undef, undef, undef, undef, undef, undef, undef, undef, undef, undef, undef, undef, undef, undef], defers := [] }) (fun L lx lw => Hid (Ext w6 lw ∧ Vec lw (w.heap.size) [.int .i64 r, .int .i64 c, .slice pv NN nv] ∧ Vec lw (w4.heap.size) [.int .i64 r, .int .i64 c, .slice (some ⟨g2, 0, none⟩) NN NN] ∧ OwnV lw g2 l ∧ NumsAt lw (.slice ps LL cs) RR ∧ NumsAt lw (.slice p2 LL c2) RR ∧ (L 0 = true → lx 31 = grV r c (.slice (some ⟨g2, 0, none⟩) NN NN)) ∧ (L 1 = true → lx 32 = grV r c (.slice pv NN nv)) ∧ (L 2 = true → ∃ gg, lx 33 = grV r c (.slice (some ⟨gg, 0, none⟩) NN NN) ∧ OwnV lw gg l) ∧ (L 3 = true → lx 34 = .bool true) ∧ (L 4 = true → lx 35 = .bool false))) rfl (by kernel_rfl) (fun _ => undef) rfl ?_ ?_ ?_
 ·
  exact ⟨xd (xr w6), B6.later (xd (xr _)), D6.later (xd (xr _)), O6.later (xd (xr _)), S6.later (xd (xr _)), T6.later (xd (xr _)), (fun h => by cases h), (fun h => by cases h), (fun h => by cases h), (fun h => by cases h), (fun h => by cases h)⟩
 ·
  intro L lx wl i o K hK ho hL haf hI
  obtain ⟨X, f0, f1, f2, f3, f4, f5, f6, f7, f8, f9⟩ := hI.out
  match i, ho, hL, haf, hK with
  | 0, ho, hL, haf, hK =>
   cases ho
   (try dsimp only)
   have a0 := (f1 0 _ rfl).1
   have a1 := (f1 1 _ rfl).1
   have a2 := (f1 2 _ rfl).1
   go_wp2_with fail
   exact hK (fun jj => if jj = 31 then grV r c (.slice (some ⟨g2, 0, none⟩) NN NN) else lx jj) _ ⟨X, f0, f1, f2, f3, f4, (fun _ => rfl), f6, f7, f8, f9⟩
  | 1, ho, hL, haf, hK =>
   cases ho
   (try dsimp only)
   have a0 := (f0 0 _ rfl).1
   have a1 := (f0 1 _ rfl).1
   have a2 := (f0 2 _ rfl).1
   go_wp2_with fail
   exact hK (fun jj => if jj = 32 then grV r c (.slice pv NN nv) else lx jj) _ ⟨X, f0, f1, f2, f3, f4, f5, (fun _ => rfl), f7, f8, f9⟩
  | 2, ho, hL, haf, hK =>
   cases ho
   (try dsimp only)
   rw [f6 (haf ⟨1, .data⟩ (by simp) rfl)]
   go_wp2_with fail
   refine (TG.out wl (xt X6 X)).mono ?_
   rintro rr w' ⟨⟨gg, rfl, hgg, OO⟩, E⟩
   go_wp2_with fail
   exact hK (fun jj => if jj = 33 then grV r c (.slice (some ⟨gg, 0, none⟩) NN NN) else if jj = 32 then grV r c (.slice pv NN nv) else lx jj) _ ⟨xt X E, (f0.later E), (f1.later E), (f2.later E), (f3.later E), (f4.later E), (f5), (fun _ => rfl), (fun _ => ⟨gg, rfl, OO⟩), (f8), (f9)⟩
  | 3, ho, hL, haf, hK =>
   cases ho
   (try dsimp only)
   obtain ⟨gg, q1, OO⟩ := f7 (haf ⟨2, .data⟩ (by simp) rfl)
   rw [f5 (haf ⟨0, .data⟩ (by simp) rfl), q1]
   go_wp2_with fail
   refine (EG.out wl g2 gg f2 OO).mono ?_
   rintro rr w' ⟨rfl, E⟩
   go_wp2_with fail
   exact hK (fun jj => if jj = 34 then .bool true else if jj = 31 then grV r c (.slice (some ⟨g2, 0, none⟩) NN NN) else if jj = 33 then grV r c (.slice (some ⟨gg, 0, none⟩) NN NN) else lx jj) _ ⟨xt X E, (f0.later E), (f1.later E), (f2.later E), (f3.later E), (f4.later E), (fun _ => rfl), (f6), (fun _ => ⟨gg, rfl, OO.later E⟩), (fun _ => rfl), (f9)⟩
  | 4, ho, hL, haf, hK =>
   cases ho
   (try dsimp only)
   rw [f8 (haf ⟨3, .data⟩ (by simp) rfl)]
   go_wp2_with fail
   exact hK (fun jj => if jj = 35 then .bool false else if jj = 34 then .bool true else lx jj) _ ⟨X, f0, f1, f2, f3, f4, f5, f6, f7, (fun _ => rfl), (fun _ => rfl)⟩
  | k + 5, ho, _, _, _ => simp at ho
 ·
  intro L lx w7 hall hI
  obtain ⟨XR, f0, f1, f2, f3, f4, f5, f6, f7, f8, f9⟩ := hI.out
  clear hI
  obtain ⟨gg, q5, _⟩ := f7 (hall 2 (by simp))
  (try dsimp only)
  rw [f5 (hall 0 (by simp)), f6 (hall 1 (by simp)), q5, f8 (hall 3 (by simp)), f9 (hall 4 (by simp))]
  clear hall f5 f6 f7 f8 f9 q5
  have X7 := xt X6 XR
  have B7 := f0
  have D7 := f1
  have O7 := f2
  have S7 := f3
  have T7 := f4
  clear f0 f1 f2 f3 f4
  have RA : RowAt w7 (.slice (some ⟨g2, 0, none⟩) NN NN) NN (flatV l) := ownV_rowAt O7 HNN.out
  obtain ⟨d0, d1, d2⟩ := Vec.three D7
  clear B6 D6 O6 S6 T6 X6 XR
  go_wp2_with fail
  clear d0 d1 d2
  -- the marks of what was handed in
  refine (markGridL r c _ NN (flatV l) 1 w7 RA hl2 (by omega) (by omega)).mono ?_
  rintro e w8 ⟨rfl, _, G8⟩
  have nr : ∀ k, (if NN = 0 then none else (Value.slice (some ⟨g2, 0, none⟩) NN NN).ownBlock) = some k → 0 < NN ∧ k = g2 := fun k hk => by
   by_cases h0 : NN = 0
   ·
    rw [if_pos h0] at hk; cases hk
   ·
    rw [if_neg h0] at hk
    exact ⟨by omega, (by simpa [Value.ownBlock] using hk.symm)⟩
  have X8 : Ext w w8 := X7.grown G8 X7.size (fun k hk => by obtain ⟨_, rfl⟩ := nr k hk; omega)
  have B8 : Vec w8 w.heap.size [.int .i64 r, .int .i64 c, .slice pv NN nv] := vec_keep B7 G8 (fun e => by have := (nr _ e.symm).2; omega)
  have S8 : NumsAt w8 (.slice ps LL cs) RR := S7.keep G8 (fun k h0 hk e => by have h1 := (nr _ e.symm).2; have h2 := hsb (by rw [← HLL.out]; exact h0) k hk; omega)
  have T8 : NumsAt w8 (.slice p2 LL c2) RR := T7.keep G8 (fun k h0 hk e => by have h1 := (nr _ e.symm).2; have h3 := (nr _ e.symm).1; have h2 := hf2 (by rw [← HLL.out]; exact h0) k hk; omega)
  have k0 : decide (((1 + NN * 5 : Nat) : Int) < 0) = false := decide_eq_false (by omega)
  obtain ⟨KK, hKK⟩ : ∃ KK : Nat, 1 + NN * 5 = KK := ⟨_, rfl⟩
  rw [hKK] at k0 ⊢
  clear G8 S7 T7 B7 D7 O7 RA hKK
  go_wp2_with fail
  refine (EN.out w8 _ _ T8 S8).mono ?_
  rintro e w9 ⟨rfl, e9⟩
  have X9 := xt X8 e9
  have B9 := B8.later e9
  have S9 := S8.later e9
  have T9 := T8.later e9
  clear B8 S8 T8 X8 e9
  go_wp2_with fail
  -- the marks of the answer
  refine (markNums _ RR LL 1 w9 T9 HLL.out (by omega) (by omega) (by omega)).mono ?_
  rintro e w10 ⟨rfl, M10, G10⟩
  have nr2 : ∀ k, (if LL = 0 then none else (Value.slice p2 LL c2).ownBlock) = some k → 0 < LL ∧ (Value.slice p2 LL c2).ownBlock = some k := fun k hk => row_own hk
  have X10 : Ext w w10 := X9.grown G10 X9.size (fun k hk => by obtain ⟨h0, h1⟩ := nr2 k hk; have := hf2 h0 k h1; omega)
  have B10 : Vec w10 w.heap.size [.int .i64 r, .int .i64 c, .slice pv NN nv] := vec_keep B9 G10 (fun e => by obtain ⟨h0, h1⟩ := nr2 _ e.symm; have := hf2 h0 _ h1; omega)
  have S10 : NumsAt w10 (.slice ps LL cs) RR := S9.keep G10 (fun k h0 hk e => by obtain ⟨h3, h1⟩ := nr2 _ e.symm; have h4 := hf2 h3 k h1; have h2 := hsb (by rw [← HLL.out]; exact h0) k hk; omega)
  have q1 : decide (((1 + LL : Nat) : Int) < 0) = false := decide_eq_false (by omega)
  have HM : Hid (∀ W, NumsAt W (.slice p2 LL c2) (marksN 1 LL) → Calls Tryz.prog 17 #[.slice p2 LL c2, .int .i64 1] W fun e w' => e = .returned (.int .i64 ((1 + LL : Nat) : Int)) ∧ Ext W w') := fun W hW => heldNums _ LL 1 W hW (by omega) (by omega) (by omega)
  obtain ⟨ML, hML⟩ : ∃ ML : Nat, 1 + LL = ML := ⟨_, rfl⟩
  rw [hML] at q1 HM ⊢
  clear G10 S9 T9 B9 X9 hML
  go_wp2_with fail
  refine (HM.out w10 M10).mono ?_
  rintro e w11 ⟨rfl, e11⟩
  have X11 := xt X10 e11
  have B11 := B10.later e11
  have S11 := S10.later e11
  have M11 := M10.later e11
  obtain ⟨a0, a1, a2⟩ := Vec.three B11
  clear B10 S10 M10 X10 e11
  go_wp2_with fail
  clear a0 a1 a2
  refine (TG.out w11 X11).mono ?_
  rintro e w12 ⟨⟨g3, rfl, _, O12⟩, e12⟩
  have X12 := xt X11 e12
  have S12 := S11.later e12
  have M12 := M11.later e12
  clear S11 M11 X11 e12 B11
  go_wp2_with fail
  refine (CI.out w12 g3 X12 O12).mono ?_
  rintro e w13 ⟨s3, rfl, N13, _, e13⟩
  obtain ⟨p3, c3, rfl⟩ : ∃ p n, s3 = .slice p RR.length n := by obtain ⟨p, n, h, _⟩ := N13; exact ⟨p, n, h⟩
  rw [HLL.out] at N13 ⊢
  have X13 := xt X12 e13
  have S13 := S12.later e13
  have M13 := M12.later e13
  clear S12 M12 X12 e13 O12
  go_wp2_with fail
  refine (EN.out w13 _ _ N13 S13).mono ?_
  rintro e w14 ⟨rfl, e14⟩
  have X14 := xt X13 e14
  have M14 := M13.later e14
  clear S13 M13 X13 e14 N13
  go_wp2_with fail
  refine (HM.out w14 M14).mono ?_
  rintro e w15 ⟨rfl, e15⟩
  have X15 := xt X14 e15
  clear M14 X14 e15
  go_wp2_with fail
  go_ret
  exact ⟨rfl, X15⟩

end Go.Proofs.YtlofnhhoopefcaaGreatDoor

