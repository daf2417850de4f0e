/-
  Chapter 11: the law of SortRows.
-/
import Derived.Test.YtlofnhhoopefcaaGreatDoorQu
import Derived.Test.YtlofnhhoopefcaaGreatDoorQv
import Derived.Test.YtlofnhhoopefcaaGreatDoorQj
namespace Go.Proofs.YtlofnhhoopefcaaGreatDoor
open Go.RowKit

set_option maxRecDepth 8000 in
set_option maxHeartbeats 4000000 in
theorem lawSort (r c : Int) (v kv : Value) (l : List VT) (ks : List YT) (w : World) (h : ValsIn w v l) (hk : SortKeysIn w kv ks) (hl : l.length ≤ 9223372036854775807) (ht : ∀ e ∈ l, e.t.length ≤ 9223372036854775807) (hd : ∀ e ∈ l, -9223372036854775808 ≤ e.d ∧ e.d ≤ 9223372036854775807) (hkl : ks.length ≤ 9223372036854775807) (hT : Tens w) (hE : ErrTab w) :
  Calls Tryz.prog 3 #[grV r c v, kv] w fun e w' => e = .returned (.bool true) ∧ Ext w w' := by
 have X0 := x1 w (.cells #[.int .i64 r, .int .i64 c, v] 24)
 have B0 := vec_made w [.int .i64 r, .int .i64 c, v] 24
 change Vec (w.alloc (.cells #[.int .i64 r, .int .i64 c, v] 24)) _ _ at B0
 obtain ⟨u0, hu0⟩ : ∃ u, w.alloc (.cells #[.int .i64 r, .int .i64 c, v] 24) = u := ⟨_, rfl⟩
 rw [hu0] at X0 B0
 obtain ⟨a0, a1, a2⟩ := Vec.three B0
 obtain ⟨pv, nv, hv⟩ : ∃ p n, v = .slice p l.length n := by obtain ⟨p, n, h, _⟩ := h; exact ⟨p, n, h⟩
 obtain ⟨pk, nk, hkv⟩ : ∃ p n, kv = .slice p ks.length n := by obtain ⟨p, n, h, _⟩ := hk; exact ⟨p, n, h⟩
 go_enter Tryz.func3, Tryz.ntmps3
 subst hv
 subst hkv
 go_wp2_with fail
 clear a0 a1 a2 hu0
 refine (szGridL r c _ l 1048576 u0 (h.later X0) (by omega) (by omega) hl ht).mono ?_
 rintro e w1 ⟨⟨z, rfl, z0, z1, hz⟩, e1⟩
 have X1 := xt X0 e1
 by_cases hn : z < 0
 ·
  clear hz B0 hT hE
  go_wp2_with fail
  go_ret
  exact ⟨rfl, X1⟩
 obtain ⟨hl1, ht1⟩ := hz (by omega)
 have hl2 : l.length ≤ 1048576 := by omega
 have hr : ∀ e ∈ l, e.room := fun e he => ⟨by have := ht1 e he; omega, hd e he⟩
 have hz9 : decide (z < 0) = false := by simpa using hn
 clear hl ht hl1 ht1 hz hd
 go_wp2_with fail
 refine (szSortKeys _ ks z w1 (hk.later X1) (by omega) (by omega) hkl).mono ?_
 rintro e w1' ⟨⟨y, rfl, y0, y1, hy⟩, rfl⟩
 by_cases hn2 : y < 0
 ·
  clear hy B0 hT hE
  go_wp2_with fail
  go_ret
  exact ⟨rfl, X1⟩
 have hk2 : ks.length ≤ 1048576 := by have := hy (by omega); omega
 have hy9 : decide (y < 0) = false := by simpa using hn2
 obtain ⟨NN, hNN⟩ : ∃ NN, l.length = NN := ⟨_, rfl⟩
 obtain ⟨KN, hKN⟩ : ∃ KN, ks.length = KN := ⟨_, rfl⟩
 have HV : Hid (ValsIn w (.slice pv NN nv) l ∧ SortKeysIn w (.slice pk KN nk) ks) := by rw [← hNN, ← hKN]; exact ⟨h, hk⟩
 have TG : Hid (∀ W, Ext w W → Calls Tryz.prog 8 #[grV r c (.slice pv NN nv)] W fun e w' => (∃ g, e = .returned (grV r c (.slice (some ⟨g, 0, none⟩) NN NN)) ∧ W.heap.size ≤ g ∧ OwnV w' g l) ∧ Ext W w') := fun W hW => by have := toGridL r c _ l W (HV.out.1.later hW) (by omega); rw [hNN] at this; exact this
 have TK : Hid (∀ W, Ext w W → Calls Tryz.prog 9 #[.slice pk KN nk] W fun e w' => (∃ g, e = .returned (.slice (some ⟨g, 0, none⟩) KN KN) ∧ W.heap.size ≤ g ∧ OwnY w' g ks) ∧ Ext W w') := fun W hW => by have := toSortKeys _ ks W (HV.out.2.later hW) (by omega); rw [hKN] at this; exact this
 obtain ⟨RR, hRR⟩ : ∃ RR, (∃ S, SortOK r c l ks S) → SortOK r c l ks RR := ⟨Classical.epsilon (SortOK r c l ks), fun hx => Classical.epsilon_spec hx⟩
 have HRR : Hid (∀ S, SortOK r c l ks S → S = RR) := fun S hS => hS.one (hRR ⟨S, hS⟩)
 have CS : Hid (∀ W g g', OwnV W g l → OwnY W g' ks → Calls Tryz.prog 7 #[grV r c (.slice (some ⟨g, 0, none⟩) NN NN), .slice (some ⟨g', 0, none⟩) KN KN] W fun e w' => ∃ ans, e = .returned ans ∧ AnsI W w' ans RR ∧ RR.length ≤ 2000) := fun W g g' O O' => by
  refine (sortS r c _ _ l ks W (by have := O.vals; rw [hNN] at this; exact this) (by have := O'.slice; rw [hKN] at this; exact this) hl2 hk2 hr).mono ?_
  rintro e w' ⟨ans, S, he, hA, hS⟩
  obtain rfl := HRR.out S hS
  exact ⟨ans, he, hA, hS.len⟩
 have CI : Hid (∀ W g g', Ext w W → OwnV W g l → OwnY W g' ks → Calls Tryz.prog 10 #[grV r c (.slice (some ⟨g, 0, none⟩) NN NN), .slice (some ⟨g', 0, none⟩) KN KN] W fun e w' => ∃ ans, e = .returned ans ∧ AnsI W w' ans RR) := fun W g g' hW O O' => by
  refine (sortI r c _ _ l ks W (by have := O.vals; rw [hNN] at this; exact this) (by have := O'.slice; rw [hKN] at this; exact this) hl2 hk2 hr (hT.later hW) (hE.later hW)).mono ?_
  rintro e w' ⟨ans, S, he, hA, hS⟩
  obtain rfl := HRR.out S hS
  exact ⟨ans, he, hA⟩
 have EG : Hid (∀ W g g', OwnV W g l → OwnV W g' l → Calls Tryz.prog 12 #[grV r c (.slice (some ⟨g, 0, none⟩) NN NN), grV r c (.slice (some ⟨g', 0, none⟩) NN NN)] W fun e w' => e = .returned (.bool true) ∧ Ext W w') := fun W g g' O O' => eqGridL r c _ _ l W (by have := O.vals; rw [hNN] at this; exact this) (by have := O'.vals; rw [hNN] at this; exact this) (by omega)
 have EK : Hid (∀ W g g', OwnY W g ks → OwnY W g' ks → Calls Tryz.prog 13 #[.slice (some ⟨g, 0, none⟩) KN KN, .slice (some ⟨g', 0, none⟩) KN KN] W fun e w' => e = .returned (.bool true) ∧ Ext W w') := fun W g g' O O' => eqSortKeys _ _ ks W (by have := O.slice; rw [hKN] at this; exact this) (by have := O'.slice; rw [hKN] at this; exact this) (by omega)
 have HNN : Hid (l.length = NN) := hNN
 have HKN : Hid (ks.length = KN) := hKN
 have B1 := B0.later e1
 rw [hNN] at B1 hl2 ⊢
 rw [hKN] at hk2 ⊢
 obtain ⟨a0, a1, a2⟩ := Vec.three B1
 clear hT hE h hk hr B0 X0 e1 hNN hKN hy hkl hRR HRR
 go_wp2_with fail
 clear a0 a1 a2
 refine (TG.out w1' X1).mono ?_
 rintro e w2 ⟨⟨g1, rfl, _, O1⟩, e2⟩
 have X2 := xt X1 e2
 have B2 := B1.later e2
 clear B1 X1 e2
 go_wp2_with fail
 refine (TK.out w2 X2).mono ?_
 rintro e w2b ⟨⟨g1b, rfl, _, O1b⟩, e2b⟩
 have X2b := xt X2 e2b
 have B2b := B2.later e2b
 have O1c := O1.later e2b
 clear B2 X2 O1 e2b
 go_wp2_with fail
 refine (CS.out w2b g1 g1b O1c O1b).mono ?_
 rintro e w3 ⟨s1, rfl, ⟨S1, _, e3⟩, rl⟩
 obtain ⟨ps, cs, rfl⟩ : ∃ p n, s1 = .slice p RR.length n := by obtain ⟨p, n, h, _⟩ := S1; exact ⟨p, n, h⟩
 have X3 := xt X2b e3
 have B3 := B2b.later e3
 obtain ⟨LL, hLL⟩ : ∃ LL, RR.length = LL := ⟨_, rfl⟩
 have HLL : Hid (RR.length = LL) := hLL
 rw [hLL] at S1 rl ⊢
 have hsb : 0 < LL → ∀ k, (Value.slice ps LL cs).ownBlock = some k → k < w3.heap.size := fun h0 => S1.lt (by rw [HLL.out]; exact h0)
 obtain ⟨a0, a1, a2⟩ := Vec.three B3
 clear B2b X2b e3 O1c O1b hLL
 go_wp2_with fail
 clear a0 a1 a2
 refine (TG.out w3 X3).mono ?_
 rintro e w4 ⟨⟨g2, rfl, hg2, O2⟩, e4⟩
 have X4 := xt X3 e4
 have hg2w : w.heap.size < g2 := Nat.lt_of_lt_of_le (vec_lt B3 (by simp)) hg2
 have w34 := e4.size
 have B4 := B3.later e4
 have S4 := S1.later e4
 -- the box of the program's grid
 have D4 := vec_made w4 [.int .i64 r, .int .i64 c, .slice (some ⟨g2, 0, none⟩) NN NN] 32
 change Vec (w4.alloc (.cells #[.int .i64 r, .int .i64 c, .slice (some ⟨g2, 0, none⟩) NN NN] 32)) _ _ at D4
 have E5 := x1 w4 (.cells #[.int .i64 r, .int .i64 c, .slice (some ⟨g2, 0, none⟩) NN NN] 32)
 go_wp2_with fail
 obtain ⟨u4, hu4⟩ : ∃ u, w4.alloc (.cells #[.int .i64 r, .int .i64 c, .slice (some ⟨g2, 0, none⟩) NN NN] 32) = u := ⟨_, rfl⟩
 have S4s : u4.heap.size = w4.heap.size + 1 := by rw [← hu4, World.size_alloc]
 rw [hu4] at D4 E5 ⊢
 have g2l : g2 < w4.heap.size ∨ NN = 0 := by
  rcases Nat.eq_zero_or_pos NN with h | h
  ·
   exact Or.inr h
  ·
   left
   obtain ⟨q, hq⟩ : ∃ q, l[0]? = some q := ⟨_, List.getElem?_eq_getElem (by rw [HNN.out]; exact h)⟩
   exact World.block_lt_of_cell? _ _ (O2 0 q hq 0 _ rfl).1
 have XU := xt X4 E5
 refine (TK.out u4 XU).mono ?_
 rintro e w4b ⟨⟨g2b, rfl, hg2b, O2b⟩, e4b⟩
 have D4b := D4.later e4b
 have g2bl : g2b < w4b.heap.size ∨ KN = 0 := by
  rcases Nat.eq_zero_or_pos KN with h | h
  ·
   exact Or.inr h
  ·
   left
   obtain ⟨q, hq⟩ : ∃ q, ks[0]? = some q := ⟨_, List.getElem?_eq_getElem (by rw [HKN.out]; exact h)⟩
   exact World.block_lt_of_cell? _ _ (O2b 0 q hq 0 _ rfl).1
 obtain ⟨d0, d1, d2⟩ := Vec.three D4b
 have w4bs := e4b.size
 clear hu4
 go_wp2_with fail
 clear d0 d1 d2
 have XUb := xt XU e4b
 refine (CI.out w4b g2 g2b XUb (O2.later (xt E5 e4b)) O2b).mono ?_
 rintro e w5 ⟨s2, rfl, S2, F2, e5⟩
 obtain ⟨p2, c2, rfl⟩ : ∃ p n, s2 = .slice p RR.length n := by obtain ⟨p, n, h, _⟩ := S2; exact ⟨p, n, h⟩
 rw [HLL.out] at S2 F2 ⊢
 have E4w := xt E5 (xt e4b e5)
 have X5 := xt X4 E4w
 have B5 := B4.later E4w
 have D5 := D4b.later e5
 have S5 := S4.later E4w
 have O5 := O2.later E4w
 have P5 := O2b.later e5
 have hf2 : 0 < LL → ∀ g, (Value.slice p2 LL c2).ownBlock = some g → w4b.heap.size ≤ g := F2
 have EN : Hid (∀ W u v, NumsAt W u RR → NumsAt W v RR → Calls Tryz.prog 11 #[u, v] W fun e w' => e = .returned (.bool true) ∧ Ext W w') := fun W u v hu hv => eqNums u v RR W hu hv (by rw [HLL.out]; omega)
 have w03 := X3.size
 clear B4 D4 D4b S4 O2 O2b F2 e5 E5 X4 S1 B3 X3 e4 e4b XU XUb E4w
 go_wp2_with fail
 refine (EN.out w5 _ _ S2 S5).mono ?_
 rintro e w6 ⟨rfl, e6⟩
 have X6 := xt X5 e6
 have B6 := B5.later e6
 have D6 := D5.later e6
 have S6 := S5.later e6
 have T6 := S2.later e6
 have O6 := O5.later e6
 have P6 := P5.later e6
 clear B5 D5 S5 S2 O5 P5 e6 X5
 go_wp2_with fail
 refine wp_region_letters (fun lx : Nat → Value => { tmps := #[grV r c (Value.slice pv NN nv), Value.slice pk KN nk, Value.pointer (some ⟨w.heap.size, 0, none⟩), undef, Value.bool false, Value.int .i64 y, Value.slice ps LL cs, Value.pointer (some ⟨w4.heap.size, 0, none⟩), Value.slice (some ⟨g2b, 0, none⟩) KN KN, Value.slice p2 LL c2, undef, undef, undef, undef, Value.agg #[Value.int .i64 r, Value.int .i64 c, Value.slice pv NN nv], Value.int .i64 1048576, Value.int .i64 z, Value.int .i64 z, Value.bool false, Value.slice pk KN nk, Value.int .i64 z, Value.int .i64 y, Value.int .i64 y, Value.bool false, Value.agg #[Value.int .i64 r, Value.int .i64 c, Value.slice pv NN nv], grV r c (Value.slice (some ⟨g1, 0, none⟩) NN NN), Value.slice pk KN nk, Value.slice (some ⟨g1b, 0, none⟩) KN KN, Value.slice ps LL cs, Value.agg #[Value.int .i64 r, Value.int .i64 c, Value.slice pv NN nv], grV r c (Value.slice (some ⟨g2, 0, none⟩) NN NN), Value.slice pk KN nk, Value.slice (some ⟨g2b, 0, none⟩) KN KN, Value.agg #[Value.int .i64 r, Value.int .i64 c, Value.slice (some ⟨g2, 0, none⟩) NN NN], Value.slice (some ⟨g2b, 0, none⟩) KN KN, Value.slice p2 LL c2, Value.slice p2 LL c2, Value.slice ps LL cs, Value.bool true, Value.bool false, lx 40, lx 41, lx 42, lx 43, lx 44, undef, undef, undef, undef, undef, undef, undef, undef, undef, undef, undef, undef, undef, undef, undef, undef, undef, undef, undef, undef, undef, undef, undef, undef, undef, undef, undef, undef, undef, undef, undef, undef, undef, undef, undef, undef, undef, undef, undef, undef, undef, undef, undef, undef, undef, undef, undef], defers := [] }) (fun L lx lw => Hid (Ext w6 lw ∧ Vec lw (w.heap.size) [.int .i64 r, .int .i64 c, .slice pv NN nv] ∧ Vec lw (w4.heap.size) [.int .i64 r, .int .i64 c, .slice (some ⟨g2, 0, none⟩) NN NN] ∧ OwnV lw g2 l ∧ NumsAt lw (.slice ps LL cs) RR ∧ NumsAt lw (.slice p2 LL c2) RR ∧ OwnY lw g2b ks ∧ (L 0 = true → lx 40 = grV r c (.slice (some ⟨g2, 0, none⟩) NN NN)) ∧ (L 1 = true → lx 41 = grV r c (.slice pv NN nv)) ∧ (L 2 = true → ∃ gg, lx 42 = grV r c (.slice (some ⟨gg, 0, none⟩) NN NN) ∧ OwnV lw gg l) ∧ (L 3 = true → lx 43 = .bool true) ∧ (L 4 = true → lx 44 = .bool false))) rfl (by kernel_rfl) (fun _ => undef) rfl ?_ ?_ ?_
 ·
  exact ⟨xd (xr w6), B6.later (xd (xr _)), D6.later (xd (xr _)), O6.later (xd (xr _)), S6.later (xd (xr _)), T6.later (xd (xr _)), P6.later (xd (xr _)), (fun h => by cases h), (fun h => by cases h), (fun h => by cases h), (fun h => by cases h), (fun h => by cases h)⟩
 ·
  intro L lx wl i o K hK ho hL haf hI
  obtain ⟨X, f0, f1, f2, f3, f4, f5, f6, f7, f8, f9, f10⟩ := hI.out
  match i, ho, hL, haf, hK with
  | 0, ho, hL, haf, hK =>
   cases ho
   (try dsimp only)
   have a0 := (f1 0 _ rfl).1
   have a1 := (f1 1 _ rfl).1
   have a2 := (f1 2 _ rfl).1
   go_wp2_with fail
   exact hK (fun jj => if jj = 40 then grV r c (.slice (some ⟨g2, 0, none⟩) NN NN) else lx jj) _ ⟨X, f0, f1, f2, f3, f4, f5, (fun _ => rfl), f7, f8, f9, f10⟩
  | 1, ho, hL, haf, hK =>
   cases ho
   (try dsimp only)
   have a0 := (f0 0 _ rfl).1
   have a1 := (f0 1 _ rfl).1
   have a2 := (f0 2 _ rfl).1
   go_wp2_with fail
   exact hK (fun jj => if jj = 41 then grV r c (.slice pv NN nv) else lx jj) _ ⟨X, f0, f1, f2, f3, f4, f5, f6, (fun _ => rfl), f8, f9, f10⟩
  | 2, ho, hL, haf, hK =>
   cases ho
   (try dsimp only)
   rw [f7 (haf ⟨1, .data⟩ (by simp) rfl)]
   go_wp2_with fail
   refine (TG.out wl (xt X6 X)).mono ?_
   rintro rr w' ⟨⟨gg, rfl, hgg, OO⟩, E⟩
   go_wp2_with fail
   exact hK (fun jj => if jj = 42 then grV r c (.slice (some ⟨gg, 0, none⟩) NN NN) else if jj = 41 then grV r c (.slice pv NN nv) else lx jj) _ ⟨xt X E, (f0.later E), (f1.later E), (f2.later E), (f3.later E), (f4.later E), (f5.later E), (f6), (fun _ => rfl), (fun _ => ⟨gg, rfl, OO⟩), (f9), (f10)⟩
  | 3, ho, hL, haf, hK =>
   cases ho
   (try dsimp only)
   obtain ⟨gg, q1, OO⟩ := f8 (haf ⟨2, .data⟩ (by simp) rfl)
   rw [f6 (haf ⟨0, .data⟩ (by simp) rfl), q1]
   go_wp2_with fail
   refine (EG.out wl g2 gg f2 OO).mono ?_
   rintro rr w' ⟨rfl, E⟩
   go_wp2_with fail
   exact hK (fun jj => if jj = 43 then .bool true else if jj = 40 then grV r c (.slice (some ⟨g2, 0, none⟩) NN NN) else if jj = 42 then grV r c (.slice (some ⟨gg, 0, none⟩) NN NN) else lx jj) _ ⟨xt X E, (f0.later E), (f1.later E), (f2.later E), (f3.later E), (f4.later E), (f5.later E), (fun _ => rfl), (f7), (fun _ => ⟨gg, rfl, OO.later E⟩), (fun _ => rfl), (f10)⟩
  | 4, ho, hL, haf, hK =>
   cases ho
   (try dsimp only)
   rw [f9 (haf ⟨3, .data⟩ (by simp) rfl)]
   go_wp2_with fail
   exact hK (fun jj => if jj = 44 then .bool false else if jj = 43 then .bool true else lx jj) _ ⟨X, f0, f1, f2, f3, f4, f5, f6, f7, f8, (fun _ => rfl), (fun _ => rfl)⟩
  | k + 5, ho, _, _, _ => simp at ho
 ·
  intro L lx w7 hall hI
  obtain ⟨XR, f0, f1, f2, f3, f4, f5, f6, f7, f8, f9, f10⟩ := hI.out
  clear hI
  obtain ⟨gg, q5, _⟩ := f8 (hall 2 (by simp))
  (try dsimp only)
  rw [f6 (hall 0 (by simp)), f7 (hall 1 (by simp)), q5, f9 (hall 3 (by simp)), f10 (hall 4 (by simp))]
  clear hall f6 f7 f8 f9 f10 q5
  have X7 := xt X6 XR
  have B7 := f0
  have D7 := f1
  have O7 := f2
  have S7 := f3
  have T7 := f4
  have P7 := f5
  clear f0 f1 f2 f3 f4 f5
  clear B6 D6 O6 S6 T6 P6 X6 XR
  go_wp2_with fail
  refine (TK.out w7 X7).mono ?_
  rintro e w7b ⟨⟨g3b, rfl, _, P7b⟩, e7b⟩
  have X7b := xt X7 e7b
  go_wp2_with fail
  refine (EK.out w7b g2b g3b (P7.later e7b) P7b).mono ?_
  rintro e w7c ⟨rfl, e7c⟩
  have e7d := xt e7b e7c
  have X7c := xt X7 e7d
  have B7c := B7.later e7d
  have D7c := D7.later e7d
  have O7c := O7.later e7d
  have S7c := S7.later e7d
  have T7c := T7.later e7d
  have P7c := P7.later e7d
  clear B7 D7 O7 S7 T7 P7 P7b X7 X7b e7b e7c e7d
  have RA : RowAt w7c (.slice (some ⟨g2, 0, none⟩) NN NN) NN (flatV l) := ownV_rowAt O7c HNN.out
  obtain ⟨d0, d1, d2⟩ := Vec.three D7c
  go_wp2_with fail
  clear d0 d1 d2
  -- the marks of what was handed in
  refine (markGridL r c _ NN (flatV l) 1 w7c RA hl2 (by omega) (by omega)).mono ?_
  rintro e w8 ⟨rfl, _, G8⟩
  have nr : ∀ k, (if NN = 0 then none else (Value.slice (some ⟨g2, 0, none⟩) NN NN).ownBlock) = some k → 0 < NN ∧ k = g2 := fun k hk => by
   by_cases h0 : NN = 0
   ·
    rw [if_pos h0] at hk; cases hk
   ·
    rw [if_neg h0] at hk
    exact ⟨by omega, (by simpa [Value.ownBlock] using hk.symm)⟩
  have X8 : Ext w w8 := X7c.grown G8 X7c.size (fun k hk => by obtain ⟨_, rfl⟩ := nr k hk; omega)
  have B8 : Vec w8 w.heap.size [.int .i64 r, .int .i64 c, .slice pv NN nv] := vec_keep B7c G8 (fun e => by have := (nr _ e.symm).2; omega)
  have S8 : NumsAt w8 (.slice ps LL cs) RR := S7c.keep G8 (fun k h0 hk e => by have h1 := (nr _ e.symm).2; have h2 := hsb (by rw [← HLL.out]; exact h0) k hk; omega)
  have T8 : NumsAt w8 (.slice p2 LL c2) RR := T7c.keep G8 (fun k h0 hk e => by have h1 := (nr _ e.symm).2; have h3 := (nr _ e.symm).1; have h2 := hf2 (by rw [← HLL.out]; exact h0) k hk; omega)
  have TH8 : There w8 g2b (KN * 2) := by
   have t7 := P7c.there
   rw [HKN.out] at t7
   intro j hj
   have hlt : g2b < w7c.heap.size := by
    obtain ⟨v9, hv9⟩ := Option.isSome_iff_exists.1 (t7 j hj).1
    exact World.block_lt_of_cell? _ _ hv9
   have hb := G8.block g2b hlt (fun e => by have h1 := nr _ e.symm; rcases g2l with h | h <;> omega)
   obtain ⟨q1, q2⟩ := t7 j hj
   refine ⟨?_, ?_⟩
   ·
    unfold World.cell? at q1 ⊢
    rw [hb]; exact q1
   ·
    unfold World.frozen? at q2 ⊢
    rw [hb]; exact q2
  obtain ⟨KK, hKK⟩ : ∃ KK : Nat, 1 + NN * 5 = KK := ⟨_, rfl⟩
  have kkb : 1 ≤ KK ∧ KK ≤ 10000000 := by omega
  rw [hKK]
  have CM := markSortKeys g2b KN KK w8 TH8 hk2 kkb.1 kkb.2
  obtain ⟨KL, hKL⟩ : ∃ KL : Nat, KK + KN * 2 = KL := ⟨_, rfl⟩
  rw [hKL] at CM
  have k0 : decide ((KL : Int) < 0) = false := decide_eq_false (by omega)
  clear G8 S7c T7c B7c D7c O7c P7c RA hKK hKL TH8
  go_wp2_with fail
  refine CM.mono ?_
  rintro e w8b ⟨rfl, G8b⟩
  have g2w : w.heap.size < g2b := by omega
  have nr3 : ∀ k, (if KN = 0 then none else some g2b) = some k → 0 < KN ∧ k = g2b := fun k hk => by
   by_cases h0 : KN = 0
   ·
    rw [if_pos h0] at hk; cases hk
   ·
    rw [if_neg h0] at hk
    exact ⟨by omega, (Option.some.inj hk).symm⟩
  have X8b : Ext w w8b := X8.grown G8b X8.size (fun k hk => by obtain ⟨_, rfl⟩ := nr3 k hk; omega)
  have B8b : Vec w8b w.heap.size [.int .i64 r, .int .i64 c, .slice pv NN nv] := vec_keep B8 G8b (fun e => by have := (nr3 _ e.symm).2; omega)
  have S8b : NumsAt w8b (.slice ps LL cs) RR := S8.keep G8b (fun k h0 hk e => by have h1 := (nr3 _ e.symm).2; have h2 := hsb (by rw [← HLL.out]; exact h0) k hk; omega)
  have T8b : NumsAt w8b (.slice p2 LL c2) RR := T8.keep G8b (fun k h0 hk e => by have h1 := (nr3 _ e.symm).2; have h3 := (nr3 _ e.symm).1; have h2 := hf2 (by rw [← HLL.out]; exact h0) k hk; omega)
  clear CM G8b S8 T8 B8 X8
  go_wp2_with fail
  refine (EN.out w8b _ _ T8b S8b).mono ?_
  rintro e w9 ⟨rfl, e9⟩
  have X9 := xt X8b e9
  have B9 := B8b.later e9
  have S9 := S8b.later e9
  have T9 := T8b.later e9
  clear B8b S8b T8b X8b e9
  go_wp2_with fail
  -- the marks of the answer
  refine (markNums _ RR LL 1 w9 T9 HLL.out (by omega) (by omega) (by omega)).mono ?_
  rintro e w10 ⟨rfl, M10, G10⟩
  have nr2 : ∀ k, (if LL = 0 then none else (Value.slice p2 LL c2).ownBlock) = some k → 0 < LL ∧ (Value.slice p2 LL c2).ownBlock = some k := fun k hk => row_own hk
  have X10 : Ext w w10 := X9.grown G10 X9.size (fun k hk => by obtain ⟨h0, h1⟩ := nr2 k hk; have := hf2 h0 k h1; omega)
  have B10 : Vec w10 w.heap.size [.int .i64 r, .int .i64 c, .slice pv NN nv] := vec_keep B9 G10 (fun e => by obtain ⟨h0, h1⟩ := nr2 _ e.symm; have := hf2 h0 _ h1; omega)
  have S10 : NumsAt w10 (.slice ps LL cs) RR := S9.keep G10 (fun k h0 hk e => by obtain ⟨h3, h1⟩ := nr2 _ e.symm; have h4 := hf2 h3 k h1; have h2 := hsb (by rw [← HLL.out]; exact h0) k hk; omega)
  have q1 : decide (((1 + LL : Nat) : Int) < 0) = false := decide_eq_false (by omega)
  have HM : Hid (∀ W, NumsAt W (.slice p2 LL c2) (marksN 1 LL) → Calls Tryz.prog 17 #[.slice p2 LL c2, .int .i64 1] W fun e w' => e = .returned (.int .i64 ((1 + LL : Nat) : Int)) ∧ Ext W w') := fun W hW => heldNums _ LL 1 W hW (by omega) (by omega) (by omega)
  obtain ⟨ML, hML⟩ : ∃ ML : Nat, 1 + LL = ML := ⟨_, rfl⟩
  rw [hML] at q1 HM ⊢
  clear G10 S9 T9 B9 X9 hML
  go_wp2_with fail
  refine (HM.out w10 M10).mono ?_
  rintro e w11 ⟨rfl, e11⟩
  have X11 := xt X10 e11
  have B11 := B10.later e11
  have S11 := S10.later e11
  have M11 := M10.later e11
  obtain ⟨a0, a1, a2⟩ := Vec.three B11
  clear B10 S10 M10 X10 e11
  go_wp2_with fail
  clear a0 a1 a2
  refine (TG.out w11 X11).mono ?_
  rintro e w12 ⟨⟨g3, rfl, _, O12⟩, e12⟩
  have X12 := xt X11 e12
  go_wp2_with fail
  refine (TK.out w12 X12).mono ?_
  rintro e w12b ⟨⟨g3c, rfl, _, P12⟩, e12b⟩
  have X12b := xt X12 e12b
  have S12 := S11.later (xt e12 e12b)
  have M12 := M11.later (xt e12 e12b)
  have O12b := O12.later e12b
  clear S11 M11 X11 e12 B11 O12 X12 e12b
  go_wp2_with fail
  refine (CI.out w12b g3 g3c X12b O12b P12).mono ?_
  rintro e w13 ⟨s3, rfl, N13, _, e13⟩
  obtain ⟨p3, c3, rfl⟩ : ∃ p n, s3 = .slice p RR.length n := by obtain ⟨p, n, h, _⟩ := N13; exact ⟨p, n, h⟩
  rw [HLL.out] at N13 ⊢
  have X13 := xt X12b e13
  have S13 := S12.later e13
  have M13 := M12.later e13
  clear S12 M12 X12b e13 O12b P12
  go_wp2_with fail
  refine (EN.out w13 _ _ N13 S13).mono ?_
  rintro e w14 ⟨rfl, e14⟩
  have X14 := xt X13 e14
  have M14 := M13.later e14
  clear S13 M13 X13 e14 N13
  go_wp2_with fail
  refine (HM.out w14 M14).mono ?_
  rintro e w15 ⟨rfl, e15⟩
  have X15 := xt X14 e15
  clear M14 X14 e15
  go_wp2_with fail
  go_ret
  exact ⟨rfl, X15⟩

end Go.Proofs.YtlofnhhoopefcaaGreatDoor

