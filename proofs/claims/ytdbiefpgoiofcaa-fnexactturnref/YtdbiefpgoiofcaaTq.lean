/-
  The program's TurnRef; FnExactTurnRef and FnExactTurnArea, walked.
-/
import Derived.Test.YtdbiefpgoiofcaaTk
import Derived.Test.YtdbiefpgoiofcaaTm
namespace Go.Proofs.Ytdbiefpgoiofcaa
open Go.RowKit

/-- By what has come up, in a law's region: both arguments handed over, the function called, its two answers kept. -/
def LwI (sA sB sC sD sR sM s0 s1 sX sO : Nat) (VT V2 V0 : Value) (q : Bool) (cs zs : List Value) (w3 : World) (L : Nat → Bool) (x : Nat → Value) (w : World) : Prop :=
  Ext w3 w ∧ (L 0 = true → x sA = VT) ∧ (L 1 = true → x sB = VT) ∧ (L 2 = true → x sC = V2) ∧ (L 3 = true → x sD = V2) ∧ (L 4 = true → x sR = .tuple #[V0, .bool q]) ∧ (L 5 = true → x sM = .tuple #[V0, .bool q]) ∧ (L 6 = true → x s0 = V0) ∧ (L 7 = true → x s1 = .bool q) ∧
  (L 8 = true → ∃ b, x sX = .pointer (some ⟨b, 0, none⟩) ∧ w3.heap.size ≤ b ∧ (L 9 = true → Vec w b cs) ∧ (L 9 = false → Vec w b zs)) ∧ True ∧ (L 10 = true → x sO = .bool q) ∧ (L 9 = true → L 8 = true)
theorem LwI.later {sA sB sC sD sR sM s0 s1 sX sO : Nat} {VT V2 V0 : Value} {q : Bool} {cs zs : List Value} {w3 : World} {L : Nat → Bool} {x : Nat → Value} {w w' : World} (h : LwI sA sB sC sD sR sM s0 s1 sX sO VT V2 V0 q cs zs w3 L x w) (hx : Ext w w') : LwI sA sB sC sD sR sM s0 s1 sX sO VT V2 V0 q cs zs w3 L x w' := by
  obtain ⟨X, f0, f1, f2, f3, f4, f5, f6, f7, f8, f9, f10, f11⟩ := h
  refine ⟨xt X hx, f0, f1, f2, f3, f4, f5, f6, f7, fun h => ?_, f9, f10, f11⟩
  obtain ⟨b, h1, h2, h3, h4⟩ := f8 h
  exact ⟨b, h1, h2, fun h => (h3 h).later hx, fun h => (h4 h).later hx⟩
theorem LwI.start {sA sB sC sD sR sM s0 s1 sX sO : Nat} {VT V2 V0 : Value} {q : Bool} {cs zs : List Value} {w3 : World} {x : Nat → Value} : LwI sA sB sC sD sR sM s0 s1 sX sO VT V2 V0 q cs zs w3 (fun _ => false) x { w3 with drawn := w3.drawn + 1 } := by
  refine ⟨xd (xr _), ?_, ?_, ?_, ?_, ?_, ?_, ?_, ?_, ?_, trivial, ?_, ?_⟩
  all_goals (intro h; cases h)

theorem ta_tr (k a m : Int) (d : Bool) (r c : Int) (f g : Bool) : ∃ n1 n2 n3 n4 n5 n6 n7 n8 q, taB k a m d r c f g r c f g = .tuple #[arV n1 n2 n3 n4 n5 n6 n7 n8, .bool q] ∧ trB k a m d r c f g = .tuple #[refV n1 n2 n3 n4, .bool q] := by
  unfold taB trB
  have e : goodAB r c r c = goodRB r c := by unfold goodAB; simp
  rw [e]
  by_cases hg : goodTB k a m d = true ∧ goodRB r c = true
  · rw [if_pos hg, if_pos hg]
    obtain ⟨hk, hm, ha, hd⟩ := goodTB_bd hg.1
    obtain ⟨hr, hc⟩ := goodRB_bd hg.2
    have key : ∀ (l n : Int), limT k = l → 1 ≤ n → n ≤ l → (tN l a m d n = 0 ∧ stF l a m d (lo n n) (hi n n) = 0) ∨ (tN l a m d n ≠ 0 ∧ stF l a m d (lo n n) (hi n n) = tN l a m d n ∧ stT l a m d (lo n n) (hi n n) = tN l a m d n) := by
      intro l n hl h1 h2
      rw [hl] at ha hd
      have e1 : lo n n = n := by have := lo_is n n; omega
      have e2 : hi n n = n := by have := hi_is n n; omega
      rw [e1, e2]
      obtain ⟨s1, s2⟩ := st_step hm.1 ha.1 ha.2 hd h1 (Int.le_refl n) h2
      obtain ⟨t1, t2⟩ := st_start hm.1 ha.1 ha.2 hd h1 h2
      have ti := tN_is l a m d n
      have t0 : 0 ≤ tN l a m d n := by cases d <;> simp at ti <;> omega
      by_cases hz : 0 < tN l a m d n
      · obtain ⟨u1, u2⟩ := s1 hz
        rw [t1, if_pos rfl] at u1
        exact .inr ⟨by omega, u1, u2⟩
      · obtain ⟨u1, u2⟩ := s2 (by omega)
        rw [t1] at u1
        exact .inl ⟨by omega, u1⟩
    rcases hk with rfl | rfl
    · rw [if_pos rfl, if_pos rfl]
      rcases key 1000 r (by simp [limT]) hr.1 hr.2 with ⟨h1, h2⟩ | ⟨h1, h2, h3⟩
      · rw [if_pos h1, if_pos h2]; exact ⟨_, _, _, _, _, _, _, _, _, rfl, rfl⟩
      · rw [if_neg h1, h2, h3, if_neg h1, if_neg (Int.lt_irrefl r)]; exact ⟨_, _, _, _, _, _, _, _, _, rfl, rfl⟩
    · rw [if_neg (show ¬ ((2 : Int) = 1) by decide), if_neg (show ¬ ((2 : Int) = 1) by decide)]
      rcases key 200 c (by simp [limT]) hc.1 hc.2 with ⟨h1, h2⟩ | ⟨h1, h2, h3⟩
      · rw [if_pos h1, if_pos h2]; exact ⟨_, _, _, _, _, _, _, _, _, rfl, rfl⟩
      · rw [if_neg h1, h2, h3, if_neg h1, if_neg (Int.lt_irrefl c)]; exact ⟨_, _, _, _, _, _, _, _, _, rfl, rfl⟩
  · rw [if_neg hg, if_neg hg]
    exact ⟨_, _, _, _, _, _, _, _, _, rfl, rfl⟩

set_option maxRecDepth 8000 in
set_option maxHeartbeats 4000000 in
theorem refTI (k a m : Int) (d : Bool) (r c : Int) (f g : Bool) (w : World) :
    Calls Try.prog 13 #[tuV k a m d, refV r c f g] w fun e w' => e = .returned (trB k a m d r c f g) ∧ Ext w w' := by
  obtain ⟨n1, n2, n3, n4, n5, n6, n7, n8, q, e1, e2⟩ := ta_tr k a m d r c f g
  have TA := fun w => areaTI k a m d r c f g r c f g w
  rw [e1] at TA
  rw [e2]
  clear e1 e2
  have B2 := Vec.made4 w (.int .i64 k) (.int .i64 a) (.int .i64 m) (.bool d) 25
  have X := x1 w (.cells #[.int .i64 k, .int .i64 a, .int .i64 m, .bool d] 25)
  obtain ⟨wa, ha⟩ : ∃ wa, w.alloc (.cells #[.int .i64 k, .int .i64 a, .int .i64 m, .bool d] 25) = wa := ⟨_, rfl⟩
  rw [ha] at B2 X
  have sa : wa.heap.size = w.heap.size + 1 := by rw [← ha, World.size_alloc]
  have B3 := Vec.made4 wa (.int .i64 r) (.int .i64 c) (.bool f) (.bool g) 30
  have x3 := x1 wa (.cells #[.int .i64 r, .int .i64 c, .bool f, .bool g] 30)
  obtain ⟨wb, hb⟩ : ∃ wb, wa.alloc (.cells #[.int .i64 r, .int .i64 c, .bool f, .bool g] 30) = wb := ⟨_, rfl⟩
  rw [hb] at B3 x3
  have sb : wb.heap.size = w.heap.size + 1 + 1 := by rw [← hb, World.size_alloc, sa]
  have B4 := Vec.made4 wb (.int .i64 0) (.int .i64 0) (.bool false) (.bool false) 30
  have x4 := x1 wb (.cells #[.int .i64 0, .int .i64 0, .bool false, .bool false] 30)
  rw [sa] at B3
  go_enter Try.func13, Try.ntmps13
  go_upto_region 1 with fail
  (try rw [ha])
  (try rw [hb])
  obtain ⟨w0, hw0⟩ : ∃ w0, wb.alloc (.cells #[.int .i64 0, .int .i64 0, .bool false, .bool false] 30) = w0 := ⟨_, rfl⟩
  have s0 : w0.heap.size = w.heap.size + 1 + 1 + 1 := by rw [← hw0, World.size_alloc, sb]
  rw [hw0] at B4 x4 ⊢
  rw [sb] at B4
  replace B2 := (B2.later x3).later x4
  replace B3 := B3.later x4
  replace X := xt (xt X x3) x4
  clear ha hb hw0 sa sb x3 x4
  obtain ⟨⟨a0, a1, a2, a3⟩, _⟩ := B2.box4
  obtain ⟨⟨b0, b1, b2, b3⟩, _⟩ := B3.box4
  go_wp2_with fail
  refine (TA _).mono ?_
  rintro e w1 ⟨rfl, e1⟩
  clear a0 a1 a2 a3 b0 b1 b2 b3 TA B2 B3
  replace B4 := B4.later e1
  replace X := xt X e1
  go_upto_region 2 with fail
  have B6 := Vec.made8 w1 (.int .i64 n1) (.int .i64 n2) (.bool n3) (.bool n4) (.int .i64 n5) (.int .i64 n6) (.bool n7) (.bool n8) 39
  have x6 := x1 w1 (.cells #[.int .i64 n1, .int .i64 n2, .bool n3, .bool n4, .int .i64 n5, .int .i64 n6, .bool n7, .bool n8] 39)
  obtain ⟨w2, hw2⟩ : ∃ u, w1.alloc (.cells #[.int .i64 n1, .int .i64 n2, .bool n3, .bool n4, .int .i64 n5, .int .i64 n6, .bool n7, .bool n8] 39) = u := ⟨_, rfl⟩
  rw [hw2] at B6 x6 ⊢
  replace B4 := B4.later x6
  replace X := xt X x6
  clear hw2 x6 e1
  obtain ⟨⟨⟨a0, a1, a2, a3⟩, a4, a5, a6, a7⟩, _⟩ := B6.box8
  obtain ⟨⟨m0, m1, m2, m3⟩, m4, m5, m6, m7⟩ := B4.box4
  go_wp2
  exact bodyPost_ret (v := .tuple #[refV n1 n2 n3 n4, .bool q]) (by simp [results, Try.results13, go_sem, m0, m1, m2, m3]) rfl ⟨rfl, Ext.set4 (o := 0) X (by omega) _ _ _ _⟩

set_option maxRecDepth 8000 in
set_option maxHeartbeats 8000000 in
theorem lawTurnRef (k a m : Int) (d : Bool) (r c : Int) (f g : Bool) (w : World) :
    Calls Try.prog 4 #[tuV k a m d, refV r c f g] w fun e w' => e = .returned (.bool true) ∧ Ext w w' := by
  obtain ⟨n1, n2, n3, n4, q, hn⟩ := trB_shape k a m d r c f g
  have HS : Hid (∀ w, Calls Try.prog 11 #[tuV k a m d, refV r c f g] w fun e w' => e = .returned (.tuple #[refV n1 n2 n3 n4, .bool q]) ∧ Ext w w') := fun w => by rw [← hn]; exact refTS k a m d r c f g w
  have HI : Hid (∀ w, Calls Try.prog 13 #[tuV k a m d, refV r c f g] w fun e w' => e = .returned (.tuple #[refV n1 n2 n3 n4, .bool q]) ∧ Ext w w') := fun w => by rw [← hn]; exact refTI k a m d r c f g w
  clear hn
  have B1 := Vec.made4 w (.int .i64 k) (.int .i64 a) (.int .i64 m) (.bool d) 23
  have X := x1 w (.cells #[.int .i64 k, .int .i64 a, .int .i64 m, .bool d] 23)
  obtain ⟨wa, ha⟩ : ∃ wa, w.alloc (.cells #[.int .i64 k, .int .i64 a, .int .i64 m, .bool d] 23) = wa := ⟨_, rfl⟩
  rw [ha] at B1 X
  have sa : wa.heap.size = w.heap.size + 1 := by rw [← ha, World.size_alloc]
  have B2 := Vec.made4 wa (.int .i64 r) (.int .i64 c) (.bool f) (.bool g) 29
  have x2 := x1 wa (.cells #[.int .i64 r, .int .i64 c, .bool f, .bool g] 29)
  go_enter Try.func4, Try.ntmps4
  go_upto_region 1 with fail
  (try rw [ha])
  obtain ⟨w0, hw0⟩ : ∃ u, wa.alloc (.cells #[.int .i64 r, .int .i64 c, .bool f, .bool g] 29) = u := ⟨_, rfl⟩
  rw [hw0] at B2 x2 ⊢
  rw [sa] at B2
  replace B1 := B1.later x2
  replace X := xt X x2
  clear ha sa hw0 x2
  go_cut [5, 6] (fun v u wc => ∃ b : Nat, v = .pointer (some ⟨b, 0, none⟩) ∧ u = .bool q ∧ Vec wc b [.int .i64 n1, .int .i64 n2, .bool n3, .bool n4] ∧ Ext w0 wc)
  case first =>
    refine wp_region_letters (fun x : Nat → Value => { tmps := #[tuV k a m d, refV r c f g, Value.pointer (some ⟨w.heap.size, 0, none⟩), Value.pointer (some ⟨w.heap.size + 1, 0, none⟩), Value.bool false, x 5, x 6, undef, undef, x 9, x 10, x 11, x 12, x 13, x 14, x 15, x 16, undef, undef, undef, undef, undef, undef, undef, undef, undef, undef, undef, undef, undef, undef, undef, undef, undef], defers := [] }) (LwI 10 11 12 13 14 9 15 16 5 6 (tuV k a m d) (refV r c f g) (refV n1 n2 n3 n4) q [.int .i64 n1, .int .i64 n2, .bool n3, .bool n4] [.int .i64 0, .int .i64 0, .bool false, .bool false] w0) rfl (by kernel_rfl) (fun n => if n = 5 then undef else if n = 6 then undef else if n = 9 then undef else if n = 10 then undef else if n = 11 then undef else if n = 12 then undef else if n = 13 then undef else if n = 14 then undef else if n = 15 then undef else if n = 16 then undef else undef) rfl LwI.start ?_ ?_
    · intro L x wl i o K hK ho hL haf hI
      obtain ⟨X, f0, f1, f2, f3, f4, f5, f6, f7, f8, f9, f10, f11⟩ := id hI
      have BT' := B1.later X
      have BA' := B2.later X
      match i, ho, hL, haf, hK with
      | 0, ho, hL, haf, hK =>
        simp only [List.getElem?_toArray, List.getElem?_cons_zero, Option.some.injEq] at ho
        subst ho
        dsimp only
        obtain ⟨⟨p0, p1, p2, p3⟩, _⟩ := BT'.box4
        have hN := hI
        obtain ⟨Y0, g0', g1', g2', g3', g4', g5', g6', g7', g8', g9', g10', g11'⟩ := hN
        go_wp2_with fail
        exact hK (fun n => if n = 10 then (tuV k a m d) else x n) _ ⟨Y0, (fun _ => rfl), g1', g2', g3', g4', g5', g6', g7', g8', g9', g10', g11'⟩
      | 1, ho, hL, haf, hK =>
        simp only [List.getElem?_toArray, List.getElem?_cons_zero, List.getElem?_cons_succ, Option.some.injEq] at ho
        subst ho
        dsimp only
        rw [f0 (haf ⟨0, .data⟩ (by simp) rfl)]
        go_wp2_with fail
        refine (toTurn _ _ _ _ _).mono ?_
        rintro rr w' ⟨rfl, E⟩
        have hN := hI.later E
        clear hI
        obtain ⟨Y0, g0', g1', g2', g3', g4', g5', g6', g7', g8', g9', g10', g11'⟩ := hN
        go_wp2_with fail
        exact hK (fun n => if n = 11 then (tuV k a m d) else if n = 10 then (tuV k a m d) else x n) _ ⟨Y0, (fun _ => rfl), (fun _ => rfl), g2', g3', g4', g5', g6', g7', g8', g9', g10', g11'⟩
      | 2, ho, hL, haf, hK =>
        simp only [List.getElem?_toArray, List.getElem?_cons_zero, List.getElem?_cons_succ, Option.some.injEq] at ho
        subst ho
        dsimp only
        obtain ⟨⟨p0, p1, p2, p3⟩, _⟩ := BA'.box4
        have hN := hI
        obtain ⟨Y0, g0', g1', g2', g3', g4', g5', g6', g7', g8', g9', g10', g11'⟩ := hN
        go_wp2_with fail
        exact hK (fun n => if n = 12 then (refV r c f g) else x n) _ ⟨Y0, g0', g1', (fun _ => rfl), g3', g4', g5', g6', g7', g8', g9', g10', g11'⟩
      | 3, ho, hL, haf, hK =>
        simp only [List.getElem?_toArray, List.getElem?_cons_zero, List.getElem?_cons_succ, Option.some.injEq] at ho
        subst ho
        dsimp only
        rw [f2 (haf ⟨2, .data⟩ (by simp) rfl)]
        go_wp2_with fail
        refine (toRef _ _ _ _ _).mono ?_
        rintro rr w' ⟨rfl, E⟩
        have hN := hI.later E
        clear hI
        obtain ⟨Y0, g0', g1', g2', g3', g4', g5', g6', g7', g8', g9', g10', g11'⟩ := hN
        go_wp2_with fail
        exact hK (fun n => if n = 13 then (refV r c f g) else if n = 12 then (refV r c f g) else x n) _ ⟨Y0, g0', g1', (fun _ => rfl), (fun _ => rfl), g4', g5', g6', g7', g8', g9', g10', g11'⟩
      | 4, ho, hL, haf, hK =>
        simp only [List.getElem?_toArray, List.getElem?_cons_zero, List.getElem?_cons_succ, Option.some.injEq] at ho
        subst ho
        dsimp only
        rw [f1 (haf ⟨1, .data⟩ (by simp) rfl), f3 (haf ⟨3, .data⟩ (by simp) rfl)]
        go_wp2_with fail
        refine (HS.out _).mono ?_
        rintro rr w' ⟨rfl, E⟩
        have hN := hI.later E
        clear hI
        obtain ⟨Y0, g0', g1', g2', g3', g4', g5', g6', g7', g8', g9', g10', g11'⟩ := hN
        go_wp2_with fail
        exact hK (fun n => if n = 14 then (Value.tuple #[refV n1 n2 n3 n4, .bool q]) else if n = 11 then (tuV k a m d) else if n = 13 then (refV r c f g) else x n) _ ⟨Y0, g0', (fun _ => rfl), g2', (fun _ => rfl), (fun _ => rfl), g5', g6', g7', g8', g9', g10', g11'⟩
      | 5, ho, hL, haf, hK =>
        simp only [List.getElem?_toArray, List.getElem?_cons_zero, List.getElem?_cons_succ, Option.some.injEq] at ho
        subst ho
        dsimp only
        rw [f4 (haf ⟨4, .data⟩ (by simp) rfl)]
        have hN := hI
        obtain ⟨Y0, g0', g1', g2', g3', g4', g5', g6', g7', g8', g9', g10', g11'⟩ := hN
        go_wp2_with fail
        exact hK (fun n => if n = 9 then (Value.tuple #[refV n1 n2 n3 n4, .bool q]) else if n = 14 then (Value.tuple #[refV n1 n2 n3 n4, .bool q]) else x n) _ ⟨Y0, g0', g1', g2', g3', (fun _ => rfl), (fun _ => rfl), g6', g7', g8', g9', g10', g11'⟩
      | 6, ho, hL, haf, hK =>
        simp only [List.getElem?_toArray, List.getElem?_cons_zero, List.getElem?_cons_succ, Option.some.injEq] at ho
        subst ho
        dsimp only
        rw [f5 (haf ⟨5, .data⟩ (by simp) rfl)]
        have hN := hI
        obtain ⟨Y0, g0', g1', g2', g3', g4', g5', g6', g7', g8', g9', g10', g11'⟩ := hN
        go_wp2_with fail
        exact hK (fun n => if n = 15 then (refV n1 n2 n3 n4) else if n = 9 then (Value.tuple #[refV n1 n2 n3 n4, .bool q]) else x n) _ ⟨Y0, g0', g1', g2', g3', g4', (fun _ => rfl), (fun _ => rfl), g7', g8', g9', g10', g11'⟩
      | 7, ho, hL, haf, hK =>
        simp only [List.getElem?_toArray, List.getElem?_cons_zero, List.getElem?_cons_succ, Option.some.injEq] at ho
        subst ho
        dsimp only
        rw [f5 (haf ⟨5, .data⟩ (by simp) rfl)]
        have hN := hI
        obtain ⟨Y0, g0', g1', g2', g3', g4', g5', g6', g7', g8', g9', g10', g11'⟩ := hN
        go_wp2_with fail
        exact hK (fun n => if n = 16 then (Value.bool q) else if n = 9 then (Value.tuple #[refV n1 n2 n3 n4, .bool q]) else x n) _ ⟨Y0, g0', g1', g2', g3', g4', (fun _ => rfl), g6', (fun _ => rfl), g8', g9', g10', g11'⟩
      | 8, ho, hL, haf, hK =>
        simp only [List.getElem?_toArray, List.getElem?_cons_zero, List.getElem?_cons_succ, Option.some.injEq] at ho
        subst ho
        dsimp only
        have hst : L 9 = true → False := fun h => by have := f11 h; rw [hL] at this; cases this
        have hN := hI.later (x1 wl (.cells #[.int .i64 0, .int .i64 0, .bool false, .bool false] 30))
        obtain ⟨Y0, g0', g1', g2', g3', g4', g5', g6', g7', g8', g9', g10', g11'⟩ := hN
        go_wp2_with fail
        exact hK (fun n => if n = 5 then Value.pointer (some ⟨wl.heap.size, 0, none⟩) else x n) _ ⟨Y0, g0', g1', g2', g3', g4', g5', g6', g7', (fun _ => ⟨wl.heap.size, rfl, X.size, fun h => (hst h).elim, fun _ => Vec.made4 wl _ _ _ _ _⟩), g9', g10', (fun _ => rfl)⟩
      | 9, ho, hL, haf, hK =>
        simp only [List.getElem?_toArray, List.getElem?_cons_zero, List.getElem?_cons_succ, Option.some.injEq] at ho
        subst ho
        dsimp only
        have h8 : L 8 = true := haf ⟨8, .data⟩ (by simp) rfl
        obtain ⟨b, eb', hb, _, hz⟩ := f8 h8
        have hbx := hz hL
        rw [eb', f6 (haf ⟨6, .data⟩ (by simp) rfl)]
        obtain ⟨⟨c0, c1, c2, c3⟩, c4, c5, c6, c7⟩ := hbx.box4
        have hX := Ext.set4 (o := 0) X hb (.int .i64 n1) (.int .i64 n2) (.bool n3) (.bool n4)
        have hB := hbx.put4 (.int .i64 n1) (.int .i64 n2) (.bool n3) (.bool n4)
        go_wp2_with fail
        exact hK (fun n => if n = 5 then .pointer (some ⟨b, 0, none⟩) else if n = 15 then (refV n1 n2 n3 n4) else x n) _ ⟨hX, f0, f1, f2, f3, f4, f5, fun _ => rfl, f7, fun _ => ⟨b, rfl, hb, fun _ => hB, fun h => by cases h⟩, f9, f10, fun _ => h8⟩
      | 10, ho, hL, haf, hK =>
        simp only [List.getElem?_toArray, List.getElem?_cons_zero, List.getElem?_cons_succ, Option.some.injEq] at ho
        subst ho
        dsimp only
        rw [f7 (haf ⟨7, .data⟩ (by simp) rfl)]
        have hN := hI
        obtain ⟨Y0, g0', g1', g2', g3', g4', g5', g6', g7', g8', g9', g10', g11'⟩ := hN
        go_wp2_with fail
        exact hK (fun n => if n = 6 then (Value.bool q) else if n = 16 then (Value.bool q) else x n) _ ⟨Y0, g0', g1', g2', g3', g4', g5', g6', (fun _ => rfl), g8', g9', (fun _ => rfl), g11'⟩
      | k + 11, ho, _, _, _ => simp at ho
    · intro L x wl hall hI
      obtain ⟨X, f0, f1, f2, f3, f4, f5, f6, f7, f8, f9, f10, f11⟩ := hI
      obtain ⟨b, eb', hb, hz, _⟩ := f8 (hall 8 (by simp))
      have h9 := hz (hall 9 (by simp))
      have h10 := f10 (hall 10 (by simp))
      dsimp only
      clear f0 f1 f2 f3 f4 f5 f6 f7 f8 f9 f10 f11 hz
      go_wp2_with fail
      go_meet
      case rel => exact ⟨b, eb', h10, h9, X⟩
  case rest =>
    obtain ⟨b, rfl, rfl, P, e5⟩ := hcut
    rename World => w1
    replace B1 := B1.later e5
    replace B2 := B2.later e5
    replace X := xt X e5
    clear e5 HS
    go_upto_region 2 with fail
    go_cut [7, 8] (fun v u wd => ∃ b : Nat, v = .pointer (some ⟨b, 0, none⟩) ∧ u = .bool q ∧ Vec wd b [.int .i64 n1, .int .i64 n2, .bool n3, .bool n4] ∧ Ext w1 wd)
    case first =>
      refine wp_region_letters (fun x : Nat → Value => { tmps := #[tuV k a m d, refV r c f g, Value.pointer (some ⟨w.heap.size, 0, none⟩), Value.pointer (some ⟨w.heap.size + 1, 0, none⟩), Value.bool false, Value.pointer (some ⟨b, 0, none⟩), Value.bool q, x 7, x 8, u9, u10, u11, u12, u13, u14, u15, u16, x 17, x 18, x 19, x 20, x 21, x 22, x 23, x 24, u25, u26, u27, u28, u29, u30, u31, u32, u33], defers := [] }) (LwI 18 19 20 21 22 17 23 24 7 8 (tuV k a m d) (refV r c f g) (refV n1 n2 n3 n4) q [.int .i64 n1, .int .i64 n2, .bool n3, .bool n4] [.int .i64 0, .int .i64 0, .bool false, .bool false] w1) rfl (by kernel_rfl) (fun n => if n = 7 then undef else if n = 8 then undef else if n = 17 then u17 else if n = 18 then u18 else if n = 19 then u19 else if n = 20 then u20 else if n = 21 then u21 else if n = 22 then u22 else if n = 23 then u23 else if n = 24 then u24 else undef) rfl LwI.start ?_ ?_
      · intro L x wl i o K hK ho hL haf hI
        obtain ⟨X, f0, f1, f2, f3, f4, f5, f6, f7, f8, f9, f10, f11⟩ := id hI
        have BT' := B1.later X
        have BA' := B2.later X
        match i, ho, hL, haf, hK with
        | 0, ho, hL, haf, hK =>
          simp only [List.getElem?_toArray, List.getElem?_cons_zero, Option.some.injEq] at ho
          subst ho
          dsimp only
          obtain ⟨⟨p0, p1, p2, p3⟩, _⟩ := BT'.box4
          have hN := hI
          obtain ⟨Y0, g0', g1', g2', g3', g4', g5', g6', g7', g8', g9', g10', g11'⟩ := hN
          go_wp2_with fail
          exact hK (fun n => if n = 18 then (tuV k a m d) else x n) _ ⟨Y0, (fun _ => rfl), g1', g2', g3', g4', g5', g6', g7', g8', g9', g10', g11'⟩
        | 1, ho, hL, haf, hK =>
          simp only [List.getElem?_toArray, List.getElem?_cons_zero, List.getElem?_cons_succ, Option.some.injEq] at ho
          subst ho
          dsimp only
          rw [f0 (haf ⟨0, .data⟩ (by simp) rfl)]
          go_wp2_with fail
          refine (toTurn _ _ _ _ _).mono ?_
          rintro rr w' ⟨rfl, E⟩
          have hN := hI.later E
          clear hI
          obtain ⟨Y0, g0', g1', g2', g3', g4', g5', g6', g7', g8', g9', g10', g11'⟩ := hN
          go_wp2_with fail
          exact hK (fun n => if n = 19 then (tuV k a m d) else if n = 18 then (tuV k a m d) else x n) _ ⟨Y0, (fun _ => rfl), (fun _ => rfl), g2', g3', g4', g5', g6', g7', g8', g9', g10', g11'⟩
        | 2, ho, hL, haf, hK =>
          simp only [List.getElem?_toArray, List.getElem?_cons_zero, List.getElem?_cons_succ, Option.some.injEq] at ho
          subst ho
          dsimp only
          obtain ⟨⟨p0, p1, p2, p3⟩, _⟩ := BA'.box4
          have hN := hI
          obtain ⟨Y0, g0', g1', g2', g3', g4', g5', g6', g7', g8', g9', g10', g11'⟩ := hN
          go_wp2_with fail
          exact hK (fun n => if n = 20 then (refV r c f g) else x n) _ ⟨Y0, g0', g1', (fun _ => rfl), g3', g4', g5', g6', g7', g8', g9', g10', g11'⟩
        | 3, ho, hL, haf, hK =>
          simp only [List.getElem?_toArray, List.getElem?_cons_zero, List.getElem?_cons_succ, Option.some.injEq] at ho
          subst ho
          dsimp only
          rw [f2 (haf ⟨2, .data⟩ (by simp) rfl)]
          go_wp2_with fail
          refine (toRef _ _ _ _ _).mono ?_
          rintro rr w' ⟨rfl, E⟩
          have hN := hI.later E
          clear hI
          obtain ⟨Y0, g0', g1', g2', g3', g4', g5', g6', g7', g8', g9', g10', g11'⟩ := hN
          go_wp2_with fail
          exact hK (fun n => if n = 21 then (refV r c f g) else if n = 20 then (refV r c f g) else x n) _ ⟨Y0, g0', g1', (fun _ => rfl), (fun _ => rfl), g4', g5', g6', g7', g8', g9', g10', g11'⟩
        | 4, ho, hL, haf, hK =>
          simp only [List.getElem?_toArray, List.getElem?_cons_zero, List.getElem?_cons_succ, Option.some.injEq] at ho
          subst ho
          dsimp only
          rw [f1 (haf ⟨1, .data⟩ (by simp) rfl), f3 (haf ⟨3, .data⟩ (by simp) rfl)]
          go_wp2_with fail
          refine (HI.out _).mono ?_
          rintro rr w' ⟨rfl, E⟩
          have hN := hI.later E
          clear hI
          obtain ⟨Y0, g0', g1', g2', g3', g4', g5', g6', g7', g8', g9', g10', g11'⟩ := hN
          go_wp2_with fail
          exact hK (fun n => if n = 22 then (Value.tuple #[refV n1 n2 n3 n4, .bool q]) else if n = 19 then (tuV k a m d) else if n = 21 then (refV r c f g) else x n) _ ⟨Y0, g0', (fun _ => rfl), g2', (fun _ => rfl), (fun _ => rfl), g5', g6', g7', g8', g9', g10', g11'⟩
        | 5, ho, hL, haf, hK =>
          simp only [List.getElem?_toArray, List.getElem?_cons_zero, List.getElem?_cons_succ, Option.some.injEq] at ho
          subst ho
          dsimp only
          rw [f4 (haf ⟨4, .data⟩ (by simp) rfl)]
          have hN := hI
          obtain ⟨Y0, g0', g1', g2', g3', g4', g5', g6', g7', g8', g9', g10', g11'⟩ := hN
          go_wp2_with fail
          exact hK (fun n => if n = 17 then (Value.tuple #[refV n1 n2 n3 n4, .bool q]) else if n = 22 then (Value.tuple #[refV n1 n2 n3 n4, .bool q]) else x n) _ ⟨Y0, g0', g1', g2', g3', (fun _ => rfl), (fun _ => rfl), g6', g7', g8', g9', g10', g11'⟩
        | 6, ho, hL, haf, hK =>
          simp only [List.getElem?_toArray, List.getElem?_cons_zero, List.getElem?_cons_succ, Option.some.injEq] at ho
          subst ho
          dsimp only
          rw [f5 (haf ⟨5, .data⟩ (by simp) rfl)]
          have hN := hI
          obtain ⟨Y0, g0', g1', g2', g3', g4', g5', g6', g7', g8', g9', g10', g11'⟩ := hN
          go_wp2_with fail
          exact hK (fun n => if n = 23 then (refV n1 n2 n3 n4) else if n = 17 then (Value.tuple #[refV n1 n2 n3 n4, .bool q]) else x n) _ ⟨Y0, g0', g1', g2', g3', g4', (fun _ => rfl), (fun _ => rfl), g7', g8', g9', g10', g11'⟩
        | 7, ho, hL, haf, hK =>
          simp only [List.getElem?_toArray, List.getElem?_cons_zero, List.getElem?_cons_succ, Option.some.injEq] at ho
          subst ho
          dsimp only
          rw [f5 (haf ⟨5, .data⟩ (by simp) rfl)]
          have hN := hI
          obtain ⟨Y0, g0', g1', g2', g3', g4', g5', g6', g7', g8', g9', g10', g11'⟩ := hN
          go_wp2_with fail
          exact hK (fun n => if n = 24 then (Value.bool q) else if n = 17 then (Value.tuple #[refV n1 n2 n3 n4, .bool q]) else x n) _ ⟨Y0, g0', g1', g2', g3', g4', (fun _ => rfl), g6', (fun _ => rfl), g8', g9', g10', g11'⟩
        | 8, ho, hL, haf, hK =>
          simp only [List.getElem?_toArray, List.getElem?_cons_zero, List.getElem?_cons_succ, Option.some.injEq] at ho
          subst ho
          dsimp only
          have hst : L 9 = true → False := fun h => by have := f11 h; rw [hL] at this; cases this
          have hN := hI.later (x1 wl (.cells #[.int .i64 0, .int .i64 0, .bool false, .bool false] 30))
          obtain ⟨Y0, g0', g1', g2', g3', g4', g5', g6', g7', g8', g9', g10', g11'⟩ := hN
          go_wp2_with fail
          exact hK (fun n => if n = 7 then Value.pointer (some ⟨wl.heap.size, 0, none⟩) else x n) _ ⟨Y0, g0', g1', g2', g3', g4', g5', g6', g7', (fun _ => ⟨wl.heap.size, rfl, X.size, fun h => (hst h).elim, fun _ => Vec.made4 wl _ _ _ _ _⟩), g9', g10', (fun _ => rfl)⟩
        | 9, ho, hL, haf, hK =>
          simp only [List.getElem?_toArray, List.getElem?_cons_zero, List.getElem?_cons_succ, Option.some.injEq] at ho
          subst ho
          dsimp only
          have h8 : L 8 = true := haf ⟨8, .data⟩ (by simp) rfl
          obtain ⟨b, eb', hb, _, hz⟩ := f8 h8
          have hbx := hz hL
          rw [eb', f6 (haf ⟨6, .data⟩ (by simp) rfl)]
          obtain ⟨⟨c0, c1, c2, c3⟩, c4, c5, c6, c7⟩ := hbx.box4
          have hX := Ext.set4 (o := 0) X hb (.int .i64 n1) (.int .i64 n2) (.bool n3) (.bool n4)
          have hB := hbx.put4 (.int .i64 n1) (.int .i64 n2) (.bool n3) (.bool n4)
          go_wp2_with fail
          exact hK (fun n => if n = 7 then .pointer (some ⟨b, 0, none⟩) else if n = 23 then (refV n1 n2 n3 n4) else x n) _ ⟨hX, f0, f1, f2, f3, f4, f5, fun _ => rfl, f7, fun _ => ⟨b, rfl, hb, fun _ => hB, fun h => by cases h⟩, f9, f10, fun _ => h8⟩
        | 10, ho, hL, haf, hK =>
          simp only [List.getElem?_toArray, List.getElem?_cons_zero, List.getElem?_cons_succ, Option.some.injEq] at ho
          subst ho
          dsimp only
          rw [f7 (haf ⟨7, .data⟩ (by simp) rfl)]
          have hN := hI
          obtain ⟨Y0, g0', g1', g2', g3', g4', g5', g6', g7', g8', g9', g10', g11'⟩ := hN
          go_wp2_with fail
          exact hK (fun n => if n = 8 then (Value.bool q) else if n = 24 then (Value.bool q) else x n) _ ⟨Y0, g0', g1', g2', g3', g4', g5', g6', (fun _ => rfl), g8', g9', (fun _ => rfl), g11'⟩
        | k + 11, ho, _, _, _ => simp at ho
      · intro L x wl hall hI
        obtain ⟨X, f0, f1, f2, f3, f4, f5, f6, f7, f8, f9, f10, f11⟩ := hI
        obtain ⟨b, eb', hb, hz, _⟩ := f8 (hall 8 (by simp))
        have h9 := hz (hall 9 (by simp))
        have h10 := f10 (hall 10 (by simp))
        dsimp only
        clear f0 f1 f2 f3 f4 f5 f6 f7 f8 f9 f10 f11 hz
        go_wp2_with fail
        go_meet
        case rel => exact ⟨b, eb', h10, h9, X⟩
    case rest =>
      obtain ⟨b', rfl, rfl, Q, e6⟩ := hcut
      replace P := P.later e6
      replace X := xt X e6
      clear HI B1 B2
      obtain ⟨⟨a0, a1, a2, a3⟩, _⟩ := P.box4
      obtain ⟨⟨b0, b1, b2, b3⟩, _⟩ := Q.box4
      go_wp2_with fail
      refine (eqRef_same _ _ _ _ _).mono ?_
      rintro e w7 ⟨rfl, e7⟩
      go_wp2_with fail
      all_goals go_ret
      all_goals exact ⟨rfl, xt X e7⟩
set_option maxRecDepth 8000 in
set_option maxHeartbeats 8000000 in
theorem lawTurnArea (k a m : Int) (d : Bool) (r c : Int) (f g : Bool) (r' c' : Int) (f' g' : Bool) (w : World) :
    Calls Try.prog 5 #[tuV k a m d, arV r c f g r' c' f' g'] w fun e w' => e = .returned (.bool true) ∧ Ext w w' := by
  obtain ⟨n1, n2, n3, n4, n5, n6, n7, n8, q, hn⟩ := taB_shape k a m d r c f g r' c' f' g'
  have HS : Hid (∀ w, Calls Try.prog 15 #[tuV k a m d, arV r c f g r' c' f' g'] w fun e w' => e = .returned (.tuple #[arV n1 n2 n3 n4 n5 n6 n7 n8, .bool q]) ∧ Ext w w') := fun w => by rw [← hn]; exact areaTS k a m d r c f g r' c' f' g' w
  have HI : Hid (∀ w, Calls Try.prog 17 #[tuV k a m d, arV r c f g r' c' f' g'] w fun e w' => e = .returned (.tuple #[arV n1 n2 n3 n4 n5 n6 n7 n8, .bool q]) ∧ Ext w w') := fun w => by rw [← hn]; exact areaTI k a m d r c f g r' c' f' g' w
  clear hn
  have B1 := Vec.made4 w (.int .i64 k) (.int .i64 a) (.int .i64 m) (.bool d) 23
  have X := x1 w (.cells #[.int .i64 k, .int .i64 a, .int .i64 m, .bool d] 23)
  obtain ⟨wa, ha⟩ : ∃ wa, w.alloc (.cells #[.int .i64 k, .int .i64 a, .int .i64 m, .bool d] 23) = wa := ⟨_, rfl⟩
  rw [ha] at B1 X
  have sa : wa.heap.size = w.heap.size + 1 := by rw [← ha, World.size_alloc]
  have B2 := Vec.made8 wa (.int .i64 r) (.int .i64 c) (.bool f) (.bool g) (.int .i64 r') (.int .i64 c') (.bool f') (.bool g') 37
  have x2 := x1 wa (.cells #[.int .i64 r, .int .i64 c, .bool f, .bool g, .int .i64 r', .int .i64 c', .bool f', .bool g'] 37)
  go_enter Try.func5, Try.ntmps5
  go_upto_region 1 with fail
  (try rw [ha])
  obtain ⟨w0, hw0⟩ : ∃ u, wa.alloc (.cells #[.int .i64 r, .int .i64 c, .bool f, .bool g, .int .i64 r', .int .i64 c', .bool f', .bool g'] 37) = u := ⟨_, rfl⟩
  rw [hw0] at B2 x2 ⊢
  rw [sa] at B2
  replace B1 := B1.later x2
  replace X := xt X x2
  clear ha sa hw0 x2
  go_cut [5, 6] (fun v u wc => ∃ b : Nat, v = .pointer (some ⟨b, 0, none⟩) ∧ u = .bool q ∧ Vec wc b [.int .i64 n1, .int .i64 n2, .bool n3, .bool n4, .int .i64 n5, .int .i64 n6, .bool n7, .bool n8] ∧ Ext w0 wc)
  case first =>
    refine wp_region_letters (fun x : Nat → Value => { tmps := #[tuV k a m d, arV r c f g r' c' f' g', Value.pointer (some ⟨w.heap.size, 0, none⟩), Value.pointer (some ⟨w.heap.size + 1, 0, none⟩), Value.bool false, x 5, x 6, undef, undef, x 9, x 10, x 11, x 12, x 13, x 14, x 15, x 16, undef, undef, undef, undef, undef, undef, undef, undef, undef, undef, undef, undef, undef, undef, undef, undef, undef], defers := [] }) (LwI 10 11 12 13 14 9 15 16 5 6 (tuV k a m d) (arV r c f g r' c' f' g') (arV n1 n2 n3 n4 n5 n6 n7 n8) q [.int .i64 n1, .int .i64 n2, .bool n3, .bool n4, .int .i64 n5, .int .i64 n6, .bool n7, .bool n8] [.int .i64 0, .int .i64 0, .bool false, .bool false, .int .i64 0, .int .i64 0, .bool false, .bool false] w0) rfl (by kernel_rfl) (fun n => if n = 5 then undef else if n = 6 then undef else if n = 9 then undef else if n = 10 then undef else if n = 11 then undef else if n = 12 then undef else if n = 13 then undef else if n = 14 then undef else if n = 15 then undef else if n = 16 then undef else undef) rfl LwI.start ?_ ?_
    · intro L x wl i o K hK ho hL haf hI
      obtain ⟨X, f0, f1, f2, f3, f4, f5, f6, f7, f8, f9, f10, f11⟩ := id hI
      have BT' := B1.later X
      have BA' := B2.later X
      match i, ho, hL, haf, hK with
      | 0, ho, hL, haf, hK =>
        simp only [List.getElem?_toArray, List.getElem?_cons_zero, Option.some.injEq] at ho
        subst ho
        dsimp only
        obtain ⟨⟨p0, p1, p2, p3⟩, _⟩ := BT'.box4
        have hN := hI
        obtain ⟨Y0, g0', g1', g2', g3', g4', g5', g6', g7', g8', g9', g10', g11'⟩ := hN
        go_wp2_with fail
        exact hK (fun n => if n = 10 then (tuV k a m d) else x n) _ ⟨Y0, (fun _ => rfl), g1', g2', g3', g4', g5', g6', g7', g8', g9', g10', g11'⟩
      | 1, ho, hL, haf, hK =>
        simp only [List.getElem?_toArray, List.getElem?_cons_zero, List.getElem?_cons_succ, Option.some.injEq] at ho
        subst ho
        dsimp only
        rw [f0 (haf ⟨0, .data⟩ (by simp) rfl)]
        go_wp2_with fail
        refine (toTurn _ _ _ _ _).mono ?_
        rintro rr w' ⟨rfl, E⟩
        have hN := hI.later E
        clear hI
        obtain ⟨Y0, g0', g1', g2', g3', g4', g5', g6', g7', g8', g9', g10', g11'⟩ := hN
        go_wp2_with fail
        exact hK (fun n => if n = 11 then (tuV k a m d) else if n = 10 then (tuV k a m d) else x n) _ ⟨Y0, (fun _ => rfl), (fun _ => rfl), g2', g3', g4', g5', g6', g7', g8', g9', g10', g11'⟩
      | 2, ho, hL, haf, hK =>
        simp only [List.getElem?_toArray, List.getElem?_cons_zero, List.getElem?_cons_succ, Option.some.injEq] at ho
        subst ho
        dsimp only
        obtain ⟨⟨⟨p0, p1, p2, p3⟩, p4, p5, p6, p7⟩, _⟩ := BA'.box8
        have hN := hI
        obtain ⟨Y0, g0', g1', g2', g3', g4', g5', g6', g7', g8', g9', g10', g11'⟩ := hN
        go_wp2_with fail
        exact hK (fun n => if n = 12 then (arV r c f g r' c' f' g') else x n) _ ⟨Y0, g0', g1', (fun _ => rfl), g3', g4', g5', g6', g7', g8', g9', g10', g11'⟩
      | 3, ho, hL, haf, hK =>
        simp only [List.getElem?_toArray, List.getElem?_cons_zero, List.getElem?_cons_succ, Option.some.injEq] at ho
        subst ho
        dsimp only
        rw [f2 (haf ⟨2, .data⟩ (by simp) rfl)]
        go_wp2_with fail
        refine (toArea _ _ _ _ _ _ _ _ _).mono ?_
        rintro rr w' ⟨rfl, E⟩
        have hN := hI.later E
        clear hI
        obtain ⟨Y0, g0', g1', g2', g3', g4', g5', g6', g7', g8', g9', g10', g11'⟩ := hN
        go_wp2_with fail
        exact hK (fun n => if n = 13 then (arV r c f g r' c' f' g') else if n = 12 then (arV r c f g r' c' f' g') else x n) _ ⟨Y0, g0', g1', (fun _ => rfl), (fun _ => rfl), g4', g5', g6', g7', g8', g9', g10', g11'⟩
      | 4, ho, hL, haf, hK =>
        simp only [List.getElem?_toArray, List.getElem?_cons_zero, List.getElem?_cons_succ, Option.some.injEq] at ho
        subst ho
        dsimp only
        rw [f1 (haf ⟨1, .data⟩ (by simp) rfl), f3 (haf ⟨3, .data⟩ (by simp) rfl)]
        go_wp2_with fail
        refine (HS.out _).mono ?_
        rintro rr w' ⟨rfl, E⟩
        have hN := hI.later E
        clear hI
        obtain ⟨Y0, g0', g1', g2', g3', g4', g5', g6', g7', g8', g9', g10', g11'⟩ := hN
        go_wp2_with fail
        exact hK (fun n => if n = 14 then (Value.tuple #[arV n1 n2 n3 n4 n5 n6 n7 n8, .bool q]) else if n = 11 then (tuV k a m d) else if n = 13 then (arV r c f g r' c' f' g') else x n) _ ⟨Y0, g0', (fun _ => rfl), g2', (fun _ => rfl), (fun _ => rfl), g5', g6', g7', g8', g9', g10', g11'⟩
      | 5, ho, hL, haf, hK =>
        simp only [List.getElem?_toArray, List.getElem?_cons_zero, List.getElem?_cons_succ, Option.some.injEq] at ho
        subst ho
        dsimp only
        rw [f4 (haf ⟨4, .data⟩ (by simp) rfl)]
        have hN := hI
        obtain ⟨Y0, g0', g1', g2', g3', g4', g5', g6', g7', g8', g9', g10', g11'⟩ := hN
        go_wp2_with fail
        exact hK (fun n => if n = 9 then (Value.tuple #[arV n1 n2 n3 n4 n5 n6 n7 n8, .bool q]) else if n = 14 then (Value.tuple #[arV n1 n2 n3 n4 n5 n6 n7 n8, .bool q]) else x n) _ ⟨Y0, g0', g1', g2', g3', (fun _ => rfl), (fun _ => rfl), g6', g7', g8', g9', g10', g11'⟩
      | 6, ho, hL, haf, hK =>
        simp only [List.getElem?_toArray, List.getElem?_cons_zero, List.getElem?_cons_succ, Option.some.injEq] at ho
        subst ho
        dsimp only
        rw [f5 (haf ⟨5, .data⟩ (by simp) rfl)]
        have hN := hI
        obtain ⟨Y0, g0', g1', g2', g3', g4', g5', g6', g7', g8', g9', g10', g11'⟩ := hN
        go_wp2_with fail
        exact hK (fun n => if n = 15 then (arV n1 n2 n3 n4 n5 n6 n7 n8) else if n = 9 then (Value.tuple #[arV n1 n2 n3 n4 n5 n6 n7 n8, .bool q]) else x n) _ ⟨Y0, g0', g1', g2', g3', g4', (fun _ => rfl), (fun _ => rfl), g7', g8', g9', g10', g11'⟩
      | 7, ho, hL, haf, hK =>
        simp only [List.getElem?_toArray, List.getElem?_cons_zero, List.getElem?_cons_succ, Option.some.injEq] at ho
        subst ho
        dsimp only
        rw [f5 (haf ⟨5, .data⟩ (by simp) rfl)]
        have hN := hI
        obtain ⟨Y0, g0', g1', g2', g3', g4', g5', g6', g7', g8', g9', g10', g11'⟩ := hN
        go_wp2_with fail
        exact hK (fun n => if n = 16 then (Value.bool q) else if n = 9 then (Value.tuple #[arV n1 n2 n3 n4 n5 n6 n7 n8, .bool q]) else x n) _ ⟨Y0, g0', g1', g2', g3', g4', (fun _ => rfl), g6', (fun _ => rfl), g8', g9', g10', g11'⟩
      | 8, ho, hL, haf, hK =>
        simp only [List.getElem?_toArray, List.getElem?_cons_zero, List.getElem?_cons_succ, Option.some.injEq] at ho
        subst ho
        dsimp only
        have hst : L 9 = true → False := fun h => by have := f11 h; rw [hL] at this; cases this
        have hN := hI.later (x1 wl (.cells #[.int .i64 0, .int .i64 0, .bool false, .bool false, .int .i64 0, .int .i64 0, .bool false, .bool false] 39))
        obtain ⟨Y0, g0', g1', g2', g3', g4', g5', g6', g7', g8', g9', g10', g11'⟩ := hN
        go_wp2_with fail
        exact hK (fun n => if n = 5 then Value.pointer (some ⟨wl.heap.size, 0, none⟩) else x n) _ ⟨Y0, g0', g1', g2', g3', g4', g5', g6', g7', (fun _ => ⟨wl.heap.size, rfl, X.size, fun h => (hst h).elim, fun _ => Vec.made8 wl _ _ _ _ _ _ _ _ _⟩), g9', g10', (fun _ => rfl)⟩
      | 9, ho, hL, haf, hK =>
        simp only [List.getElem?_toArray, List.getElem?_cons_zero, List.getElem?_cons_succ, Option.some.injEq] at ho
        subst ho
        dsimp only
        have h8 : L 8 = true := haf ⟨8, .data⟩ (by simp) rfl
        obtain ⟨b, eb', hb, _, hz⟩ := f8 h8
        have hbx := hz hL
        rw [eb', f6 (haf ⟨6, .data⟩ (by simp) rfl)]
        obtain ⟨⟨⟨c0, c1, c2, c3⟩, c4, c5, c6, c7⟩, ⟨c8, c9, cA, cB⟩, cC, cD, cE, cF⟩ := hbx.box8
        have hX := Ext.set8 X hb (.int .i64 n1) (.int .i64 n2) (.bool n3) (.bool n4) (.int .i64 n5) (.int .i64 n6) (.bool n7) (.bool n8)
        have hB := hbx.put8 (.int .i64 n1) (.int .i64 n2) (.bool n3) (.bool n4) (.int .i64 n5) (.int .i64 n6) (.bool n7) (.bool n8)
        go_wp2_with fail
        exact hK (fun n => if n = 5 then .pointer (some ⟨b, 0, none⟩) else if n = 15 then (arV n1 n2 n3 n4 n5 n6 n7 n8) else x n) _ ⟨hX, f0, f1, f2, f3, f4, f5, fun _ => rfl, f7, fun _ => ⟨b, rfl, hb, fun _ => hB, fun h => by cases h⟩, f9, f10, fun _ => h8⟩
      | 10, ho, hL, haf, hK =>
        simp only [List.getElem?_toArray, List.getElem?_cons_zero, List.getElem?_cons_succ, Option.some.injEq] at ho
        subst ho
        dsimp only
        rw [f7 (haf ⟨7, .data⟩ (by simp) rfl)]
        have hN := hI
        obtain ⟨Y0, g0', g1', g2', g3', g4', g5', g6', g7', g8', g9', g10', g11'⟩ := hN
        go_wp2_with fail
        exact hK (fun n => if n = 6 then (Value.bool q) else if n = 16 then (Value.bool q) else x n) _ ⟨Y0, g0', g1', g2', g3', g4', g5', g6', (fun _ => rfl), g8', g9', (fun _ => rfl), g11'⟩
      | k + 11, ho, _, _, _ => simp at ho
    · intro L x wl hall hI
      obtain ⟨X, f0, f1, f2, f3, f4, f5, f6, f7, f8, f9, f10, f11⟩ := hI
      obtain ⟨b, eb', hb, hz, _⟩ := f8 (hall 8 (by simp))
      have h9 := hz (hall 9 (by simp))
      have h10 := f10 (hall 10 (by simp))
      dsimp only
      clear f0 f1 f2 f3 f4 f5 f6 f7 f8 f9 f10 f11 hz
      go_wp2_with fail
      go_meet
      case rel => exact ⟨b, eb', h10, h9, X⟩
  case rest =>
    obtain ⟨b, rfl, rfl, P, e5⟩ := hcut
    rename World => w1
    replace B1 := B1.later e5
    replace B2 := B2.later e5
    replace X := xt X e5
    clear e5 HS
    go_upto_region 2 with fail
    go_cut [7, 8] (fun v u wd => ∃ b : Nat, v = .pointer (some ⟨b, 0, none⟩) ∧ u = .bool q ∧ Vec wd b [.int .i64 n1, .int .i64 n2, .bool n3, .bool n4, .int .i64 n5, .int .i64 n6, .bool n7, .bool n8] ∧ Ext w1 wd)
    case first =>
      refine wp_region_letters (fun x : Nat → Value => { tmps := #[tuV k a m d, arV r c f g r' c' f' g', Value.pointer (some ⟨w.heap.size, 0, none⟩), Value.pointer (some ⟨w.heap.size + 1, 0, none⟩), Value.bool false, Value.pointer (some ⟨b, 0, none⟩), Value.bool q, x 7, x 8, u9, u10, u11, u12, u13, u14, u15, u16, x 17, x 18, x 19, x 20, x 21, x 22, x 23, x 24, u25, u26, u27, u28, u29, u30, u31, u32, u33], defers := [] }) (LwI 18 19 20 21 22 17 23 24 7 8 (tuV k a m d) (arV r c f g r' c' f' g') (arV n1 n2 n3 n4 n5 n6 n7 n8) q [.int .i64 n1, .int .i64 n2, .bool n3, .bool n4, .int .i64 n5, .int .i64 n6, .bool n7, .bool n8] [.int .i64 0, .int .i64 0, .bool false, .bool false, .int .i64 0, .int .i64 0, .bool false, .bool false] w1) rfl (by kernel_rfl) (fun n => if n = 7 then undef else if n = 8 then undef else if n = 17 then u17 else if n = 18 then u18 else if n = 19 then u19 else if n = 20 then u20 else if n = 21 then u21 else if n = 22 then u22 else if n = 23 then u23 else if n = 24 then u24 else undef) rfl LwI.start ?_ ?_
      · intro L x wl i o K hK ho hL haf hI
        obtain ⟨X, f0, f1, f2, f3, f4, f5, f6, f7, f8, f9, f10, f11⟩ := id hI
        have BT' := B1.later X
        have BA' := B2.later X
        match i, ho, hL, haf, hK with
        | 0, ho, hL, haf, hK =>
          simp only [List.getElem?_toArray, List.getElem?_cons_zero, Option.some.injEq] at ho
          subst ho
          dsimp only
          obtain ⟨⟨p0, p1, p2, p3⟩, _⟩ := BT'.box4
          have hN := hI
          obtain ⟨Y0, g0', g1', g2', g3', g4', g5', g6', g7', g8', g9', g10', g11'⟩ := hN
          go_wp2_with fail
          exact hK (fun n => if n = 18 then (tuV k a m d) else x n) _ ⟨Y0, (fun _ => rfl), g1', g2', g3', g4', g5', g6', g7', g8', g9', g10', g11'⟩
        | 1, ho, hL, haf, hK =>
          simp only [List.getElem?_toArray, List.getElem?_cons_zero, List.getElem?_cons_succ, Option.some.injEq] at ho
          subst ho
          dsimp only
          rw [f0 (haf ⟨0, .data⟩ (by simp) rfl)]
          go_wp2_with fail
          refine (toTurn _ _ _ _ _).mono ?_
          rintro rr w' ⟨rfl, E⟩
          have hN := hI.later E
          clear hI
          obtain ⟨Y0, g0', g1', g2', g3', g4', g5', g6', g7', g8', g9', g10', g11'⟩ := hN
          go_wp2_with fail
          exact hK (fun n => if n = 19 then (tuV k a m d) else if n = 18 then (tuV k a m d) else x n) _ ⟨Y0, (fun _ => rfl), (fun _ => rfl), g2', g3', g4', g5', g6', g7', g8', g9', g10', g11'⟩
        | 2, ho, hL, haf, hK =>
          simp only [List.getElem?_toArray, List.getElem?_cons_zero, List.getElem?_cons_succ, Option.some.injEq] at ho
          subst ho
          dsimp only
          obtain ⟨⟨⟨p0, p1, p2, p3⟩, p4, p5, p6, p7⟩, _⟩ := BA'.box8
          have hN := hI
          obtain ⟨Y0, g0', g1', g2', g3', g4', g5', g6', g7', g8', g9', g10', g11'⟩ := hN
          go_wp2_with fail
          exact hK (fun n => if n = 20 then (arV r c f g r' c' f' g') else x n) _ ⟨Y0, g0', g1', (fun _ => rfl), g3', g4', g5', g6', g7', g8', g9', g10', g11'⟩
        | 3, ho, hL, haf, hK =>
          simp only [List.getElem?_toArray, List.getElem?_cons_zero, List.getElem?_cons_succ, Option.some.injEq] at ho
          subst ho
          dsimp only
          rw [f2 (haf ⟨2, .data⟩ (by simp) rfl)]
          go_wp2_with fail
          refine (toArea _ _ _ _ _ _ _ _ _).mono ?_
          rintro rr w' ⟨rfl, E⟩
          have hN := hI.later E
          clear hI
          obtain ⟨Y0, g0', g1', g2', g3', g4', g5', g6', g7', g8', g9', g10', g11'⟩ := hN
          go_wp2_with fail
          exact hK (fun n => if n = 21 then (arV r c f g r' c' f' g') else if n = 20 then (arV r c f g r' c' f' g') else x n) _ ⟨Y0, g0', g1', (fun _ => rfl), (fun _ => rfl), g4', g5', g6', g7', g8', g9', g10', g11'⟩
        | 4, ho, hL, haf, hK =>
          simp only [List.getElem?_toArray, List.getElem?_cons_zero, List.getElem?_cons_succ, Option.some.injEq] at ho
          subst ho
          dsimp only
          rw [f1 (haf ⟨1, .data⟩ (by simp) rfl), f3 (haf ⟨3, .data⟩ (by simp) rfl)]
          go_wp2_with fail
          refine (HI.out _).mono ?_
          rintro rr w' ⟨rfl, E⟩
          have hN := hI.later E
          clear hI
          obtain ⟨Y0, g0', g1', g2', g3', g4', g5', g6', g7', g8', g9', g10', g11'⟩ := hN
          go_wp2_with fail
          exact hK (fun n => if n = 22 then (Value.tuple #[arV n1 n2 n3 n4 n5 n6 n7 n8, .bool q]) else if n = 19 then (tuV k a m d) else if n = 21 then (arV r c f g r' c' f' g') else x n) _ ⟨Y0, g0', (fun _ => rfl), g2', (fun _ => rfl), (fun _ => rfl), g5', g6', g7', g8', g9', g10', g11'⟩
        | 5, ho, hL, haf, hK =>
          simp only [List.getElem?_toArray, List.getElem?_cons_zero, List.getElem?_cons_succ, Option.some.injEq] at ho
          subst ho
          dsimp only
          rw [f4 (haf ⟨4, .data⟩ (by simp) rfl)]
          have hN := hI
          obtain ⟨Y0, g0', g1', g2', g3', g4', g5', g6', g7', g8', g9', g10', g11'⟩ := hN
          go_wp2_with fail
          exact hK (fun n => if n = 17 then (Value.tuple #[arV n1 n2 n3 n4 n5 n6 n7 n8, .bool q]) else if n = 22 then (Value.tuple #[arV n1 n2 n3 n4 n5 n6 n7 n8, .bool q]) else x n) _ ⟨Y0, g0', g1', g2', g3', (fun _ => rfl), (fun _ => rfl), g6', g7', g8', g9', g10', g11'⟩
        | 6, ho, hL, haf, hK =>
          simp only [List.getElem?_toArray, List.getElem?_cons_zero, List.getElem?_cons_succ, Option.some.injEq] at ho
          subst ho
          dsimp only
          rw [f5 (haf ⟨5, .data⟩ (by simp) rfl)]
          have hN := hI
          obtain ⟨Y0, g0', g1', g2', g3', g4', g5', g6', g7', g8', g9', g10', g11'⟩ := hN
          go_wp2_with fail
          exact hK (fun n => if n = 23 then (arV n1 n2 n3 n4 n5 n6 n7 n8) else if n = 17 then (Value.tuple #[arV n1 n2 n3 n4 n5 n6 n7 n8, .bool q]) else x n) _ ⟨Y0, g0', g1', g2', g3', g4', (fun _ => rfl), (fun _ => rfl), g7', g8', g9', g10', g11'⟩
        | 7, ho, hL, haf, hK =>
          simp only [List.getElem?_toArray, List.getElem?_cons_zero, List.getElem?_cons_succ, Option.some.injEq] at ho
          subst ho
          dsimp only
          rw [f5 (haf ⟨5, .data⟩ (by simp) rfl)]
          have hN := hI
          obtain ⟨Y0, g0', g1', g2', g3', g4', g5', g6', g7', g8', g9', g10', g11'⟩ := hN
          go_wp2_with fail
          exact hK (fun n => if n = 24 then (Value.bool q) else if n = 17 then (Value.tuple #[arV n1 n2 n3 n4 n5 n6 n7 n8, .bool q]) else x n) _ ⟨Y0, g0', g1', g2', g3', g4', (fun _ => rfl), g6', (fun _ => rfl), g8', g9', g10', g11'⟩
        | 8, ho, hL, haf, hK =>
          simp only [List.getElem?_toArray, List.getElem?_cons_zero, List.getElem?_cons_succ, Option.some.injEq] at ho
          subst ho
          dsimp only
          have hst : L 9 = true → False := fun h => by have := f11 h; rw [hL] at this; cases this
          have hN := hI.later (x1 wl (.cells #[.int .i64 0, .int .i64 0, .bool false, .bool false, .int .i64 0, .int .i64 0, .bool false, .bool false] 39))
          obtain ⟨Y0, g0', g1', g2', g3', g4', g5', g6', g7', g8', g9', g10', g11'⟩ := hN
          go_wp2_with fail
          exact hK (fun n => if n = 7 then Value.pointer (some ⟨wl.heap.size, 0, none⟩) else x n) _ ⟨Y0, g0', g1', g2', g3', g4', g5', g6', g7', (fun _ => ⟨wl.heap.size, rfl, X.size, fun h => (hst h).elim, fun _ => Vec.made8 wl _ _ _ _ _ _ _ _ _⟩), g9', g10', (fun _ => rfl)⟩
        | 9, ho, hL, haf, hK =>
          simp only [List.getElem?_toArray, List.getElem?_cons_zero, List.getElem?_cons_succ, Option.some.injEq] at ho
          subst ho
          dsimp only
          have h8 : L 8 = true := haf ⟨8, .data⟩ (by simp) rfl
          obtain ⟨b, eb', hb, _, hz⟩ := f8 h8
          have hbx := hz hL
          rw [eb', f6 (haf ⟨6, .data⟩ (by simp) rfl)]
          obtain ⟨⟨⟨c0, c1, c2, c3⟩, c4, c5, c6, c7⟩, ⟨c8, c9, cA, cB⟩, cC, cD, cE, cF⟩ := hbx.box8
          have hX := Ext.set8 X hb (.int .i64 n1) (.int .i64 n2) (.bool n3) (.bool n4) (.int .i64 n5) (.int .i64 n6) (.bool n7) (.bool n8)
          have hB := hbx.put8 (.int .i64 n1) (.int .i64 n2) (.bool n3) (.bool n4) (.int .i64 n5) (.int .i64 n6) (.bool n7) (.bool n8)
          go_wp2_with fail
          exact hK (fun n => if n = 7 then .pointer (some ⟨b, 0, none⟩) else if n = 23 then (arV n1 n2 n3 n4 n5 n6 n7 n8) else x n) _ ⟨hX, f0, f1, f2, f3, f4, f5, fun _ => rfl, f7, fun _ => ⟨b, rfl, hb, fun _ => hB, fun h => by cases h⟩, f9, f10, fun _ => h8⟩
        | 10, ho, hL, haf, hK =>
          simp only [List.getElem?_toArray, List.getElem?_cons_zero, List.getElem?_cons_succ, Option.some.injEq] at ho
          subst ho
          dsimp only
          rw [f7 (haf ⟨7, .data⟩ (by simp) rfl)]
          have hN := hI
          obtain ⟨Y0, g0', g1', g2', g3', g4', g5', g6', g7', g8', g9', g10', g11'⟩ := hN
          go_wp2_with fail
          exact hK (fun n => if n = 8 then (Value.bool q) else if n = 24 then (Value.bool q) else x n) _ ⟨Y0, g0', g1', g2', g3', g4', g5', g6', (fun _ => rfl), g8', g9', (fun _ => rfl), g11'⟩
        | k + 11, ho, _, _, _ => simp at ho
      · intro L x wl hall hI
        obtain ⟨X, f0, f1, f2, f3, f4, f5, f6, f7, f8, f9, f10, f11⟩ := hI
        obtain ⟨b, eb', hb, hz, _⟩ := f8 (hall 8 (by simp))
        have h9 := hz (hall 9 (by simp))
        have h10 := f10 (hall 10 (by simp))
        dsimp only
        clear f0 f1 f2 f3 f4 f5 f6 f7 f8 f9 f10 f11 hz
        go_wp2_with fail
        go_meet
        case rel => exact ⟨b, eb', h10, h9, X⟩
    case rest =>
      obtain ⟨b', rfl, rfl, Q, e6⟩ := hcut
      replace P := P.later e6
      replace X := xt X e6
      clear HI B1 B2
      obtain ⟨⟨⟨a0, a1, a2, a3⟩, a4, a5, a6, a7⟩, _⟩ := P.box8
      obtain ⟨⟨⟨b0, b1, b2, b3⟩, b4, b5, b6, b7⟩, _⟩ := Q.box8
      go_wp2_with fail
      refine (eqArea_same _ _ _ _ _ _ _ _ _).mono ?_
      rintro e w7 ⟨rfl, e7⟩
      go_wp2_with fail
      all_goals go_ret
      all_goals exact ⟨rfl, xt X e7⟩

end Go.Proofs.Ytdbiefpgoiofcaa
