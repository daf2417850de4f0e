/-
  The program's MoveRef, by the path of a move; FnExactMoveRef, walked.
-/
import Derived.Test.YtjoalcnedehfgaaMf2
namespace Go.Proofs.Ytjoalcnedehfgaa
open Go.RowKit

/-- What moveBy gives, told by its ending. -/
def MbR (D : Bool) (R0 R1 C0 C1 G0 G1 H0 H1 : Int) (w' : World) (e : Ending) : Prop := ∃ b7 b3 b4, e = .returned (.func (.func 44) #[] #[.pointer (some ⟨b7, 0, none⟩), .pointer (some ⟨b3, 0, none⟩), .pointer (some ⟨b4, 0, none⟩)]) ∧
  Vec w' b7 [.bool D] ∧ Vec w' b3 [.int .i64 R0, .int .i64 R1, .int .i64 C0, .int .i64 C1] ∧ Vec w' b4 [.int .i64 G0, .int .i64 G1, .int .i64 H0, .int .i64 H1]
theorem MbR.later {D : Bool} {R0 R1 C0 C1 G0 G1 H0 H1 : Int} {w w' : World} {e : Ending} (h : MbR D R0 R1 C0 C1 G0 G1 H0 H1 w e) (hx : Ext w w') : MbR D R0 R1 C0 C1 G0 G1 H0 H1 w' e := by
  obtain ⟨b7, b3, b4, e1, v7, v3, v4⟩ := h
  exact ⟨b7, b3, b4, e1, v7.later hx, v3.later hx, v4.later hx⟩
theorem moveByR (r c : Int) (f g : Bool) (r' c' : Int) (f' g' : Bool) (x y : Int) (w : World) (R0 R1 C0 C1 dx dy : Int) (D : Bool)
    (BO : ∀ w, Calls Try.prog 53 #[arV r c f g r' c' f' g'] w fun e w' => e = .returned (blV R0 R1 C0 C1) ∧ Ext w w') (hx : IntKind.i64.wrap (x - R0) = dx) (hy : IntKind.i64.wrap (y - C0) = dy)
    (g0 g1 h0 h1 : Int) (e0 : IntKind.i64.wrap (R0 + dx) = g0) (e1 : IntKind.i64.wrap (R1 + dx) = g1) (e2 : IntKind.i64.wrap (C0 + dy) = h0) (e3 : IntKind.i64.wrap (C1 + dy) = h1) (hD : D = (goodAB r c r' c' && goodAB g0 h0 g1 h1)) :
    Calls Try.prog 37 #[moV r c f g r' c' f' g' x y] w fun e w' => MbR D R0 R1 C0 C1 g0 g1 h0 h1 w' e ∧ Ext w w' :=
  (moveByJ r c f g r' c' f' g' x y R0 R1 C0 C1 g0 g1 h0 h1 D (fun w => pathI r c f g r' c' f' g' x y w R0 R1 C0 C1 dx dy D BO hx hy g0 g1 h0 h1 e0 e1 e2 e3 hD) w).mono fun e w' hh => by
    obtain ⟨⟨v, rfl, b7, b3, b4, rfl, v7, v3, v4⟩, X⟩ := hh
    exact ⟨⟨b7, b3, b4, rfl, v7, v3, v4⟩, X⟩
set_option maxRecDepth 8000 in
set_option maxHeartbeats 8000000 in
theorem moveRI_of (r c : Int) (f g : Bool) (r' c' : Int) (f' g' : Bool) (x y : Int) (s d : Int) (h k : Bool) (w : World) (D : Bool) (R0 R1 C0 C1 G0 G1 H0 H1 n1 n2 : Int) (q : Bool)
    (MB0 : ∀ w, Calls Try.prog 37 #[moV r c f g r' c' f' g' x y] w fun e w' => MbR D R0 R1 C0 C1 G0 G1 H0 H1 w' e ∧ Ext w w')
    (CL0 : ∀ (b7 b3 b4 : Nat) (w : World), Vec w b7 [.bool D] → Vec w b3 [.int .i64 R0, .int .i64 R1, .int .i64 C0, .int .i64 C1] → Vec w b4 [.int .i64 G0, .int .i64 G1, .int .i64 H0, .int .i64 H1] → Calls Try.prog 44 #[refV s d h k, .pointer (some ⟨b7, 0, none⟩), .pointer (some ⟨b3, 0, none⟩), .pointer (some ⟨b4, 0, none⟩)] w fun e w' => e = .returned (.tuple #[refV n1 n2 h k, .bool q]) ∧ Ext w w') :
    Calls Try.prog 21 #[moV r c f g r' c' f' g' x y, refV s d h k] w fun e w' => e = .returned (refV n1 n2 h k) ∧ Ext w w' := by
  have MB : Hid (∀ w, Calls Try.prog 37 #[moV r c f g r' c' f' g' x y] w fun e w' => MbR D R0 R1 C0 C1 G0 G1 H0 H1 w' e ∧ Ext w w') := MB0
  have CL : Hid (∀ (b7 b3 b4 : Nat) (w : World), Vec w b7 [.bool D] → Vec w b3 [.int .i64 R0, .int .i64 R1, .int .i64 C0, .int .i64 C1] → Vec w b4 [.int .i64 G0, .int .i64 G1, .int .i64 H0, .int .i64 H1] → Calls Try.prog 44 #[refV s d h k, .pointer (some ⟨b7, 0, none⟩), .pointer (some ⟨b3, 0, none⟩), .pointer (some ⟨b4, 0, none⟩)] w fun e w' => e = .returned (.tuple #[refV n1 n2 h k, .bool q]) ∧ Ext w w') := CL0
  clear MB0 CL0
  have B2 := Vec.made10 w (.int .i64 r) (.int .i64 c) (.bool f) (.bool g) (.int .i64 r') (.int .i64 c') (.bool f') (.bool g') (.int .i64 x) (.int .i64 y) 49
  have X := x1 w (.cells #[.int .i64 r, .int .i64 c, .bool f, .bool g, .int .i64 r', .int .i64 c', .bool f', .bool g', .int .i64 x, .int .i64 y] 49)
  obtain ⟨wa, ha⟩ : ∃ u, w.alloc (.cells #[.int .i64 r, .int .i64 c, .bool f, .bool g, .int .i64 r', .int .i64 c', .bool f', .bool g', .int .i64 x, .int .i64 y] 49) = u := ⟨_, rfl⟩
  rw [ha] at B2 X
  have sa : wa.heap.size = w.heap.size + 1 := by rw [← ha, World.size_alloc]
  have B3 := Vec.made4 wa (.int .i64 s) (.int .i64 d) (.bool h) (.bool k) 30
  have x3 := x1 wa (.cells #[.int .i64 s, .int .i64 d, .bool h, .bool k] 30)
  obtain ⟨wb, hb⟩ : ∃ u, wa.alloc (.cells #[.int .i64 s, .int .i64 d, .bool h, .bool k] 30) = u := ⟨_, rfl⟩
  rw [hb] at B3 x3
  have sb : wb.heap.size = w.heap.size + 1 + 1 := by rw [← hb, World.size_alloc, sa]
  have B4 := Vec.made4 wb (.int .i64 0) (.int .i64 0) (.bool false) (.bool false) 30
  have x4 := x1 wb (.cells #[.int .i64 0, .int .i64 0, .bool false, .bool false] 30)
  rw [sa] at B3
  go_enter Try.func21, Try.ntmps21
  go_upto_region 1 with fail
  (try rw [ha])
  (try rw [hb])
  obtain ⟨w0, hw0⟩ : ∃ u, wb.alloc (.cells #[.int .i64 0, .int .i64 0, .bool false, .bool false] 30) = u := ⟨_, rfl⟩
  rw [hw0] at B4 x4 ⊢
  rw [sb] at B4
  replace B2 := (B2.later x3).later x4
  replace B3 := B3.later x4
  replace X := xt (xt X x3) x4
  clear ha hb hw0 sa sb x3 x4
  go_cut [5] (fun v wc => ∃ b, v = .pointer (some ⟨b, 0, none⟩) ∧ Vec wc b [.int .i64 n1, .int .i64 n2, .bool h, .bool k] ∧ Ext w0 wc)
  case first =>
    refine wp_region_letters (fun lx : Nat → Value => { tmps := #[moV r c f g r' c' f' g' x y, refV s d h k, Value.pointer (some ⟨w.heap.size, 0, none⟩), Value.pointer (some ⟨w.heap.size + 1, 0, none⟩), Value.pointer (some ⟨w.heap.size + 1 + 1, 0, none⟩), lx 5, lx 6, lx 7, lx 8, lx 9, lx 10, lx 11, lx 12, lx 13, undef], defers := [] }) (fun L lx lw => Hid (Ext w0 lw ∧ (L 1 = true → L 3 = false → MbR D R0 R1 C0 C1 G0 G1 H0 H1 lw (.returned (lx 9))) ∧ (L 0 = true → lx 8 = (moV r c f g r' c' f' g' x y)) ∧ (L 2 = true → lx 10 = (refV s d h k)) ∧ (L 3 = true → lx 11 = (.tuple #[refV n1 n2 h k, .bool q])) ∧ (L 4 = true → lx 7 = (.tuple #[refV n1 n2 h k, .bool q])) ∧ (L 5 = true → lx 12 = (refV n1 n2 h k)) ∧ (L 6 = true → lx 13 = (.bool q)) ∧ (L 9 = true → lx 6 = (.bool q)) ∧ (L 7 = true → ∃ b, lx 5 = .pointer (some ⟨b, 0, none⟩) ∧ w0.heap.size ≤ b ∧ (L 8 = true → Vec lw b [.int .i64 n1, .int .i64 n2, .bool h, .bool k]) ∧ (L 8 = false → Vec lw b [.int .i64 0, .int .i64 0, .bool false, .bool false])) ∧ (L 8 = true → L 7 = true))) rfl (by kernel_rfl) (fun n => if n = 5 then undef else if n = 6 then undef else if n = 7 then undef else if n = 8 then undef else if n = 9 then undef else if n = 10 then undef else if n = 11 then undef else if n = 12 then undef else if n = 13 then undef else undef) rfl ?_ ?_ ?_
    · refine ⟨xd (xr _), ?_, ?_, ?_, ?_, ?_, ?_, ?_, ?_, ?_, ?_⟩ <;> (intro h; cases h)
    · intro L lx wl i o K hK ho hL haf hI
      obtain ⟨X, f0, f1, f2, f3, f4, f5, f6, f7, f8, f9⟩ := hI.out
      have B2' := B2.later X
      have B3' := B3.later X
      match i, ho, hL, haf, hK with
      | 0, ho, hL, haf, hK =>
        simp only [List.getElem?_toArray, List.getElem?_cons_zero, Option.some.injEq] at ho
        subst ho
        (try dsimp only)
        obtain ⟨⟨a0, a1, a2, a3, a4, a5, a6, a7, a8, a9⟩, _⟩ := B2'.box10
        go_wp2_with fail
        exact hK (fun n => if n = 8 then (moV r c f g r' c' f' g' x y) else lx n) _ ⟨X, f0, (fun _ => rfl), f2, f3, f4, f5, f6, f7, f8, f9⟩
      | 1, ho, hL, haf, hK =>
        simp only [List.getElem?_toArray, List.getElem?_cons_zero, List.getElem?_cons_succ, Option.some.injEq] at ho
        subst ho
        (try dsimp only)
        rw [f1 (haf ⟨0, .data⟩ (by simp) rfl)]
        go_wp2_with fail
        refine (MB.out _).mono ?_
        rintro rr w' ⟨hb, E⟩
        have hb' := hb
        obtain ⟨b7, b3, b4, rfl, _⟩ := hb'
        go_wp2_with fail
        exact hK (fun n => if n = 9 then (.func (.func 44) #[] #[.pointer (some ⟨b7, 0, none⟩), .pointer (some ⟨b3, 0, none⟩), .pointer (some ⟨b4, 0, none⟩)]) else if n = 8 then (moV r c f g r' c' f' g' x y) else lx n) _ ⟨xt X E, (fun _ _ => hb), (fun _ => rfl), f2, f3, f4, f5, f6, f7, (fun h => by obtain ⟨b, h1, h2, h3, h4⟩ := f8 h; exact ⟨b, h1, h2, fun h => (h3 h).later E, fun h => (h4 h).later E⟩), f9⟩
      | 2, ho, hL, haf, hK =>
        simp only [List.getElem?_toArray, List.getElem?_cons_zero, List.getElem?_cons_succ, Option.some.injEq] at ho
        subst ho
        (try dsimp only)
        obtain ⟨⟨p0, p1, p2, p3⟩, _⟩ := B3'.box4
        go_wp2_with fail
        exact hK (fun n => if n = 10 then (refV s d h k) else lx n) _ ⟨X, f0, f1, (fun _ => rfl), f3, f4, f5, f6, f7, f8, f9⟩
      | 3, ho, hL, haf, hK =>
        simp only [List.getElem?_toArray, List.getElem?_cons_zero, List.getElem?_cons_succ, Option.some.injEq] at ho
        subst ho
        (try dsimp only)
        obtain ⟨b7, b3, b4, e9, v7, v3, v4⟩ := f0 (haf ⟨1, .data⟩ (by simp) rfl) hL
        have e9' := Ending.returned.inj e9
        rw [e9', f2 (haf ⟨2, .data⟩ (by simp) rfl)]
        go_wp2_with fail
        refine (CL.out b7 b3 b4 _ v7 v3 v4).mono ?_
        rintro rr w' ⟨rfl, E⟩
        go_wp2_with fail
        exact hK (fun n => if n = 11 then (.tuple #[refV n1 n2 h k, .bool q]) else if n = 9 then (.func (.func 44) #[] #[.pointer (some ⟨b7, 0, none⟩), .pointer (some ⟨b3, 0, none⟩), .pointer (some ⟨b4, 0, none⟩)]) else if n = 10 then (refV s d h k) else lx n) _ ⟨xt X E, (fun _ h => by cases h), f1, (fun _ => rfl), (fun _ => rfl), f4, f5, f6, f7, (fun h => by obtain ⟨b, h1, h2, h3, h4⟩ := f8 h; exact ⟨b, h1, h2, fun h => (h3 h).later E, fun h => (h4 h).later E⟩), f9⟩
      | 4, ho, hL, haf, hK =>
        simp only [List.getElem?_toArray, List.getElem?_cons_zero, List.getElem?_cons_succ, Option.some.injEq] at ho
        subst ho
        (try dsimp only)
        rw [f3 (haf ⟨3, .data⟩ (by simp) rfl)]
        go_wp2_with fail
        exact hK (fun n => if n = 7 then (.tuple #[refV n1 n2 h k, .bool q]) else if n = 11 then (.tuple #[refV n1 n2 h k, .bool q]) else lx n) _ ⟨X, f0, f1, f2, (fun _ => rfl), (fun _ => rfl), f5, f6, f7, f8, f9⟩
      | 5, ho, hL, haf, hK =>
        simp only [List.getElem?_toArray, List.getElem?_cons_zero, List.getElem?_cons_succ, Option.some.injEq] at ho
        subst ho
        (try dsimp only)
        rw [f4 (haf ⟨4, .data⟩ (by simp) rfl)]
        go_wp2_with fail
        exact hK (fun n => if n = 12 then (refV n1 n2 h k) else if n = 7 then (.tuple #[refV n1 n2 h k, .bool q]) else lx n) _ ⟨X, f0, f1, f2, f3, (fun _ => rfl), (fun _ => rfl), f6, f7, f8, f9⟩
      | 6, ho, hL, haf, hK =>
        simp only [List.getElem?_toArray, List.getElem?_cons_zero, List.getElem?_cons_succ, Option.some.injEq] at ho
        subst ho
        (try dsimp only)
        rw [f4 (haf ⟨4, .data⟩ (by simp) rfl)]
        go_wp2_with fail
        exact hK (fun n => if n = 13 then (.bool q) else if n = 7 then (.tuple #[refV n1 n2 h k, .bool q]) else lx n) _ ⟨X, f0, f1, f2, f3, (fun _ => rfl), f5, (fun _ => rfl), f7, f8, f9⟩
      | 7, ho, hL, haf, hK =>
        simp only [List.getElem?_toArray, List.getElem?_cons_zero, List.getElem?_cons_succ, Option.some.injEq] at ho
        subst ho
        (try dsimp only)
        have hst : L 8 = true → False := fun h => by have := f9 h; rw [hL] at this; cases this
        go_wp2_with fail
        exact hK (fun n => if n = 5 then Value.pointer (some ⟨wl.heap.size, 0, none⟩) else lx n) _ ⟨xa X _, (fun h h' => (f0 h h').later (x1 wl (.cells #[.int .i64 0, .int .i64 0, .bool false, .bool false] 30))), f1, f2, f3, f4, f5, f6, f7, (fun _ => ⟨wl.heap.size, rfl, X.size, fun h => (hst h).elim, fun _ => Vec.made4 wl _ _ _ _ _⟩), (fun _ => rfl)⟩
      | 8, ho, hL, haf, hK =>
        simp only [List.getElem?_toArray, List.getElem?_cons_zero, List.getElem?_cons_succ, Option.some.injEq] at ho
        subst ho
        (try dsimp only)
        have hmk : L 7 = true := haf ⟨7, .data⟩ (by simp) rfl
        obtain ⟨b, eb', hb, _, hz⟩ := f8 hmk
        have hbx := hz hL
        have h3 : Hid (L 3 = true) := haf ⟨3, .phase⟩ (by simp) rfl
        rw [eb', f5 (haf ⟨5, .data⟩ (by simp) rfl)]
        obtain ⟨c0, c0'⟩ := hbx 0 _ rfl
        obtain ⟨c1, c1'⟩ := hbx 1 _ rfl
        obtain ⟨c2, c2'⟩ := hbx 2 _ rfl
        obtain ⟨c3, c3'⟩ := hbx 3 _ rfl
        have hX := Ext.set4 (o := 0) X hb (.int .i64 n1) (.int .i64 n2) (.bool h) (.bool k)
        have hB := hbx.put4 (.int .i64 n1) (.int .i64 n2) (.bool h) (.bool k)
        go_wp2_with fail
        exact hK (fun n => if n = 5 then .pointer (some ⟨b, 0, none⟩) else if n = 12 then (refV n1 n2 h k) else lx n) _ ⟨hX, (fun _ h => by have := h3.out; rw [show L 3 = false from h] at this; cases this), f1, f2, f3, f4, (fun _ => rfl), f6, f7, (fun _ => ⟨b, rfl, hb, fun _ => hB, fun h => by cases h⟩), (fun _ => hmk)⟩
      | 9, ho, hL, haf, hK =>
        simp only [List.getElem?_toArray, List.getElem?_cons_zero, List.getElem?_cons_succ, Option.some.injEq] at ho
        subst ho
        (try dsimp only)
        rw [f6 (haf ⟨6, .data⟩ (by simp) rfl)]
        go_wp2_with fail
        exact hK (fun n => if n = 6 then (.bool q) else if n = 13 then (.bool q) else lx n) _ ⟨X, f0, f1, f2, f3, f4, f5, (fun _ => rfl), (fun _ => rfl), f8, f9⟩
      | k + 10, ho, _, _, _ => simp at ho
    · intro L lx wl hall hI
      obtain ⟨X, f0, f1, f2, f3, f4, f5, f6, f7, f8, f9⟩ := hI.out
      clear hI
      clear f0
      replace f1 := f1 (hall 0 (by simp))
      replace f2 := f2 (hall 2 (by simp))
      replace f3 := f3 (hall 3 (by simp))
      replace f4 := f4 (hall 4 (by simp))
      replace f5 := f5 (hall 5 (by simp))
      replace f6 := f6 (hall 6 (by simp))
      replace f7 := f7 (hall 9 (by simp))
      obtain ⟨b7, e7, l7, hz7, _⟩ := f8 (hall 7 (by simp))
      have v7 := hz7 (hall 8 (by simp))
      (try dsimp only)
      have HV : Hid (lx 8 = (moV r c f g r' c' f' g' x y) ∧ lx 10 = (refV s d h k) ∧ lx 11 = (.tuple #[refV n1 n2 h k, .bool q]) ∧ lx 7 = (.tuple #[refV n1 n2 h k, .bool q]) ∧ lx 12 = (refV n1 n2 h k) ∧ lx 13 = (.bool q) ∧ lx 6 = (.bool q)) := ⟨f1, f2, f3, f4, f5, f6, f7⟩
      clear f1 f2 f3 f4 f5 f6 f7 f8 f9
      go_wp2_with fail
      go_meet
      case rel => exact ⟨b7, e7, v7, X⟩
  case rest =>
    obtain ⟨b, rfl, P, e5⟩ := hcut
    rename World => w1
    replace B4 := B4.later e5
    replace X := xt X e5
    obtain ⟨⟨p0, p1, p2, p3⟩, _⟩ := P.box4
    obtain ⟨⟨m0, m1, m2, m3⟩, m4, m5, m6, m7⟩ := B4.box4
    clear MB CL
    go_wp2
    exact bodyPost_ret (v := refV n1 n2 h k) (by simp [results, Try.results21, go_sem, m0, m1, m2, m3]) rfl ⟨rfl, Ext.set4 (o := 0) X (by omega) _ _ _ _⟩

theorem moveRI (r c : Int) (f g : Bool) (r' c' : Int) (f' g' : Bool) (x y : Int) (s d : Int) (h k : Bool) (w : World) (bx : -9223372036854775808 ≤ x ∧ x ≤ 9223372036854775807) (by' : -9223372036854775808 ≤ y ∧ y ≤ 9223372036854775807) :
    Calls Try.prog 21 #[moV r c f g r' c' f' g' x y, refV s d h k] w fun e w' => e = .returned (mrB r c r' c' x y s d h k) ∧ Ext w w' := by
  cases hg : goodAB r c r' c'
  · have hd : doesB r c r' c' x y = false := by unfold doesB; rw [hg]; rfl
    have e : mrB r c r' c' x y s d h k = refV s d h k := by unfold mrB; rw [hd]; simp
    rw [e]
    refine moveRI_of r c f g r' c' f' g' x y s d h k w false 0 0 0 0 _ _ _ _ s d false (fun w => moveByR r c f g r' c' f' g' x y w 0 0 0 0 _ _ false (blockOf_bad r c f g r' c' f' g' hg) rfl rfl _ _ _ _ rfl rfl rfl rfl (by rw [hg]; rfl)) ?_
    intro b7 b3 b4 w v7 v3 v4
    have := movesJ false 0 0 0 0 _ _ _ _ 0 0 s d h k b7 b3 b4 w v7 v3 v4 s d (fun h => by cases h)
    simpa using this
  · have gb := goodAB_bd hg
    have L1 := lo_is r r'
    have L2 := lo_is c c'
    have L3 := hi_is r r'
    have L4 := hi_is c c'
    obtain ⟨dx, hdx⟩ : ∃ n, IntKind.i64.wrap (x - lo r r') = n := ⟨_, rfl⟩
    obtain ⟨dy, hdy⟩ : ∃ n, IntKind.i64.wrap (y - lo c c') = n := ⟨_, rfl⟩
    obtain ⟨g1, hg1⟩ : ∃ n, IntKind.i64.wrap (hi r r' + dx) = n := ⟨_, rfl⟩
    obtain ⟨h1, hh1⟩ : ∃ n, IntKind.i64.wrap (hi c c' + dy) = n := ⟨_, rfl⟩
    have e0 : IntKind.i64.wrap (lo r r' + dx) = x := by rw [← hdx, IntKind.wrap_i64, IntKind.wrap_i64]; omega
    have e1 : IntKind.i64.wrap (lo c c' + dy) = y := by rw [← hdy, IntKind.wrap_i64, IntKind.wrap_i64]; omega
    have hD : doesB r c r' c' x y = (goodAB r c r' c' && goodAB x y g1 h1) := by
      unfold doesB
      rw [hg, Bool.true_and, Bool.true_and]
      unfold goodAB
      cases hp : goodRB x y
      · rfl
      · have hp' : (1 ≤ x ∧ x ≤ 1000) ∧ 1 ≤ y ∧ y ≤ 200 := of_decide_eq_true hp
        have a1 : dx = x - lo r r' := by rw [← hdx, IntKind.wrap_i64]; omega
        have a2 : dy = y - lo c c' := by rw [← hdy, IntKind.wrap_i64]; omega
        have a3 : g1 = hi r r' + (x - lo r r') := by rw [← hg1, a1, IntKind.wrap_i64]; omega
        have a4 : h1 = hi c c' + (y - lo c c') := by rw [← hh1, a2, IntKind.wrap_i64]; omega
        rw [a3, a4]
    have key : ∃ n1 n2, mrB r c r' c' x y s d h k = refV n1 n2 h k ∧ (if doesB r c r' c' x y = true ∧ insB (lo r r') (hi r r') (lo c c') (hi c c') s d = true then refV (s + (x - lo r r')) (d + (y - lo c c')) h k else refV s d h k) = refV n1 n2 h k := by
      unfold mrB
      split
      · exact ⟨_, _, rfl, rfl⟩
      · exact ⟨_, _, rfl, rfl⟩
    obtain ⟨n1, n2, k1, k2⟩ := key
    rw [k1]
    refine moveRI_of r c f g r' c' f' g' x y s d h k w (doesB r c r' c' x y) (lo r r') (hi r r') (lo c c') (hi c c') x g1 y h1 n1 n2 (doesB r c r' c' x y && insB (lo r r') (hi r r') (lo c c') (hi c c') s d) (fun w => moveByR r c f g r' c' f' g' x y w _ _ _ _ dx dy _ (fun w => blockOf r c f g r' c' f' g' w hg) hdx hdy x g1 y h1 e0 hg1 e1 hh1 hD) ?_
    intro b7 b3 b4 w v7 v3 v4
    have := movesJ (doesB r c r' c' x y) (lo r r') (hi r r') (lo c c') (hi c c') x g1 y h1 dx dy s d h k b7 b3 b4 w v7 v3 v4 (s + (x - lo r r')) (d + (y - lo c c')) (fun hd hi => by
      have bd := doesB_bd hd
      have hi' := of_decide_eq_true hi
      have a1 : dx = x - lo r r' := by rw [← hdx, IntKind.wrap_i64]; omega
      have a2 : dy = y - lo c c' := by rw [← hdy, IntKind.wrap_i64]; omega
      rw [a1, a2, IntKind.wrap_i64, IntKind.wrap_i64, IntKind.wrap_i64, IntKind.wrap_i64]
      omega)
    rw [k2] at this
    exact this

set_option maxRecDepth 8000 in
set_option maxHeartbeats 8000000 in
theorem lawMoveRef (r c : Int) (f g : Bool) (r' c' : Int) (f' g' : Bool) (x y : Int) (s d : Int) (h k : Bool) (w : World) (bx : -9223372036854775808 ≤ x ∧ x ≤ 9223372036854775807) (by' : -9223372036854775808 ≤ y ∧ y ≤ 9223372036854775807) :
    Calls Try.prog 6 #[moV r c f g r' c' f' g' x y, refV s d h k] w fun e w' => e = .returned (.bool true) ∧ Ext w w' := by
  obtain ⟨n1, n2, n3, n4, hn⟩ := mrB_shape r c r' c' x y s d h k
  have HS : Hid (∀ w, Calls Try.prog 19 #[moV r c f g r' c' f' g' x y, refV s d h k] w fun e w' => e = .returned (refV n1 n2 n3 n4) ∧ Ext w w') := fun w => by rw [← hn]; exact moveRS r c f g r' c' f' g' x y s d h k w
  have HI : Hid (∀ w, Calls Try.prog 21 #[moV r c f g r' c' f' g' x y, refV s d h k] w fun e w' => e = .returned (refV n1 n2 n3 n4) ∧ Ext w w') := fun w => by rw [← hn]; exact moveRI r c f g r' c' f' g' x y s d h k w bx by'
  clear hn bx by'
  have B1 := Vec.made10 w (.int .i64 r) (.int .i64 c) (.bool f) (.bool g) (.int .i64 r') (.int .i64 c') (.bool f') (.bool g') (.int .i64 x) (.int .i64 y) 46
  have X := x1 w (.cells #[.int .i64 r, .int .i64 c, .bool f, .bool g, .int .i64 r', .int .i64 c', .bool f', .bool g', .int .i64 x, .int .i64 y] 46)
  obtain ⟨wa, ha⟩ : ∃ u, w.alloc (.cells #[.int .i64 r, .int .i64 c, .bool f, .bool g, .int .i64 r', .int .i64 c', .bool f', .bool g', .int .i64 x, .int .i64 y] 46) = u := ⟨_, rfl⟩
  rw [ha] at B1 X
  have sa : wa.heap.size = w.heap.size + 1 := by rw [← ha, World.size_alloc]
  have B2 := Vec.made4 wa (.int .i64 s) (.int .i64 d) (.bool h) (.bool k) 29
  have x2 := x1 wa (.cells #[.int .i64 s, .int .i64 d, .bool h, .bool k] 29)
  rw [sa] at B2
  go_enter Try.func6, Try.ntmps6
  go_upto_region 1 with fail
  (try rw [ha])
  obtain ⟨w0, hw0⟩ : ∃ u, wa.alloc (.cells #[.int .i64 s, .int .i64 d, .bool h, .bool k] 29) = u := ⟨_, rfl⟩
  rw [hw0] at B2 x2 ⊢
  replace B1 := B1.later x2
  replace X := xt X x2
  clear ha sa hw0 x2
  go_cut [5] (fun v wc => ∃ b : Nat, v = .pointer (some ⟨b, 0, none⟩) ∧ Vec wc b [.int .i64 n1, .int .i64 n2, .bool n3, .bool n4] ∧ Ext w0 wc)
  case first =>
    refine wp_region_letters (fun lx : Nat → Value => { tmps := #[moV r c f g r' c' f' g' x y, refV s d h k, Value.pointer (some ⟨w.heap.size, 0, none⟩), Value.pointer (some ⟨w.heap.size + 1, 0, none⟩), Value.bool false, lx 5, undef, lx 7, lx 8, lx 9, lx 10, lx 11, undef, undef, undef, undef, undef, undef, undef, undef, undef], defers := [] }) (fun L lx lw => Hid (Ext w0 lw ∧ (L 0 = true → lx 7 = (moV r c f g r' c' f' g' x y)) ∧ (L 1 = true → lx 8 = (moV r c f g r' c' f' g' x y)) ∧ (L 2 = true → lx 9 = (refV s d h k)) ∧ (L 3 = true → lx 10 = (refV s d h k)) ∧ (L 4 = true → lx 11 = (refV n1 n2 n3 n4)) ∧ (L 5 = true → ∃ b, lx 5 = .pointer (some ⟨b, 0, none⟩) ∧ w0.heap.size ≤ b ∧ (L 6 = true → Vec lw b [.int .i64 n1, .int .i64 n2, .bool n3, .bool n4]) ∧ (L 6 = false → Vec lw b [.int .i64 0, .int .i64 0, .bool false, .bool false])) ∧ (L 6 = true → L 5 = true))) rfl (by kernel_rfl) (fun n => if n = 5 then undef else if n = 7 then undef else if n = 8 then undef else if n = 9 then undef else if n = 10 then undef else if n = 11 then undef else undef) rfl ?_ ?_ ?_
    · refine ⟨xd (xr _), ?_, ?_, ?_, ?_, ?_, ?_, ?_⟩ <;> (intro h; cases h)
    · intro L lx wl i o K hK ho hL haf hI
      obtain ⟨X, f0, f1, f2, f3, f4, f5, f6⟩ := hI.out
      have B1' := B1.later X
      have B2' := B2.later X
      match i, ho, hL, haf, hK with
      | 0, ho, hL, haf, hK =>
        simp only [List.getElem?_toArray, List.getElem?_cons_zero, Option.some.injEq] at ho
        subst ho
        (try dsimp only)
        obtain ⟨⟨a0, a1, a2, a3, a4, a5, a6, a7, a8, a9⟩, _⟩ := B1'.box10
        go_wp2_with fail
        exact hK (fun n => if n = 7 then (moV r c f g r' c' f' g' x y) else lx n) _ ⟨X, (fun _ => rfl), f1, f2, f3, f4, f5, f6⟩
      | 1, ho, hL, haf, hK =>
        simp only [List.getElem?_toArray, List.getElem?_cons_zero, List.getElem?_cons_succ, Option.some.injEq] at ho
        subst ho
        (try dsimp only)
        rw [f0 (haf ⟨0, .data⟩ (by simp) rfl)]
        go_wp2_with fail
        refine (toMove _ _ _ _ _ _ _ _ _ _ _).mono ?_
        rintro rr w' ⟨rfl, E⟩
        go_wp2_with fail
        exact hK (fun n => if n = 8 then (moV r c f g r' c' f' g' x y) else if n = 7 then (moV r c f g r' c' f' g' x y) else lx n) _ ⟨xt X E, (fun _ => rfl), (fun _ => rfl), f2, f3, f4, (fun h => by obtain ⟨b, h1, h2, h3, h4⟩ := f5 h; exact ⟨b, h1, h2, fun h => (h3 h).later E, fun h => (h4 h).later E⟩), f6⟩
      | 2, ho, hL, haf, hK =>
        simp only [List.getElem?_toArray, List.getElem?_cons_zero, List.getElem?_cons_succ, Option.some.injEq] at ho
        subst ho
        (try dsimp only)
        obtain ⟨⟨p0, p1, p2, p3⟩, _⟩ := B2'.box4
        go_wp2_with fail
        exact hK (fun n => if n = 9 then (refV s d h k) else lx n) _ ⟨X, f0, f1, (fun _ => rfl), f3, f4, f5, f6⟩
      | 3, ho, hL, haf, hK =>
        simp only [List.getElem?_toArray, List.getElem?_cons_zero, List.getElem?_cons_succ, Option.some.injEq] at ho
        subst ho
        (try dsimp only)
        rw [f2 (haf ⟨2, .data⟩ (by simp) rfl)]
        go_wp2_with fail
        refine (toRef _ _ _ _ _).mono ?_
        rintro rr w' ⟨rfl, E⟩
        go_wp2_with fail
        exact hK (fun n => if n = 10 then (refV s d h k) else if n = 9 then (refV s d h k) else lx n) _ ⟨xt X E, f0, f1, (fun _ => rfl), (fun _ => rfl), f4, (fun h => by obtain ⟨b, h1, h2, h3, h4⟩ := f5 h; exact ⟨b, h1, h2, fun h => (h3 h).later E, fun h => (h4 h).later E⟩), f6⟩
      | 4, ho, hL, haf, hK =>
        simp only [List.getElem?_toArray, List.getElem?_cons_zero, List.getElem?_cons_succ, Option.some.injEq] at ho
        subst ho
        (try dsimp only)
        rw [f1 (haf ⟨1, .data⟩ (by simp) rfl), f3 (haf ⟨3, .data⟩ (by simp) rfl)]
        go_wp2_with fail
        refine (HS.out _).mono ?_
        rintro rr w' ⟨rfl, E⟩
        go_wp2_with fail
        exact hK (fun n => if n = 11 then (refV n1 n2 n3 n4) else if n = 8 then (moV r c f g r' c' f' g' x y) else if n = 10 then (refV s d h k) else lx n) _ ⟨xt X E, f0, (fun _ => rfl), f2, (fun _ => rfl), (fun _ => rfl), (fun h => by obtain ⟨b, h1, h2, h3, h4⟩ := f5 h; exact ⟨b, h1, h2, fun h => (h3 h).later E, fun h => (h4 h).later E⟩), f6⟩
      | 5, ho, hL, haf, hK =>
        simp only [List.getElem?_toArray, List.getElem?_cons_zero, List.getElem?_cons_succ, Option.some.injEq] at ho
        subst ho
        (try dsimp only)
        have hst : L 6 = true → False := fun h => by have := f6 h; rw [hL] at this; cases this
        go_wp2_with fail
        exact hK (fun n => if n = 5 then Value.pointer (some ⟨wl.heap.size, 0, none⟩) else lx n) _ ⟨xa X _, f0, f1, f2, f3, f4, (fun _ => ⟨wl.heap.size, rfl, X.size, fun h => (hst h).elim, fun _ => Vec.made4 wl _ _ _ _ _⟩), (fun _ => rfl)⟩
      | 6, ho, hL, haf, hK =>
        simp only [List.getElem?_toArray, List.getElem?_cons_zero, List.getElem?_cons_succ, Option.some.injEq] at ho
        subst ho
        (try dsimp only)
        have hmk : L 5 = true := haf ⟨5, .data⟩ (by simp) rfl
        obtain ⟨b, eb', hb, _, hz⟩ := f5 hmk
        have hbx := hz hL
        rw [eb', f4 (haf ⟨4, .data⟩ (by simp) rfl)]
        obtain ⟨c0, c0'⟩ := hbx 0 _ rfl
        obtain ⟨c1, c1'⟩ := hbx 1 _ rfl
        obtain ⟨c2, c2'⟩ := hbx 2 _ rfl
        obtain ⟨c3, c3'⟩ := hbx 3 _ rfl
        have hX := Ext.set4 (o := 0) X hb (.int .i64 n1) (.int .i64 n2) (.bool n3) (.bool n4)
        have hB := hbx.put4 (.int .i64 n1) (.int .i64 n2) (.bool n3) (.bool n4)
        go_wp2_with fail
        exact hK (fun n => if n = 5 then .pointer (some ⟨b, 0, none⟩) else if n = 11 then (refV n1 n2 n3 n4) else lx n) _ ⟨hX, f0, f1, f2, f3, (fun _ => rfl), (fun _ => ⟨b, rfl, hb, fun _ => hB, fun h => by cases h⟩), (fun _ => hmk)⟩
      | k + 7, ho, _, _, _ => simp at ho
    · intro L lx wl hall hI
      obtain ⟨X, f0, f1, f2, f3, f4, f5, f6⟩ := hI.out
      clear hI
      replace f0 := f0 (hall 0 (by simp))
      replace f1 := f1 (hall 1 (by simp))
      replace f2 := f2 (hall 2 (by simp))
      replace f3 := f3 (hall 3 (by simp))
      replace f4 := f4 (hall 4 (by simp))
      obtain ⟨b5, e5, l5, hz5, _⟩ := f5 (hall 5 (by simp))
      have v5 := hz5 (hall 6 (by simp))
      (try dsimp only)
      have HV : Hid (lx 7 = (moV r c f g r' c' f' g' x y) ∧ lx 8 = (moV r c f g r' c' f' g' x y) ∧ lx 9 = (refV s d h k) ∧ lx 10 = (refV s d h k) ∧ lx 11 = (refV n1 n2 n3 n4)) := ⟨f0, f1, f2, f3, f4⟩
      clear f0 f1 f2 f3 f4 f5 f6
      go_wp2_with fail
      go_meet
      case rel => exact ⟨b5, e5, v5, X⟩
  case rest =>
    obtain ⟨b, rfl, P, e5⟩ := hcut
    rename World => w1
    replace B1 := B1.later e5
    replace B2 := B2.later e5
    replace X := xt X e5
    clear e5 HS
    go_upto_region 2 with fail
    go_cut [6] (fun v wd => ∃ b : Nat, v = .pointer (some ⟨b, 0, none⟩) ∧ Vec wd b [.int .i64 n1, .int .i64 n2, .bool n3, .bool n4] ∧ Ext w1 wd)
    case first =>
      refine wp_region_letters (fun lx : Nat → Value => { tmps := #[moV r c f g r' c' f' g' x y, refV s d h k, Value.pointer (some ⟨w.heap.size, 0, none⟩), Value.pointer (some ⟨w.heap.size + 1, 0, none⟩), Value.bool false, Value.pointer (some ⟨b, 0, none⟩), lx 6, u7, u8, u9, u10, u11, lx 12, lx 13, lx 14, lx 15, lx 16, u17, u18, u19, u20], defers := [] }) (fun L lx lw => Hid (Ext w1 lw ∧ (L 0 = true → lx 12 = (moV r c f g r' c' f' g' x y)) ∧ (L 1 = true → lx 13 = (moV r c f g r' c' f' g' x y)) ∧ (L 2 = true → lx 14 = (refV s d h k)) ∧ (L 3 = true → lx 15 = (refV s d h k)) ∧ (L 4 = true → lx 16 = (refV n1 n2 n3 n4)) ∧ (L 5 = true → ∃ b, lx 6 = .pointer (some ⟨b, 0, none⟩) ∧ w1.heap.size ≤ b ∧ (L 6 = true → Vec lw b [.int .i64 n1, .int .i64 n2, .bool n3, .bool n4]) ∧ (L 6 = false → Vec lw b [.int .i64 0, .int .i64 0, .bool false, .bool false])) ∧ (L 6 = true → L 5 = true))) rfl (by kernel_rfl) (fun n => if n = 6 then undef else if n = 12 then u12 else if n = 13 then u13 else if n = 14 then u14 else if n = 15 then u15 else if n = 16 then u16 else undef) rfl ?_ ?_ ?_
      · refine ⟨xd (xr _), ?_, ?_, ?_, ?_, ?_, ?_, ?_⟩ <;> (intro h; cases h)
      · intro L lx wl i o K hK ho hL haf hI
        obtain ⟨X, f0, f1, f2, f3, f4, f5, f6⟩ := hI.out
        have B1' := B1.later X
        have B2' := B2.later X
        match i, ho, hL, haf, hK with
        | 0, ho, hL, haf, hK =>
          simp only [List.getElem?_toArray, List.getElem?_cons_zero, Option.some.injEq] at ho
          subst ho
          (try dsimp only)
          obtain ⟨⟨a0, a1, a2, a3, a4, a5, a6, a7, a8, a9⟩, _⟩ := B1'.box10
          go_wp2_with fail
          exact hK (fun n => if n = 12 then (moV r c f g r' c' f' g' x y) else lx n) _ ⟨X, (fun _ => rfl), f1, f2, f3, f4, f5, f6⟩
        | 1, ho, hL, haf, hK =>
          simp only [List.getElem?_toArray, List.getElem?_cons_zero, List.getElem?_cons_succ, Option.some.injEq] at ho
          subst ho
          (try dsimp only)
          rw [f0 (haf ⟨0, .data⟩ (by simp) rfl)]
          go_wp2_with fail
          refine (toMove _ _ _ _ _ _ _ _ _ _ _).mono ?_
          rintro rr w' ⟨rfl, E⟩
          go_wp2_with fail
          exact hK (fun n => if n = 13 then (moV r c f g r' c' f' g' x y) else if n = 12 then (moV r c f g r' c' f' g' x y) else lx n) _ ⟨xt X E, (fun _ => rfl), (fun _ => rfl), f2, f3, f4, (fun h => by obtain ⟨b, h1, h2, h3, h4⟩ := f5 h; exact ⟨b, h1, h2, fun h => (h3 h).later E, fun h => (h4 h).later E⟩), f6⟩
        | 2, ho, hL, haf, hK =>
          simp only [List.getElem?_toArray, List.getElem?_cons_zero, List.getElem?_cons_succ, Option.some.injEq] at ho
          subst ho
          (try dsimp only)
          obtain ⟨⟨p0, p1, p2, p3⟩, _⟩ := B2'.box4
          go_wp2_with fail
          exact hK (fun n => if n = 14 then (refV s d h k) else lx n) _ ⟨X, f0, f1, (fun _ => rfl), f3, f4, f5, f6⟩
        | 3, ho, hL, haf, hK =>
          simp only [List.getElem?_toArray, List.getElem?_cons_zero, List.getElem?_cons_succ, Option.some.injEq] at ho
          subst ho
          (try dsimp only)
          rw [f2 (haf ⟨2, .data⟩ (by simp) rfl)]
          go_wp2_with fail
          refine (toRef _ _ _ _ _).mono ?_
          rintro rr w' ⟨rfl, E⟩
          go_wp2_with fail
          exact hK (fun n => if n = 15 then (refV s d h k) else if n = 14 then (refV s d h k) else lx n) _ ⟨xt X E, f0, f1, (fun _ => rfl), (fun _ => rfl), f4, (fun h => by obtain ⟨b, h1, h2, h3, h4⟩ := f5 h; exact ⟨b, h1, h2, fun h => (h3 h).later E, fun h => (h4 h).later E⟩), f6⟩
        | 4, ho, hL, haf, hK =>
          simp only [List.getElem?_toArray, List.getElem?_cons_zero, List.getElem?_cons_succ, Option.some.injEq] at ho
          subst ho
          (try dsimp only)
          rw [f1 (haf ⟨1, .data⟩ (by simp) rfl), f3 (haf ⟨3, .data⟩ (by simp) rfl)]
          go_wp2_with fail
          refine (HI.out _).mono ?_
          rintro rr w' ⟨rfl, E⟩
          go_wp2_with fail
          exact hK (fun n => if n = 16 then (refV n1 n2 n3 n4) else if n = 13 then (moV r c f g r' c' f' g' x y) else if n = 15 then (refV s d h k) else lx n) _ ⟨xt X E, f0, (fun _ => rfl), f2, (fun _ => rfl), (fun _ => rfl), (fun h => by obtain ⟨b, h1, h2, h3, h4⟩ := f5 h; exact ⟨b, h1, h2, fun h => (h3 h).later E, fun h => (h4 h).later E⟩), f6⟩
        | 5, ho, hL, haf, hK =>
          simp only [List.getElem?_toArray, List.getElem?_cons_zero, List.getElem?_cons_succ, Option.some.injEq] at ho
          subst ho
          (try dsimp only)
          have hst : L 6 = true → False := fun h => by have := f6 h; rw [hL] at this; cases this
          go_wp2_with fail
          exact hK (fun n => if n = 6 then Value.pointer (some ⟨wl.heap.size, 0, none⟩) else lx n) _ ⟨xa X _, f0, f1, f2, f3, f4, (fun _ => ⟨wl.heap.size, rfl, X.size, fun h => (hst h).elim, fun _ => Vec.made4 wl _ _ _ _ _⟩), (fun _ => rfl)⟩
        | 6, ho, hL, haf, hK =>
          simp only [List.getElem?_toArray, List.getElem?_cons_zero, List.getElem?_cons_succ, Option.some.injEq] at ho
          subst ho
          (try dsimp only)
          have hmk : L 5 = true := haf ⟨5, .data⟩ (by simp) rfl
          obtain ⟨b, eb', hb, _, hz⟩ := f5 hmk
          have hbx := hz hL
          rw [eb', f4 (haf ⟨4, .data⟩ (by simp) rfl)]
          obtain ⟨c0, c0'⟩ := hbx 0 _ rfl
          obtain ⟨c1, c1'⟩ := hbx 1 _ rfl
          obtain ⟨c2, c2'⟩ := hbx 2 _ rfl
          obtain ⟨c3, c3'⟩ := hbx 3 _ rfl
          have hX := Ext.set4 (o := 0) X hb (.int .i64 n1) (.int .i64 n2) (.bool n3) (.bool n4)
          have hB := hbx.put4 (.int .i64 n1) (.int .i64 n2) (.bool n3) (.bool n4)
          go_wp2_with fail
          exact hK (fun n => if n = 6 then .pointer (some ⟨b, 0, none⟩) else if n = 16 then (refV n1 n2 n3 n4) else lx n) _ ⟨hX, f0, f1, f2, f3, (fun _ => rfl), (fun _ => ⟨b, rfl, hb, fun _ => hB, fun h => by cases h⟩), (fun _ => hmk)⟩
        | k + 7, ho, _, _, _ => simp at ho
      · intro L lx wl hall hI
        obtain ⟨X, f0, f1, f2, f3, f4, f5, f6⟩ := hI.out
        clear hI
        replace f0 := f0 (hall 0 (by simp))
        replace f1 := f1 (hall 1 (by simp))
        replace f2 := f2 (hall 2 (by simp))
        replace f3 := f3 (hall 3 (by simp))
        replace f4 := f4 (hall 4 (by simp))
        obtain ⟨b5, e5, l5, hz5, _⟩ := f5 (hall 5 (by simp))
        have v5 := hz5 (hall 6 (by simp))
        (try dsimp only)
        have HV : Hid (lx 12 = (moV r c f g r' c' f' g' x y) ∧ lx 13 = (moV r c f g r' c' f' g' x y) ∧ lx 14 = (refV s d h k) ∧ lx 15 = (refV s d h k) ∧ lx 16 = (refV n1 n2 n3 n4)) := ⟨f0, f1, f2, f3, f4⟩
        clear f0 f1 f2 f3 f4 f5 f6
        go_wp2_with fail
        go_meet
        case rel => exact ⟨b5, e5, v5, X⟩
    case rest =>
      obtain ⟨b', rfl, Q, e6⟩ := hcut
      replace P := P.later e6
      replace X := xt X e6
      clear HI B1 B2
      obtain ⟨⟨a0, a1, a2, a3⟩, _⟩ := P.box4
      obtain ⟨⟨b0, b1, b2, b3⟩, _⟩ := Q.box4
      go_wp2_with fail
      refine (eqRef_same _ _ _ _ _).mono ?_
      rintro e w7 ⟨rfl, e7⟩
      go_wp2_with fail
      all_goals go_ret
      all_goals exact ⟨rfl, xt X e7⟩

end Go.Proofs.Ytjoalcnedehfgaa
