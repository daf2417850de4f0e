/-
  The program's moveBy: what takes a ref along with a move's cells.
-/
import Derived.Test.YtdbiefpgoiofcaaMx
import Derived.Test.YtdbiefpgoiofcaaTi
namespace Go.Proofs.Ytdbiefpgoiofcaa
open Go.RowKit

theorem Vec.made1 (w : World) (v0 : Value) (t : TypeId) : Vec (w.alloc (.cells #[v0] t)) w.heap.size [v0] := by
  intro i v hi
  match i, hi with
  | 0, hi => cases hi; exact ⟨by simp [go_sem], by simp [go_sem]⟩
def set1 (w : World) (b : Nat) (u : Value) : World := w.setCell ⟨b, 0, none⟩ u
theorem Vec.put1 {w : World} {b : Nat} {v0 : Value} (h : Vec w b [v0]) (u : Value) : Vec (set1 w b u) b [u] := h.put 0 (by simp) u
theorem Vec.far1 {w : World} {b k : Nat} {l : List Value} (h : Vec w b l) (hk : k ≠ b) (u : Value) : Vec (set1 w k u) b l := h.far (p := ⟨k, 0, none⟩) hk u
theorem Ext.set1 {a w : World} {b : Nat} (h : Ext a w) (hb : a.heap.size ≤ b) (u : Value) : Ext a (set1 w b u) := xset (p := ⟨b, 0, none⟩) h hb u
set_option maxRecDepth 8000 in
set_option maxHeartbeats 1000000 in
theorem blockOf_of (r c : Int) (rf cf : Bool) (r' c' : Int) (rf' cf' : Bool) (n1 n2 : Int) (n3 n4 : Bool) (n5 n6 : Int) (n7 n8 : Bool) (N : ∀ w, Calls Try.prog 54 #[arV r c rf cf r' c' rf' cf'] w fun e w' => e = .returned (arV n1 n2 n3 n4 n5 n6 n7 n8) ∧ Ext w w') (w : World) :
    Calls Try.prog 43 #[arV r c rf cf r' c' rf' cf'] w fun e w' => e = .returned (blV n1 n5 n2 n6) ∧ Ext w w' := by
  have B2 := Vec.made4 (w.alloc (.cells #[.int .i64 r, .int .i64 c, .bool rf, .bool cf, .int .i64 r', .int .i64 c', .bool rf', .bool cf'] 39)) (.int .i64 0) (.int .i64 0) (.int .i64 0) (.int .i64 0) 73
  have X := xa (x1 w (.cells #[.int .i64 r, .int .i64 c, .bool rf, .bool cf, .int .i64 r', .int .i64 c', .bool rf', .bool cf'] 39)) (.cells #[.int .i64 0, .int .i64 0, .int .i64 0, .int .i64 0] 73)
  rw [World.size_alloc] at B2
  go_enter Try.func43, Try.ntmps43
  go_wp2_with fail
  refine (N _).mono ?_
  rintro e w1 ⟨rfl, e1⟩
  have C2 := B2.later e1
  have Y := xt X e1
  clear B2 X e1 N
  obtain ⟨w2, h2⟩ : ∃ w2, w1.alloc (.cells #[.int .i64 n1, .int .i64 n2, .bool n3, .bool n4, .int .i64 n5, .int .i64 n6, .bool n7, .bool n8] 39) = w2 := ⟨_, rfl⟩
  have P := Vec.made8 w1 (.int .i64 n1) (.int .i64 n2) (.bool n3) (.bool n4) (.int .i64 n5) (.int .i64 n6) (.bool n7) (.bool n8) 39
  have x2 := x1 w1 (.cells #[.int .i64 n1, .int .i64 n2, .bool n3, .bool n4, .int .i64 n5, .int .i64 n6, .bool n7, .bool n8] 39)
  rw [h2] at P x2
  have D2 := C2.later x2
  have Z := Ext.set4 (b := w.heap.size + 1) (o := 0) (xt Y x2) (by omega) (.int .i64 n1) (.int .i64 n5) (.int .i64 n2) (.int .i64 n6)
  obtain ⟨⟨⟨a0, a1, a2, a3⟩, a4, a5, a6, a7⟩, _⟩ := P.box8
  obtain ⟨⟨m0, m1, m2, m3⟩, f0, f1, f2, f3⟩ := D2.box4
  clear P D2 C2 Y x2
  go_wp2_with fail
  exact bodyPost_ret (v := blV n1 n5 n2 n6) (by simp [results, Try.results43, go_sem, m0, m1, m2, m3]) rfl ⟨rfl, Z⟩


theorem blockOf_bad (r c : Int) (rf cf : Bool) (r' c' : Int) (rf' cf' : Bool) (hg : goodAB r c r' c' = false) (w : World) :
    Calls Try.prog 43 #[arV r c rf cf r' c' rf' cf'] w fun e w' => e = .returned (blV 0 0 0 0) ∧ Ext w w' :=
  blockOf_of r c rf cf r' c' rf' cf' 0 0 false false 0 0 false false (fun w => normalI_bad r c rf cf r' c' rf' cf' w hg) w

set_option maxHeartbeats 1000000 in
theorem spanHolds (a b n : Int) (w : World) :
    Calls Try.prog 55 #[spV a b, .int .i64 n] w fun e w' => e = .returned (.bool (decide (a ≤ n ∧ n ≤ b))) ∧ Ext w w' := by
  go_enter Try.func55, Try.ntmps55
  go_wp2
  all_goals go_ret
  all_goals refine ⟨ret_bool ?_, x1 _ _⟩
  all_goals rw [Bool.eq_iff_iff]
  all_goals first | (simp only [decide_eq_true_eq]; omega) | (simp; omega)
set_option maxRecDepth 8000 in
set_option maxHeartbeats 1000000 in
theorem blockHolds (a b c d r s : Int) (h k : Bool) (w : World) :
    Calls Try.prog 47 #[blV a b c d, refV r s h k] w fun e w' => e = .returned (.bool (insB a b c d r s)) ∧ Ext w w' := by
  have S1 := fun w => spanHolds a b r w
  have S2 := fun w => spanHolds c d s w
  have e : insB a b c d r s = (decide (a ≤ r ∧ r ≤ b) && decide (c ≤ s ∧ s ≤ d)) := by unfold insB; simp
  rw [e]
  clear e
  obtain ⟨p, hp⟩ : ∃ p, decide (a ≤ r ∧ r ≤ b) = p := ⟨_, rfl⟩
  obtain ⟨q, hq⟩ : ∃ q, decide (c ≤ s ∧ s ≤ d) = q := ⟨_, rfl⟩
  rw [hp] at S1 ⊢
  rw [hq] at S2 ⊢
  clear hp hq
  have B1 := Vec.made4 w (.int .i64 a) (.int .i64 b) (.int .i64 c) (.int .i64 d) 73
  have X := x1 w (.cells #[.int .i64 a, .int .i64 b, .int .i64 c, .int .i64 d] 73)
  obtain ⟨wa, ha⟩ : ∃ u, w.alloc (.cells #[.int .i64 a, .int .i64 b, .int .i64 c, .int .i64 d] 73) = u := ⟨_, rfl⟩
  rw [ha] at B1 X
  have sa : wa.heap.size = w.heap.size + 1 := by rw [← ha, World.size_alloc]
  have B2 := Vec.made4 wa (.int .i64 r) (.int .i64 s) (.bool h) (.bool k) 30
  have x2 := x1 wa (.cells #[.int .i64 r, .int .i64 s, .bool h, .bool k] 30)
  rw [sa] at B2
  go_enter Try.func47, Try.ntmps47
  go_upto_region 1 with fail
  (try rw [ha])
  obtain ⟨w0, hw0⟩ : ∃ u, wa.alloc (.cells #[.int .i64 r, .int .i64 s, .bool h, .bool k] 30) = u := ⟨_, rfl⟩
  rw [hw0] at B2 x2 ⊢
  replace B1 := B1.later x2
  replace X := xt X x2
  clear ha hw0 sa x2
  obtain ⟨⟨a0, a1, a2, a3⟩, _⟩ := B1.box4
  obtain ⟨⟨b0, b1, b2, b3⟩, _⟩ := B2.box4
  go_wp2_with fail
  refine (S1 _).mono ?_
  rintro e w1 ⟨rfl, e1⟩
  clear a0 a1 a2 a3 b0 b1 b2 b3
  obtain ⟨⟨a0, a1, a2, a3⟩, _⟩ := (B1.later e1).box4
  obtain ⟨⟨b0, b1, b2, b3⟩, _⟩ := (B2.later e1).box4
  cases p
  · go_wp2
    go_ret
    exact ⟨rfl, xt X e1⟩
  · go_wp2_with fail
    refine (S2 _).mono ?_
    rintro e w2 ⟨rfl, e2⟩
    go_wp2
    go_ret
    exact ⟨rfl, xt (xt X e1) e2⟩

/-- What moveBy gives: a function over four boxes. -/
def MbP (D : Bool) (R0 R1 C0 C1 dx dy : Int) (w' : World) (e : Ending) : Prop := ∃ b7 b3 b4 b5, e = .returned (.func (.func 46) #[] #[.pointer (some ⟨b7, 0, none⟩), .pointer (some ⟨b3, 0, none⟩), .pointer (some ⟨b4, 0, none⟩), .pointer (some ⟨b5, 0, none⟩)]) ∧
  Vec w' b7 [.bool D] ∧ Vec w' b3 [.int .i64 R0, .int .i64 R1, .int .i64 C0, .int .i64 C1] ∧ Vec w' b4 [.int .i64 dx] ∧ Vec w' b5 [.int .i64 dy]

set_option maxRecDepth 8000 in
set_option maxHeartbeats 8000000 in
theorem moveByI (r c : Int) (f g : Bool) (r' c' : Int) (f' g' : Bool) (x y : Int) (w : World) (R0 R1 C0 C1 dx dy : Int) (D : Bool)
    (BO : ∀ w, Calls Try.prog 43 #[arV r c f g r' c' f' g'] w fun e w' => e = .returned (blV R0 R1 C0 C1) ∧ Ext w w') (hx : IntKind.i64.wrap (x - R0) = dx) (hy : IntKind.i64.wrap (y - C0) = dy)
    (g0 g1 h0 h1 : Int) (e0 : IntKind.i64.wrap (R0 + dx) = g0) (e1 : IntKind.i64.wrap (R1 + dx) = g1) (e2 : IntKind.i64.wrap (C0 + dy) = h0) (e3 : IntKind.i64.wrap (C1 + dy) = h1) (hD : D = (goodAB r c r' c' && goodAB g0 h0 g1 h1)) :
    Calls Try.prog 37 #[moV r c f g r' c' f' g' x y] w fun e w' => MbP D R0 R1 C0 C1 dx dy w' e ∧ Ext w w' := by
  have GA := fun w => goodAI r c f g r' c' f' g' w
  have GB := fun w => goodAI g0 h0 false false g1 h1 false false w
  have AR := fun w => blockArea g0 g1 h0 h1 w
  have SH1 : Hid (∀ w, Calls Try.prog 44 #[spV R0 R1, .int .i64 dx] w fun e w' => e = .returned (spV g0 g1) ∧ Ext w w') := fun w => shiftedI R0 R1 dx g0 g1 w e0 e1
  have SH2 : Hid (∀ w, Calls Try.prog 44 #[spV C0 C1, .int .i64 dy] w fun e w' => e = .returned (spV h0 h1) ∧ Ext w w') := fun w => shiftedI C0 C1 dy h0 h1 w e2 e3
  obtain ⟨p, hp⟩ : ∃ p, goodAB r c r' c' = p := ⟨_, rfl⟩
  obtain ⟨q, hq⟩ : ∃ q, goodAB g0 h0 g1 h1 = q := ⟨_, rfl⟩
  rw [hp] at GA hD
  rw [hq] at GB hD
  clear hp hq e0 e1 e2 e3
  have B1 := Vec.made10 w (.int .i64 r) (.int .i64 c) (.bool f) (.bool g) (.int .i64 r') (.int .i64 c') (.bool f') (.bool g') (.int .i64 x) (.int .i64 y) 49
  have X := x1 w (.cells #[.int .i64 r, .int .i64 c, .bool f, .bool g, .int .i64 r', .int .i64 c', .bool f', .bool g', .int .i64 x, .int .i64 y] 49)
  go_enter Try.func37, Try.ntmps37
  go_upto_region 1 with fail
  obtain ⟨w0, hw0⟩ : ∃ u, w.alloc (.cells #[.int .i64 r, .int .i64 c, .bool f, .bool g, .int .i64 r', .int .i64 c', .bool f', .bool g', .int .i64 x, .int .i64 y] 49) = u := ⟨_, rfl⟩
  rw [hw0] at B1 X ⊢
  have s0 : w0.heap.size = w.heap.size + 1 := by rw [← hw0, World.size_alloc]
  clear hw0
  obtain ⟨⟨a0, a1, a2, a3, a4, a5, a6, a7, a8, a9⟩, _⟩ := B1.box10
  go_wp2_with fail
  refine (BO _).mono ?_
  rintro e w1 ⟨rfl, e1⟩
  clear a0 a1 a2 a3 a4 a5 a6 a7 a8 a9 BO
  have s1 := e1.size
  replace B1 := B1.later e1
  replace X := xt X e1
  clear e1
  go_upto_region 2 with fail
  have B3 := Vec.made4 w1 (.int .i64 R0) (.int .i64 R1) (.int .i64 C0) (.int .i64 C1) 73
  have x3 := x1 w1 (.cells #[.int .i64 R0, .int .i64 R1, .int .i64 C0, .int .i64 C1] 73)
  obtain ⟨w2, hw2⟩ : ∃ u, w1.alloc (.cells #[.int .i64 R0, .int .i64 R1, .int .i64 C0, .int .i64 C1] 73) = u := ⟨_, rfl⟩
  rw [hw2] at B3 x3 ⊢
  obtain ⟨b3, hb3⟩ : ∃ b, w1.heap.size = b := ⟨_, rfl⟩
  rw [hb3] at B3 ⊢
  replace B1 := B1.later x3
  replace X := xt X x3
  clear hw2 x3
  go_cut [4, 5] (fun u v wc => ∃ b4 b5, u = .pointer (some ⟨b4, 0, none⟩) ∧ v = .pointer (some ⟨b5, 0, none⟩) ∧ Vec wc b4 [.int .i64 dx] ∧ Vec wc b5 [.int .i64 dy] ∧ Ext w2 wc)
  case first =>
    refine wp_region_letters (fun lx : Nat → Value => { tmps := #[moV r c f g r' c' f' g' x y, Value.pointer (some ⟨w.heap.size, 0, none⟩), Value.nilFunc, Value.pointer (some ⟨b3, 0, none⟩), lx 4, lx 5, undef, undef, Value.pointer (some ⟨w.heap.size, 0, none⟩), Value.agg #[.int .i64 r, .int .i64 c, .bool f, .bool g, .int .i64 r', .int .i64 c', .bool f', .bool g'], blV R0 R1 C0 C1, lx 11, lx 12, lx 13, lx 14, lx 15, lx 16, lx 17, lx 18, lx 19, lx 20, lx 21, lx 22, undef, undef, undef, undef, undef, undef, undef, undef, undef, undef, undef, undef, undef, undef, undef, undef, undef, undef], defers := [] }) (fun L lx lw => Hid (Ext w2 lw ∧ (L 0 = true → lx 11 = (.pointer (some ⟨w.heap.size, 8, none⟩))) ∧ (L 1 = true → lx 12 = (.int .i64 x)) ∧ (L 2 = true → lx 13 = (.pointer (some ⟨b3, 0, none⟩))) ∧ (L 3 = true → lx 14 = (.pointer (some ⟨b3, 0, none⟩))) ∧ (L 4 = true → lx 15 = (.int .i64 R0)) ∧ (L 5 = true → lx 16 = (.int .i64 dx)) ∧ (L 6 = true → lx 17 = (.pointer (some ⟨w.heap.size, 9, none⟩))) ∧ (L 7 = true → lx 18 = (.int .i64 y)) ∧ (L 8 = true → lx 19 = (.pointer (some ⟨b3, 2, none⟩))) ∧ (L 9 = true → lx 20 = (.pointer (some ⟨b3, 2, none⟩))) ∧ (L 10 = true → lx 21 = (.int .i64 C0)) ∧ (L 11 = true → lx 22 = (.int .i64 dy)) ∧ (L 12 = true → ∃ b, lx 4 = .pointer (some ⟨b, 0, none⟩) ∧ w2.heap.size ≤ b ∧ (L 14 = true → Vec lw b [.int .i64 dx]) ∧ (L 14 = false → Vec lw b [.int .i64 0])) ∧ (L 13 = true → ∃ b, lx 5 = .pointer (some ⟨b, 0, none⟩) ∧ w2.heap.size ≤ b ∧ (L 15 = true → Vec lw b [.int .i64 dy]) ∧ (L 15 = false → Vec lw b [.int .i64 0])) ∧ (L 12 = true → L 13 = true → lx 4 ≠ lx 5) ∧ (L 14 = true → L 12 = true) ∧ (L 15 = true → L 13 = true))) rfl (by kernel_rfl) (fun n => if n = 4 then undef else if n = 5 then undef else if n = 11 then undef else if n = 12 then undef else if n = 13 then undef else if n = 14 then undef else if n = 15 then undef else if n = 16 then undef else if n = 17 then undef else if n = 18 then undef else if n = 19 then undef else if n = 20 then undef else if n = 21 then undef else if n = 22 then undef else undef) rfl ?_ ?_ ?_
    · refine ⟨xd (xr _), ?_, ?_, ?_, ?_, ?_, ?_, ?_, ?_, ?_, ?_, ?_, ?_, ?_, ?_, ?_, ?_, ?_⟩ <;> (intro h; cases h)
    · intro L lx wl i o K hK ho hL haf hI
      obtain ⟨X, f0, f1, f2, f3, f4, f5, f6, f7, f8, f9, f10, f11, f12, f13, f14, f15, f16⟩ := hI.out
      have B1' := B1.later X
      have B3' := B3.later X
      match i, ho, hL, haf, hK with
      | 0, ho, hL, haf, hK =>
        simp only [List.getElem?_toArray, List.getElem?_cons_zero, Option.some.injEq] at ho
        subst ho
        dsimp only
        go_wp2_with fail
        exact hK (fun n => if n = 11 then (.pointer (some ⟨w.heap.size, 8, none⟩)) else lx n) _ ⟨X, (fun _ => rfl), f1, f2, f3, f4, f5, f6, f7, f8, f9, f10, f11, f12, f13, f14, f15, f16⟩
      | 1, ho, hL, haf, hK =>
        simp only [List.getElem?_toArray, List.getElem?_cons_zero, List.getElem?_cons_succ, Option.some.injEq] at ho
        subst ho
        dsimp only
        rw [f0 (haf ⟨0, .data⟩ (by simp) rfl)]
        obtain ⟨⟨a0, a1, a2, a3, a4, a5, a6, a7, a8, a9⟩, _⟩ := B1'.box10
        go_wp2_with fail
        exact hK (fun n => if n = 12 then (.int .i64 x) else if n = 11 then (.pointer (some ⟨w.heap.size, 8, none⟩)) else lx n) _ ⟨X, (fun _ => rfl), (fun _ => rfl), f2, f3, f4, f5, f6, f7, f8, f9, f10, f11, f12, f13, f14, f15, f16⟩
      | 2, ho, hL, haf, hK =>
        simp only [List.getElem?_toArray, List.getElem?_cons_zero, List.getElem?_cons_succ, Option.some.injEq] at ho
        subst ho
        dsimp only
        go_wp2_with fail
        exact hK (fun n => if n = 13 then (.pointer (some ⟨b3, 0, none⟩)) else lx n) _ ⟨X, f0, f1, (fun _ => rfl), f3, f4, f5, f6, f7, f8, f9, f10, f11, f12, f13, f14, f15, f16⟩
      | 3, ho, hL, haf, hK =>
        simp only [List.getElem?_toArray, List.getElem?_cons_zero, List.getElem?_cons_succ, Option.some.injEq] at ho
        subst ho
        dsimp only
        rw [f2 (haf ⟨2, .data⟩ (by simp) rfl)]
        go_wp2_with fail
        exact hK (fun n => if n = 14 then (.pointer (some ⟨b3, 0, none⟩)) else if n = 13 then (.pointer (some ⟨b3, 0, none⟩)) else lx n) _ ⟨X, f0, f1, (fun _ => rfl), (fun _ => rfl), f4, f5, f6, f7, f8, f9, f10, f11, f12, f13, f14, f15, f16⟩
      | 4, ho, hL, haf, hK =>
        simp only [List.getElem?_toArray, List.getElem?_cons_zero, List.getElem?_cons_succ, Option.some.injEq] at ho
        subst ho
        dsimp only
        rw [f3 (haf ⟨3, .data⟩ (by simp) rfl)]
        obtain ⟨⟨p0, p1, p2, p3⟩, _⟩ := B3'.box4
        go_wp2_with fail
        exact hK (fun n => if n = 15 then (.int .i64 R0) else if n = 14 then (.pointer (some ⟨b3, 0, none⟩)) else lx n) _ ⟨X, f0, f1, f2, (fun _ => rfl), (fun _ => rfl), f5, f6, f7, f8, f9, f10, f11, f12, f13, f14, f15, f16⟩
      | 5, ho, hL, haf, hK =>
        simp only [List.getElem?_toArray, List.getElem?_cons_zero, List.getElem?_cons_succ, Option.some.injEq] at ho
        subst ho
        dsimp only
        rw [f1 (haf ⟨1, .data⟩ (by simp) rfl), f4 (haf ⟨4, .data⟩ (by simp) rfl)]
        go_wp2_with fail
        exact hK (fun n => if n = 16 then (.int .i64 dx) else if n = 12 then (.int .i64 x) else if n = 15 then (.int .i64 R0) else lx n) _ ⟨X, f0, (fun _ => rfl), f2, f3, (fun _ => rfl), (fun _ => rfl), f6, f7, f8, f9, f10, f11, f12, f13, f14, f15, f16⟩
      | 6, ho, hL, haf, hK =>
        simp only [List.getElem?_toArray, List.getElem?_cons_zero, List.getElem?_cons_succ, Option.some.injEq] at ho
        subst ho
        dsimp only
        go_wp2_with fail
        exact hK (fun n => if n = 17 then (.pointer (some ⟨w.heap.size, 9, none⟩)) else lx n) _ ⟨X, f0, f1, f2, f3, f4, f5, (fun _ => rfl), f7, f8, f9, f10, f11, f12, f13, f14, f15, f16⟩
      | 7, ho, hL, haf, hK =>
        simp only [List.getElem?_toArray, List.getElem?_cons_zero, List.getElem?_cons_succ, Option.some.injEq] at ho
        subst ho
        dsimp only
        rw [f6 (haf ⟨6, .data⟩ (by simp) rfl)]
        obtain ⟨⟨a0, a1, a2, a3, a4, a5, a6, a7, a8, a9⟩, _⟩ := B1'.box10
        go_wp2_with fail
        exact hK (fun n => if n = 18 then (.int .i64 y) else if n = 17 then (.pointer (some ⟨w.heap.size, 9, none⟩)) else lx n) _ ⟨X, f0, f1, f2, f3, f4, f5, (fun _ => rfl), (fun _ => rfl), f8, f9, f10, f11, f12, f13, f14, f15, f16⟩
      | 8, ho, hL, haf, hK =>
        simp only [List.getElem?_toArray, List.getElem?_cons_zero, List.getElem?_cons_succ, Option.some.injEq] at ho
        subst ho
        dsimp only
        go_wp2_with fail
        exact hK (fun n => if n = 19 then (.pointer (some ⟨b3, 2, none⟩)) else lx n) _ ⟨X, f0, f1, f2, f3, f4, f5, f6, f7, (fun _ => rfl), f9, f10, f11, f12, f13, f14, f15, f16⟩
      | 9, ho, hL, haf, hK =>
        simp only [List.getElem?_toArray, List.getElem?_cons_zero, List.getElem?_cons_succ, Option.some.injEq] at ho
        subst ho
        dsimp only
        rw [f8 (haf ⟨8, .data⟩ (by simp) rfl)]
        go_wp2_with fail
        exact hK (fun n => if n = 20 then (.pointer (some ⟨b3, 2, none⟩)) else if n = 19 then (.pointer (some ⟨b3, 2, none⟩)) else lx n) _ ⟨X, f0, f1, f2, f3, f4, f5, f6, f7, (fun _ => rfl), (fun _ => rfl), f10, f11, f12, f13, f14, f15, f16⟩
      | 10, ho, hL, haf, hK =>
        simp only [List.getElem?_toArray, List.getElem?_cons_zero, List.getElem?_cons_succ, Option.some.injEq] at ho
        subst ho
        dsimp only
        rw [f9 (haf ⟨9, .data⟩ (by simp) rfl)]
        obtain ⟨⟨p0, p1, p2, p3⟩, _⟩ := B3'.box4
        go_wp2_with fail
        exact hK (fun n => if n = 21 then (.int .i64 C0) else if n = 20 then (.pointer (some ⟨b3, 2, none⟩)) else lx n) _ ⟨X, f0, f1, f2, f3, f4, f5, f6, f7, f8, (fun _ => rfl), (fun _ => rfl), f11, f12, f13, f14, f15, f16⟩
      | 11, ho, hL, haf, hK =>
        simp only [List.getElem?_toArray, List.getElem?_cons_zero, List.getElem?_cons_succ, Option.some.injEq] at ho
        subst ho
        dsimp only
        rw [f7 (haf ⟨7, .data⟩ (by simp) rfl), f10 (haf ⟨10, .data⟩ (by simp) rfl)]
        go_wp2_with fail
        exact hK (fun n => if n = 22 then (.int .i64 dy) else if n = 18 then (.int .i64 y) else if n = 21 then (.int .i64 C0) else lx n) _ ⟨X, f0, f1, f2, f3, f4, f5, f6, (fun _ => rfl), f8, f9, (fun _ => rfl), (fun _ => rfl), f12, f13, f14, f15, f16⟩
      | 12, ho, hL, haf, hK =>
        simp only [List.getElem?_toArray, List.getElem?_cons_zero, List.getElem?_cons_succ, Option.some.injEq] at ho
        subst ho
        dsimp only
        have hst : L 14 = true → False := fun h => by have := f15 h; rw [hL] at this; cases this
        have hne13 : L 13 = true → Value.pointer (some ⟨wl.heap.size, 0, none⟩) ≠ lx 5 := fun h e => by obtain ⟨b, h1, _, h3, h4⟩ := f13 h; rw [← e] at h1; cases h1; cases hs : L 15; exact absurd (World.block_lt_of_cell? _ _ ((h4 hs) 0 _ rfl).1) (Nat.lt_irrefl _); exact absurd (World.block_lt_of_cell? _ _ ((h3 hs) 0 _ rfl).1) (Nat.lt_irrefl _)
        go_wp2_with fail
        exact hK (fun n => if n = 4 then Value.pointer (some ⟨wl.heap.size, 0, none⟩) else lx n) _ ⟨xa X _, f0, f1, f2, f3, f4, f5, f6, f7, f8, f9, f10, f11, (fun _ => ⟨wl.heap.size, rfl, X.size, fun h => (hst h).elim, fun _ => Vec.made1 wl _ _⟩), (fun h => by obtain ⟨b, h1, h2, h3, h4⟩ := f13 h; exact ⟨b, h1, h2, fun h => (h3 h).later (x1 wl (.cells #[.int .i64 0] 3)), fun h => (h4 h).later (x1 wl (.cells #[.int .i64 0] 3))⟩), (fun h h' e => hne13 h' e), (fun _ => rfl), f16⟩
      | 13, ho, hL, haf, hK =>
        simp only [List.getElem?_toArray, List.getElem?_cons_zero, List.getElem?_cons_succ, Option.some.injEq] at ho
        subst ho
        dsimp only
        have hst : L 15 = true → False := fun h => by have := f16 h; rw [hL] at this; cases this
        have hne12 : L 12 = true → Value.pointer (some ⟨wl.heap.size, 0, none⟩) ≠ lx 4 := fun h e => by obtain ⟨b, h1, _, h3, h4⟩ := f12 h; rw [← e] at h1; cases h1; cases hs : L 14; exact absurd (World.block_lt_of_cell? _ _ ((h4 hs) 0 _ rfl).1) (Nat.lt_irrefl _); exact absurd (World.block_lt_of_cell? _ _ ((h3 hs) 0 _ rfl).1) (Nat.lt_irrefl _)
        go_wp2_with fail
        exact hK (fun n => if n = 5 then Value.pointer (some ⟨wl.heap.size, 0, none⟩) else lx n) _ ⟨xa X _, f0, f1, f2, f3, f4, f5, f6, f7, f8, f9, f10, f11, (fun h => by obtain ⟨b, h1, h2, h3, h4⟩ := f12 h; exact ⟨b, h1, h2, fun h => (h3 h).later (x1 wl (.cells #[.int .i64 0] 3)), fun h => (h4 h).later (x1 wl (.cells #[.int .i64 0] 3))⟩), (fun _ => ⟨wl.heap.size, rfl, X.size, fun h => (hst h).elim, fun _ => Vec.made1 wl _ _⟩), (fun h h' e => hne12 h e.symm), f15, (fun _ => rfl)⟩
      | 14, ho, hL, haf, hK =>
        simp only [List.getElem?_toArray, List.getElem?_cons_zero, List.getElem?_cons_succ, Option.some.injEq] at ho
        subst ho
        dsimp only
        have hmk : L 12 = true := haf ⟨12, .data⟩ (by simp) rfl
        obtain ⟨b, eb', hb, _, hz⟩ := f12 hmk
        have hbx := hz hL
        rw [eb', f5 (haf ⟨5, .data⟩ (by simp) rfl)]
        obtain ⟨c0, c0'⟩ := hbx 0 _ rfl
        have hX := Ext.set1 X hb (.int .i64 dx)
        have hB := hbx.put1 (.int .i64 dx)
        have hne13 : L 13 = true → lx 5 ≠ .pointer (some ⟨b, 0, none⟩) := fun h e => f14 hmk h (by rw [e, eb'])
        go_wp2_with fail
        exact hK (fun n => if n = 4 then .pointer (some ⟨b, 0, none⟩) else if n = 16 then (.int .i64 dx) else lx n) _ ⟨hX, f0, f1, f2, f3, f4, (fun _ => rfl), f6, f7, f8, f9, f10, f11, (fun _ => ⟨b, rfl, hb, fun _ => hB, fun h => by cases h⟩), (fun h => by obtain ⟨b', h1, h2, h3, h4⟩ := f13 h; have hbb : b ≠ b' := fun e => hne13 h (by rw [h1, e]); exact ⟨b', h1, h2, fun h => (h3 h).far1 hbb _, fun h => (h4 h).far1 hbb _⟩), (fun _ h e => hne13 h e.symm), (fun _ => hmk), f16⟩
      | 15, ho, hL, haf, hK =>
        simp only [List.getElem?_toArray, List.getElem?_cons_zero, List.getElem?_cons_succ, Option.some.injEq] at ho
        subst ho
        dsimp only
        have hmk : L 13 = true := haf ⟨13, .data⟩ (by simp) rfl
        obtain ⟨b, eb', hb, _, hz⟩ := f13 hmk
        have hbx := hz hL
        rw [eb', f11 (haf ⟨11, .data⟩ (by simp) rfl)]
        obtain ⟨c0, c0'⟩ := hbx 0 _ rfl
        have hX := Ext.set1 X hb (.int .i64 dy)
        have hB := hbx.put1 (.int .i64 dy)
        have hne12 : L 12 = true → lx 4 ≠ .pointer (some ⟨b, 0, none⟩) := fun h e => f14 h hmk (by rw [e, eb'])
        go_wp2_with fail
        exact hK (fun n => if n = 5 then .pointer (some ⟨b, 0, none⟩) else if n = 22 then (.int .i64 dy) else lx n) _ ⟨hX, f0, f1, f2, f3, f4, f5, f6, f7, f8, f9, f10, (fun _ => rfl), (fun h => by obtain ⟨b', h1, h2, h3, h4⟩ := f12 h; have hbb : b ≠ b' := fun e => hne12 h (by rw [h1, e]); exact ⟨b', h1, h2, fun h => (h3 h).far1 hbb _, fun h => (h4 h).far1 hbb _⟩), (fun _ => ⟨b, rfl, hb, fun _ => hB, fun h => by cases h⟩), (fun h _ => hne12 h), f15, (fun _ => hmk)⟩
      | k + 16, ho, _, _, _ => simp at ho
    · intro L lx wl hall hI
      obtain ⟨X, f0, f1, f2, f3, f4, f5, f6, f7, f8, f9, f10, f11, f12, f13, f14, f15, f16⟩ := hI.out
      clear hI
      replace f0 := f0 (hall 0 (by simp))
      replace f1 := f1 (hall 1 (by simp))
      replace f2 := f2 (hall 2 (by simp))
      replace f3 := f3 (hall 3 (by simp))
      replace f4 := f4 (hall 4 (by simp))
      replace f5 := f5 (hall 5 (by simp))
      replace f6 := f6 (hall 6 (by simp))
      replace f7 := f7 (hall 7 (by simp))
      replace f8 := f8 (hall 8 (by simp))
      replace f9 := f9 (hall 9 (by simp))
      replace f10 := f10 (hall 10 (by simp))
      replace f11 := f11 (hall 11 (by simp))
      obtain ⟨b12, e12, l12, hz12, _⟩ := f12 (hall 12 (by simp))
      have v12 := hz12 (hall 14 (by simp))
      obtain ⟨b13, e13, l13, hz13, _⟩ := f13 (hall 13 (by simp))
      have v13 := hz13 (hall 15 (by simp))
      have d12_13 := f14 (hall 12 (by simp)) (hall 13 (by simp))
      dsimp only
      have HV : Hid (lx 11 = (.pointer (some ⟨w.heap.size, 8, none⟩)) ∧ lx 12 = (.int .i64 x) ∧ lx 13 = (.pointer (some ⟨b3, 0, none⟩)) ∧ lx 14 = (.pointer (some ⟨b3, 0, none⟩)) ∧ lx 15 = (.int .i64 R0) ∧ lx 16 = (.int .i64 dx) ∧ lx 17 = (.pointer (some ⟨w.heap.size, 9, none⟩)) ∧ lx 18 = (.int .i64 y) ∧ lx 19 = (.pointer (some ⟨b3, 2, none⟩)) ∧ lx 20 = (.pointer (some ⟨b3, 2, none⟩)) ∧ lx 21 = (.int .i64 C0) ∧ lx 22 = (.int .i64 dy)) := ⟨f0, f1, f2, f3, f4, f5, f6, f7, f8, f9, f10, f11⟩
      clear f0 f1 f2 f3 f4 f5 f6 f7 f8 f9 f10 f11 f12 f13 f14 f15 f16
      go_wp2_with fail
      go_meet
      case rel => exact ⟨b12, b13, e12, e13, v12, v13, X⟩
  case rest =>
    obtain ⟨b4, b5, rfl, rfl, B4, B5, e2⟩ := hcut
    rename World => w3
    replace B1 := B1.later e2
    replace B3 := B3.later e2
    replace X := xt X e2
    clear e2
    go_upto_region 3 with fail
    go_cut [6] (fun v wc => ∃ b6, v = .pointer (some ⟨b6, 0, none⟩) ∧ Vec wc b6 [.int .i64 g0, .int .i64 g1, .int .i64 h0, .int .i64 h1] ∧ Ext w3 wc)
    case first =>
      refine wp_region_letters (fun lx : Nat → Value => { tmps := #[moV r c f g r' c' f' g' x y, Value.pointer (some ⟨w.heap.size, 0, none⟩), Value.nilFunc, Value.pointer (some ⟨b3, 0, none⟩), Value.pointer (some ⟨b4, 0, none⟩), Value.pointer (some ⟨b5, 0, none⟩), lx 6, undef, u8, u9, u10, u11, u12, u13, u14, u15, u16, u17, u18, u19, u20, u21, u22, lx 23, lx 24, lx 25, lx 26, lx 27, lx 28, lx 29, lx 30, lx 31, u32, u33, u34, u35, u36, u37, u38, u39, u40], defers := [] }) (fun L lx lw => Hid (Ext w3 lw ∧ (L 0 = true → lx 23 = (.pointer (some ⟨b3, 0, none⟩))) ∧ (L 1 = true → lx 24 = (spV R0 R1)) ∧ (L 2 = true → lx 25 = (.int .i64 dx)) ∧ (L 3 = true → lx 26 = (spV g0 g1)) ∧ (L 4 = true → lx 27 = (.pointer (some ⟨b3, 2, none⟩))) ∧ (L 5 = true → lx 28 = (spV C0 C1)) ∧ (L 6 = true → lx 29 = (.int .i64 dy)) ∧ (L 7 = true → lx 30 = (spV h0 h1)) ∧ (L 8 = true → lx 31 = (blV g0 g1 h0 h1)) ∧ (L 9 = true → ∃ b, lx 6 = .pointer (some ⟨b, 0, none⟩) ∧ w3.heap.size ≤ b ∧ (L 10 = true → Vec lw b [.int .i64 g0, .int .i64 g1, .int .i64 h0, .int .i64 h1]) ∧ (L 10 = false → Vec lw b [.int .i64 0, .int .i64 0, .int .i64 0, .int .i64 0])) ∧ (L 10 = true → L 9 = true))) rfl (by kernel_rfl) (fun n => if n = 6 then undef else if n = 23 then u23 else if n = 24 then u24 else if n = 25 then u25 else if n = 26 then u26 else if n = 27 then u27 else if n = 28 then u28 else if n = 29 then u29 else if n = 30 then u30 else if n = 31 then u31 else undef) rfl ?_ ?_ ?_
      · refine ⟨xd (xr _), ?_, ?_, ?_, ?_, ?_, ?_, ?_, ?_, ?_, ?_, ?_⟩ <;> (intro h; cases h)
      · intro L lx wl i o K hK ho hL haf hI
        obtain ⟨X, f0, f1, f2, f3, f4, f5, f6, f7, f8, f9, f10⟩ := hI.out
        have B3' := B3.later X
        have B4' := B4.later X
        have B5' := B5.later X
        match i, ho, hL, haf, hK with
        | 0, ho, hL, haf, hK =>
          simp only [List.getElem?_toArray, List.getElem?_cons_zero, Option.some.injEq] at ho
          subst ho
          dsimp only
          go_wp2_with fail
          exact hK (fun n => if n = 23 then (.pointer (some ⟨b3, 0, none⟩)) else lx n) _ ⟨X, (fun _ => rfl), f1, f2, f3, f4, f5, f6, f7, f8, f9, f10⟩
        | 1, ho, hL, haf, hK =>
          simp only [List.getElem?_toArray, List.getElem?_cons_zero, List.getElem?_cons_succ, Option.some.injEq] at ho
          subst ho
          dsimp only
          rw [f0 (haf ⟨0, .data⟩ (by simp) rfl)]
          obtain ⟨⟨p0, p1, p2, p3⟩, _⟩ := B3'.box4
          go_wp2_with fail
          exact hK (fun n => if n = 24 then (spV R0 R1) else if n = 23 then (.pointer (some ⟨b3, 0, none⟩)) else lx n) _ ⟨X, (fun _ => rfl), (fun _ => rfl), f2, f3, f4, f5, f6, f7, f8, f9, f10⟩
        | 2, ho, hL, haf, hK =>
          simp only [List.getElem?_toArray, List.getElem?_cons_zero, List.getElem?_cons_succ, Option.some.injEq] at ho
          subst ho
          dsimp only
          obtain ⟨p0, _⟩ := (B4' 0 _ rfl)
          go_wp2_with fail
          exact hK (fun n => if n = 25 then (.int .i64 dx) else lx n) _ ⟨X, f0, f1, (fun _ => rfl), f3, f4, f5, f6, f7, f8, f9, f10⟩
        | 3, ho, hL, haf, hK =>
          simp only [List.getElem?_toArray, List.getElem?_cons_zero, List.getElem?_cons_succ, Option.some.injEq] at ho
          subst ho
          dsimp only
          rw [f1 (haf ⟨1, .data⟩ (by simp) rfl), f2 (haf ⟨2, .data⟩ (by simp) rfl)]
          go_wp2_with fail
          refine (SH1.out _).mono ?_
          rintro rr w' ⟨rfl, E⟩
          go_wp2_with fail
          exact hK (fun n => if n = 26 then (spV g0 g1) else if n = 24 then (spV R0 R1) else if n = 25 then (.int .i64 dx) else lx n) _ ⟨xt X E, f0, (fun _ => rfl), (fun _ => rfl), (fun _ => rfl), f4, f5, f6, f7, f8, (fun h => by obtain ⟨b, h1, h2, h3, h4⟩ := f9 h; exact ⟨b, h1, h2, fun h => (h3 h).later E, fun h => (h4 h).later E⟩), f10⟩
        | 4, ho, hL, haf, hK =>
          simp only [List.getElem?_toArray, List.getElem?_cons_zero, List.getElem?_cons_succ, Option.some.injEq] at ho
          subst ho
          dsimp only
          go_wp2_with fail
          exact hK (fun n => if n = 27 then (.pointer (some ⟨b3, 2, none⟩)) else lx n) _ ⟨X, f0, f1, f2, f3, (fun _ => rfl), f5, f6, f7, f8, f9, f10⟩
        | 5, ho, hL, haf, hK =>
          simp only [List.getElem?_toArray, List.getElem?_cons_zero, List.getElem?_cons_succ, Option.some.injEq] at ho
          subst ho
          dsimp only
          rw [f4 (haf ⟨4, .data⟩ (by simp) rfl)]
          obtain ⟨⟨p0, p1, p2, p3⟩, _⟩ := B3'.box4
          go_wp2_with fail
          exact hK (fun n => if n = 28 then (spV C0 C1) else if n = 27 then (.pointer (some ⟨b3, 2, none⟩)) else lx n) _ ⟨X, f0, f1, f2, f3, (fun _ => rfl), (fun _ => rfl), f6, f7, f8, f9, f10⟩
        | 6, ho, hL, haf, hK =>
          simp only [List.getElem?_toArray, List.getElem?_cons_zero, List.getElem?_cons_succ, Option.some.injEq] at ho
          subst ho
          dsimp only
          obtain ⟨p0, _⟩ := (B5' 0 _ rfl)
          go_wp2_with fail
          exact hK (fun n => if n = 29 then (.int .i64 dy) else lx n) _ ⟨X, f0, f1, f2, f3, f4, f5, (fun _ => rfl), f7, f8, f9, f10⟩
        | 7, ho, hL, haf, hK =>
          simp only [List.getElem?_toArray, List.getElem?_cons_zero, List.getElem?_cons_succ, Option.some.injEq] at ho
          subst ho
          dsimp only
          rw [f5 (haf ⟨5, .data⟩ (by simp) rfl), f6 (haf ⟨6, .data⟩ (by simp) rfl)]
          go_wp2_with fail
          refine (SH2.out _).mono ?_
          rintro rr w' ⟨rfl, E⟩
          go_wp2_with fail
          exact hK (fun n => if n = 30 then (spV h0 h1) else if n = 28 then (spV C0 C1) else if n = 29 then (.int .i64 dy) else lx n) _ ⟨xt X E, f0, f1, f2, f3, f4, (fun _ => rfl), (fun _ => rfl), (fun _ => rfl), f8, (fun h => by obtain ⟨b, h1, h2, h3, h4⟩ := f9 h; exact ⟨b, h1, h2, fun h => (h3 h).later E, fun h => (h4 h).later E⟩), f10⟩
        | 8, ho, hL, haf, hK =>
          simp only [List.getElem?_toArray, List.getElem?_cons_zero, List.getElem?_cons_succ, Option.some.injEq] at ho
          subst ho
          dsimp only
          rw [f3 (haf ⟨3, .data⟩ (by simp) rfl), f7 (haf ⟨7, .data⟩ (by simp) rfl)]
          go_wp2_with fail
          exact hK (fun n => if n = 31 then (blV g0 g1 h0 h1) else if n = 26 then (spV g0 g1) else if n = 30 then (spV h0 h1) else lx n) _ ⟨X, f0, f1, f2, (fun _ => rfl), f4, f5, f6, (fun _ => rfl), (fun _ => rfl), f9, f10⟩
        | 9, ho, hL, haf, hK =>
          simp only [List.getElem?_toArray, List.getElem?_cons_zero, List.getElem?_cons_succ, Option.some.injEq] at ho
          subst ho
          dsimp only
          have hst : L 10 = true → False := fun h => by have := f10 h; rw [hL] at this; cases this
          go_wp2_with fail
          exact hK (fun n => if n = 6 then Value.pointer (some ⟨wl.heap.size, 0, none⟩) else lx n) _ ⟨xa X _, f0, f1, f2, f3, f4, f5, f6, f7, f8, (fun _ => ⟨wl.heap.size, rfl, X.size, fun h => (hst h).elim, fun _ => Vec.made4 wl _ _ _ _ _⟩), (fun _ => rfl)⟩
        | 10, ho, hL, haf, hK =>
          simp only [List.getElem?_toArray, List.getElem?_cons_zero, List.getElem?_cons_succ, Option.some.injEq] at ho
          subst ho
          dsimp only
          have hmk : L 9 = true := haf ⟨9, .data⟩ (by simp) rfl
          obtain ⟨b, eb', hb, _, hz⟩ := f9 hmk
          have hbx := hz hL
          rw [eb', f8 (haf ⟨8, .data⟩ (by simp) rfl)]
          obtain ⟨c0, c0'⟩ := hbx 0 _ rfl
          obtain ⟨c1, c1'⟩ := hbx 1 _ rfl
          obtain ⟨c2, c2'⟩ := hbx 2 _ rfl
          obtain ⟨c3, c3'⟩ := hbx 3 _ rfl
          have hX := Ext.set4 (o := 0) X hb (.int .i64 g0) (.int .i64 g1) (.int .i64 h0) (.int .i64 h1)
          have hB := hbx.put4 (.int .i64 g0) (.int .i64 g1) (.int .i64 h0) (.int .i64 h1)
          go_wp2_with fail
          exact hK (fun n => if n = 6 then .pointer (some ⟨b, 0, none⟩) else if n = 31 then (blV g0 g1 h0 h1) else lx n) _ ⟨hX, f0, f1, f2, f3, f4, f5, f6, f7, (fun _ => rfl), (fun _ => ⟨b, rfl, hb, fun _ => hB, fun h => by cases h⟩), (fun _ => hmk)⟩
        | k + 11, ho, _, _, _ => simp at ho
      · intro L lx wl hall hI
        obtain ⟨X, f0, f1, f2, f3, f4, f5, f6, f7, f8, f9, f10⟩ := hI.out
        clear hI
        replace f0 := f0 (hall 0 (by simp))
        replace f1 := f1 (hall 1 (by simp))
        replace f2 := f2 (hall 2 (by simp))
        replace f3 := f3 (hall 3 (by simp))
        replace f4 := f4 (hall 4 (by simp))
        replace f5 := f5 (hall 5 (by simp))
        replace f6 := f6 (hall 6 (by simp))
        replace f7 := f7 (hall 7 (by simp))
        replace f8 := f8 (hall 8 (by simp))
        obtain ⟨b9, e9, l9, hz9, _⟩ := f9 (hall 9 (by simp))
        have v9 := hz9 (hall 10 (by simp))
        dsimp only
        have HV : Hid (lx 23 = (.pointer (some ⟨b3, 0, none⟩)) ∧ lx 24 = (spV R0 R1) ∧ lx 25 = (.int .i64 dx) ∧ lx 26 = (spV g0 g1) ∧ lx 27 = (.pointer (some ⟨b3, 2, none⟩)) ∧ lx 28 = (spV C0 C1) ∧ lx 29 = (.int .i64 dy) ∧ lx 30 = (spV h0 h1) ∧ lx 31 = (blV g0 g1 h0 h1)) := ⟨f0, f1, f2, f3, f4, f5, f6, f7, f8⟩
        clear f0 f1 f2 f3 f4 f5 f6 f7 f8 f9 f10
        go_wp2_with fail
        go_meet
        case rel => exact ⟨b9, e9, v9, X⟩
    case rest =>
      obtain ⟨b6, rfl, B6, e3⟩ := hcut
      rename World => w4
      replace B1 := B1.later e3
      replace B3 := B3.later e3
      replace B4 := B4.later e3
      replace B5 := B5.later e3
      replace X := xt X e3
      clear e3 SH1 SH2
      obtain ⟨⟨a0, a1, a2, a3, a4, a5, a6, a7, a8, a9⟩, _⟩ := B1.box10
      go_wp2_with fail
      refine (GA _).mono ?_
      rintro e w5 ⟨rfl, e5⟩
      clear a0 a1 a2 a3 a4 a5 a6 a7 a8 a9
      replace B3 := B3.later e5
      replace B4 := B4.later e5
      replace B5 := B5.later e5
      replace B6 := B6.later e5
      replace X := xt X e5
      clear e5 B1
      cases p
      · rw [Bool.false_and] at hD
        subst hD
        go_wp2
        refine bodyPost_ret (v := .func (.func 46) #[] #[.pointer (some ⟨w5.heap.size, 0, none⟩), .pointer (some ⟨b3, 0, none⟩), .pointer (some ⟨b4, 0, none⟩), .pointer (some ⟨b5, 0, none⟩)]) (by simp [results, Try.results37, go_sem]) rfl ⟨⟨_, _, _, _, rfl, Vec.made1 _ _ _, B3.later (x1 _ _), B4.later (x1 _ _), B5.later (x1 _ _)⟩, xa X _⟩
      · rw [Bool.true_and] at hD
        subst hD
        obtain ⟨⟨p0, p1, p2, p3⟩, _⟩ := B6.box4
        go_wp2_with fail
        refine (AR _).mono ?_
        rintro e w6 ⟨rfl, e6⟩
        go_wp2_with fail
        refine (GB _).mono ?_
        rintro e w7 ⟨rfl, e7⟩
        go_wp2
        refine bodyPost_ret (v := .func (.func 46) #[] #[.pointer (some ⟨w7.heap.size, 0, none⟩), .pointer (some ⟨b3, 0, none⟩), .pointer (some ⟨b4, 0, none⟩), .pointer (some ⟨b5, 0, none⟩)]) (by simp [results, Try.results37, go_sem]) rfl ⟨⟨_, _, _, _, rfl, Vec.made1 _ _ _, B3.later (xa (xt e6 e7) _), B4.later (xa (xt e6 e7) _), B5.later (xa (xt e6 e7) _)⟩, xa (xt (xt X e6) e7) _⟩

end Go.Proofs.Ytdbiefpgoiofcaa
