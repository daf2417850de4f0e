/-
  The specification's MoveRef.
-/
import Derived.Test.YtjoalcnedehfgaaMv
import Derived.Test.YtjoalcnedehfgaaTu
namespace Go.Proofs.Ytjoalcnedehfgaa
open Go.RowKit

/-- Whether a move does something. -/
def doesB (r c r' c' x y : Int) : Bool := goodAB r c r' c' && goodRB x y && goodRB (hi r r' + (x - lo r r')) (hi c c' + (y - lo c c'))
/-- What l5Moves answers. -/
def MvP (r c r' c' x y : Int) (e : Ending) : Prop := ∃ n1 n2 n3 n4 : Int, (doesB r c r' c' x y = true → n1 = lo r r' ∧ n2 = lo c c' ∧ n3 = hi r r' ∧ n4 = hi c c') ∧ e = .returned (.tuple #[arV n1 n2 false false n3 n4 false false, .int .i64 (if doesB r c r' c' x y = true then x - lo r r' else 0), .int .i64 (if doesB r c r' c' x y = true then y - lo c c' else 0), .bool (doesB r c r' c' x y)])
theorem lo_self (x : Int) : lo x x = x := by unfold lo; split <;> rfl
theorem hi_self (x : Int) : hi x x = x := by unfold hi; split <;> rfl
set_option maxRecDepth 8000 in
set_option maxHeartbeats 4000000 in
theorem movesS (r c : Int) (f g : Bool) (r' c' : Int) (f' g' : Bool) (x y : Int) (w : World) :
    Calls Try.prog 35 #[moV r c f g r' c' f' g' x y] w fun e w' => MvP r c r' c' x y e ∧ Ext w w' := by
  have GA := fun w => goodAS r c f g r' c' f' g' w
  have HU := fun w => hullS r c f g r' c' f' g' r c f g r' c' f' g' w
  have B1 := Vec.made10 w (.int .i64 r) (.int .i64 c) (.bool f) (.bool g) (.int .i64 r') (.int .i64 c') (.bool f') (.bool g') (.int .i64 x) (.int .i64 y) 49
  have X := x1 w (.cells #[.int .i64 r, .int .i64 c, .bool f, .bool g, .int .i64 r', .int .i64 c', .bool f', .bool g', .int .i64 x, .int .i64 y] 49)
  obtain ⟨wa, ha⟩ : ∃ u, w.alloc (.cells #[.int .i64 r, .int .i64 c, .bool f, .bool g, .int .i64 r', .int .i64 c', .bool f', .bool g', .int .i64 x, .int .i64 y] 49) = u := ⟨_, rfl⟩
  rw [ha] at B1 X
  have sa : wa.heap.size = w.heap.size + 1 := by rw [← ha, World.size_alloc]
  have B2 := Vec.made8 wa (.int .i64 0) (.int .i64 0) (.bool false) (.bool false) (.int .i64 0) (.int .i64 0) (.bool false) (.bool false) 39
  have x2 := x1 wa (.cells #[.int .i64 0, .int .i64 0, .bool false, .bool false, .int .i64 0, .int .i64 0, .bool false, .bool false] 39)
  cases hg : goodAB r c r' c'
  · have hd : doesB r c r' c' x y = false := by unfold doesB; rw [hg]; rfl
    rw [hg] at GA
    have HD : Hid (doesB r c r' c' x y = false) := hd
    clear hg HU hd
    go_enter Try.func35, Try.ntmps35
    go_upto_region 1 with fail
    (try rw [ha])
    obtain ⟨w0, hw0⟩ : ∃ u, wa.alloc (.cells #[.int .i64 0, .int .i64 0, .bool false, .bool false, .int .i64 0, .int .i64 0, .bool false, .bool false] 39) = u := ⟨_, rfl⟩
    rw [hw0] at B2 x2 ⊢
    rw [sa] at B2
    replace B1 := B1.later x2
    replace X := xt X x2
    clear ha hw0 sa x2
    obtain ⟨⟨a0, a1, a2, a3, a4, a5, a6, a7, a8, a9⟩, _⟩ := B1.box10
    go_wp2_with fail
    refine (GA _).mono ?_
    rintro e w1 ⟨rfl, e1⟩
    obtain ⟨⟨⟨m0, m1, m2, m3⟩, m4, m5, m6, m7⟩, ⟨m8, m9, mA, mB⟩, mC, mD, mE, mF⟩ := (B2.later e1).box8
    go_wp2
    exact bodyPost_ret (v := .tuple #[arV 0 0 false false 0 0 false false, .int .i64 0, .int .i64 0, .bool false]) (by simp [results, Try.results35, go_sem, m0, m1, m2, m3, m4, m5, m6, m7]) rfl ⟨⟨0, 0, 0, 0, fun h => (by rw [HD.out] at h; cases h), by rw [HD.out]; rfl⟩, Ext.set8 (xt X e1) (by omega) _ _ _ _ _ _ _ _⟩
  · rw [hg] at GA
    have hH : hullB r c r' c' r c r' c' = arV (lo r r') (lo c c') false false (hi r r') (hi c c') false false := by
      unfold hullB
      rw [if_pos ⟨hg, hg⟩, lo_self, lo_self, hi_self, hi_self]
    rw [hH] at HU
    have hg' := goodAB_bd hg
    have L1 := lo_is r r'
    have L2 := lo_is c c'
    have L3 := hi_is r r'
    have L4 := hi_is c c'
    have P1 := fun w => placeS x y w
    obtain ⟨dd, hdd⟩ : ∃ dd, doesB r c r' c' x y = dd := ⟨_, rfl⟩
    have hd0 := hdd
    unfold doesB at hd0
    rw [hg, Bool.true_and] at hd0
    have HD : Hid (doesB r c r' c' x y = dd) := hdd
    obtain ⟨R0, h1⟩ : ∃ n, lo r r' = n := ⟨_, rfl⟩
    obtain ⟨C0, h2⟩ : ∃ n, lo c c' = n := ⟨_, rfl⟩
    obtain ⟨R1, h3⟩ : ∃ n, hi r r' = n := ⟨_, rfl⟩
    obtain ⟨C1, h4⟩ : ∃ n, hi c c' = n := ⟨_, rfl⟩
    rw [h1, h2, h3, h4] at HU hd0
    rw [h1] at L1
    rw [h2] at L2
    rw [h3] at L3
    rw [h4] at L4
    have H1 : Hid (lo r r' = R0 ∧ lo c c' = C0 ∧ hi r r' = R1 ∧ hi c c' = C1) := ⟨h1, h2, h3, h4⟩
    have bR : 1 ≤ R0 ∧ R0 ≤ 1000 ∧ 1 ≤ R1 ∧ R1 ≤ 1000 := by omega
    have bC : 1 ≤ C0 ∧ C0 ≤ 200 ∧ 1 ≤ C1 ∧ C1 ≤ 200 := by omega
    clear hg hH hg' L1 L2 L3 L4 h1 h2 h3 h4 hdd
    go_enter Try.func35, Try.ntmps35
    go_upto_region 1 with fail
    (try rw [ha])
    obtain ⟨w0, hw0⟩ : ∃ u, wa.alloc (.cells #[.int .i64 0, .int .i64 0, .bool false, .bool false, .int .i64 0, .int .i64 0, .bool false, .bool false] 39) = u := ⟨_, rfl⟩
    have s0 : w0.heap.size = w.heap.size + 1 + 1 := by rw [← hw0, World.size_alloc, sa]
    rw [hw0] at B2 x2 ⊢
    rw [sa] at B2
    replace B1 := B1.later x2
    replace X := xt X x2
    clear ha hw0 sa x2
    obtain ⟨⟨a0, a1, a2, a3, a4, a5, a6, a7, a8, a9⟩, _⟩ := B1.box10
    go_wp2_with fail
    refine (GA _).mono ?_
    rintro e w1 ⟨rfl, e1⟩
    clear a0 a1 a2 a3 a4 a5 a6 a7 a8 a9 GA
    have s1 := e1.size
    replace B1 := B1.later e1
    replace B2 := B2.later e1
    replace X := xt X e1
    clear e1
    obtain ⟨⟨a0, a1, a2, a3, a4, a5, a6, a7, a8, a9⟩, _⟩ := B1.box10
    go_wp2_with fail
    refine (HU _).mono ?_
    rintro e w2 ⟨rfl, e2⟩
    clear a0 a1 a2 a3 a4 a5 a6 a7 a8 a9 HU
    have s2 := e2.size
    replace B1 := B1.later e2
    replace B2 := B2.later e2
    replace X := xt X e2
    clear e2
    obtain ⟨⟨a0, a1, a2, a3, a4, a5, a6, a7, a8, a9⟩, _⟩ := B1.box10
    go_upto_region 4 with fail
    have B6 := Vec.made8 w2 (.int .i64 R0) (.int .i64 C0) (.bool false) (.bool false) (.int .i64 R1) (.int .i64 C1) (.bool false) (.bool false) 39
    have x6 := x1 w2 (.cells #[.int .i64 R0, .int .i64 C0, .bool false, .bool false, .int .i64 R1, .int .i64 C1, .bool false, .bool false] 39)
    obtain ⟨w3, hw3⟩ : ∃ u, w2.alloc (.cells #[.int .i64 R0, .int .i64 C0, .bool false, .bool false, .int .i64 R1, .int .i64 C1, .bool false, .bool false] 39) = u := ⟨_, rfl⟩
    rw [hw3] at B6 x6 ⊢
    obtain ⟨b6, hb6⟩ : ∃ b, w2.heap.size = b := ⟨_, rfl⟩
    rw [hb6] at B6 ⊢
    clear hw3 a0 a1 a2 a3 a4 a5 a6 a7 a8 a9
    replace B1 := B1.later x6
    replace B2 := B2.later x6
    replace X := xt X x6
    have g6 : w.heap.size + 1 + 1 ≤ b6 := by omega
    clear x6 s1 s2 s0 hb6
    obtain ⟨⟨a0, a1, a2, a3, a4, a5, a6, a7, a8, a9⟩, _⟩ := B1.box10
    obtain ⟨⟨⟨p0, p1, p2, p3⟩, p4, p5, p6, p7⟩, _⟩ := B6.box8
    obtain ⟨dx, hdx⟩ : ∃ d, IntKind.i64.wrap (x - R0) = d := ⟨_, rfl⟩
    obtain ⟨dy, hdy⟩ : ∃ d, IntKind.i64.wrap (y - C0) = d := ⟨_, rfl⟩
    go_wp2_with fail
    refine (P1 _).mono ?_
    rintro e w4 ⟨rfl, e4⟩
    clear a0 a1 a2 a3 a4 a5 a6 a7 a8 a9 p0 p1 p2 p3 p4 p5 p6 p7 P1 B1
    replace B2 := B2.later e4
    replace B6 := B6.later e4
    replace X := xt X e4
    clear e4
    obtain ⟨⟨⟨p0, p1, p2, p3⟩, p4, p5, p6, p7⟩, _⟩ := B6.box8
    obtain ⟨⟨⟨m0, m1, m2, m3⟩, m4, m5, m6, m7⟩, ⟨m8, m9, mA, mB⟩, mC, mD, mE, mF⟩ := B2.box8
    cases hp : goodRB x y
    · rw [hp, Bool.false_and] at hd0
      subst hd0
      clear hdx hdy
      go_wp2
      exact bodyPost_ret (v := .tuple #[arV R0 C0 false false R1 C1 false false, .int .i64 0, .int .i64 0, .bool false]) (by simp [results, Try.results35, go_sem, m0, m1, m2, m3, m4, m5, m6, m7]) rfl ⟨⟨R0, C0, R1, C1, fun _ => ⟨H1.out.1.symm, H1.out.2.1.symm, H1.out.2.2.1.symm, H1.out.2.2.2.symm⟩, by rw [HD.out]; rfl⟩, Ext.set8 X (by omega) _ _ _ _ _ _ _ _⟩
    · rw [hp, Bool.true_and] at hd0
      have hp' := of_decide_eq_true hp
      have e1 : dx = x - R0 := by rw [← hdx, IntKind.wrap_i64]; omega
      have e2 : dy = y - C0 := by rw [← hdy, IntKind.wrap_i64]; omega
      have e3 : IntKind.i64.wrap (R1 + dx) = R1 + dx := by rw [e1, IntKind.wrap_i64]; omega
      have e4 : IntKind.i64.wrap (C1 + dy) = C1 + dy := by rw [e2, IntKind.wrap_i64]; omega
      rw [← e1, ← e2] at hd0
      have E1 : Hid (dx = x - R0 ∧ dy = y - C0) := ⟨e1, e2⟩
      have P2 := fun w => placeS (R1 + dx) (C1 + dy) w
      rw [hd0] at P2
      clear hp hp' hdx hdy e1 e2 hd0
      go_wp2_with fail
      refine (P2 _).mono ?_
      rintro e w5 ⟨rfl, e5⟩
      clear p0 p1 p2 p3 p4 p5 p6 p7 m0 m1 m2 m3 m4 m5 m6 m7 m8 m9 mA mB mC mD mE mF P2
      replace B2 := B2.later e5
      replace B6 := B6.later e5
      replace X := xt X e5
      clear e5
      obtain ⟨⟨⟨p0, p1, p2, p3⟩, p4, p5, p6, p7⟩, _⟩ := B6.box8
      obtain ⟨⟨⟨m0, m1, m2, m3⟩, m4, m5, m6, m7⟩, ⟨m8, m9, mA, mB⟩, mC, mD, mE, mF⟩ := B2.box8
      cases dd
      · go_wp2
        exact bodyPost_ret (v := .tuple #[arV R0 C0 false false R1 C1 false false, .int .i64 0, .int .i64 0, .bool false]) (by simp [results, Try.results35, go_sem, m0, m1, m2, m3, m4, m5, m6, m7]) rfl ⟨⟨R0, C0, R1, C1, fun _ => ⟨H1.out.1.symm, H1.out.2.1.symm, H1.out.2.2.1.symm, H1.out.2.2.2.symm⟩, by rw [HD.out]; rfl⟩, Ext.set8 X (by omega) _ _ _ _ _ _ _ _⟩
      · go_wp2
        exact bodyPost_ret (v := .tuple #[arV R0 C0 false false R1 C1 false false, .int .i64 dx, .int .i64 dy, .bool true]) (by simp [results, Try.results35, go_sem, m0, m1, m2, m3, m4, m5, m6, m7]) rfl ⟨⟨R0, C0, R1, C1, fun _ => ⟨H1.out.1.symm, H1.out.2.1.symm, H1.out.2.2.1.symm, H1.out.2.2.2.symm⟩, by rw [HD.out, H1.out.1, H1.out.2.1, E1.out.1, E1.out.2]; rfl⟩, Ext.set8 X (by omega) _ _ _ _ _ _ _ _⟩

end Go.Proofs.Ytjoalcnedehfgaa
