/-
  The specification's MoveRef, itself.
-/
import Derived.Test.YtjoalcnedehfgaaMw
namespace Go.Proofs.Ytjoalcnedehfgaa
open Go.RowKit

/-- What MoveRef answers. -/
def mrB (r c r' c' x y s d : Int) (h k : Bool) : Value :=
  if doesB r c r' c' x y = true ∧ insB (lo r r') (hi r r') (lo c c') (hi c c') s d = true then refV (s + (x - lo r r')) (d + (y - lo c c')) h k else refV s d h k
theorem mrB_shape (r c r' c' x y s d : Int) (h k : Bool) : ∃ n1 n2 n3 n4, mrB r c r' c' x y s d h k = refV n1 n2 n3 n4 := by
  unfold mrB
  split
  · exact ⟨_, _, _, _, rfl⟩
  · exact ⟨_, _, _, _, rfl⟩
theorem doesB_bd {r c r' c' x y : Int} (h : doesB r c r' c' x y = true) : (1 ≤ lo r r' ∧ lo r r' ≤ 1000 ∧ 1 ≤ lo c c' ∧ lo c c' ≤ 200) ∧ (1 ≤ x ∧ x ≤ 1000 ∧ 1 ≤ y ∧ y ≤ 200) ∧ (1 ≤ hi r r' ∧ hi r r' ≤ 1000 ∧ 1 ≤ hi c c' ∧ hi c c' ≤ 200) := by
  unfold doesB at h
  simp only [Bool.and_eq_true] at h
  obtain ⟨⟨h1, h2⟩, _⟩ := h
  have g1 := goodAB_bd h1
  have g2 : (1 ≤ x ∧ x ≤ 1000) ∧ 1 ≤ y ∧ y ≤ 200 := of_decide_eq_true h2
  have := lo_is r r'
  have := lo_is c c'
  have := hi_is r r'
  have := hi_is c c'
  omega

set_option maxRecDepth 8000 in
set_option maxHeartbeats 4000000 in
theorem moveRS (r c : Int) (f g : Bool) (r' c' : Int) (f' g' : Bool) (x y : Int) (s d : Int) (h k : Bool) (w : World) :
    Calls Try.prog 19 #[moV r c f g r' c' f' g' x y, refV s d h k] w fun e w' => e = .returned (mrB r c r' c' x y s d h k) ∧ Ext w w' := by
  obtain ⟨V, hV⟩ : ∃ V, mrB r c r' c' x y s d h k = V := ⟨_, rfl⟩
  rw [hV]
  unfold mrB at hV
  have MV := fun w => movesS r c f g r' c' f' g' x y w
  have B2 := Vec.made10 w (.int .i64 r) (.int .i64 c) (.bool f) (.bool g) (.int .i64 r') (.int .i64 c') (.bool f') (.bool g') (.int .i64 x) (.int .i64 y) 49
  have X := x1 w (.cells #[.int .i64 r, .int .i64 c, .bool f, .bool g, .int .i64 r', .int .i64 c', .bool f', .bool g', .int .i64 x, .int .i64 y] 49)
  obtain ⟨wa, ha⟩ : ∃ u, w.alloc (.cells #[.int .i64 r, .int .i64 c, .bool f, .bool g, .int .i64 r', .int .i64 c', .bool f', .bool g', .int .i64 x, .int .i64 y] 49) = u := ⟨_, rfl⟩
  rw [ha] at B2 X
  have sa : wa.heap.size = w.heap.size + 1 := by rw [← ha, World.size_alloc]
  have B3 := Vec.made4 wa (.int .i64 s) (.int .i64 d) (.bool h) (.bool k) 30
  have x3 := x1 wa (.cells #[.int .i64 s, .int .i64 d, .bool h, .bool k] 30)
  obtain ⟨wb, hb⟩ : ∃ u, wa.alloc (.cells #[.int .i64 s, .int .i64 d, .bool h, .bool k] 30) = u := ⟨_, rfl⟩
  rw [hb] at B3 x3
  have sb : wb.heap.size = w.heap.size + 1 + 1 := by rw [← hb, World.size_alloc, sa]
  have B4 := Vec.made4 wb (.int .i64 0) (.int .i64 0) (.bool false) (.bool false) 30
  have x4 := x1 wb (.cells #[.int .i64 0, .int .i64 0, .bool false, .bool false] 30)
  rw [sa] at B3
  go_enter Try.func19, Try.ntmps19
  go_upto_region 1 with fail
  (try rw [ha])
  (try rw [hb])
  obtain ⟨w0, hw0⟩ : ∃ u, wb.alloc (.cells #[.int .i64 0, .int .i64 0, .bool false, .bool false] 30) = u := ⟨_, rfl⟩
  have s0 : w0.heap.size = w.heap.size + 1 + 1 + 1 := by rw [← hw0, World.size_alloc, sb]
  rw [hw0] at B4 x4 ⊢
  rw [sb] at B4
  replace B2 := (B2.later x3).later x4
  replace B3 := B3.later x4
  replace X := xt (xt X x3) x4
  clear ha hb hw0 sa sb x3 x4
  obtain ⟨⟨a0, a1, a2, a3, a4, a5, a6, a7, a8, a9⟩, _⟩ := B2.box10
  go_wp2_with fail
  refine (MV _).mono ?_
  rintro e w1 ⟨⟨n1, n2, n3, n4, hn, rfl⟩, e1⟩
  have s1 := e1.size
  clear a0 a1 a2 a3 a4 a5 a6 a7 a8 a9 MV B2
  replace B3 := B3.later e1
  replace B4 := B4.later e1
  replace X := xt X e1
  clear e1
  cases hd : doesB r c r' c' x y
  · rw [hd] at hV
    have Z : Hid (refV s d h k = V) := by unfold Hid; rw [← hV]; simp
    clear hV hd hn
    rw [if_neg (by decide), if_neg (by decide)]
    go_upto_region 2 with fail
    have x5 := x1 w1 (.cells #[.int .i64 n1, .int .i64 n2, .bool false, .bool false, .int .i64 n3, .int .i64 n4, .bool false, .bool false] 39)
    obtain ⟨w2, hw2⟩ : ∃ u, w1.alloc (.cells #[.int .i64 n1, .int .i64 n2, .bool false, .bool false, .int .i64 n3, .int .i64 n4, .bool false, .bool false] 39) = u := ⟨_, rfl⟩
    rw [hw2] at x5 ⊢
    clear hw2
    obtain ⟨⟨a0, a1, a2, a3⟩, _⟩ := (B3.later x5).box4
    obtain ⟨⟨m0, m1, m2, m3⟩, m4, m5, m6, m7⟩ := (B4.later x5).box4
    go_wp2
    exact bodyPost_ret (v := refV s d h k) (by simp [results, Try.results19, go_sem, m0, m1, m2, m3]) rfl ⟨congrArg Ending.returned Z.out, Ext.set4 (o := 0) (xt X x5) (by omega) _ _ _ _⟩
  · obtain ⟨rfl, rfl, rfl, rfl⟩ := hn hd
    have bd := doesB_bd hd
    rw [hd] at hV
    rw [if_pos rfl, if_pos rfl]
    obtain ⟨R0, h1⟩ : ∃ n, lo r r' = n := ⟨_, rfl⟩
    obtain ⟨C0, h2⟩ : ∃ n, lo c c' = n := ⟨_, rfl⟩
    obtain ⟨R1, h3⟩ : ∃ n, hi r r' = n := ⟨_, rfl⟩
    obtain ⟨C1, h4⟩ : ∃ n, hi c c' = n := ⟨_, rfl⟩
    rw [h1, h2, h3, h4] at hV bd
    rw [h1, h2, h3, h4]
    obtain ⟨dx, hdx⟩ : ∃ n, x - R0 = n := ⟨_, rfl⟩
    obtain ⟨dy, hdy⟩ : ∃ n, y - C0 = n := ⟨_, rfl⟩
    rw [hdx, hdy] at hV
    rw [hdx, hdy]
    have IN := fun w => insideS R0 C0 false false R1 C1 false false s d h k w
    obtain ⟨q, hq⟩ : ∃ q, insB R0 R1 C0 C1 s d = q := ⟨_, rfl⟩
    rw [hq] at IN hV
    have Z : Hid (q = false → refV s d h k = V) := fun e => by rw [← hV, e]; simp
    have Y : Hid (q = true → refV (s + dx) (d + dy) h k = V) := fun e => by rw [← hV, e]; simp
    have ws : q = true → IntKind.i64.wrap (s + dx) = s + dx ∧ IntKind.i64.wrap (d + dy) = d + dy := fun e => by
      rw [e] at hq
      have := of_decide_eq_true hq
      rw [IntKind.wrap_i64, IntKind.wrap_i64]
      omega
    have WS : Hid (q = true → IntKind.i64.wrap (s + dx) = s + dx ∧ IntKind.i64.wrap (d + dy) = d + dy) := ws
    clear hV hn hd bd h1 h2 h3 h4 hdx hdy hq ws
    go_upto_region 2 with fail
    have B5 := Vec.made8 w1 (.int .i64 R0) (.int .i64 C0) (.bool false) (.bool false) (.int .i64 R1) (.int .i64 C1) (.bool false) (.bool false) 39
    have x5 := x1 w1 (.cells #[.int .i64 R0, .int .i64 C0, .bool false, .bool false, .int .i64 R1, .int .i64 C1, .bool false, .bool false] 39)
    obtain ⟨w2, hw2⟩ : ∃ u, w1.alloc (.cells #[.int .i64 R0, .int .i64 C0, .bool false, .bool false, .int .i64 R1, .int .i64 C1, .bool false, .bool false] 39) = u := ⟨_, rfl⟩
    rw [hw2] at B5 x5 ⊢
    replace B3 := B3.later x5
    replace B4 := B4.later x5
    replace X := xt X x5
    clear hw2 x5
    obtain ⟨⟨a0, a1, a2, a3⟩, _⟩ := B3.box4
    obtain ⟨⟨⟨p0, p1, p2, p3⟩, p4, p5, p6, p7⟩, _⟩ := B5.box8
    go_wp2_with fail
    refine (IN _).mono ?_
    rintro e w3 ⟨rfl, e3⟩
    clear a0 a1 a2 a3 p0 p1 p2 p3 p4 p5 p6 p7 IN B5
    replace B3 := B3.later e3
    replace B4 := B4.later e3
    replace X := xt X e3
    clear e3
    obtain ⟨⟨a0, a1, a2, a3⟩, a4, a5, a6, a7⟩ := B3.box4
    obtain ⟨⟨m0, m1, m2, m3⟩, m4, m5, m6, m7⟩ := B4.box4
    cases q
    · have ZZ : Hid (refV s d h k = V) := Z.out rfl
      clear Z Y WS
      go_wp2
      exact bodyPost_ret (v := refV s d h k) (by simp [results, Try.results19, go_sem, m0, m1, m2, m3]) rfl ⟨congrArg Ending.returned ZZ.out, Ext.set4 (o := 0) X (by omega) _ _ _ _⟩
    · have ZZ : Hid (refV (s + dx) (d + dy) h k = V) := Y.out rfl
      obtain ⟨e1, e2⟩ := WS.out rfl
      clear Z Y WS
      go_wp2
      exact bodyPost_ret (v := refV (s + dx) (d + dy) h k) (by simp [results, Try.results19, go_sem, m0, m1, m2, m3]) rfl ⟨congrArg Ending.returned ZZ.out, Ext.set4 (o := 0) (xset (xset X (by simp only; omega) _) (by simp only; omega) _) (by omega) _ _ _ _⟩

end Go.Proofs.Ytjoalcnedehfgaa
