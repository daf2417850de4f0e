/-
  The specification's TurnArea.
-/
import Derived.Test.YtjoalcnedehfgaaTs
import Derived.Deep.RegionHeld3
namespace Go.Proofs.Ytjoalcnedehfgaa
open Go.RowKit

/-- What TurnArea answers. -/
def taB (k a m : Int) (d : Bool) (r c : Int) (f g : Bool) (r' c' : Int) (f' g' : Bool) : Value :=
  if gTurnB k a m d = true ∧ goodAB r c r' c' = true then
    (if k = 1 then (if stF 1000 a m d (lo r r') (hi r r') = 0 then .tuple #[arV 0 0 false false 0 0 false false, .bool false]
      else if r' < r then .tuple #[arV (stT 1000 a m d (lo r r') (hi r r')) c f g (stF 1000 a m d (lo r r') (hi r r')) c' f' g', .bool true] else .tuple #[arV (stF 1000 a m d (lo r r') (hi r r')) c f g (stT 1000 a m d (lo r r') (hi r r')) c' f' g', .bool true])
    else (if stF 200 a m d (lo c c') (hi c c') = 0 then .tuple #[arV 0 0 false false 0 0 false false, .bool false]
      else if c' < c then .tuple #[arV r (stT 200 a m d (lo c c') (hi c c')) f g r' (stF 200 a m d (lo c c') (hi c c')) f' g', .bool true] else .tuple #[arV r (stF 200 a m d (lo c c') (hi c c')) f g r' (stT 200 a m d (lo c c') (hi c c')) f' g', .bool true]))
  else .tuple #[arV 0 0 false false 0 0 false false, .bool false]
theorem taB_shape (k a m : Int) (d : Bool) (r c : Int) (f g : Bool) (r' c' : Int) (f' g' : Bool) : ∃ n1 n2 n3 n4 n5 n6 n7 n8 q, taB k a m d r c f g r' c' f' g' = .tuple #[arV n1 n2 n3 n4 n5 n6 n7 n8, .bool q] := by
  unfold taB
  split
  · split
    · split
      · exact ⟨_, _, _, _, _, _, _, _, _, rfl⟩
      · split <;> exact ⟨_, _, _, _, _, _, _, _, _, rfl⟩
    · split
      · exact ⟨_, _, _, _, _, _, _, _, _, rfl⟩
      · split <;> exact ⟨_, _, _, _, _, _, _, _, _, rfl⟩
  · exact ⟨_, _, _, _, _, _, _, _, _, rfl⟩
theorem gTurnB_bd {k a m : Int} {d : Bool} (h : gTurnB k a m d = true) : (k = 1 ∨ k = 2) ∧ (1 ≤ m ∧ m ≤ 100) ∧ (1 ≤ a ∧ a ≤ limT k) ∧ (d = true → a + m - 1 ≤ limT k) := of_decide_eq_true h
theorem goodAB_bd {r c r' c' : Int} (h : goodAB r c r' c' = true) : ((1 ≤ r ∧ r ≤ 1000) ∧ 1 ≤ c ∧ c ≤ 200) ∧ (1 ≤ r' ∧ r' ≤ 1000) ∧ 1 ≤ c' ∧ c' ≤ 200 := by
  unfold goodAB goodRB at h
  simp at h
  exact h
theorem lo_hi {x y z : Int} (h1 : 1 ≤ x ∧ x ≤ z) (h2 : 1 ≤ y ∧ y ≤ z) : 1 ≤ lo x y ∧ lo x y ≤ hi x y ∧ hi x y ≤ z := by
  have := lo_is x y
  have := hi_is x y
  omega

set_option maxRecDepth 8000 in
set_option maxHeartbeats 8000000 in
theorem areaTS (k a m : Int) (d : Bool) (r c : Int) (f g : Bool) (r' c' : Int) (f' g' : Bool) (w : World) :
    Calls Try.prog 15 #[tuV k a m d, arV r c f g r' c' f' g'] w fun e w' => e = .returned (taB k a m d r c f g r' c' f' g') ∧ Ext w w' := by
  obtain ⟨V, hV⟩ : ∃ V, taB k a m d r c f g r' c' f' g' = V := ⟨_, rfl⟩
  rw [hV]
  unfold taB at hV
  have GT := fun w => gTurnS k a m d w
  have GA := fun w => goodAS r c f g r' c' f' g' w
  obtain ⟨p, hp⟩ : ∃ p, gTurnB k a m d = p := ⟨_, rfl⟩
  obtain ⟨q, hq⟩ : ∃ q, goodAB r c r' c' = q := ⟨_, rfl⟩
  rw [hp] at GT hV
  rw [hq] at GA hV
  have B2 := Vec.made4 w (.int .i64 k) (.int .i64 a) (.int .i64 m) (.bool d) 25
  have X := x1 w (.cells #[.int .i64 k, .int .i64 a, .int .i64 m, .bool d] 25)
  obtain ⟨wa, ha⟩ : ∃ wa, w.alloc (.cells #[.int .i64 k, .int .i64 a, .int .i64 m, .bool d] 25) = wa := ⟨_, rfl⟩
  rw [ha] at B2 X
  have sa : wa.heap.size = w.heap.size + 1 := by rw [← ha, World.size_alloc]
  have B3 := Vec.made8 wa (.int .i64 r) (.int .i64 c) (.bool f) (.bool g) (.int .i64 r') (.int .i64 c') (.bool f') (.bool g') 39
  have x3 := x1 wa (.cells #[.int .i64 r, .int .i64 c, .bool f, .bool g, .int .i64 r', .int .i64 c', .bool f', .bool g'] 39)
  obtain ⟨wb, hb⟩ : ∃ wb, wa.alloc (.cells #[.int .i64 r, .int .i64 c, .bool f, .bool g, .int .i64 r', .int .i64 c', .bool f', .bool g'] 39) = wb := ⟨_, rfl⟩
  rw [hb] at B3 x3
  have sb : wb.heap.size = w.heap.size + 1 + 1 := by rw [← hb, World.size_alloc, sa]
  have B4 := Vec.made8 wb (.int .i64 0) (.int .i64 0) (.bool false) (.bool false) (.int .i64 0) (.int .i64 0) (.bool false) (.bool false) 39
  have x4 := x1 wb (.cells #[.int .i64 0, .int .i64 0, .bool false, .bool false, .int .i64 0, .int .i64 0, .bool false, .bool false] 39)
  rw [sa] at B3
  go_enter Try.func15, Try.ntmps15
  go_upto_region 1 with fail
  (try rw [ha])
  (try rw [hb])
  obtain ⟨w0, hw0⟩ : ∃ w0, wb.alloc (.cells #[.int .i64 0, .int .i64 0, .bool false, .bool false, .int .i64 0, .int .i64 0, .bool false, .bool false] 39) = w0 := ⟨_, rfl⟩
  have s0 : w0.heap.size = w.heap.size + 1 + 1 + 1 := by rw [← hw0, World.size_alloc, sb]
  rw [hw0] at B4 x4 ⊢
  rw [sb] at B4
  replace B2 := (B2.later x3).later x4
  replace B3 := B3.later x4
  replace X := xt (xt X x3) x4
  clear ha hb hw0 sa sb x3 x4
  obtain ⟨⟨a0, a1, a2, a3⟩, _⟩ := B2.box4
  go_wp2_with fail
  refine (GT _).mono ?_
  rintro e w1 ⟨rfl, e1⟩
  clear a0 a1 a2 a3 GT
  have s1 := e1.size
  replace B2 := B2.later e1
  replace B3 := B3.later e1
  replace B4 := B4.later e1
  replace X := xt X e1
  clear e1
  obtain ⟨⟨⟨m0, m1, m2, m3⟩, m4, m5, m6, m7⟩, ⟨m8, m9, mA, mB⟩, mC, mD, mE, mF⟩ := B4.box8
  cases p
  · have Z : Hid (Value.tuple #[arV 0 0 false false 0 0 false false, .bool false] = V) := by unfold Hid; rw [← hV]; simp
    clear hV
    go_wp2
    exact bodyPost_ret (v := .tuple #[arV 0 0 false false 0 0 false false, .bool false]) (by simp [results, Try.results15, go_sem, m0, m1, m2, m3, m4, m5, m6, m7]) rfl ⟨congrArg Ending.returned Z.out, Ext.set8 X (by omega) _ _ _ _ _ _ _ _⟩
  clear m0 m1 m2 m3 m4 m5 m6 m7 m8 m9 mA mB mC mD mE mF
  obtain ⟨⟨⟨a0, a1, a2, a3⟩, a4, a5, a6, a7⟩, _⟩ := B3.box8
  go_wp2_with fail
  refine (GA _).mono ?_
  rintro e w2 ⟨rfl, e2⟩
  clear a0 a1 a2 a3 a4 a5 a6 a7 GA
  have s2 := e2.size
  replace B2 := B2.later e2
  replace B3 := B3.later e2
  replace B4 := B4.later e2
  replace X := xt X e2
  clear e2
  obtain ⟨⟨⟨m0, m1, m2, m3⟩, m4, m5, m6, m7⟩, ⟨m8, m9, mA, mB⟩, mC, mD, mE, mF⟩ := B4.box8
  cases q
  · have Z : Hid (Value.tuple #[arV 0 0 false false 0 0 false false, .bool false] = V) := by unfold Hid; rw [← hV]; simp
    clear hV
    go_wp2
    exact bodyPost_ret (v := .tuple #[arV 0 0 false false 0 0 false false, .bool false]) (by simp [results, Try.results15, go_sem, m0, m1, m2, m3, m4, m5, m6, m7]) rfl ⟨congrArg Ending.returned Z.out, Ext.set8 X (by omega) _ _ _ _ _ _ _ _⟩
  clear m0 m1 m2 m3 m4 m5 m6 m7 m8 m9 mA mB mC mD mE mF
  obtain ⟨hk, hm, ha, hd⟩ := gTurnB_bd hp
  obtain ⟨⟨hr, hc⟩, hr', hc'⟩ := goodAB_bd hq
  clear hp hq
  obtain ⟨⟨⟨a0, a1, a2, a3⟩, a4, a5, a6, a7⟩, _⟩ := B3.box8
  go_upto_region 4 with fail
  have B6 := Vec.made8 w2 (.int .i64 r) (.int .i64 c) (.bool f) (.bool g) (.int .i64 r') (.int .i64 c') (.bool f') (.bool g') 39
  have x6 := x1 w2 (.cells #[.int .i64 r, .int .i64 c, .bool f, .bool g, .int .i64 r', .int .i64 c', .bool f', .bool g'] 39)
  obtain ⟨w3, hw3⟩ : ∃ w3, w2.alloc (.cells #[.int .i64 r, .int .i64 c, .bool f, .bool g, .int .i64 r', .int .i64 c', .bool f', .bool g'] 39) = w3 := ⟨_, rfl⟩
  rw [hw3] at B6 x6 ⊢
  obtain ⟨b6, hb6⟩ : ∃ b, w2.heap.size = b := ⟨_, rfl⟩
  rw [hb6] at B6 ⊢
  clear hw3 a0 a1 a2 a3 a4 a5 a6 a7
  replace B2 := B2.later x6
  replace B3 := B3.later x6
  replace B4 := B4.later x6
  replace X := xt X x6
  have g6 : w.heap.size + 1 + 1 + 1 ≤ b6 := by omega
  clear x6 s1 s2 s0 hb6
  obtain rfl | rfl := hk
  · have lim : limT 1 = 1000 := by simp [limT]
    rw [lim] at ha hd
    simp only [true_and, if_true, if_true] at hV
    obtain ⟨A1, A2, A3⟩ := lo_hi hr hr'
    have EN := fun w => endsS 1 a m d (lo r r') (hi r r') 1000 w lim hm ha hd A1 A2 A3
    have ST := st_good hm.1 ha.1 ha.2 hd A1 A2 A3
    obtain ⟨F, hF⟩ : ∃ F, stF 1000 a m d (lo r r') (hi r r') = F := ⟨_, rfl⟩
    obtain ⟨T, hT⟩ : ∃ T, stT 1000 a m d (lo r r') (hi r r') = T := ⟨_, rfl⟩
    rw [hF, hT] at EN hV
    have F0 : 0 ≤ F := by rw [hF] at ST; omega
    have Z : Hid (F = 0 → Value.tuple #[arV 0 0 false false 0 0 false false, .bool false] = V) := fun h => by rw [← hV, if_pos h]
    have Y1 : Hid (F ≠ 0 → r' < r → Value.tuple #[arV T c f g F c' f' g', .bool true] = V) := fun h h' => by rw [← hV, if_neg h, if_pos h']
    have Y2 : Hid (F ≠ 0 → ¬ r' < r → Value.tuple #[arV F c f g T c' f' g', .bool true] = V) := fun h h' => by rw [← hV, if_neg h, if_neg h']
    have MI := fun w => minS r r' w
    have MA := fun w => maxS r r' w
    obtain ⟨A, hA⟩ : ∃ A, lo r r' = A := ⟨_, rfl⟩
    obtain ⟨B, hB⟩ : ∃ B, hi r r' = B := ⟨_, rfl⟩
    rw [hA] at MI EN
    rw [hB] at MA EN
    clear hV hF hT hA hB ST A1 A2 A3 hm ha hd lim hr hr' hc hc'
    obtain ⟨⟨b0, b1, b2, b3⟩, _⟩ := B2.box4
    go_upto_region 5 with fail
    clear b0 b1 b2 b3
    go_cut [7, 8, 9] (fun u v z wc => u = .int .i64 F ∧ v = .int .i64 T ∧ z = .bool (decide (0 < F)) ∧ Ext w3 wc)
    case first =>
      obtain ⟨⟨b0, b1, b2, b3⟩, _⟩ := B2.box4
      obtain ⟨⟨⟨a0, a1, a2, a3⟩, a4, a5, a6, a7⟩, _⟩ := B3.box8
      go_region_held3 (fun w' => (w'.cell? ⟨w.heap.size, 0, none⟩ = some (.int .i64 1) ∧ w'.cell? ⟨w.heap.size, 1, none⟩ = some (.int .i64 a) ∧ w'.cell? ⟨w.heap.size, 2, none⟩ = some (.int .i64 m) ∧ w'.cell? ⟨w.heap.size, 3, none⟩ = some (.bool d)) ∧ w'.cell? ⟨w.heap.size + 1, 0, none⟩ = some (.int .i64 r) ∧ w'.cell? ⟨w.heap.size + 1, 1, none⟩ = some (.int .i64 c) ∧ w'.cell? ⟨w.heap.size + 1, 2, none⟩ = some (.bool f) ∧ w'.cell? ⟨w.heap.size + 1, 3, none⟩ = some (.bool g) ∧ w'.cell? ⟨w.heap.size + 1, 4, none⟩ = some (.int .i64 r') ∧ w'.cell? ⟨w.heap.size + 1, 5, none⟩ = some (.int .i64 c') ∧ w'.cell? ⟨w.heap.size + 1, 6, none⟩ = some (.bool f') ∧ w'.cell? ⟨w.heap.size + 1, 7, none⟩ = some (.bool g')) (go_keep) (first
        | (go_at_call 31; refine (MI _).mono ?_; rintro e w' ⟨rfl, rfl⟩)
        | (go_at_call 32; refine (MA _).mono ?_; rintro e w' ⟨rfl, rfl⟩)
        | (go_at_call 30; refine (EN _).mono ?_; rintro e w4 ⟨rfl, e4⟩; have e4' : Ext w3 w4 := xt (xd (xr _)) e4; clear b0 b1 b2 b3 a0 a1 a2 a3 a4 a5 a6 a7; obtain ⟨⟨b0, b1, b2, b3⟩, _⟩ := (B2.later e4').box4; obtain ⟨⟨⟨a0, a1, a2, a3⟩, a4, a5, a6, a7⟩, _⟩ := (B3.later e4').box8))
      all_goals go_wp2_with fail
      all_goals go_meet
      all_goals exact ⟨rfl, rfl, rfl, e4'⟩
    case rest =>
      obtain ⟨rfl, rfl, rfl, e4⟩ := hcut
      rename World => w4
      replace B3 := B3.later e4
      replace B4 := B4.later e4
      replace B6 := B6.later e4
      replace X := xt X e4
      clear e4 B2 EN MI MA
      obtain ⟨⟨⟨a0, a1, a2, a3⟩, a4, a5, a6, a7⟩, ⟨a8, a9, aA, aB⟩, aC, aD, aE, aF⟩ := B6.box8
      have N6 := (B6.put 0 (by simp) (.int .i64 F)).put 4 (by simp) (.int .i64 T)
      have N3 := (B3.far (p := ⟨b6, 0, none⟩) (by simp only; omega) (.int .i64 F)).far (p := ⟨b6, 4, none⟩) (by simp only; omega) (.int .i64 T)
      have N4 := (B4.far (p := ⟨b6, 0, none⟩) (by simp only; omega) (.int .i64 F)).far (p := ⟨b6, 4, none⟩) (by simp only; omega) (.int .i64 T)
      have NX := xset (p := ⟨b6, 4, none⟩) (xset (p := ⟨b6, 0, none⟩) X (by simp only; omega) (.int .i64 F)) (by simp only; omega) (.int .i64 T)
      go_upto_region 8 with fail
      obtain ⟨w5, hw5⟩ : ∃ u, (w4.setCell ⟨b6, 0, none⟩ (.int .i64 F)).setCell ⟨b6, 4, none⟩ (.int .i64 T) = u := ⟨_, rfl⟩
      rw [hw5] at N6 N3 N4 NX ⊢
      clear hw5 a0 a1 a2 a3 a4 a5 a6 a7 a8 a9 aA aB aC aD aE aF B3 B4 B6 X
      obtain ⟨⟨⟨b0, b1, b2, b3⟩, b4, b5, b6', b7⟩, _⟩ := N3.box8
      by_cases hx : r' < r
      · have fx : decide (r' < r) = true := decide_eq_true hx
        have M6 := N6
        have M3 := N3
        have M4 := N4
        have NX0 := NX
        clear N6 N3 N4 NX
        obtain ⟨⟨⟨a0, a1, a2, a3⟩, a4, a5, a6, a7⟩, ⟨a8, a9, aA, aB⟩, aC, aD, aE, aF⟩ := M6.box8
        have N6 := (M6.put 0 (by simp) (.int .i64 T)).put 4 (by simp) (.int .i64 F)
        have N3 := (M3.far (p := ⟨b6, 0, none⟩) (by simp only; omega) (.int .i64 T)).far (p := ⟨b6, 4, none⟩) (by simp only; omega) (.int .i64 F)
        have N4 := (M4.far (p := ⟨b6, 0, none⟩) (by simp only; omega) (.int .i64 T)).far (p := ⟨b6, 4, none⟩) (by simp only; omega) (.int .i64 F)
        have NX := xset (p := ⟨b6, 4, none⟩) (xset (p := ⟨b6, 0, none⟩) NX0 (by simp only; omega) (.int .i64 T)) (by simp only; omega) (.int .i64 F)
        go_upto_region 11 with fail
        obtain ⟨w6, hw6⟩ : ∃ u, (w5.setCell ⟨b6, 0, none⟩ (.int .i64 T)).setCell ⟨b6, 4, none⟩ (.int .i64 F) = u := ⟨_, rfl⟩
        rw [hw6] at N6 N3 N4 NX ⊢
        clear hw6 a0 a1 a2 a3 a4 a5 a6 a7 a8 a9 aA aB aC aD aE aF M6 M3 M4 NX0 b0 b1 b2 b3 b4 b5 b6' b7
        by_cases h0 : F = 0
        · have zz := Z.out h0
          have f0 : decide (0 < F) = false := decide_eq_false (by omega)
          clear Z Y1 Y2
          obtain ⟨⟨⟨m0, m1, m2, m3⟩, m4, m5, m6, m7⟩, ⟨m8, m9, mA, mB⟩, mC, mD, mE, mF⟩ := N4.box8
          have ZZ : Hid (Value.tuple #[arV 0 0 false false 0 0 false false, .bool false] = V) := zz
          clear zz
          go_wp2
          exact bodyPost_ret (v := .tuple #[arV 0 0 false false 0 0 false false, .bool false]) (by simp [results, Try.results15, go_sem, m0, m1, m2, m3, m4, m5, m6, m7]) rfl ⟨congrArg Ending.returned ZZ.out, Ext.set8 NX (by omega) _ _ _ _ _ _ _ _⟩
        · have f0 : decide (0 < F) = true := decide_eq_true (by omega)
          have ZZ : Hid (Value.tuple #[arV T c f g F c' f' g', .bool true] = V) := Y1.out h0 hx
          clear Z Y1 Y2
          obtain ⟨⟨⟨m0, m1, m2, m3⟩, m4, m5, m6, m7⟩, ⟨m8, m9, mA, mB⟩, mC, mD, mE, mF⟩ := N4.box8
          obtain ⟨⟨⟨a0, a1, a2, a3⟩, a4, a5, a6, a7⟩, _⟩ := N6.box8
          go_wp2
          exact bodyPost_ret (v := .tuple #[arV T c f g F c' f' g', .bool true]) (by simp [results, Try.results15, go_sem, m0, m1, m2, m3, m4, m5, m6, m7]) rfl ⟨congrArg Ending.returned ZZ.out, Ext.set8 NX (by omega) _ _ _ _ _ _ _ _⟩
      · have fx : decide (r' < r) = false := decide_eq_false hx
        go_upto_region 11 with fail
        clear b0 b1 b2 b3 b4 b5 b6' b7
        by_cases h0 : F = 0
        · have zz := Z.out h0
          have f0 : decide (0 < F) = false := decide_eq_false (by omega)
          clear Z Y1 Y2
          obtain ⟨⟨⟨m0, m1, m2, m3⟩, m4, m5, m6, m7⟩, ⟨m8, m9, mA, mB⟩, mC, mD, mE, mF⟩ := N4.box8
          have ZZ : Hid (Value.tuple #[arV 0 0 false false 0 0 false false, .bool false] = V) := zz
          clear zz
          go_wp2
          exact bodyPost_ret (v := .tuple #[arV 0 0 false false 0 0 false false, .bool false]) (by simp [results, Try.results15, go_sem, m0, m1, m2, m3, m4, m5, m6, m7]) rfl ⟨congrArg Ending.returned ZZ.out, Ext.set8 NX (by omega) _ _ _ _ _ _ _ _⟩
        · have f0 : decide (0 < F) = true := decide_eq_true (by omega)
          have ZZ : Hid (Value.tuple #[arV F c f g T c' f' g', .bool true] = V) := Y2.out h0 hx
          clear Z Y1 Y2
          obtain ⟨⟨⟨m0, m1, m2, m3⟩, m4, m5, m6, m7⟩, ⟨m8, m9, mA, mB⟩, mC, mD, mE, mF⟩ := N4.box8
          obtain ⟨⟨⟨a0, a1, a2, a3⟩, a4, a5, a6, a7⟩, _⟩ := N6.box8
          go_wp2
          exact bodyPost_ret (v := .tuple #[arV F c f g T c' f' g', .bool true]) (by simp [results, Try.results15, go_sem, m0, m1, m2, m3, m4, m5, m6, m7]) rfl ⟨congrArg Ending.returned ZZ.out, Ext.set8 NX (by omega) _ _ _ _ _ _ _ _⟩
  · have lim : limT 2 = 200 := by simp [limT]
    rw [lim] at ha hd
    simp only [true_and, if_true, show ((2 : Int) = 1) = False by decide, if_false] at hV
    obtain ⟨A1, A2, A3⟩ := lo_hi hc hc'
    have EN := fun w => endsS 2 a m d (lo c c') (hi c c') 200 w lim hm ha hd A1 A2 A3
    have ST := st_good hm.1 ha.1 ha.2 hd A1 A2 A3
    obtain ⟨F, hF⟩ : ∃ F, stF 200 a m d (lo c c') (hi c c') = F := ⟨_, rfl⟩
    obtain ⟨T, hT⟩ : ∃ T, stT 200 a m d (lo c c') (hi c c') = T := ⟨_, rfl⟩
    rw [hF, hT] at EN hV
    have F0 : 0 ≤ F := by rw [hF] at ST; omega
    have Z : Hid (F = 0 → Value.tuple #[arV 0 0 false false 0 0 false false, .bool false] = V) := fun h => by rw [← hV, if_pos h]
    have Y1 : Hid (F ≠ 0 → c' < c → Value.tuple #[arV r T f g r' F f' g', .bool true] = V) := fun h h' => by rw [← hV, if_neg h, if_pos h']
    have Y2 : Hid (F ≠ 0 → ¬ c' < c → Value.tuple #[arV r F f g r' T f' g', .bool true] = V) := fun h h' => by rw [← hV, if_neg h, if_neg h']
    have MI := fun w => minS c c' w
    have MA := fun w => maxS c c' w
    obtain ⟨A, hA⟩ : ∃ A, lo c c' = A := ⟨_, rfl⟩
    obtain ⟨B, hB⟩ : ∃ B, hi c c' = B := ⟨_, rfl⟩
    rw [hA] at MI EN
    rw [hB] at MA EN
    clear hV hF hT hA hB ST A1 A2 A3 hm ha hd lim hr hr' hc hc'
    obtain ⟨⟨b0, b1, b2, b3⟩, _⟩ := B2.box4
    go_upto_region 14 with fail
    clear b0 b1 b2 b3
    go_cut [10, 11, 12] (fun u v z wc => u = .int .i64 F ∧ v = .int .i64 T ∧ z = .bool (decide (0 < F)) ∧ Ext w3 wc)
    case first =>
      obtain ⟨⟨b0, b1, b2, b3⟩, _⟩ := B2.box4
      obtain ⟨⟨⟨a0, a1, a2, a3⟩, a4, a5, a6, a7⟩, _⟩ := B3.box8
      go_region_held3 (fun w' => (w'.cell? ⟨w.heap.size, 0, none⟩ = some (.int .i64 2) ∧ w'.cell? ⟨w.heap.size, 1, none⟩ = some (.int .i64 a) ∧ w'.cell? ⟨w.heap.size, 2, none⟩ = some (.int .i64 m) ∧ w'.cell? ⟨w.heap.size, 3, none⟩ = some (.bool d)) ∧ w'.cell? ⟨w.heap.size + 1, 0, none⟩ = some (.int .i64 r) ∧ w'.cell? ⟨w.heap.size + 1, 1, none⟩ = some (.int .i64 c) ∧ w'.cell? ⟨w.heap.size + 1, 2, none⟩ = some (.bool f) ∧ w'.cell? ⟨w.heap.size + 1, 3, none⟩ = some (.bool g) ∧ w'.cell? ⟨w.heap.size + 1, 4, none⟩ = some (.int .i64 r') ∧ w'.cell? ⟨w.heap.size + 1, 5, none⟩ = some (.int .i64 c') ∧ w'.cell? ⟨w.heap.size + 1, 6, none⟩ = some (.bool f') ∧ w'.cell? ⟨w.heap.size + 1, 7, none⟩ = some (.bool g')) (go_keep) (first
        | (go_at_call 31; refine (MI _).mono ?_; rintro e w' ⟨rfl, rfl⟩)
        | (go_at_call 32; refine (MA _).mono ?_; rintro e w' ⟨rfl, rfl⟩)
        | (go_at_call 30; refine (EN _).mono ?_; rintro e w4 ⟨rfl, e4⟩; have e4' : Ext w3 w4 := xt (xd (xr _)) e4; clear b0 b1 b2 b3 a0 a1 a2 a3 a4 a5 a6 a7; obtain ⟨⟨b0, b1, b2, b3⟩, _⟩ := (B2.later e4').box4; obtain ⟨⟨⟨a0, a1, a2, a3⟩, a4, a5, a6, a7⟩, _⟩ := (B3.later e4').box8))
      all_goals go_wp2_with fail
      all_goals go_meet
      all_goals exact ⟨rfl, rfl, rfl, e4'⟩
    case rest =>
      obtain ⟨rfl, rfl, rfl, e4⟩ := hcut
      rename World => w4
      replace B3 := B3.later e4
      replace B4 := B4.later e4
      replace B6 := B6.later e4
      replace X := xt X e4
      clear e4 B2 EN MI MA
      obtain ⟨⟨⟨a0, a1, a2, a3⟩, a4, a5, a6, a7⟩, ⟨a8, a9, aA, aB⟩, aC, aD, aE, aF⟩ := B6.box8
      have N6 := (B6.put 1 (by simp) (.int .i64 F)).put 5 (by simp) (.int .i64 T)
      have N3 := (B3.far (p := ⟨b6, 1, none⟩) (by simp only; omega) (.int .i64 F)).far (p := ⟨b6, 5, none⟩) (by simp only; omega) (.int .i64 T)
      have N4 := (B4.far (p := ⟨b6, 1, none⟩) (by simp only; omega) (.int .i64 F)).far (p := ⟨b6, 5, none⟩) (by simp only; omega) (.int .i64 T)
      have NX := xset (p := ⟨b6, 5, none⟩) (xset (p := ⟨b6, 1, none⟩) X (by simp only; omega) (.int .i64 F)) (by simp only; omega) (.int .i64 T)
      go_upto_region 17 with fail
      obtain ⟨w5, hw5⟩ : ∃ u, (w4.setCell ⟨b6, 1, none⟩ (.int .i64 F)).setCell ⟨b6, 5, none⟩ (.int .i64 T) = u := ⟨_, rfl⟩
      rw [hw5] at N6 N3 N4 NX ⊢
      clear hw5 a0 a1 a2 a3 a4 a5 a6 a7 a8 a9 aA aB aC aD aE aF B3 B4 B6 X
      obtain ⟨⟨⟨b0, b1, b2, b3⟩, b4, b5, b6', b7⟩, _⟩ := N3.box8
      by_cases hx : c' < c
      · have fx : decide (c' < c) = true := decide_eq_true hx
        have M6 := N6
        have M3 := N3
        have M4 := N4
        have NX0 := NX
        clear N6 N3 N4 NX
        obtain ⟨⟨⟨a0, a1, a2, a3⟩, a4, a5, a6, a7⟩, ⟨a8, a9, aA, aB⟩, aC, aD, aE, aF⟩ := M6.box8
        have N6 := (M6.put 1 (by simp) (.int .i64 T)).put 5 (by simp) (.int .i64 F)
        have N3 := (M3.far (p := ⟨b6, 1, none⟩) (by simp only; omega) (.int .i64 T)).far (p := ⟨b6, 5, none⟩) (by simp only; omega) (.int .i64 F)
        have N4 := (M4.far (p := ⟨b6, 1, none⟩) (by simp only; omega) (.int .i64 T)).far (p := ⟨b6, 5, none⟩) (by simp only; omega) (.int .i64 F)
        have NX := xset (p := ⟨b6, 5, none⟩) (xset (p := ⟨b6, 1, none⟩) NX0 (by simp only; omega) (.int .i64 T)) (by simp only; omega) (.int .i64 F)
        go_upto_region 20 with fail
        obtain ⟨w6, hw6⟩ : ∃ u, (w5.setCell ⟨b6, 1, none⟩ (.int .i64 T)).setCell ⟨b6, 5, none⟩ (.int .i64 F) = u := ⟨_, rfl⟩
        rw [hw6] at N6 N3 N4 NX ⊢
        clear hw6 a0 a1 a2 a3 a4 a5 a6 a7 a8 a9 aA aB aC aD aE aF M6 M3 M4 NX0 b0 b1 b2 b3 b4 b5 b6' b7
        by_cases h0 : F = 0
        · have zz := Z.out h0
          have f0 : decide (0 < F) = false := decide_eq_false (by omega)
          clear Z Y1 Y2
          obtain ⟨⟨⟨m0, m1, m2, m3⟩, m4, m5, m6, m7⟩, ⟨m8, m9, mA, mB⟩, mC, mD, mE, mF⟩ := N4.box8
          have ZZ : Hid (Value.tuple #[arV 0 0 false false 0 0 false false, .bool false] = V) := zz
          clear zz
          go_wp2
          exact bodyPost_ret (v := .tuple #[arV 0 0 false false 0 0 false false, .bool false]) (by simp [results, Try.results15, go_sem, m0, m1, m2, m3, m4, m5, m6, m7]) rfl ⟨congrArg Ending.returned ZZ.out, Ext.set8 NX (by omega) _ _ _ _ _ _ _ _⟩
        · have f0 : decide (0 < F) = true := decide_eq_true (by omega)
          have ZZ : Hid (Value.tuple #[arV r T f g r' F f' g', .bool true] = V) := Y1.out h0 hx
          clear Z Y1 Y2
          obtain ⟨⟨⟨m0, m1, m2, m3⟩, m4, m5, m6, m7⟩, ⟨m8, m9, mA, mB⟩, mC, mD, mE, mF⟩ := N4.box8
          obtain ⟨⟨⟨a0, a1, a2, a3⟩, a4, a5, a6, a7⟩, _⟩ := N6.box8
          go_wp2
          exact bodyPost_ret (v := .tuple #[arV r T f g r' F f' g', .bool true]) (by simp [results, Try.results15, go_sem, m0, m1, m2, m3, m4, m5, m6, m7]) rfl ⟨congrArg Ending.returned ZZ.out, Ext.set8 NX (by omega) _ _ _ _ _ _ _ _⟩
      · have fx : decide (c' < c) = false := decide_eq_false hx
        go_upto_region 20 with fail
        clear b0 b1 b2 b3 b4 b5 b6' b7
        by_cases h0 : F = 0
        · have zz := Z.out h0
          have f0 : decide (0 < F) = false := decide_eq_false (by omega)
          clear Z Y1 Y2
          obtain ⟨⟨⟨m0, m1, m2, m3⟩, m4, m5, m6, m7⟩, ⟨m8, m9, mA, mB⟩, mC, mD, mE, mF⟩ := N4.box8
          have ZZ : Hid (Value.tuple #[arV 0 0 false false 0 0 false false, .bool false] = V) := zz
          clear zz
          go_wp2
          exact bodyPost_ret (v := .tuple #[arV 0 0 false false 0 0 false false, .bool false]) (by simp [results, Try.results15, go_sem, m0, m1, m2, m3, m4, m5, m6, m7]) rfl ⟨congrArg Ending.returned ZZ.out, Ext.set8 NX (by omega) _ _ _ _ _ _ _ _⟩
        · have f0 : decide (0 < F) = true := decide_eq_true (by omega)
          have ZZ : Hid (Value.tuple #[arV r F f g r' T f' g', .bool true] = V) := Y2.out h0 hx
          clear Z Y1 Y2
          obtain ⟨⟨⟨m0, m1, m2, m3⟩, m4, m5, m6, m7⟩, ⟨m8, m9, mA, mB⟩, mC, mD, mE, mF⟩ := N4.box8
          obtain ⟨⟨⟨a0, a1, a2, a3⟩, a4, a5, a6, a7⟩, _⟩ := N6.box8
          go_wp2
          exact bodyPost_ret (v := .tuple #[arV r F f g r' T f' g', .bool true]) (by simp [results, Try.results15, go_sem, m0, m1, m2, m3, m4, m5, m6, m7]) rfl ⟨congrArg Ending.returned ZZ.out, Ext.set8 NX (by omega) _ _ _ _ _ _ _ _⟩
end Go.Proofs.Ytjoalcnedehfgaa
