/-
  The program's TurnArea.
-/
import Derived.Test.YtdbiefpgoiofcaaTv
import Derived.Test.YtdbiefpgoiofcaaTj
namespace Go.Proofs.Ytdbiefpgoiofcaa
open Go.RowKit

set_option maxRecDepth 8000 in
set_option maxHeartbeats 8000000 in
theorem areaTI (k a m : Int) (d : Bool) (r c : Int) (f g : Bool) (r' c' : Int) (f' g' : Bool) (w : World) :
    Calls Try.prog 17 #[tuV k a m d, arV r c f g r' c' f' g'] w fun e w' => e = .returned (taB k a m d r c f g r' c' f' g') ∧ Ext w w' := by
  obtain ⟨V, hV⟩ : ∃ V, taB k a m d r c f g r' c' f' g' = V := ⟨_, rfl⟩
  rw [hV]
  unfold taB at hV
  have GT := fun w => goodTI k a m d w
  have GA := fun w => goodAI r c f g r' c' f' g' w
  obtain ⟨p, hp⟩ : ∃ p, goodTB k a m d = p := ⟨_, rfl⟩
  obtain ⟨q, hq⟩ : ∃ q, goodAB r c r' c' = q := ⟨_, rfl⟩
  rw [hp] at GT hV
  rw [hq] at GA hV
  have B2 := Vec.made4 w (.int .i64 k) (.int .i64 a) (.int .i64 m) (.bool d) 25
  have X := x1 w (.cells #[.int .i64 k, .int .i64 a, .int .i64 m, .bool d] 25)
  obtain ⟨wa, ha⟩ : ∃ wa, w.alloc (.cells #[.int .i64 k, .int .i64 a, .int .i64 m, .bool d] 25) = wa := ⟨_, rfl⟩
  rw [ha] at B2 X
  have sa : wa.heap.size = w.heap.size + 1 := by rw [← ha, World.size_alloc]
  have B3 := Vec.made8 wa (.int .i64 r) (.int .i64 c) (.bool f) (.bool g) (.int .i64 r') (.int .i64 c') (.bool f') (.bool g') 39
  have x3 := x1 wa (.cells #[.int .i64 r, .int .i64 c, .bool f, .bool g, .int .i64 r', .int .i64 c', .bool f', .bool g'] 39)
  obtain ⟨wb, hb⟩ : ∃ wb, wa.alloc (.cells #[.int .i64 r, .int .i64 c, .bool f, .bool g, .int .i64 r', .int .i64 c', .bool f', .bool g'] 39) = wb := ⟨_, rfl⟩
  rw [hb] at B3 x3
  have sb : wb.heap.size = w.heap.size + 1 + 1 := by rw [← hb, World.size_alloc, sa]
  have B4 := Vec.made8 wb (.int .i64 0) (.int .i64 0) (.bool false) (.bool false) (.int .i64 0) (.int .i64 0) (.bool false) (.bool false) 39
  have x4 := x1 wb (.cells #[.int .i64 0, .int .i64 0, .bool false, .bool false, .int .i64 0, .int .i64 0, .bool false, .bool false] 39)
  rw [sa] at B3
  go_enter Try.func17, Try.ntmps17
  go_upto_region 1 with fail
  (try rw [ha])
  (try rw [hb])
  obtain ⟨w0, hw0⟩ : ∃ w0, wb.alloc (.cells #[.int .i64 0, .int .i64 0, .bool false, .bool false, .int .i64 0, .int .i64 0, .bool false, .bool false] 39) = w0 := ⟨_, rfl⟩
  have s0 : w0.heap.size = w.heap.size + 1 + 1 + 1 := by rw [← hw0, World.size_alloc, sb]
  rw [hw0] at B4 x4 ⊢
  rw [sb] at B4
  replace B2 := (B2.later x3).later x4
  replace B3 := B3.later x4
  replace X := xt (xt X x3) x4
  clear ha hb hw0 sa sb x3 x4
  obtain ⟨⟨a0, a1, a2, a3⟩, _⟩ := B2.box4
  go_wp2_with fail
  refine (GT _).mono ?_
  rintro e w1 ⟨rfl, e1⟩
  clear a0 a1 a2 a3 GT
  have s1 := e1.size
  replace B2 := B2.later e1
  replace B3 := B3.later e1
  replace B4 := B4.later e1
  replace X := xt X e1
  clear e1
  obtain ⟨⟨⟨m0, m1, m2, m3⟩, m4, m5, m6, m7⟩, ⟨m8, m9, mA, mB⟩, mC, mD, mE, mF⟩ := B4.box8
  cases p
  · have Z : Hid (Value.tuple #[arV 0 0 false false 0 0 false false, .bool false] = V) := by unfold Hid; rw [← hV]; simp
    clear hV
    go_wp2
    exact bodyPost_ret (v := .tuple #[arV 0 0 false false 0 0 false false, .bool false]) (by simp [results, Try.results17, go_sem, m0, m1, m2, m3, m4, m5, m6, m7]) rfl ⟨congrArg Ending.returned Z.out, Ext.set8 X (by omega) _ _ _ _ _ _ _ _⟩
  clear m0 m1 m2 m3 m4 m5 m6 m7 m8 m9 mA mB mC mD mE mF
  obtain ⟨⟨⟨a0, a1, a2, a3⟩, a4, a5, a6, a7⟩, _⟩ := B3.box8
  go_wp2_with fail
  refine (GA _).mono ?_
  rintro e w2 ⟨rfl, e2⟩
  clear a0 a1 a2 a3 a4 a5 a6 a7 GA
  have s2 := e2.size
  replace B2 := B2.later e2
  replace B3 := B3.later e2
  replace B4 := B4.later e2
  replace X := xt X e2
  clear e2
  obtain ⟨⟨⟨m0, m1, m2, m3⟩, m4, m5, m6, m7⟩, ⟨m8, m9, mA, mB⟩, mC, mD, mE, mF⟩ := B4.box8
  cases q
  · have Z : Hid (Value.tuple #[arV 0 0 false false 0 0 false false, .bool false] = V) := by unfold Hid; rw [← hV]; simp
    clear hV
    go_wp2
    exact bodyPost_ret (v := .tuple #[arV 0 0 false false 0 0 false false, .bool false]) (by simp [results, Try.results17, go_sem, m0, m1, m2, m3, m4, m5, m6, m7]) rfl ⟨congrArg Ending.returned Z.out, Ext.set8 X (by omega) _ _ _ _ _ _ _ _⟩
  clear m0 m1 m2 m3 m4 m5 m6 m7 m8 m9 mA mB mC mD mE mF
  obtain ⟨hk, hm, ha, hd⟩ := goodTB_bd hp
  obtain ⟨⟨hr, hc⟩, hr', hc'⟩ := goodAB_bd hq
  clear hp hq
  clear s1 s2 s0
  obtain rfl | rfl := hk
  · have lim : limT 1 = 1000 := by simp [limT]
    rw [lim] at ha hd
    simp only [true_and, if_true, if_true] at hV
    obtain ⟨A1, A2, A3⟩ := lo_hi hr hr'
    have EN := fun w => tendsI 1 a m d r r' 1000 w lim (by omega) hm ha hd hr hr'
    have ST0 := st_good hm.1 ha.1 ha.2 hd A1 A2 A3
    obtain ⟨sF, hsF⟩ : ∃ F, stF 1000 a m d (lo r r') (hi r r') = F := ⟨_, rfl⟩
    obtain ⟨sT, hsT⟩ : ∃ T, stT 1000 a m d (lo r r') (hi r r') = T := ⟨_, rfl⟩
    obtain ⟨F, hF⟩ : ∃ F, lfF 1000 a m d (lo r r') (hi r r') = F := ⟨_, rfl⟩
    obtain ⟨T, hT⟩ : ∃ T, lfT 1000 a m d (lo r r') (hi r r') = T := ⟨_, rfl⟩
    rw [hsF, hsT] at hV ST0
    rw [hF, hT] at EN ST0
    have ST : Hid ((T < F ∧ sF = 0) ∨ (1 ≤ F ∧ F ≤ T ∧ T ≤ 1000 ∧ sF = F ∧ sT = T)) := ST0
    have Z : Hid (sF = 0 → Value.tuple #[arV 0 0 false false 0 0 false false, .bool false] = V) := fun h => by rw [← hV, if_pos h]
    have Y1 : Hid (sF ≠ 0 → sF = F → sT = T → r' < r → Value.tuple #[arV T c f g F c' f' g', .bool true] = V) := fun h h1 h2 h' => by rw [← hV, if_neg h, if_pos h', h1, h2]
    have Y2 : Hid (sF ≠ 0 → sF = F → sT = T → ¬ r' < r → Value.tuple #[arV F c f g T c' f' g', .bool true] = V) := fun h h1 h2 h' => by rw [← hV, if_neg h, if_neg h', h1, h2]
    clear hV hF hT hsF hsT ST0 A1 A2 A3 hm ha hd lim hr hr' hc hc'
    obtain ⟨⟨b0, b1, b2, b3⟩, _⟩ := B2.box4
    obtain ⟨⟨⟨a0, a1, a2, a3⟩, a4, a5, a6, a7⟩, _⟩ := B3.box8
    go_wp2_with fail
    by_cases hx : r' < r
    · refine (EN _).mono ?_
      rintro e w4 ⟨rfl, e4⟩
      replace B3 := B3.later e4
      replace B4 := B4.later e4
      replace X := xt X e4
      clear e4 B2 EN b0 b1 b2 b3 a0 a1 a2 a3 a4 a5 a6 a7
      rw [if_pos hx]
      obtain ⟨⟨⟨a0, a1, a2, a3⟩, a4, a5, a6, a7⟩, ⟨a8, a9, aA, aB⟩, aC, aD, aE, aF⟩ := B3.box8
      have N3 := (B3.put 0 (by simp) (.int .i64 T)).put 4 (by simp) (.int .i64 F)
      have N4 := (B4.far (p := ⟨w.heap.size + 1, 0, none⟩) (by simp only; omega) (.int .i64 T)).far (p := ⟨w.heap.size + 1, 4, none⟩) (by simp only; omega) (.int .i64 F)
      have NX := xset (p := ⟨w.heap.size + 1, 4, none⟩) (xset (p := ⟨w.heap.size + 1, 0, none⟩) X (by simp only; omega) (.int .i64 T)) (by simp only; omega) (.int .i64 F)
      go_upto_region 9 with fail
      obtain ⟨w5, hw5⟩ : ∃ u, (w4.setCell ⟨w.heap.size + 1, 0, none⟩ (.int .i64 T)).setCell ⟨w.heap.size + 1, 4, none⟩ (.int .i64 F) = u := ⟨_, rfl⟩
      rw [hw5] at N3 N4 NX ⊢
      clear hw5 a0 a1 a2 a3 a4 a5 a6 a7 a8 a9 aA aB aC aD aE aF B3 B4 X
      by_cases h0 : F > T
      · have f0 : decide (F > T) = true := decide_eq_true h0
        rw [f0]
        have ZZ : Hid (Value.tuple #[arV 0 0 false false 0 0 false false, .bool false] = V) := Z.out (by have := ST.out; omega)
        clear Z Y1 Y2 ST
        obtain ⟨⟨⟨m0, m1, m2, m3⟩, m4, m5, m6, m7⟩, ⟨m8, m9, mA, mB⟩, mC, mD, mE, mF⟩ := N4.box8
        obtain ⟨⟨⟨a0, a1, a2, a3⟩, a4, a5, a6, a7⟩, _⟩ := N3.box8
        go_wp2
        exact bodyPost_ret (v := .tuple #[arV 0 0 false false 0 0 false false, .bool false]) (by simp [results, Try.results17, go_sem, m0, m1, m2, m3, m4, m5, m6, m7]) rfl ⟨congrArg Ending.returned ZZ.out, Ext.set8 NX (by omega) _ _ _ _ _ _ _ _⟩
      · have f0 : decide (F > T) = false := decide_eq_false h0
        rw [f0]
        have ZZ : Hid (Value.tuple #[arV T c f g F c' f' g', .bool true] = V) := Y1.out (by have := ST.out; omega) (by have := ST.out; omega) (by have := ST.out; omega) hx
        clear Z Y1 Y2 ST
        obtain ⟨⟨⟨m0, m1, m2, m3⟩, m4, m5, m6, m7⟩, ⟨m8, m9, mA, mB⟩, mC, mD, mE, mF⟩ := N4.box8
        obtain ⟨⟨⟨a0, a1, a2, a3⟩, a4, a5, a6, a7⟩, _⟩ := N3.box8
        go_wp2
        exact bodyPost_ret (v := .tuple #[arV T c f g F c' f' g', .bool true]) (by simp [results, Try.results17, go_sem, m0, m1, m2, m3, m4, m5, m6, m7]) rfl ⟨congrArg Ending.returned ZZ.out, Ext.set8 NX (by omega) _ _ _ _ _ _ _ _⟩
    · refine (EN _).mono ?_
      rintro e w4 ⟨rfl, e4⟩
      replace B3 := B3.later e4
      replace B4 := B4.later e4
      replace X := xt X e4
      clear e4 B2 EN b0 b1 b2 b3 a0 a1 a2 a3 a4 a5 a6 a7
      rw [if_neg hx]
      obtain ⟨⟨⟨a0, a1, a2, a3⟩, a4, a5, a6, a7⟩, ⟨a8, a9, aA, aB⟩, aC, aD, aE, aF⟩ := B3.box8
      have N3 := (B3.put 0 (by simp) (.int .i64 F)).put 4 (by simp) (.int .i64 T)
      have N4 := (B4.far (p := ⟨w.heap.size + 1, 0, none⟩) (by simp only; omega) (.int .i64 F)).far (p := ⟨w.heap.size + 1, 4, none⟩) (by simp only; omega) (.int .i64 T)
      have NX := xset (p := ⟨w.heap.size + 1, 4, none⟩) (xset (p := ⟨w.heap.size + 1, 0, none⟩) X (by simp only; omega) (.int .i64 F)) (by simp only; omega) (.int .i64 T)
      go_upto_region 9 with fail
      obtain ⟨w5, hw5⟩ : ∃ u, (w4.setCell ⟨w.heap.size + 1, 0, none⟩ (.int .i64 F)).setCell ⟨w.heap.size + 1, 4, none⟩ (.int .i64 T) = u := ⟨_, rfl⟩
      rw [hw5] at N3 N4 NX ⊢
      clear hw5 a0 a1 a2 a3 a4 a5 a6 a7 a8 a9 aA aB aC aD aE aF B3 B4 X
      by_cases h0 : F > T
      · have f0 : decide (F > T) = true := decide_eq_true h0
        rw [f0]
        have ZZ : Hid (Value.tuple #[arV 0 0 false false 0 0 false false, .bool false] = V) := Z.out (by have := ST.out; omega)
        clear Z Y1 Y2 ST
        obtain ⟨⟨⟨m0, m1, m2, m3⟩, m4, m5, m6, m7⟩, ⟨m8, m9, mA, mB⟩, mC, mD, mE, mF⟩ := N4.box8
        obtain ⟨⟨⟨a0, a1, a2, a3⟩, a4, a5, a6, a7⟩, _⟩ := N3.box8
        go_wp2
        exact bodyPost_ret (v := .tuple #[arV 0 0 false false 0 0 false false, .bool false]) (by simp [results, Try.results17, go_sem, m0, m1, m2, m3, m4, m5, m6, m7]) rfl ⟨congrArg Ending.returned ZZ.out, Ext.set8 NX (by omega) _ _ _ _ _ _ _ _⟩
      · have f0 : decide (F > T) = false := decide_eq_false h0
        rw [f0]
        have ZZ : Hid (Value.tuple #[arV F c f g T c' f' g', .bool true] = V) := Y2.out (by have := ST.out; omega) (by have := ST.out; omega) (by have := ST.out; omega) hx
        clear Z Y1 Y2 ST
        obtain ⟨⟨⟨m0, m1, m2, m3⟩, m4, m5, m6, m7⟩, ⟨m8, m9, mA, mB⟩, mC, mD, mE, mF⟩ := N4.box8
        obtain ⟨⟨⟨a0, a1, a2, a3⟩, a4, a5, a6, a7⟩, _⟩ := N3.box8
        go_wp2
        exact bodyPost_ret (v := .tuple #[arV F c f g T c' f' g', .bool true]) (by simp [results, Try.results17, go_sem, m0, m1, m2, m3, m4, m5, m6, m7]) rfl ⟨congrArg Ending.returned ZZ.out, Ext.set8 NX (by omega) _ _ _ _ _ _ _ _⟩
  · have lim : limT 2 = 200 := by simp [limT]
    rw [lim] at ha hd
    simp only [true_and, if_true, show ((2 : Int) = 1) = False by decide, if_false] at hV
    obtain ⟨A1, A2, A3⟩ := lo_hi hc hc'
    have EN := fun w => tendsI 2 a m d c c' 200 w lim (by omega) hm ha hd hc hc'
    have ST0 := st_good hm.1 ha.1 ha.2 hd A1 A2 A3
    obtain ⟨sF, hsF⟩ : ∃ F, stF 200 a m d (lo c c') (hi c c') = F := ⟨_, rfl⟩
    obtain ⟨sT, hsT⟩ : ∃ T, stT 200 a m d (lo c c') (hi c c') = T := ⟨_, rfl⟩
    obtain ⟨F, hF⟩ : ∃ F, lfF 200 a m d (lo c c') (hi c c') = F := ⟨_, rfl⟩
    obtain ⟨T, hT⟩ : ∃ T, lfT 200 a m d (lo c c') (hi c c') = T := ⟨_, rfl⟩
    rw [hsF, hsT] at hV ST0
    rw [hF, hT] at EN ST0
    have ST : Hid ((T < F ∧ sF = 0) ∨ (1 ≤ F ∧ F ≤ T ∧ T ≤ 200 ∧ sF = F ∧ sT = T)) := ST0
    have Z : Hid (sF = 0 → Value.tuple #[arV 0 0 false false 0 0 false false, .bool false] = V) := fun h => by rw [← hV, if_pos h]
    have Y1 : Hid (sF ≠ 0 → sF = F → sT = T → c' < c → Value.tuple #[arV r T f g r' F f' g', .bool true] = V) := fun h h1 h2 h' => by rw [← hV, if_neg h, if_pos h', h1, h2]
    have Y2 : Hid (sF ≠ 0 → sF = F → sT = T → ¬ c' < c → Value.tuple #[arV r F f g r' T f' g', .bool true] = V) := fun h h1 h2 h' => by rw [← hV, if_neg h, if_neg h', h1, h2]
    clear hV hF hT hsF hsT ST0 A1 A2 A3 hm ha hd lim hr hr' hc hc'
    obtain ⟨⟨b0, b1, b2, b3⟩, _⟩ := B2.box4
    obtain ⟨⟨⟨a0, a1, a2, a3⟩, a4, a5, a6, a7⟩, _⟩ := B3.box8
    go_wp2_with fail
    by_cases hx : c' < c
    · refine (EN _).mono ?_
      rintro e w4 ⟨rfl, e4⟩
      replace B3 := B3.later e4
      replace B4 := B4.later e4
      replace X := xt X e4
      clear e4 B2 EN b0 b1 b2 b3 a0 a1 a2 a3 a4 a5 a6 a7
      rw [if_pos hx]
      obtain ⟨⟨⟨a0, a1, a2, a3⟩, a4, a5, a6, a7⟩, ⟨a8, a9, aA, aB⟩, aC, aD, aE, aF⟩ := B3.box8
      have N3 := (B3.put 1 (by simp) (.int .i64 T)).put 5 (by simp) (.int .i64 F)
      have N4 := (B4.far (p := ⟨w.heap.size + 1, 1, none⟩) (by simp only; omega) (.int .i64 T)).far (p := ⟨w.heap.size + 1, 5, none⟩) (by simp only; omega) (.int .i64 F)
      have NX := xset (p := ⟨w.heap.size + 1, 5, none⟩) (xset (p := ⟨w.heap.size + 1, 1, none⟩) X (by simp only; omega) (.int .i64 T)) (by simp only; omega) (.int .i64 F)
      go_upto_region 9 with fail
      obtain ⟨w5, hw5⟩ : ∃ u, (w4.setCell ⟨w.heap.size + 1, 1, none⟩ (.int .i64 T)).setCell ⟨w.heap.size + 1, 5, none⟩ (.int .i64 F) = u := ⟨_, rfl⟩
      rw [hw5] at N3 N4 NX ⊢
      clear hw5 a0 a1 a2 a3 a4 a5 a6 a7 a8 a9 aA aB aC aD aE aF B3 B4 X
      by_cases h0 : F > T
      · have f0 : decide (F > T) = true := decide_eq_true h0
        rw [f0]
        have ZZ : Hid (Value.tuple #[arV 0 0 false false 0 0 false false, .bool false] = V) := Z.out (by have := ST.out; omega)
        clear Z Y1 Y2 ST
        obtain ⟨⟨⟨m0, m1, m2, m3⟩, m4, m5, m6, m7⟩, ⟨m8, m9, mA, mB⟩, mC, mD, mE, mF⟩ := N4.box8
        obtain ⟨⟨⟨a0, a1, a2, a3⟩, a4, a5, a6, a7⟩, _⟩ := N3.box8
        go_wp2
        exact bodyPost_ret (v := .tuple #[arV 0 0 false false 0 0 false false, .bool false]) (by simp [results, Try.results17, go_sem, m0, m1, m2, m3, m4, m5, m6, m7]) rfl ⟨congrArg Ending.returned ZZ.out, Ext.set8 NX (by omega) _ _ _ _ _ _ _ _⟩
      · have f0 : decide (F > T) = false := decide_eq_false h0
        rw [f0]
        have ZZ : Hid (Value.tuple #[arV r T f g r' F f' g', .bool true] = V) := Y1.out (by have := ST.out; omega) (by have := ST.out; omega) (by have := ST.out; omega) hx
        clear Z Y1 Y2 ST
        obtain ⟨⟨⟨m0, m1, m2, m3⟩, m4, m5, m6, m7⟩, ⟨m8, m9, mA, mB⟩, mC, mD, mE, mF⟩ := N4.box8
        obtain ⟨⟨⟨a0, a1, a2, a3⟩, a4, a5, a6, a7⟩, _⟩ := N3.box8
        go_wp2
        exact bodyPost_ret (v := .tuple #[arV r T f g r' F f' g', .bool true]) (by simp [results, Try.results17, go_sem, m0, m1, m2, m3, m4, m5, m6, m7]) rfl ⟨congrArg Ending.returned ZZ.out, Ext.set8 NX (by omega) _ _ _ _ _ _ _ _⟩
    · refine (EN _).mono ?_
      rintro e w4 ⟨rfl, e4⟩
      replace B3 := B3.later e4
      replace B4 := B4.later e4
      replace X := xt X e4
      clear e4 B2 EN b0 b1 b2 b3 a0 a1 a2 a3 a4 a5 a6 a7
      rw [if_neg hx]
      obtain ⟨⟨⟨a0, a1, a2, a3⟩, a4, a5, a6, a7⟩, ⟨a8, a9, aA, aB⟩, aC, aD, aE, aF⟩ := B3.box8
      have N3 := (B3.put 1 (by simp) (.int .i64 F)).put 5 (by simp) (.int .i64 T)
      have N4 := (B4.far (p := ⟨w.heap.size + 1, 1, none⟩) (by simp only; omega) (.int .i64 F)).far (p := ⟨w.heap.size + 1, 5, none⟩) (by simp only; omega) (.int .i64 T)
      have NX := xset (p := ⟨w.heap.size + 1, 5, none⟩) (xset (p := ⟨w.heap.size + 1, 1, none⟩) X (by simp only; omega) (.int .i64 F)) (by simp only; omega) (.int .i64 T)
      go_upto_region 9 with fail
      obtain ⟨w5, hw5⟩ : ∃ u, (w4.setCell ⟨w.heap.size + 1, 1, none⟩ (.int .i64 F)).setCell ⟨w.heap.size + 1, 5, none⟩ (.int .i64 T) = u := ⟨_, rfl⟩
      rw [hw5] at N3 N4 NX ⊢
      clear hw5 a0 a1 a2 a3 a4 a5 a6 a7 a8 a9 aA aB aC aD aE aF B3 B4 X
      by_cases h0 : F > T
      · have f0 : decide (F > T) = true := decide_eq_true h0
        rw [f0]
        have ZZ : Hid (Value.tuple #[arV 0 0 false false 0 0 false false, .bool false] = V) := Z.out (by have := ST.out; omega)
        clear Z Y1 Y2 ST
        obtain ⟨⟨⟨m0, m1, m2, m3⟩, m4, m5, m6, m7⟩, ⟨m8, m9, mA, mB⟩, mC, mD, mE, mF⟩ := N4.box8
        obtain ⟨⟨⟨a0, a1, a2, a3⟩, a4, a5, a6, a7⟩, _⟩ := N3.box8
        go_wp2
        exact bodyPost_ret (v := .tuple #[arV 0 0 false false 0 0 false false, .bool false]) (by simp [results, Try.results17, go_sem, m0, m1, m2, m3, m4, m5, m6, m7]) rfl ⟨congrArg Ending.returned ZZ.out, Ext.set8 NX (by omega) _ _ _ _ _ _ _ _⟩
      · have f0 : decide (F > T) = false := decide_eq_false h0
        rw [f0]
        have ZZ : Hid (Value.tuple #[arV r F f g r' T f' g', .bool true] = V) := Y2.out (by have := ST.out; omega) (by have := ST.out; omega) (by have := ST.out; omega) hx
        clear Z Y1 Y2 ST
        obtain ⟨⟨⟨m0, m1, m2, m3⟩, m4, m5, m6, m7⟩, ⟨m8, m9, mA, mB⟩, mC, mD, mE, mF⟩ := N4.box8
        obtain ⟨⟨⟨a0, a1, a2, a3⟩, a4, a5, a6, a7⟩, _⟩ := N3.box8
        go_wp2
        exact bodyPost_ret (v := .tuple #[arV r F f g r' T f' g', .bool true]) (by simp [results, Try.results17, go_sem, m0, m1, m2, m3, m4, m5, m6, m7]) rfl ⟨congrArg Ending.returned ZZ.out, Ext.set8 NX (by omega) _ _ _ _ _ _ _ _⟩

end Go.Proofs.Ytdbiefpgoiofcaa
