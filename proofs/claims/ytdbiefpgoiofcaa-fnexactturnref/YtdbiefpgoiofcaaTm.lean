/-
  Turns handed over, compared; GoodTurn's and BackTurn's laws.
-/
import Derived.Test.YtdbiefpgoiofcaaTn
namespace Go.Proofs.Ytdbiefpgoiofcaa
open Go.RowKit

set_option maxHeartbeats 400000 in
theorem toTurn (k a m : Int) (d : Bool) (w : World) :
    Calls Try.prog 9 #[tuV k a m d] w fun e w' => e = .returned (tuV k a m d) ∧ Ext w w' := by
  go_enter Try.func9, Try.ntmps9
  go_wp2
  exact bodyPost_ret (v := tuV k a m d) (by simp [results, Try.results9, go_sem]) rfl ⟨rfl, xa (xa (x1 _ _) _) _⟩
set_option maxHeartbeats 400000 in
theorem eqTurn_same (k a m : Int) (d : Bool) (w : World) :
    Calls Try.prog 24 #[tuV k a m d, tuV k a m d] w fun e w' => e = .returned (.bool true) ∧ Ext w w' := by
  go_enter Try.func24, Try.ntmps24
  go_wp2
  all_goals go_ret
  all_goals exact ⟨rfl, xa (x1 _ _) _⟩
set_option maxHeartbeats 400000 in
theorem lawGoodTurn (k a m : Int) (d : Bool) (w : World) :
    Calls Try.prog 3 #[tuV k a m d] w fun e w' => e = .returned (.bool true) ∧ Ext w w' := by
  go_enter Try.func3, Try.ntmps3
  go_wp2_with fail
  refine (toTurn _ _ _ _ _).mono ?_
  rintro e w1 ⟨rfl, b1⟩
  go_wp2_with fail
  refine (goodTS _ _ _ _ _).mono ?_
  rintro e w2 ⟨rfl, b2⟩
  obtain ⟨⟨q0, q1, q2, q3⟩, _⟩ := ((Box4.made w (.int .i64 k) (.int .i64 a) (.int .i64 m) (.bool d) 23).later b1).later b2
  go_wp2_with fail
  refine (toTurn _ _ _ _ _).mono ?_
  rintro e w3 ⟨rfl, b3⟩
  go_wp2_with fail
  refine (goodTI _ _ _ _ _).mono ?_
  rintro e w4 ⟨rfl, b4⟩
  go_wp2
  go_ret
  exact ⟨rfl, xt (xt (xt (xt (x1 _ _) b1) b2) b3) b4⟩
/-- What BackTurn answers. -/
def backB (k a m : Int) (d : Bool) : Value := if goodTB k a m d = true ∧ goodTB k a m (!d) = true then tuV k a m (!d) else tuV 0 0 0 false
theorem backB_shape (k a m : Int) (d : Bool) : ∃ x y z u, backB k a m d = tuV x y z u := by
  unfold backB
  split
  · exact ⟨_, _, _, _, rfl⟩
  · exact ⟨_, _, _, _, rfl⟩
set_option maxRecDepth 8000 in
set_option maxHeartbeats 1000000 in
theorem backS (k a m : Int) (d : Bool) (w : World) :
    Calls Try.prog 22 #[tuV k a m d] w fun e w' => e = .returned (backB k a m d) ∧ Ext w w' := by
  have G1 := fun w => goodTS k a m d w
  have G2 := fun w => goodTS k a m (!d) w
  obtain ⟨D, hD⟩ : ∃ D, (!d) = D := ⟨_, rfl⟩
  obtain ⟨V, hV⟩ : ∃ V, backB k a m d = V := ⟨_, rfl⟩
  rw [hV]
  unfold backB at hV
  rw [hD] at G2 hV
  obtain ⟨p, hp⟩ : ∃ p, goodTB k a m d = p := ⟨_, rfl⟩
  obtain ⟨q, hq⟩ : ∃ q, goodTB k a m D = q := ⟨_, rfl⟩
  rw [hp, hq] at hV
  rw [hp] at G1
  rw [hq] at G2
  have F1 : Hid (p = false → tuV 0 0 0 false = V) := fun h => by rw [← hV, h]; rfl
  have F2 : Hid (q = false → tuV 0 0 0 false = V) := fun h => by rw [← hV, h, if_neg (fun h => Bool.noConfusion h.2)]
  have F3 : Hid (p = true → q = true → tuV k a m D = V) := fun h1 h2 => by rw [← hV, h1, h2]; rfl
  clear hp hq hV
  have B1 := Vec.made4 w (.int .i64 k) (.int .i64 a) (.int .i64 m) (.bool d) 25
  have x1' := x1 w (.cells #[.int .i64 k, .int .i64 a, .int .i64 m, .bool d] 25)
  have B2 := Vec.made4 (w.alloc (.cells #[.int .i64 k, .int .i64 a, .int .i64 m, .bool d] 25)) (.int .i64 0) (.int .i64 0) (.int .i64 0) (.bool false) 25
  have B1' := B1.later (x1 _ (.cells #[.int .i64 0, .int .i64 0, .int .i64 0, .bool false] 25))
  have X := xa x1' (.cells #[.int .i64 0, .int .i64 0, .int .i64 0, .bool false] 25)
  rw [World.size_alloc] at B2
  clear B1 x1'
  go_enter Try.func22, Try.ntmps22
  go_upto_region 1 with fail
  obtain ⟨w0, hw0⟩ : ∃ u, (w.alloc (.cells #[.int .i64 k, .int .i64 a, .int .i64 m, .bool d] 25)).alloc (.cells #[.int .i64 0, .int .i64 0, .int .i64 0, .bool false] 25) = u := ⟨_, rfl⟩
  rw [hw0] at X B2 B1' ⊢
  clear hw0
  obtain ⟨⟨a0, a1, a2, a3⟩, a4, a5, a6, a7⟩ := B1'.box4
  go_wp2_with fail
  refine (G1 _).mono ?_
  rintro e w1 ⟨rfl, b1⟩
  clear a0 a1 a2 a3 a4 a5 a6 a7
  replace B1' := B1'.later b1
  replace B2 := B2.later b1
  replace X := xt X b1
  obtain ⟨⟨a0, a1, a2, a3⟩, a4, a5, a6, a7⟩ := B1'.box4
  obtain ⟨⟨m0, m1, m2, m3⟩, m4, m5, m6, m7⟩ := B2.box4
  cases p
  · go_wp2
    exact bodyPost_ret (v := tuV 0 0 0 false) (by simp [results, Try.results22, go_sem, m0, m1, m2, m3]) rfl ⟨congrArg Ending.returned (F1.out (by first | rfl | trivial)), Ext.set4 (o := 0) X (by omega) _ _ _ _⟩
  · have N1 := B1'.put 3 (by simp) (.bool D)
    have N2 := B2.far (p := ⟨w.heap.size, 3, none⟩) (by simp only; omega) (.bool D)
    have NX := xset (p := ⟨w.heap.size, 3, none⟩) X (Nat.le_refl _) (.bool D)
    go_upto_region 4 with fail
    try simp only [hD]
    obtain ⟨w2, hw2⟩ : ∃ u, w1.setCell ⟨w.heap.size, 3, none⟩ (.bool D) = u := ⟨_, rfl⟩
    rw [hw2] at N1 N2 NX ⊢
    clear hw2 a0 a1 a2 a3 a4 a5 a6 a7 m0 m1 m2 m3 m4 m5 m6 m7
    obtain ⟨⟨a0, a1, a2, a3⟩, a4, a5, a6, a7⟩ := N1.box4
    go_wp2_with fail
    refine (G2 _).mono ?_
    rintro e w3 ⟨rfl, b3⟩
    clear a0 a1 a2 a3 a4 a5 a6 a7
    replace N1 := N1.later b3
    replace N2 := N2.later b3
    replace NX := xt NX b3
    obtain ⟨⟨a0, a1, a2, a3⟩, a4, a5, a6, a7⟩ := N1.box4
    obtain ⟨⟨m0, m1, m2, m3⟩, m4, m5, m6, m7⟩ := N2.box4
    cases q
    · go_wp2
      exact bodyPost_ret (v := tuV 0 0 0 false) (by simp [results, Try.results22, go_sem, m0, m1, m2, m3]) rfl ⟨congrArg Ending.returned (F2.out (by first | rfl | trivial)), Ext.set4 (o := 0) NX (by omega) _ _ _ _⟩
    · go_wp2
      exact bodyPost_ret (v := tuV k a m D) (by simp [results, Try.results22, go_sem, m0, m1, m2, m3]) rfl ⟨congrArg Ending.returned (F3.out (by first | rfl | trivial) (by first | rfl | trivial)), Ext.set4 (o := 0) NX (by omega) _ _ _ _⟩
set_option maxRecDepth 8000 in
set_option maxHeartbeats 1000000 in
theorem backI (k a m : Int) (d : Bool) (w : World) :
    Calls Try.prog 23 #[tuV k a m d] w fun e w' => e = .returned (backB k a m d) ∧ Ext w w' := by
  have G1 := fun w => goodTI k a m d w
  have G2 := fun w => goodTI k a m (!d) w
  obtain ⟨D, hD⟩ : ∃ D, (!d) = D := ⟨_, rfl⟩
  obtain ⟨V, hV⟩ : ∃ V, backB k a m d = V := ⟨_, rfl⟩
  rw [hV]
  unfold backB at hV
  rw [hD] at G2 hV
  obtain ⟨p, hp⟩ : ∃ p, goodTB k a m d = p := ⟨_, rfl⟩
  obtain ⟨q, hq⟩ : ∃ q, goodTB k a m D = q := ⟨_, rfl⟩
  rw [hp, hq] at hV
  rw [hp] at G1
  rw [hq] at G2
  have F1 : Hid (p = false → tuV 0 0 0 false = V) := fun h => by rw [← hV, h]; rfl
  have F2 : Hid (q = false → tuV 0 0 0 false = V) := fun h => by rw [← hV, h, if_neg (fun h => Bool.noConfusion h.2)]
  have F3 : Hid (p = true → q = true → tuV k a m D = V) := fun h1 h2 => by rw [← hV, h1, h2]; rfl
  clear hp hq hV
  have B1 := Vec.made4 w (.int .i64 k) (.int .i64 a) (.int .i64 m) (.bool d) 25
  have x1' := x1 w (.cells #[.int .i64 k, .int .i64 a, .int .i64 m, .bool d] 25)
  have B2 := Vec.made4 (w.alloc (.cells #[.int .i64 k, .int .i64 a, .int .i64 m, .bool d] 25)) (.int .i64 0) (.int .i64 0) (.int .i64 0) (.bool false) 25
  have B1' := B1.later (x1 _ (.cells #[.int .i64 0, .int .i64 0, .int .i64 0, .bool false] 25))
  have X := xa x1' (.cells #[.int .i64 0, .int .i64 0, .int .i64 0, .bool false] 25)
  rw [World.size_alloc] at B2
  clear B1 x1'
  go_enter Try.func23, Try.ntmps23
  go_upto_region 1 with fail
  obtain ⟨w0, hw0⟩ : ∃ u, (w.alloc (.cells #[.int .i64 k, .int .i64 a, .int .i64 m, .bool d] 25)).alloc (.cells #[.int .i64 0, .int .i64 0, .int .i64 0, .bool false] 25) = u := ⟨_, rfl⟩
  have s0 : w0.heap.size = w.heap.size + 1 + 1 := by rw [← hw0]; simp only [World.size_alloc]
  rw [hw0] at X B2 B1' ⊢
  clear hw0
  obtain ⟨⟨a0, a1, a2, a3⟩, a4, a5, a6, a7⟩ := B1'.box4
  go_upto_region 2 with fail
  have B3 := Vec.made4 w0 (.int .i64 k) (.int .i64 a) (.int .i64 m) (.bool d) 25
  have x3 := x1 w0 (.cells #[.int .i64 k, .int .i64 a, .int .i64 m, .bool d] 25)
  obtain ⟨w1, hw1⟩ : ∃ u, w0.alloc (.cells #[.int .i64 k, .int .i64 a, .int .i64 m, .bool d] 25) = u := ⟨_, rfl⟩
  rw [hw1] at B3 x3 ⊢
  rw [s0] at B3
  clear hw1 a0 a1 a2 a3 a4 a5 a6 a7 s0
  replace B1' := B1'.later x3
  replace B2 := B2.later x3
  replace X := xt X x3
  obtain ⟨⟨a0, a1, a2, a3⟩, a4, a5, a6, a7⟩ := B1'.box4
  obtain ⟨⟨m0, m1, m2, m3⟩, m4, m5, m6, m7⟩ := B3.box4
  go_upto_region 3 with fail
  try simp only [hD]
  have N1 := B1'.far (p := ⟨w.heap.size + 1 + 1, 3, none⟩) (by simp only; omega) (.bool D)
  have N2 := B2.far (p := ⟨w.heap.size + 1 + 1, 3, none⟩) (by simp only; omega) (.bool D)
  have N3 := B3.put 3 (by simp) (.bool D)
  have NX := xset (p := ⟨w.heap.size + 1 + 1, 3, none⟩) X (by simp only; omega) (.bool D)
  obtain ⟨w2, hw2⟩ : ∃ u, w1.setCell ⟨w.heap.size + 1 + 1, 3, none⟩ (.bool D) = u := ⟨_, rfl⟩
  rw [hw2] at N1 N2 N3 NX ⊢
  clear hw2 a0 a1 a2 a3 a4 a5 a6 a7 m0 m1 m2 m3 m4 m5 m6 m7 B1' B2 B3 X
  obtain ⟨⟨a0, a1, a2, a3⟩, a4, a5, a6, a7⟩ := N1.box4
  go_wp2_with fail
  refine (G1 _).mono ?_
  rintro e w3 ⟨rfl, b3⟩
  clear a0 a1 a2 a3 a4 a5 a6 a7
  replace N2 := N2.later b3
  replace N3 := N3.later b3
  replace NX := xt NX b3
  obtain ⟨⟨a0, a1, a2, a3⟩, a4, a5, a6, a7⟩ := N3.box4
  obtain ⟨⟨m0, m1, m2, m3⟩, m4, m5, m6, m7⟩ := N2.box4
  cases p
  · go_wp2
    exact bodyPost_ret (v := tuV 0 0 0 false) (by simp [results, Try.results23, go_sem, m0, m1, m2, m3]) rfl ⟨congrArg Ending.returned (F1.out (by first | rfl | trivial)), Ext.set4 (o := 0) NX (by omega) _ _ _ _⟩
  · go_wp2_with fail
    refine (G2 _).mono ?_
    rintro e w4 ⟨rfl, b4⟩
    clear a0 a1 a2 a3 a4 a5 a6 a7 m0 m1 m2 m3 m4 m5 m6 m7
    replace N2 := N2.later b4
    replace N3 := N3.later b4
    replace NX := xt NX b4
    obtain ⟨⟨a0, a1, a2, a3⟩, a4, a5, a6, a7⟩ := N3.box4
    obtain ⟨⟨m0, m1, m2, m3⟩, m4, m5, m6, m7⟩ := N2.box4
    cases q
    · go_wp2
      exact bodyPost_ret (v := tuV 0 0 0 false) (by simp [results, Try.results23, go_sem, m0, m1, m2, m3]) rfl ⟨congrArg Ending.returned (F2.out (by first | rfl | trivial)), Ext.set4 (o := 0) NX (by omega) _ _ _ _⟩
    · go_wp2
      exact bodyPost_ret (v := tuV k a m D) (by simp [results, Try.results23, go_sem, m0, m1, m2, m3]) rfl ⟨congrArg Ending.returned (F3.out (by first | rfl | trivial) (by first | rfl | trivial)), Ext.set4 (o := 0) NX (by omega) _ _ _ _⟩
set_option maxRecDepth 8000 in
set_option maxHeartbeats 1000000 in
theorem lawBackTurn (k a m : Int) (d : Bool) (w : World) :
    Calls Try.prog 7 #[tuV k a m d] w fun e w' => e = .returned (.bool true) ∧ Ext w w' := by
  have B1 := Vec.made4 w (.int .i64 k) (.int .i64 a) (.int .i64 m) (.bool d) 23
  have X := x1 w (.cells #[.int .i64 k, .int .i64 a, .int .i64 m, .bool d] 23)
  obtain ⟨n1, n2, n3, n4, hn⟩ := backB_shape k a m d
  have NS := fun w => backS k a m d w
  have NI := fun w => backI k a m d w
  rw [hn] at NS NI
  clear hn
  go_enter Try.func7, Try.ntmps7
  go_wp2_with fail
  refine (toTurn _ _ _ _ _).mono ?_
  rintro e w1 ⟨rfl, b1⟩
  go_wp2_with fail
  refine (NS _).mono ?_
  rintro e w2 ⟨rfl, b2⟩
  have P := Vec.made4 w2 (.int .i64 n1) (.int .i64 n2) (.int .i64 n3) (.bool n4) 25
  have x3 := x1 w2 (.cells #[.int .i64 n1, .int .i64 n2, .int .i64 n3, .bool n4] 25)
  have B3 := ((B1.later b1).later b2).later x3
  have X3 := xt (xt (xt X b1) b2) x3
  clear B1 b1 b2 X x3 NS
  obtain ⟨⟨a0, a1, a2, a3⟩, _⟩ := B3.box4
  go_wp2_with fail
  clear a0 a1 a2 a3
  refine (toTurn _ _ _ _ _).mono ?_
  rintro e w4 ⟨rfl, b4⟩
  go_wp2_with fail
  refine (NI _).mono ?_
  rintro e w5 ⟨rfl, b5⟩
  have Q := Vec.made4 w5 (.int .i64 n1) (.int .i64 n2) (.int .i64 n3) (.bool n4) 25
  have x6 := x1 w5 (.cells #[.int .i64 n1, .int .i64 n2, .int .i64 n3, .bool n4] 25)
  have P6 := ((P.later b4).later b5).later x6
  have X6 := xt (xt (xt X3 b4) b5) x6
  obtain ⟨⟨a0, a1, a2, a3⟩, _⟩ := P6.box4
  obtain ⟨⟨k0, k1, k2, k3⟩, _⟩ := Q.box4
  clear P B3 X3 b4 b5 x6 NI
  go_wp2_with fail
  refine (eqTurn_same _ _ _ _ _).mono ?_
  rintro e w7 ⟨rfl, b7⟩
  go_wp2_with fail
  go_ret
  exact ⟨rfl, xt X6 b7⟩
end Go.Proofs.Ytdbiefpgoiofcaa
