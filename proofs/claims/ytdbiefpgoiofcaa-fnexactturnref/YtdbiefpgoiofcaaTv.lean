/-
  The specification's TurnRef.
-/
import Derived.Test.YtdbiefpgoiofcaaTu
namespace Go.Proofs.Ytdbiefpgoiofcaa
open Go.RowKit

/-- What TurnRef answers. -/
def trB (k a m : Int) (d : Bool) (r c : Int) (f g : Bool) : Value :=
  if goodTB k a m d = true ∧ goodRB r c = true then
    (if k = 1 then (if tN 1000 a m d r = 0 then .tuple #[refV 0 0 false false, .bool false] else .tuple #[refV (tN 1000 a m d r) c f g, .bool true])
    else (if tN 200 a m d c = 0 then .tuple #[refV 0 0 false false, .bool false] else .tuple #[refV r (tN 200 a m d c) f g, .bool true]))
  else .tuple #[refV 0 0 false false, .bool false]
theorem trB_shape (k a m : Int) (d : Bool) (r c : Int) (f g : Bool) : ∃ n1 n2 n3 n4 q, trB k a m d r c f g = .tuple #[refV n1 n2 n3 n4, .bool q] := by
  unfold trB
  split
  · split
    · split <;> exact ⟨_, _, _, _, _, rfl⟩
    · split <;> exact ⟨_, _, _, _, _, rfl⟩
  · exact ⟨_, _, _, _, _, rfl⟩
theorem goodRB_bd {r c : Int} (h : goodRB r c = true) : (1 ≤ r ∧ r ≤ 1000) ∧ 1 ≤ c ∧ c ≤ 200 := of_decide_eq_true h

set_option maxRecDepth 8000 in
set_option maxHeartbeats 8000000 in
theorem refTS (k a m : Int) (d : Bool) (r c : Int) (f g : Bool) (w : World) :
    Calls Try.prog 11 #[tuV k a m d, refV r c f g] w fun e w' => e = .returned (trB k a m d r c f g) ∧ Ext w w' := by
  obtain ⟨V, hV⟩ : ∃ V, trB k a m d r c f g = V := ⟨_, rfl⟩
  rw [hV]
  unfold trB at hV
  have GT := fun w => goodTS k a m d w
  have GA := fun w => goodRS r c f g w
  obtain ⟨p, hp⟩ : ∃ p, goodTB k a m d = p := ⟨_, rfl⟩
  obtain ⟨q, hq⟩ : ∃ q, goodRB r c = q := ⟨_, rfl⟩
  rw [hp] at GT hV
  rw [hq] at GA hV
  have B2 := Vec.made4 w (.int .i64 k) (.int .i64 a) (.int .i64 m) (.bool d) 25
  have X := x1 w (.cells #[.int .i64 k, .int .i64 a, .int .i64 m, .bool d] 25)
  obtain ⟨wa, ha⟩ : ∃ wa, w.alloc (.cells #[.int .i64 k, .int .i64 a, .int .i64 m, .bool d] 25) = wa := ⟨_, rfl⟩
  rw [ha] at B2 X
  have sa : wa.heap.size = w.heap.size + 1 := by rw [← ha, World.size_alloc]
  have B3 := Vec.made4 wa (.int .i64 r) (.int .i64 c) (.bool f) (.bool g) 30
  have x3 := x1 wa (.cells #[.int .i64 r, .int .i64 c, .bool f, .bool g] 30)
  obtain ⟨wb, hb⟩ : ∃ wb, wa.alloc (.cells #[.int .i64 r, .int .i64 c, .bool f, .bool g] 30) = wb := ⟨_, rfl⟩
  rw [hb] at B3 x3
  have sb : wb.heap.size = w.heap.size + 1 + 1 := by rw [← hb, World.size_alloc, sa]
  have B4 := Vec.made4 wb (.int .i64 0) (.int .i64 0) (.bool false) (.bool false) 30
  have x4 := x1 wb (.cells #[.int .i64 0, .int .i64 0, .bool false, .bool false] 30)
  rw [sa] at B3
  go_enter Try.func11, Try.ntmps11
  go_upto_region 1 with fail
  (try rw [ha])
  (try rw [hb])
  obtain ⟨w0, hw0⟩ : ∃ w0, wb.alloc (.cells #[.int .i64 0, .int .i64 0, .bool false, .bool false] 30) = w0 := ⟨_, rfl⟩
  have s0 : w0.heap.size = w.heap.size + 1 + 1 + 1 := by rw [← hw0, World.size_alloc, sb]
  rw [hw0] at B4 x4 ⊢
  rw [sb] at B4
  replace B2 := (B2.later x3).later x4
  replace B3 := B3.later x4
  replace X := xt (xt X x3) x4
  clear ha hb hw0 sa sb x3 x4
  obtain ⟨⟨a0, a1, a2, a3⟩, _⟩ := B2.box4
  go_wp2_with fail
  refine (GT _).mono ?_
  rintro e w1 ⟨rfl, e1⟩
  clear a0 a1 a2 a3 GT
  have s1 := e1.size
  replace B2 := B2.later e1
  replace B3 := B3.later e1
  replace B4 := B4.later e1
  replace X := xt X e1
  clear e1
  obtain ⟨⟨m0, m1, m2, m3⟩, m4, m5, m6, m7⟩ := B4.box4
  cases p
  · have Z : Hid (Value.tuple #[refV 0 0 false false, .bool false] = V) := by unfold Hid; rw [← hV]; simp
    clear hV
    go_wp2
    exact bodyPost_ret (v := .tuple #[refV 0 0 false false, .bool false]) (by simp [results, Try.results11, go_sem, m0, m1, m2, m3]) rfl ⟨congrArg Ending.returned Z.out, Ext.set4 (o := 0) X (by omega) _ _ _ _⟩
  clear m0 m1 m2 m3 m4 m5 m6 m7
  obtain ⟨⟨a0, a1, a2, a3⟩, _⟩ := B3.box4
  go_wp2_with fail
  refine (GA _).mono ?_
  rintro e w2 ⟨rfl, e2⟩
  clear a0 a1 a2 a3 GA
  have s2 := e2.size
  replace B2 := B2.later e2
  replace B3 := B3.later e2
  replace B4 := B4.later e2
  replace X := xt X e2
  clear e2
  obtain ⟨⟨m0, m1, m2, m3⟩, m4, m5, m6, m7⟩ := B4.box4
  cases q
  · have Z : Hid (Value.tuple #[refV 0 0 false false, .bool false] = V) := by unfold Hid; rw [← hV]; simp
    clear hV
    go_wp2
    exact bodyPost_ret (v := .tuple #[refV 0 0 false false, .bool false]) (by simp [results, Try.results11, go_sem, m0, m1, m2, m3]) rfl ⟨congrArg Ending.returned Z.out, Ext.set4 (o := 0) X (by omega) _ _ _ _⟩
  clear m0 m1 m2 m3 m4 m5 m6 m7
  obtain ⟨hk, hm, ha, hd⟩ := goodTB_bd hp
  obtain ⟨hr, hc⟩ := goodRB_bd hq
  clear hp hq
  obtain ⟨⟨a0, a1, a2, a3⟩, _⟩ := B3.box4
  go_upto_region 4 with fail
  have B6 := Vec.made4 w2 (.int .i64 r) (.int .i64 c) (.bool f) (.bool g) 30
  have x6 := x1 w2 (.cells #[.int .i64 r, .int .i64 c, .bool f, .bool g] 30)
  obtain ⟨w3, hw3⟩ : ∃ w3, w2.alloc (.cells #[.int .i64 r, .int .i64 c, .bool f, .bool g] 30) = w3 := ⟨_, rfl⟩
  rw [hw3] at B6 x6 ⊢
  obtain ⟨b6, hb6⟩ : ∃ b, w2.heap.size = b := ⟨_, rfl⟩
  rw [hb6] at B6 ⊢
  clear hw3 a0 a1 a2 a3
  replace B2 := B2.later x6
  replace B3 := B3.later x6
  replace B4 := B4.later x6
  replace X := xt X x6
  have g6 : w.heap.size + 1 + 1 + 1 ≤ b6 := by omega
  clear x6 s1 s2 s0 hb6
  obtain rfl | rfl := hk
  · have lim : limT 1 = 1000 := by simp [limT]
    rw [lim] at ha hd
    simp only [true_and, if_true, if_true] at hV
    have TN := fun w => turnS 1 a m d r 1000 w lim hm (by omega) (by omega)
    have TI := tN_is 1000 a m d r
    obtain ⟨v, hv⟩ : ∃ v, tN 1000 a m d r = v := ⟨_, rfl⟩
    rw [hv] at TN hV TI
    have v0 : 0 ≤ v ∧ v ≤ 1000 := by
      cases d <;> simp at TI hd <;> omega
    have Z : Hid (v = 0 → Value.tuple #[refV 0 0 false false, .bool false] = V) := fun h => by rw [← hV, if_pos h]
    have Y : Hid (v ≠ 0 → Value.tuple #[refV v c f g, .bool true] = V) := fun h => by rw [← hV, if_neg h]
    have G : Hid (∀ w, Calls Try.prog 27 #[refV v c f g] w fun e w' => e = .returned (.bool (decide (v ≠ 0))) ∧ Ext w w') := fun w => by
      have e : decide (v ≠ 0) = goodRB v c := by
        unfold goodRB
        rw [decide_eq_decide]
        omega
      rw [e]
      exact goodRS _ _ _ _ _
    clear hV hv TI hm ha hd lim hr hc
    obtain ⟨⟨b0, b1, b2, b3⟩, _⟩ := B2.box4
    obtain ⟨⟨a0, a1, a2, a3⟩, _⟩ := B3.box4
    go_wp2_with fail
    clear b0 b1 b2 b3 a0 a1 a2 a3
    refine (TN _).mono ?_
    rintro e w4 ⟨rfl, e4⟩
    replace B4 := B4.later e4
    replace B6 := B6.later e4
    replace X := xt X e4
    clear e4 B2 B3 TN
    obtain ⟨⟨a0, a1, a2, a3⟩, a4, a5, a6, a7⟩ := B6.box4
    have N6 := B6.put 0 (by simp) (.int .i64 v)
    have N4 := B4.far (p := ⟨b6, 0, none⟩) (by simp only; omega) (.int .i64 v)
    have NX := xset (p := ⟨b6, 0, none⟩) X (by simp only; omega) (.int .i64 v)
    go_upto_region 7 with fail
    obtain ⟨w5, hw5⟩ : ∃ u, w4.setCell ⟨b6, 0, none⟩ (.int .i64 v) = u := ⟨_, rfl⟩
    rw [hw5] at N6 N4 NX ⊢
    clear hw5 a0 a1 a2 a3 a4 a5 a6 a7 B4 B6 X
    obtain ⟨⟨a0, a1, a2, a3⟩, _⟩ := N6.box4
    go_wp2_with fail
    refine (G.out _).mono ?_
    rintro e w6 ⟨rfl, e6⟩
    clear a0 a1 a2 a3
    replace N6 := N6.later e6
    replace N4 := N4.later e6
    replace NX := xt NX e6
    clear e6 G
    obtain ⟨⟨a0, a1, a2, a3⟩, _⟩ := N6.box4
    obtain ⟨⟨m0, m1, m2, m3⟩, m4, m5, m6, m7⟩ := N4.box4
    by_cases h0 : v = 0
    · have ZZ : Hid (Value.tuple #[refV 0 0 false false, .bool false] = V) := Z.out h0
      have f0 : decide (v ≠ 0) = false := decide_eq_false (fun h => h h0)
      rw [f0]
      clear Z Y f0
      go_wp2
      exact bodyPost_ret (v := .tuple #[refV 0 0 false false, .bool false]) (by simp [results, Try.results11, go_sem, m0, m1, m2, m3]) rfl ⟨congrArg Ending.returned ZZ.out, Ext.set4 (o := 0) NX (by omega) _ _ _ _⟩
    · have ZZ : Hid (Value.tuple #[refV v c f g, .bool true] = V) := Y.out h0
      have f0 : decide (v ≠ 0) = true := decide_eq_true h0
      rw [f0]
      clear Z Y f0
      go_wp2
      exact bodyPost_ret (v := .tuple #[refV v c f g, .bool true]) (by simp [results, Try.results11, go_sem, m0, m1, m2, m3]) rfl ⟨congrArg Ending.returned ZZ.out, Ext.set4 (o := 0) NX (by omega) _ _ _ _⟩
  · have lim : limT 2 = 200 := by simp [limT]
    rw [lim] at ha hd
    simp only [true_and, if_true, show ((2 : Int) = 1) = False by decide, if_false] at hV
    have TN := fun w => turnS 2 a m d c 200 w lim hm (by omega) (by omega)
    have TI := tN_is 200 a m d c
    obtain ⟨v, hv⟩ : ∃ v, tN 200 a m d c = v := ⟨_, rfl⟩
    rw [hv] at TN hV TI
    have v0 : 0 ≤ v ∧ v ≤ 200 := by
      cases d <;> simp at TI hd <;> omega
    have Z : Hid (v = 0 → Value.tuple #[refV 0 0 false false, .bool false] = V) := fun h => by rw [← hV, if_pos h]
    have Y : Hid (v ≠ 0 → Value.tuple #[refV r v f g, .bool true] = V) := fun h => by rw [← hV, if_neg h]
    have G : Hid (∀ w, Calls Try.prog 27 #[refV r v f g] w fun e w' => e = .returned (.bool (decide (v ≠ 0))) ∧ Ext w w') := fun w => by
      have e : decide (v ≠ 0) = goodRB r v := by
        unfold goodRB
        rw [decide_eq_decide]
        omega
      rw [e]
      exact goodRS _ _ _ _ _
    clear hV hv TI hm ha hd lim hr hc
    obtain ⟨⟨b0, b1, b2, b3⟩, _⟩ := B2.box4
    obtain ⟨⟨a0, a1, a2, a3⟩, _⟩ := B3.box4
    go_wp2_with fail
    clear b0 b1 b2 b3 a0 a1 a2 a3
    refine (TN _).mono ?_
    rintro e w4 ⟨rfl, e4⟩
    replace B4 := B4.later e4
    replace B6 := B6.later e4
    replace X := xt X e4
    clear e4 B2 B3 TN
    obtain ⟨⟨a0, a1, a2, a3⟩, a4, a5, a6, a7⟩ := B6.box4
    have N6 := B6.put 1 (by simp) (.int .i64 v)
    have N4 := B4.far (p := ⟨b6, 1, none⟩) (by simp only; omega) (.int .i64 v)
    have NX := xset (p := ⟨b6, 1, none⟩) X (by simp only; omega) (.int .i64 v)
    go_upto_region 7 with fail
    obtain ⟨w5, hw5⟩ : ∃ u, w4.setCell ⟨b6, 1, none⟩ (.int .i64 v) = u := ⟨_, rfl⟩
    rw [hw5] at N6 N4 NX ⊢
    clear hw5 a0 a1 a2 a3 a4 a5 a6 a7 B4 B6 X
    obtain ⟨⟨a0, a1, a2, a3⟩, _⟩ := N6.box4
    go_wp2_with fail
    refine (G.out _).mono ?_
    rintro e w6 ⟨rfl, e6⟩
    clear a0 a1 a2 a3
    replace N6 := N6.later e6
    replace N4 := N4.later e6
    replace NX := xt NX e6
    clear e6 G
    obtain ⟨⟨a0, a1, a2, a3⟩, _⟩ := N6.box4
    obtain ⟨⟨m0, m1, m2, m3⟩, m4, m5, m6, m7⟩ := N4.box4
    by_cases h0 : v = 0
    · have ZZ : Hid (Value.tuple #[refV 0 0 false false, .bool false] = V) := Z.out h0
      have f0 : decide (v ≠ 0) = false := decide_eq_false (fun h => h h0)
      rw [f0]
      clear Z Y f0
      go_wp2
      exact bodyPost_ret (v := .tuple #[refV 0 0 false false, .bool false]) (by simp [results, Try.results11, go_sem, m0, m1, m2, m3]) rfl ⟨congrArg Ending.returned ZZ.out, Ext.set4 (o := 0) NX (by omega) _ _ _ _⟩
    · have ZZ : Hid (Value.tuple #[refV r v f g, .bool true] = V) := Y.out h0
      have f0 : decide (v ≠ 0) = true := decide_eq_true h0
      rw [f0]
      clear Z Y f0
      go_wp2
      exact bodyPost_ret (v := .tuple #[refV r v f g, .bool true]) (by simp [results, Try.results11, go_sem, m0, m1, m2, m3]) rfl ⟨congrArg Ending.returned ZZ.out, Ext.set4 (o := 0) NX (by omega) _ _ _ _⟩

end Go.Proofs.Ytdbiefpgoiofcaa
