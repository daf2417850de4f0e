/-
  The program's DecAdd, DecSub.
-/
import Derived.Test.YtpoihneecafijaaDoorAsI
namespace Go.Proofs.YtpoihneecafijaaDoor
open Go.RowKit

theorem sumE_left {na nb : Bool} {ea db eb : Int} (gb : goodB nb db eb = true) : sumE na 0 ea nb db eb = ⟨true, nb, db, eb⟩ := by
  obtain ⟨g0, g1, g2, g3, g4, g5⟩ := good_all gb
  unfold sumE
  rw [if_pos rfl]
  have : (if db = 0 then eb else eb) = eb := by split <;> rfl
  rw [this]
  exact sum_zero g0 g1 g4 (fun h => ⟨g5 h, g2, g3⟩)
theorem sumE_right {na nb : Bool} {da ea eb : Int} (ga : goodB na da ea = true) (hd : da ≠ 0) : sumE na da ea nb 0 eb = ⟨true, na, da, ea⟩ := by
  obtain ⟨g0, g1, g2, g3, g4, g5⟩ := good_all ga
  unfold sumE
  rw [if_neg hd, if_pos rfl, sum_comm]
  exact sum_zero g0 g1 g4 (fun h => ⟨g5 h, g2, g3⟩)
theorem sumE_both {na nb : Bool} {da ea db eb : Int} (ha : da ≠ 0) (hb : db ≠ 0) : sumE na da ea nb db eb = sumZ na da ea nb db eb := by
  unfold sumE
  rw [if_neg ha, if_neg hb]

set_option maxRecDepth 4000 in
set_option maxHeartbeats 2000000 in
theorem addI (na nb : Bool) (da ea db eb : Int) (w : World) (a1 : -9223372036854775808 ≤ da) (a2 : da ≤ 9223372036854775807) (b1 : -9223372036854775808 ≤ db) (b2 : db ≤ 9223372036854775807) (hT : Tens w) :
    Calls Tryd.prog 23 #[.agg #[.bool na, .int .i64 da, .int .i64 ea], .agg #[.bool nb, .int .i64 db, .int .i64 eb]] w fun r w' => r = .returned (resV (addR na da ea nb db eb)) ∧ Ext w w' := by
  obtain ⟨R, hR⟩ : ∃ R, addR na da ea nb db eb = R := ⟨_, rfl⟩
  rw [hR]
  have X0 := xa (xa (x1 w (.cells #[.bool na, .int .i64 da, .int .i64 ea] 25)) (.cells #[.bool nb, .int .i64 db, .int .i64 eb] 25)) (.cells #[.bool false, .bool false, .int .i64 0, .int .i64 0] 29)
  have Ba := (Box3.made w (.bool na) (.int .i64 da) (.int .i64 ea) 25).later (xa (x1 _ (.cells #[.bool nb, .int .i64 db, .int .i64 eb] 25)) (.cells #[.bool false, .bool false, .int .i64 0, .int .i64 0] 29))
  have Bb := (Box3.made (w.alloc (.cells #[.bool na, .int .i64 da, .int .i64 ea] 25)) (.bool nb) (.int .i64 db) (.int .i64 eb) 25).later (x1 _ (.cells #[.bool false, .bool false, .int .i64 0, .int .i64 0] 29))
  have Br := Box4.made ((w.alloc (.cells #[.bool na, .int .i64 da, .int .i64 ea] 25)).alloc (.cells #[.bool nb, .int .i64 db, .int .i64 eb] 25)) (.bool false) (.bool false) (.int .i64 0) (.int .i64 0) 29
  simp only [World.size_alloc] at Bb Br
  have T := hT.later X0
  clear hT
  go_enter Tryd.func23, Tryd.ntmps23
  go_wp2_with fail
  cases ga : goodB na da ea
  · have HR : Hid (R = ⟨false, false, 0, 0⟩) := by rw [← hR]; unfold addR; rw [ga]; rfl
    refine (goodI_is false na da ea _ a1 a2 T ga).mono ?_
    rintro r w1 ⟨rfl, x1'⟩
    obtain ⟨⟨m0, m1, m2, m3⟩, n0, n1, n2, n3⟩ := Br.later x1'
    clear ga hR
    go_wp2_with fail
    exact bodyPost_ret (v := .agg #[.bool false, .bool false, .int .i64 0, .int .i64 0]) (by simp [results, Tryd.results23, go_sem, m0, m1, m2, m3]) rfl ⟨by rw [HR.out], xset (xset (xset (xset (xt X0 x1') (by simp only; omega) _) (by simp only; omega) _) (by simp only; omega) _) (by simp only; omega) _⟩
  · refine (goodI_is true na da ea _ a1 a2 T ga).mono ?_
    rintro r w1 ⟨rfl, x1'⟩
    have Bb1 := Bb.later x1'
    have Bb1' := Bb1
    obtain ⟨⟨q0, q1, q2⟩, _⟩ := Bb1'
    go_wp2_with fail
    cases gb : goodB nb db eb
    · have HR : Hid (R = ⟨false, false, 0, 0⟩) := by rw [← hR]; unfold addR; rw [ga, gb]; rfl
      refine (goodI_is false nb db eb _ b1 b2 (T.later x1') gb).mono ?_
      rintro r w2 ⟨rfl, x2'⟩
      obtain ⟨⟨m0, m1, m2, m3⟩, n0, n1, n2, n3⟩ := (Br.later x1').later x2'
      clear ga gb hR q0 q1 q2
      go_wp2_with fail
      exact bodyPost_ret (v := .agg #[.bool false, .bool false, .int .i64 0, .int .i64 0]) (by simp [results, Tryd.results23, go_sem, m0, m1, m2, m3]) rfl ⟨by rw [HR.out], xset (xset (xset (xset (xt (xt X0 x1') x2') (by simp only; omega) _) (by simp only; omega) _) (by simp only; omega) _) (by simp only; omega) _⟩
    · refine (goodI_is true nb db eb _ b1 b2 (T.later x1') gb).mono ?_
      rintro r w2 ⟨rfl, x2'⟩
      have HR : sumE na da ea nb db eb = R := by rw [← hR]; unfold addR; rw [ga, gb]; rfl
      obtain ⟨ga0, ga1, ga2, ga3, ga4, ga5⟩ := good_all ga
      obtain ⟨gb0, gb1, gb2, gb3, gb4, gb5⟩ := good_all gb
      have X2 := xt (xt X0 x1') x2'
      have Ba2 := (Ba.later x1').later x2'
      have Bb2 := Bb1.later x2'
      have Br2 := (Br.later x1').later x2'
      have T2 := (T.later x1').later x2'
      obtain ⟨⟨p0, p1, p2⟩, _⟩ := Ba2
      obtain ⟨⟨p3, p4, p5⟩, _⟩ := Bb2
      clear q0 q1 q2 Ba Bb Bb1 Br T X0 x1' x2' a1 a2 b1 b2 hR
      by_cases ha : da = 0
      · obtain ⟨rfl, rfl⟩ := ga4 ha
        subst ha
        rw [sumE_left gb] at HR
        subst HR
        obtain ⟨⟨m0, m1, m2, m3⟩, n0, n1, n2, n3⟩ := Br2
        clear ga gb ga0 ga1 ga2 ga3 ga4 ga5 gb0 gb1 gb2 gb3 gb4 gb5
        go_wp2_with fail
        exact bodyPost_ret (v := .agg #[.bool true, .bool nb, .int .i64 db, .int .i64 eb]) (by simp [results, Tryd.results23, go_sem, m0, m1, m2, m3]) rfl ⟨rfl, xset (xset (xset (xset X2 (by simp only; omega) _) (by simp only; omega) _) (by simp only; omega) _) (by simp only; omega) _⟩
      · by_cases hb : db = 0
        · obtain ⟨rfl, rfl⟩ := gb4 hb
          subst hb
          rw [sumE_right ga ha] at HR
          subst HR
          obtain ⟨⟨m0, m1, m2, m3⟩, n0, n1, n2, n3⟩ := Br2
          have ha' : (da == 0) = false := by rw [beq_eq_false_iff_ne]; exact ha
          clear ga gb ga0 ga1 ga2 ga3 ga4 ga5 gb0 gb1 gb2 gb3 gb4 gb5
          cases na
          all_goals
            go_wp2_with fail
            exact bodyPost_ret (v := .agg #[.bool true, .bool _, .int .i64 da, .int .i64 ea]) (by simp [results, Tryd.results23, go_sem, m0, m1, m2, m3]) rfl ⟨rfl, xset (xset (xset (xset X2 (by simp only; omega) _) (by simp only; omega) _) (by simp only; omega) _) (by simp only; omega) _⟩
        · rw [sumE_both ha hb] at HR
          obtain ⟨A, rfl⟩ := Int.eq_ofNat_of_zero_le ga0
          obtain ⟨B, rfl⟩ := Int.eq_ofNat_of_zero_le gb0
          have hA2 := ga5 ha
          have hB2 := gb5 hb
          have PS : Hid (∀ w3, Tens w3 → Calls Tryd.prog 52 #[.agg #[.bool na, .int .i64 A, .int .i64 ea], .agg #[.bool nb, .int .i64 B, .int .i64 eb]] w3 fun r w' => r = .returned (resV R) ∧ Ext w3 w') := fun w3 hT => by
            rw [← HR]; exact putSum_any na nb A B ea eb w3 (by omega) (by omega) (by omega) (by omega) (by omega) (by omega) ga2 ga3 gb2 gb3 hT
          have ha' : ((A : Int) == 0) = false := by rw [beq_eq_false_iff_ne]; exact ha
          have hb' : ((B : Int) == 0) = false := by rw [beq_eq_false_iff_ne]; exact hb
          clear ga gb ga0 ga1 ga2 ga3 ga4 ga5 gb0 gb1 gb2 gb3 gb4 gb5 HR hA2 hB2 ha hb
          cases na <;> cases nb
          all_goals
            go_wp2_with fail
            refine (PS.out _ T2).mono ?_
            rintro r w3 ⟨rfl, x3'⟩
            obtain ⟨⟨m0, m1, m2, m3⟩, n0, n1, n2, n3⟩ := Br2.later x3'
            go_wp2_with fail
            exact bodyPost_ret (v := resV R) (by simp [results, Tryd.results23, go_sem, m0, m1, m2, m3]) rfl ⟨rfl, xset (xset (xset (xset (xt X2 x3') (by simp only; omega) _) (by simp only; omega) _) (by simp only; omega) _) (by simp only; omega) _⟩

/-- What DecSub answers. -/
def subR (na : Bool) (da ea : Int) (nb : Bool) (db eb : Int) : DR := addR na da ea (if db = 0 then nb else !nb) db eb

set_option maxRecDepth 4000 in
set_option maxHeartbeats 2000000 in
theorem subI (na nb : Bool) (da ea db eb : Int) (w : World) (a1 : -9223372036854775808 ≤ da) (a2 : da ≤ 9223372036854775807) (b1 : -9223372036854775808 ≤ db) (b2 : db ≤ 9223372036854775807) (hT : Tens w) :
    Calls Tryd.prog 25 #[.agg #[.bool na, .int .i64 da, .int .i64 ea], .agg #[.bool nb, .int .i64 db, .int .i64 eb]] w fun r w' => r = .returned (resV (subR na da ea nb db eb)) ∧ Ext w w' := by
  obtain ⟨R, hR⟩ : ∃ R, subR na da ea nb db eb = R := ⟨_, rfl⟩
  rw [hR]
  have X0 := xa (xa (x1 w (.cells #[.bool na, .int .i64 da, .int .i64 ea] 25)) (.cells #[.bool nb, .int .i64 db, .int .i64 eb] 25)) (.cells #[.bool false, .bool false, .int .i64 0, .int .i64 0] 29)
  have Ba := (Box3.made w (.bool na) (.int .i64 da) (.int .i64 ea) 25).later (xa (x1 _ (.cells #[.bool nb, .int .i64 db, .int .i64 eb] 25)) (.cells #[.bool false, .bool false, .int .i64 0, .int .i64 0] 29))
  have Bb := (Box3.made (w.alloc (.cells #[.bool na, .int .i64 da, .int .i64 ea] 25)) (.bool nb) (.int .i64 db) (.int .i64 eb) 25).later (x1 _ (.cells #[.bool false, .bool false, .int .i64 0, .int .i64 0] 29))
  have Br := Box4.made ((w.alloc (.cells #[.bool na, .int .i64 da, .int .i64 ea] 25)).alloc (.cells #[.bool nb, .int .i64 db, .int .i64 eb] 25)) (.bool false) (.bool false) (.int .i64 0) (.int .i64 0) 29
  simp only [World.size_alloc] at Bb Br
  have T := hT.later X0
  by_cases hb : db = 0
  · have HR : addR na da ea nb db eb = R := by rw [← hR]; unfold subR; rw [if_pos hb]
    have AD : Hid (∀ w2, Tens w2 → Calls Tryd.prog 23 #[.agg #[.bool na, .int .i64 da, .int .i64 ea], .agg #[.bool nb, .int .i64 db, .int .i64 eb]] w2 fun r w' => r = .returned (resV R) ∧ Ext w2 w') := fun w2 hT => by rw [← HR]; exact addI na nb da ea db eb w2 a1 a2 b1 b2 hT
    subst hb
    clear hT HR hR a1 a2 b1 b2
    go_enter Tryd.func25, Tryd.ntmps25
    go_wp2_with fail
    refine (AD.out _ T).mono ?_
    rintro r w1 ⟨rfl, x1'⟩
    obtain ⟨⟨m0, m1, m2, m3⟩, n0, n1, n2, n3⟩ := Br.later x1'
    go_wp2_with fail
    exact bodyPost_ret (v := resV R) (by simp [results, Tryd.results25, go_sem, m0, m1, m2, m3]) rfl ⟨rfl, xset (xset (xset (xset (xt X0 x1') (by simp only; omega) _) (by simp only; omega) _) (by simp only; omega) _) (by simp only; omega) _⟩
  · have HR : addR na da ea (!nb) db eb = R := by rw [← hR]; unfold subR; rw [if_neg hb]
    have AD : Hid (∀ w2, Tens w2 → Calls Tryd.prog 23 #[.agg #[.bool na, .int .i64 da, .int .i64 ea], .agg #[.bool (!nb), .int .i64 db, .int .i64 eb]] w2 fun r w' => r = .returned (resV R) ∧ Ext w2 w') := fun w2 hT => by rw [← HR]; exact addI na (!nb) da ea db eb w2 a1 a2 b1 b2 hT
    have hb' : (db != 0) = true := by rw [bne_iff_ne]; exact hb
    have BN : Box3 ((((w.alloc (.cells #[.bool na, .int .i64 da, .int .i64 ea] 25)).alloc (.cells #[.bool nb, .int .i64 db, .int .i64 eb] 25)).alloc (.cells #[.bool false, .bool false, .int .i64 0, .int .i64 0] 29)).setCell ⟨w.heap.size + 1, 0, none⟩ (.bool (!nb))) (w.heap.size + 1) (.bool (!nb)) (.int .i64 db) (.int .i64 eb) := by
      obtain ⟨⟨h0, h1, h2⟩, k0, k1, k2⟩ := Bb
      refine ⟨⟨World.cell?_setCell_same _ _ _ h0, ?_, ?_⟩, ?_, ?_, ?_⟩
      · rw [World.cell?_setCell_other _ _ _ _ (addr_ne (by decide))]; exact h1
      · rw [World.cell?_setCell_other _ _ _ _ (addr_ne (by decide))]; exact h2
      · rw [World.frozen?_setCell]; exact k0
      · rw [World.frozen?_setCell]; exact k1
      · rw [World.frozen?_setCell]; exact k2
    have BaN := Ba.far (p := ⟨w.heap.size + 1, 0, none⟩) (by simp only; omega) (.bool (!nb))
    have BrN := Br.far (p := ⟨w.heap.size + 1, 0, none⟩) (by simp only; omega) (.bool (!nb))
    have XN := xset X0 (p := ⟨w.heap.size + 1, 0, none⟩) (by simp only; omega) (.bool (!nb))
    have TN := hT.later XN
    obtain ⟨w0, hw0⟩ : ∃ u, (((w.alloc (.cells #[.bool na, .int .i64 da, .int .i64 ea] 25)).alloc (.cells #[.bool nb, .int .i64 db, .int .i64 eb] 25)).alloc (.cells #[.bool false, .bool false, .int .i64 0, .int .i64 0] 29)) = u := ⟨_, rfl⟩
    rw [hw0] at BN BaN BrN XN TN Bb Ba
    obtain ⟨⟨g0, g1, g2⟩, j0, j1, j2⟩ := Bb
    obtain ⟨u0, hu0⟩ : ∃ u, w0.setCell ⟨w.heap.size + 1, 0, none⟩ (.bool (!nb)) = u := ⟨_, rfl⟩
    rw [hu0] at BN BaN BrN XN TN
    obtain ⟨⟨p0, p1, p2⟩, _⟩ := BaN
    obtain ⟨⟨p3, p4, p5⟩, _⟩ := BN
    clear hT HR hR a1 a2 b1 b2 T X0 Ba Br
    go_enter Tryd.func25, Tryd.ntmps25
    go_wp2_with fail
    refine (AD.out _ TN).mono ?_
    rintro r w1 ⟨rfl, x1'⟩
    obtain ⟨⟨m0, m1, m2, m3⟩, n0, n1, n2, n3⟩ := BrN.later x1'
    clear hw0 hu0 g0 g1 g2 j0 j1 j2 p0 p1 p2 p3 p4 p5
    go_wp2_with fail
    exact bodyPost_ret (v := resV R) (by simp [results, Tryd.results25, go_sem, m0, m1, m2, m3]) rfl ⟨rfl, xset (xset (xset (xset (xt XN x1') (by simp only; omega) _) (by simp only; omega) _) (by simp only; omega) _) (by simp only; omega) _⟩

end Go.Proofs.YtpoihneecafijaaDoor
