/-
  Without, the specification's.
-/
import Derived.Test.YthdjlhhedkfibaaDoorWo
import Derived.Test.YthdjlhhedkfibaaDoorMeeS
namespace Go.Proofs.YthdjlhhedkfibaaDoor
open Go.RowKit

theorem meetB_normal {r c r' c' s d s' d' A B C D u1 u2 u3 u4 : Int} (hA : goodAB r c r' c' = true) (hB : goodAB s d s' d' = true) (eA : lo r r' = A) (eB : hi r r' = B) (eC : lo c c' = C) (eD : hi c c' = D)
    (h1 : hi A (lo s s') = u1) (h2 : lo B (hi s s') = u2) (h3 : hi C (lo d d') = u3) (h4 : lo D (hi d d') = u4) :
    meetB A C B D s d s' d' = if (decide (u1 > u2) || decide (u3 > u4)) = false then .tuple #[arV u1 u3 false false u2 u4 false false, .bool true] else .tuple #[arV 0 0 false false 0 0 false false, .bool false] := by
  have N1 := goodAB_bounds hA
  have L1 := lo_cases r r'
  have L2 := hi_cases r r'
  have L3 := lo_cases c c'
  have L4 := hi_cases c c'
  have g : goodAB A C B D = true := by
    simp only [goodAB, goodRB, Bool.and_eq_true, decide_eq_true_eq]
    omega
  have e1 : lo A B = A := by have := lo_cases A B; omega
  have e2 : hi A B = B := by have := hi_cases A B; omega
  have e3 : lo C D = C := by have := lo_cases C D; omega
  have e4 : hi C D = D := by have := hi_cases C D; omega
  unfold meetB
  rw [e1, e2, e3, e4, h1, h2, h3, h4]
  simp only [g, hB, and_self, true_and]
theorem told1 (A B C D u1 u2 u3 u4 : Int) (hC : C ≤ D) : told (pieceQ A B C D u1 u2 u3 u4) 1 = if A < u1 then [(A, C, u1 - 1, D)] else [] := by
  have e : qEmpty (A, u1 - 1, C, D) = !decide (A < u1) := by
    unfold qEmpty
    by_cases h : A < u1 <;> simp [h] <;> omega
  show [] ++ (if qEmpty (A, u1 - 1, C, D) then [] else [qArea (A, u1 - 1, C, D)]) = _
  rw [e]
  by_cases h : A < u1 <;> simp [h, qArea]
theorem told2 (A B C D u1 u2 u3 u4 : Int) (hC : C ≤ D) : told (pieceQ A B C D u1 u2 u3 u4) 2 = told (pieceQ A B C D u1 u2 u3 u4) 1 ++ if B > u2 then [(u2 + 1, C, B, D)] else [] := by
  have e : qEmpty (u2 + 1, B, C, D) = !decide (B > u2) := by
    unfold qEmpty
    by_cases h : B > u2 <;> simp [h] <;> omega
  show _ ++ (if qEmpty (u2 + 1, B, C, D) then [] else [qArea (u2 + 1, B, C, D)]) = _
  rw [e]
  by_cases h : B > u2 <;> simp [h, qArea]
theorem told3 (A B C D u1 u2 u3 u4 : Int) (hu : u1 ≤ u2) : told (pieceQ A B C D u1 u2 u3 u4) 3 = told (pieceQ A B C D u1 u2 u3 u4) 2 ++ if C < u3 then [(u1, C, u2, u3 - 1)] else [] := by
  have e : qEmpty (u1, u2, C, u3 - 1) = !decide (C < u3) := by
    unfold qEmpty
    by_cases h : C < u3 <;> simp [h] <;> omega
  show _ ++ (if qEmpty (u1, u2, C, u3 - 1) then [] else [qArea (u1, u2, C, u3 - 1)]) = _
  rw [e]
  by_cases h : C < u3 <;> simp [h, qArea]
theorem told4 (A B C D u1 u2 u3 u4 : Int) (hu : u1 ≤ u2) : told (pieceQ A B C D u1 u2 u3 u4) 4 = told (pieceQ A B C D u1 u2 u3 u4) 3 ++ if D > u4 then [(u1, u4 + 1, u2, D)] else [] := by
  have e : qEmpty (u1, u2, u4 + 1, D) = !decide (D > u4) := by
    unfold qEmpty
    by_cases h : D > u4 <;> simp [h] <;> omega
  show _ ++ (if qEmpty (u1, u2, u4 + 1, D) then [] else [qArea (u1, u2, u4 + 1, D)]) = _
  rw [e]
  by_cases h : D > u4 <;> simp [h, qArea]

set_option maxRecDepth 8000 in
set_option maxHeartbeats 4000000 in
theorem withoutS (r c : Int) (f g : Bool) (r' c' : Int) (f' g' : Bool) (s d : Int) (h k : Bool) (s' d' : Int) (h' k' : Bool) (w : World) :
    Calls Tryd.prog 9 #[arV r c f g r' c' f' g', arV s d h k s' d' h' k'] w fun e w' => ∃ v, e = .returned v ∧ OwnA w' w.heap.size v (woB r c r' c' s d s' d') ∧ Ext w w' := by
  have B1 := Vec.made8 w (.int .i64 r) (.int .i64 c) (.bool f) (.bool g) (.int .i64 r') (.int .i64 c') (.bool f') (.bool g') 26
  have X1 := x1 w (.cells #[.int .i64 r, .int .i64 c, .bool f, .bool g, .int .i64 r', .int .i64 c', .bool f', .bool g'] 26)
  obtain ⟨wa, ha⟩ : ∃ wa, w.alloc (.cells #[.int .i64 r, .int .i64 c, .bool f, .bool g, .int .i64 r', .int .i64 c', .bool f', .bool g'] 26) = wa := ⟨_, rfl⟩
  have B2 := Vec.made8 wa (.int .i64 s) (.int .i64 d) (.bool h) (.bool k) (.int .i64 s') (.int .i64 d') (.bool h') (.bool k') 26
  have X2 := x1 wa (.cells #[.int .i64 s, .int .i64 d, .bool h, .bool k, .int .i64 s', .int .i64 d', .bool h', .bool k'] 26)
  obtain ⟨wb, hb⟩ : ∃ wb, wa.alloc (.cells #[.int .i64 s, .int .i64 d, .bool h, .bool k, .int .i64 s', .int .i64 d', .bool h', .bool k'] 26) = wb := ⟨_, rfl⟩
  have sa : wa.heap.size = w.heap.size + 1 := by rw [← ha, World.size_alloc]
  rw [ha] at X1 B1
  rw [hb] at X2 B2
  rw [sa] at B2
  have X := xt X1 X2
  have B1 := B1.later X2
  clear X1 X2
  obtain ⟨⟨⟨a0, a1, a2, a3⟩, a4, a5, a6, a7⟩, _⟩ := B1.box8
  have G1 := fun w => goodAS r c f g r' c' f' g' w
  have G2 := fun w => goodAS s d h k s' d' h' k' w
  go_enter Tryd.func9, Tryd.ntmps9
  go_wp2_with fail
  clear a0 a1 a2 a3 a4 a5 a6 a7 ha hb sa
  refine (G1 _).mono ?_
  rintro e w1 ⟨rfl, e1⟩
  have B1 := B1.later e1
  have B2 := B2.later e1
  have X := xt X e1
  clear G1 e1
  obtain ⟨⟨⟨a0, a1, a2, a3⟩, a4, a5, a6, a7⟩, _⟩ := B1.box8
  obtain ⟨⟨⟨b0, b1, b2, b3⟩, b4, b5, b6, b7⟩, _⟩ := B2.box8
  by_cases hA : goodAB r c r' c' = true
  · rw [hA]
    go_wp2_with fail
    refine (G2 _).mono ?_
    rintro e w2 ⟨rfl, e2⟩
    have B1 := B1.later e2
    have B2 := B2.later e2
    have X := xt X e2
    clear G2 e2 a0 a1 a2 a3 a4 a5 a6 a7 b0 b1 b2 b3 b4 b5 b6 b7
    by_cases hB : goodAB s d s' d' = true
    · rw [hB]
      have N1 := goodAB_bounds hA
      have N2 := goodAB_bounds hB
      obtain ⟨A, hAe⟩ : ∃ m, lo r r' = m := ⟨_, rfl⟩
      obtain ⟨B, hBe⟩ : ∃ m, hi r r' = m := ⟨_, rfl⟩
      obtain ⟨C, hCe⟩ : ∃ m, lo c c' = m := ⟨_, rfl⟩
      obtain ⟨D, hDe⟩ : ∃ m, hi c c' = m := ⟨_, rfl⟩
      obtain ⟨u1, h1⟩ : ∃ m, hi A (lo s s') = m := ⟨_, rfl⟩
      obtain ⟨u2, h2⟩ : ∃ m, lo B (hi s s') = m := ⟨_, rfl⟩
      obtain ⟨u3, h3⟩ : ∃ m, hi C (lo d d') = m := ⟨_, rfl⟩
      obtain ⟨u4, h4⟩ : ∃ m, lo D (hi d d') = m := ⟨_, rfl⟩
      have HM := meetB_normal hA hB hAe hBe hCe hDe h1 h2 h3 h4
      have HW : Hid (woB r c r' c' s d s' d' = if (decide (u1 > u2) || decide (u3 > u4)) = true then [(A, C, B, D)] else told (pieceQ A B C D u1 u2 u3 u4) 4) := by
        show _ = _
        unfold woB
        rw [hAe, hBe, hCe, hDe, if_pos ⟨hA, hB⟩, h1, h2, h3, h4]
      have L1 := lo_cases r r'
      have L2 := hi_cases r r'
      have L3 := lo_cases c c'
      have L4 := hi_cases c c'
      have M1 := lo_cases s s'
      have M2 := hi_cases s s'
      have M3 := lo_cases d d'
      have M4 := hi_cases d d'
      have O1 := hi_cases A (lo s s')
      have O2 := lo_cases B (hi s s')
      have O3 := hi_cases C (lo d d')
      have O4 := lo_cases D (hi d d')
      rw [h1] at O1
      rw [h2] at O2
      rw [h3] at O3
      rw [h4] at O4
      have N := fun w => l3Normal r c f g r' c' f' g' w
      simp only [norV, hAe, hBe, hCe, hDe] at N
      rw [hAe] at L1
      rw [hBe] at L2
      rw [hCe] at L3
      rw [hDe] at L4
      have hu1 : 1 ≤ u1 ∧ u1 ≤ 1000 := by omega
      have hu2 : 1 ≤ u2 ∧ u2 ≤ 1000 := by omega
      have hu3 : 1 ≤ u3 ∧ u3 ≤ 200 := by omega
      have hu4 : 1 ≤ u4 ∧ u4 ≤ 200 := by omega
      have hCD : C ≤ D := by omega
      clear hAe hBe hCe hDe h1 h2 h3 h4 L1 L2 L3 L4 M1 M2 M3 M4 O1 O2 O3 O4 N1 N2 hA hB
      obtain ⟨n1, hn1⟩ : ∃ n, loF r r' f f' = n := ⟨_, rfl⟩
      obtain ⟨n2, hn2⟩ : ∃ n, loF c c' g g' = n := ⟨_, rfl⟩
      obtain ⟨n3, hn3⟩ : ∃ n, hiF r r' f f' = n := ⟨_, rfl⟩
      obtain ⟨n4, hn4⟩ : ∃ n, hiF c c' g g' = n := ⟨_, rfl⟩
      rw [hn1, hn2, hn3, hn4] at N
      clear hn1 hn2 hn3 hn4
      obtain ⟨⟨⟨a0, a1, a2, a3⟩, a4, a5, a6, a7⟩, _⟩ := B1.box8
      go_wp2_with fail
      refine (N _).mono ?_
      rintro e w3 ⟨rfl, e3⟩
      have B1 := B1.later e3
      have B2 := B2.later e3
      have X := xt X e3
      clear e3 N a0 a1 a2 a3 a4 a5 a6 a7
      obtain ⟨w4, hw4⟩ : ∃ wy, set8 w3 (w.heap.size) (.int .i64 A) (.int .i64 C) (.bool n1) (.bool n2) (.int .i64 B) (.int .i64 D) (.bool n3) (.bool n4) = wy := ⟨_, rfl⟩
      obtain ⟨⟨⟨k0, k1, k2, k3⟩, k4, k5, k6, k7⟩, ⟨f0, f1, f2, f3⟩, f4, f5, f6, f7⟩ := B1.box8
      have B1 := B1.put8 (.int .i64 A) (.int .i64 C) (.bool n1) (.bool n2) (.int .i64 B) (.int .i64 D) (.bool n3) (.bool n4)
      have B2 := B2.far8 (k := w.heap.size) (by omega) (.int .i64 A) (.int .i64 C) (.bool n1) (.bool n2) (.int .i64 B) (.int .i64 D) (.bool n3) (.bool n4)
      have X := Ext.set8 (b := w.heap.size) X (by omega) (.int .i64 A) (.int .i64 C) (.bool n1) (.bool n2) (.int .i64 B) (.int .i64 D) (.bool n3) (.bool n4)
      rw [hw4] at B1 B2 X
      unfold set8 set4 at hw4
      obtain ⟨⟨⟨a0, a1, a2, a3⟩, a4, a5, a6, a7⟩, _⟩ := B1.box8
      obtain ⟨⟨⟨b0, b1, b2, b3⟩, b4, b5, b6, b7⟩, _⟩ := B2.box8
      have MS := fun w => meetS A C n1 n2 B D n3 n4 s d h k s' d' h' k' w
      rw [HM] at MS
      clear HM
      go_wp2_with fail
      refine (MS _).mono ?_
      rintro e w5 ⟨rfl, e5⟩
      have B1 := B1.later e5
      have X := xt X e5
      clear e5 MS a0 a1 a2 a3 a4 a5 a6 a7 b0 b1 b2 b3 b4 b5 b6 b7 k0 k1 k2 k3 k4 k5 k6 k7 f0 f1 f2 f3 f4 f5 f6 f7 hw4 B2
      obtain ⟨q, hq⟩ : ∃ q, (decide (u1 > u2) || decide (u3 > u4)) = q := ⟨_, rfl⟩
      rw [hq] at HW ⊢
      cases q
      · have hu : u1 ≤ u2 := by
          have := (Bool.or_eq_false_iff.1 hq).1
          simpa using this
        rw [if_pos rfl]
        have HW' : Hid (woB r c r' c' s d s' d' = told (pieceQ A B C D u1 u2 u3 u4) 4) := by show _ = _; rw [HW.out]; rfl
        clear HW hq
        have S1 := told1 A B C D u1 u2 u3 u4 hCD
        have S2 := told2 A B C D u1 u2 u3 u4 hCD
        have S3 := told3 A B C D u1 u2 u3 u4 hu
        have S4 := told4 A B C D u1 u2 u3 u4 hu
        have l1 := told_length (pieceQ A B C D u1 u2 u3 u4) 1
        have l2 := told_length (pieceQ A B C D u1 u2 u3 u4) 2
        have l3 := told_length (pieceQ A B C D u1 u2 u3 u4) 3
        obtain ⟨t1, ht1⟩ : ∃ t, told (pieceQ A B C D u1 u2 u3 u4) 1 = t := ⟨_, rfl⟩
        obtain ⟨t2, ht2⟩ : ∃ t, told (pieceQ A B C D u1 u2 u3 u4) 2 = t := ⟨_, rfl⟩
        obtain ⟨t3, ht3⟩ : ∃ t, told (pieceQ A B C D u1 u2 u3 u4) 3 = t := ⟨_, rfl⟩
        obtain ⟨t4, ht4⟩ : ∃ t, told (pieceQ A B C D u1 u2 u3 u4) 4 = t := ⟨_, rfl⟩
        rw [ht1] at S1 S2 l1
        rw [ht2] at S2 S3 l2
        rw [ht3] at S3 S4 l3
        rw [ht4] at S4 HW'
        have T1 : Hid (t1 = [] ++ if A < u1 then [(A, C, u1 - 1, D)] else []) := by show _ = _; rw [S1]; rfl
        have T2 : Hid (t2 = t1 ++ if B > u2 then [(u2 + 1, C, B, D)] else []) := S2
        have T3 : Hid (t3 = t2 ++ if C < u3 then [(u1, C, u2, u3 - 1)] else []) := S3
        have T4 : Hid (t4 = t3 ++ if D > u4 then [(u1, u4 + 1, u2, D)] else []) := S4
        clear ht1 ht2 ht3 ht4 S1 S2 S3 S4
        have fa : IntKind.i64.wrap (u1 - 1) = u1 - 1 := fitA (by omega) (by omega)
        have fb : IntKind.i64.wrap (u2 + 1) = u2 + 1 := fitA (by omega) (by omega)
        have fc : IntKind.i64.wrap (u3 - 1) = u3 - 1 := fitA (by omega) (by omega)
        have fd : IntKind.i64.wrap (u4 + 1) = u4 + 1 := fitA (by omega) (by omega)
        clear hu hCD
        obtain ⟨inf, hi, hz, hz1, hz2⟩ := infoA'
        go_upto_region 7 with fail
        obtain ⟨w6, hw6⟩ : ∃ w6, w5.alloc (.cells #[.int .i64 u1, .int .i64 u3, .bool false, .bool false, .int .i64 u2, .int .i64 u4, .bool false, .bool false] 26) = w6 := ⟨_, rfl⟩
        have M1 := Vec.made8 w5 (.int .i64 u1) (.int .i64 u3) (.bool false) (.bool false) (.int .i64 u2) (.int .i64 u4) (.bool false) (.bool false) 26
        have e6 := x1 w5 (.cells #[.int .i64 u1, .int .i64 u3, .bool false, .bool false, .int .i64 u2, .int .i64 u4, .bool false, .bool false] 26)
        rw [hw6] at M1 e6 ⊢
        have B1 := B1.later e6
        have X := xt X e6
        have O0 : Hid (OwnA w6 w6.heap.size (.slice none 0 0) []) := World.ownsRow_nil _ _ _ _
        have Y0 := xr w6
        clear e6 hw6
        obtain ⟨⟨⟨a0, a1, a2, a3⟩, a4, a5, a6, a7⟩, _⟩ := B1.box8
        obtain ⟨⟨⟨m0, m1, m2, m3⟩, m4, m5, m6, m7⟩, _⟩ := M1.box8
        go_upto_if 46 with fail
        go_cut [7] (fun v wc => Hid (OwnA wc w6.heap.size v t1) ∧ Ext w6 wc)
        case first =>
          by_cases hc : A < u1
          · have T1' : Hid (t1 = ([] : List Ar) ++ [(A, C, u1 - 1, D)]) := by show _ = _; rw [T1.out, if_pos hc]
            clear T1 T2 T3 T4 HW'
            go_wp2_with fail
            refine (areaS _ _ _ _ _).mono ?_
            rintro e wB ⟨rfl, eB⟩
            have Y4 := xt Y0 eB
            have own4 : Hid (OwnA wB w6.heap.size _ ([] : List Ar)) := own_later O0.out eB
            clear eB
            go_wp2_with (at_builtin; refine wpList_append_own _ rfl _ _ 31 rfl w6.heap.size 26 inf (arV 0 0 false false 0 0 false false) 8 48 Tryd.underlying31 hi hz hz1 hz2 rfl (by decide) _ _ _ rfl (own4.out.alloc _) ⟨wB.heap.size, 0, none⟩ 1 1 (cellsA (A, C, u1 - 1, D)) rfl rfl (World.news_of_block (heap_alloc_new _ _)) (by simp [cellsA, Value.oneCell']) (by simp only [maxLen, List.length_nil]; omega) (by simp only [List.length_nil]; omega) (by have := Y4.size; simp; omega) ?_)
            intro v7 wC ownC gC _
            have lt4 := own_block own4.out
            have Y5 : Ext w6 wC := (xa Y4 _).grown gC (xa Y4 _).size lt4
            clear own4 Y4 gC lt4
            go_wp2_with fail
            go_meet
            case rel =>
              refine ⟨?_, Y5⟩
              show OwnA _ _ _ _
              rw [T1'.out]
              show World.ownsRow _ _ _ _ _ _ _
              rw [flatA_append, List.length_append]
              exact ownC
          · have T1' : Hid (t1 = ([] : List Ar)) := by show _ = _; rw [T1.out, if_neg hc, List.append_nil]
            clear T1 T2 T3 T4 HW'
            go_wp2_with fail
            go_meet
            case rel => exact ⟨by show OwnA _ _ _ _; rw [T1'.out]; exact O0.out, Y0⟩
        case rest =>
          obtain ⟨O1, Y1⟩ := hcut
          clear T1 O0 Y0 a0 a1 a2 a3 a4 a5 a6 a7 m0 m1 m2 m3 m4 m5 m6 m7
          obtain ⟨⟨⟨a0, a1, a2, a3⟩, a4, a5, a6, a7⟩, _⟩ := (B1.later Y1).box8
          obtain ⟨⟨⟨m0, m1, m2, m3⟩, m4, m5, m6, m7⟩, _⟩ := (M1.later Y1).box8
          go_upto_if 70 with fail
          go_cut [7] (fun v wc => Hid (OwnA wc w6.heap.size v t2) ∧ Ext w6 wc)
          case first =>
            by_cases hc : B > u2
            · have T2' : Hid (t2 = t1 ++ [(u2 + 1, C, B, D)]) := by show _ = _; rw [T2.out, if_pos hc]
              clear T2 T3 T4 HW'
              go_wp2_with fail
              refine (areaS _ _ _ _ _).mono ?_
              rintro e wB ⟨rfl, eB⟩
              have Y4 := xt Y1 eB
              have own4 : Hid (OwnA wB w6.heap.size _ t1) := own_later O1.out eB
              clear eB
              go_wp2_with (at_builtin; refine wpList_append_own _ rfl _ _ 31 rfl w6.heap.size 26 inf (arV 0 0 false false 0 0 false false) 8 48 Tryd.underlying31 hi hz hz1 hz2 rfl (by decide) _ _ _ rfl (own4.out.alloc _) ⟨wB.heap.size, 0, none⟩ 1 1 (cellsA (u2 + 1, C, B, D)) rfl rfl (World.news_of_block (heap_alloc_new _ _)) (by simp [cellsA, Value.oneCell']) (by simp only [maxLen]; omega) (by omega) (by have := Y4.size; simp; omega) ?_)
              intro v7 wC ownC gC _
              have lt4 := own_block own4.out
              have Y5 : Ext w6 wC := (xa Y4 _).grown gC (xa Y4 _).size lt4
              clear own4 Y4 gC lt4
              go_wp2_with fail
              go_meet
              case rel =>
                refine ⟨?_, Y5⟩
                show OwnA _ _ _ _
                rw [T2'.out]
                show World.ownsRow _ _ _ _ _ _ _
                rw [flatA_append, List.length_append]
                exact ownC
            · have T2' : Hid (t2 = t1) := by show _ = _; rw [T2.out, if_neg hc, List.append_nil]
              clear T2 T3 T4 HW'
              go_wp2_with fail
              go_meet
              case rel => exact ⟨by show OwnA _ _ _ _; rw [T2'.out]; exact O1.out, Y1⟩
          case rest =>
            obtain ⟨O2, Y2⟩ := hcut
            clear T2 O1 Y1 a0 a1 a2 a3 a4 a5 a6 a7 m0 m1 m2 m3 m4 m5 m6 m7
            obtain ⟨⟨⟨a0, a1, a2, a3⟩, a4, a5, a6, a7⟩, _⟩ := (B1.later Y2).box8
            obtain ⟨⟨⟨m0, m1, m2, m3⟩, m4, m5, m6, m7⟩, _⟩ := (M1.later Y2).box8
            go_upto_if 94 with fail
            go_cut [7] (fun v wc => Hid (OwnA wc w6.heap.size v t3) ∧ Ext w6 wc)
            case first =>
              by_cases hc : C < u3
              · have T3' : Hid (t3 = t2 ++ [(u1, C, u2, u3 - 1)]) := by show _ = _; rw [T3.out, if_pos hc]
                clear T3 T4 HW'
                go_wp2_with fail
                refine (areaS _ _ _ _ _).mono ?_
                rintro e wB ⟨rfl, eB⟩
                have Y4 := xt Y2 eB
                have own4 : Hid (OwnA wB w6.heap.size _ t2) := own_later O2.out eB
                clear eB
                go_wp2_with (at_builtin; refine wpList_append_own _ rfl _ _ 31 rfl w6.heap.size 26 inf (arV 0 0 false false 0 0 false false) 8 48 Tryd.underlying31 hi hz hz1 hz2 rfl (by decide) _ _ _ rfl (own4.out.alloc _) ⟨wB.heap.size, 0, none⟩ 1 1 (cellsA (u1, C, u2, u3 - 1)) rfl rfl (World.news_of_block (heap_alloc_new _ _)) (by simp [cellsA, Value.oneCell']) (by simp only [maxLen]; omega) (by omega) (by have := Y4.size; simp; omega) ?_)
                intro v7 wC ownC gC _
                have lt4 := own_block own4.out
                have Y5 : Ext w6 wC := (xa Y4 _).grown gC (xa Y4 _).size lt4
                clear own4 Y4 gC lt4
                go_wp2_with fail
                go_meet
                case rel =>
                  refine ⟨?_, Y5⟩
                  show OwnA _ _ _ _
                  rw [T3'.out]
                  show World.ownsRow _ _ _ _ _ _ _
                  rw [flatA_append, List.length_append]
                  exact ownC
              · have T3' : Hid (t3 = t2) := by show _ = _; rw [T3.out, if_neg hc, List.append_nil]
                clear T3 T4 HW'
                go_wp2_with fail
                go_meet
                case rel => exact ⟨by show OwnA _ _ _ _; rw [T3'.out]; exact O2.out, Y2⟩
            case rest =>
              obtain ⟨O3, Y3⟩ := hcut
              clear T3 O2 Y2 a0 a1 a2 a3 a4 a5 a6 a7 m0 m1 m2 m3 m4 m5 m6 m7
              obtain ⟨⟨⟨a0, a1, a2, a3⟩, a4, a5, a6, a7⟩, _⟩ := (B1.later Y3).box8
              obtain ⟨⟨⟨m0, m1, m2, m3⟩, m4, m5, m6, m7⟩, _⟩ := (M1.later Y3).box8
              go_upto_if 118 with fail
              go_cut [7] (fun v wc => Hid (OwnA wc w6.heap.size v t4) ∧ Ext w6 wc)
              case first =>
                by_cases hc : D > u4
                · have T4' : Hid (t4 = t3 ++ [(u1, u4 + 1, u2, D)]) := by show _ = _; rw [T4.out, if_pos hc]
                  clear T4 HW'
                  go_wp2_with fail
                  refine (areaS _ _ _ _ _).mono ?_
                  rintro e wB ⟨rfl, eB⟩
                  have Y4 := xt Y3 eB
                  have own4 : Hid (OwnA wB w6.heap.size _ t3) := own_later O3.out eB
                  clear eB
                  go_wp2_with (at_builtin; refine wpList_append_own _ rfl _ _ 31 rfl w6.heap.size 26 inf (arV 0 0 false false 0 0 false false) 8 48 Tryd.underlying31 hi hz hz1 hz2 rfl (by decide) _ _ _ rfl (own4.out.alloc _) ⟨wB.heap.size, 0, none⟩ 1 1 (cellsA (u1, u4 + 1, u2, D)) rfl rfl (World.news_of_block (heap_alloc_new _ _)) (by simp [cellsA, Value.oneCell']) (by simp only [maxLen]; omega) (by omega) (by have := Y4.size; simp; omega) ?_)
                  intro v7 wC ownC gC _
                  have lt4 := own_block own4.out
                  have Y5 : Ext w6 wC := (xa Y4 _).grown gC (xa Y4 _).size lt4
                  clear own4 Y4 gC lt4
                  go_wp2_with fail
                  go_meet
                  case rel =>
                    refine ⟨?_, Y5⟩
                    show OwnA _ _ _ _
                    rw [T4'.out]
                    show World.ownsRow _ _ _ _ _ _ _
                    rw [flatA_append, List.length_append]
                    exact ownC
                · have T4' : Hid (t4 = t3) := by show _ = _; rw [T4.out, if_neg hc, List.append_nil]
                  clear T4 HW'
                  go_wp2_with fail
                  go_meet
                  case rel => exact ⟨by show OwnA _ _ _ _; rw [T4'.out]; exact O3.out, Y3⟩
              case rest =>
                obtain ⟨O4, Y4⟩ := hcut
                clear T4 O3 Y3 a0 a1 a2 a3 a4 a5 a6 a7 m0 m1 m2 m3 m4 m5 m6 m7
                obtain ⟨⟨⟨a0, a1, a2, a3⟩, a4, a5, a6, a7⟩, _⟩ := (B1.later Y4).box8
                obtain ⟨⟨⟨m0, m1, m2, m3⟩, m4, m5, m6, m7⟩, _⟩ := (M1.later Y4).box8
                clear a0 a1 a2 a3 a4 a5 a6 a7 m0 m1 m2 m3 m4 m5 m6 m7
                go_wp2_with fail
                exact bodyPost_ret (by simp [results, Tryd.results9, go_sem]; rfl) rfl ⟨_, rfl, by rw [HW'.out]; exact own_base O4.out X.size, xt X Y4⟩
      · have HW' : Hid (woB r c r' c' s d s' d' = [(A, C, B, D)]) := by show _ = _; rw [HW.out]; rfl
        rw [if_neg (by decide)]
        clear HW hq
        go_upto_region 6 with fail
        obtain ⟨w6, hw6⟩ : ∃ w6, w5.alloc (.cells #[.int .i64 0, .int .i64 0, .bool false, .bool false, .int .i64 0, .int .i64 0, .bool false, .bool false] 26) = w6 := ⟨_, rfl⟩
        have e6 := x1 w5 (.cells #[.int .i64 0, .int .i64 0, .bool false, .bool false, .int .i64 0, .int .i64 0, .bool false, .bool false] 26)
        rw [hw6] at e6 ⊢
        have B1 := B1.later e6
        have X := xt X e6
        obtain ⟨⟨⟨a0, a1, a2, a3⟩, a4, a5, a6, a7⟩, _⟩ := B1.box8
        go_wp2_with fail
        refine (areaS _ _ _ _ _).mono ?_
        rintro e w7 ⟨rfl, e7⟩
        have X := xt X e7
        clear a0 a1 a2 a3 a4 a5 a6 a7 e7
        go_wp2_with fail
        exact bodyPost_ret (v := .slice (some ⟨w7.heap.size, 0, none⟩) 1 1) (by simp [results, Tryd.results9, go_sem]) rfl ⟨_, rfl, by rw [HW'.out]; exact OwnA.one w7 X.size (A, C, B, D), xa X _⟩
    · have HW' : Hid (woB r c r' c' s d s' d' = []) := by show _ = _; unfold woB; rw [if_neg (fun q => hB q.2)]
      have hB' : goodAB s d s' d' = false := by simpa using hB
      rw [hB']
      clear hA hB hB'
      go_wp2_with fail
      exact bodyPost_ret (v := .slice none 0 0) (by simp [results, Tryd.results9, go_sem]) rfl ⟨_, rfl, by rw [HW'.out]; exact World.ownsRow_nil _ _ _ _, X⟩
  · have HW' : Hid (woB r c r' c' s d s' d' = []) := by show _ = _; unfold woB; rw [if_neg (fun q => hA q.1)]
    have hA' : goodAB r c r' c' = false := by simpa using hA
    rw [hA']
    clear hA hA' G2
    go_wp2_with fail
    exact bodyPost_ret (v := .slice none 0 0) (by simp [results, Tryd.results9, go_sem]) rfl ⟨_, rfl, by rw [HW'.out]; exact World.ownsRow_nil _ _ _ _, X⟩

end Go.Proofs.YthdjlhhedkfibaaDoor
