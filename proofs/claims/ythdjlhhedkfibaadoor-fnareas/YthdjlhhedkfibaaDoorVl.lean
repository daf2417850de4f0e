/-
  FnAreas, walked.
-/
import Derived.Test.YthdjlhhedkfibaaDoorVe
import Derived.Test.YthdjlhhedkfibaaDoorVb
import Derived.Test.YthdjlhhedkfibaaDoorWs2
namespace Go.Proofs.YthdjlhhedkfibaaDoor
open Go.RowKit

theorem woB_len (r c r' c' s d s' d' : Int) : (woB r c r' c' s d s' d').length ≤ 4 := by
  unfold woB
  split
  · split
    · simp
    · exact told_length _ 4
  · simp

theorem own_slice {w : World} {base : Nat} {v : Value} {l : List Ar} (h : OwnA w base v l) : ∃ p cap, v = .slice p l.length cap ∧ l.length ≤ cap ∧ (0 < l.length → ∃ g, p = some ⟨g, 0, none⟩ ∧ Vec w g (flatA l)) := by
  have hc := h
  rcases h.2 with ⟨rfl, h0⟩ | ⟨g, cap, cur, rfl, hb, hg, hn, hm, hcs, htake⟩
  · exact ⟨none, 0, by rw [h0], by omega, fun h => absurd h0 (by omega)⟩
  · refine ⟨_, cap, rfl, hn, fun _ => ⟨g, rfl, fun i u hi => ⟨?_, ?_⟩⟩⟩
    · have := hc.cells (g := g) rfl i u hi
      rw [show (⟨g, 0, none⟩ : Addr).add i = ⟨g, i, none⟩ by unfold Addr.add; split <;> simp_all] at this
      exact this
    · simp [World.frozen?, hg]

set_option maxRecDepth 8000 in
set_option maxHeartbeats 8000000 in
theorem lawAreas (v : Value) (n : Nat) (w : World) (hc : CodeIn w w.heap.size v n) (hS : Sides w) :
    Calls Tryd.prog 3 #[v] w fun e w' => e = .returned (.bool true) ∧ Ext w w' := by
  have hv : ∃ p cap, v = .slice p n cap := by
    rcases hc with ⟨⟨p, cap, h⟩, rfl⟩ | ⟨pb, po, cap, _, h, _⟩
    · exact ⟨p, cap, h⟩
    · exact ⟨_, cap, h⟩
  by_cases hn : n ≤ 1048576
  · have DW := drawWo v n w hc hn
    obtain ⟨p, cap, rfl⟩ := hv
    have hn' : (n : Int) ≤ 1048576 := by omega
    clear hc
    go_enter Tryd.func3, Tryd.ntmps3
    go_wp2_with fail
    refine DW.mono ?_
    rintro e w1 ⟨r, c, f, g, r', c', f', g', s, d, h, k, s', d', h', k', rfl, X⟩
    clear DW
    have V3 := Vec.made8 w1 (.int .i64 r) (.int .i64 c) (.bool f) (.bool g) (.int .i64 r') (.int .i64 c') (.bool f') (.bool g') 26
    have e1 := x1 w1 (.cells #[.int .i64 r, .int .i64 c, .bool f, .bool g, .int .i64 r', .int .i64 c', .bool f', .bool g'] 26)
    obtain ⟨wa, ha⟩ : ∃ wa, w1.alloc (.cells #[.int .i64 r, .int .i64 c, .bool f, .bool g, .int .i64 r', .int .i64 c', .bool f', .bool g'] 26) = wa := ⟨_, rfl⟩
    have V4 := Vec.made8 wa (.int .i64 s) (.int .i64 d) (.bool h) (.bool k) (.int .i64 s') (.int .i64 d') (.bool h') (.bool k') 26
    have e2 := x1 wa (.cells #[.int .i64 s, .int .i64 d, .bool h, .bool k, .int .i64 s', .int .i64 d', .bool h', .bool k'] 26)
    obtain ⟨wb, hb⟩ : ∃ wb, wa.alloc (.cells #[.int .i64 s, .int .i64 d, .bool h, .bool k, .int .i64 s', .int .i64 d', .bool h', .bool k'] 26) = wb := ⟨_, rfl⟩
    have sa : wa.heap.size = w1.heap.size + 1 := by rw [← ha, World.size_alloc]
    have sb : wb.heap.size = w1.heap.size + 1 + 1 := by rw [← hb, World.size_alloc, sa]
    rw [ha] at V3 e1
    rw [hb] at V4 e2
    rw [sa] at V4
    have V3 := V3.later e2
    have X := xt (xt X e1) e2
    clear e1 e2
    go_upto_region 4 with fail
    clear sa ha hb
    have GA := fun w => goodAS r c f g r' c' f' g' w
    have GB := fun w => goodAS s d h k s' d' h' k' w
    have HM := fun w => meetI r c f g r' c' f' g' s d h k s' d' h' k' w
    have HI := fun w hS => withoutI r c f g r' c' f' g' s d h k s' d' h' k' w hS
    have HS := fun w => withoutS r c f g r' c' f' g' s d h k s' d' h' k' w
    have HH := fun w => hullI r c f g r' c' f' g' s d h k s' d' h' k' w
    have hl := woB_len r c r' c' s d s' d'
    obtain ⟨l, hle⟩ : ∃ l, woB r c r' c' s d s' d' = l := ⟨_, rfl⟩
    rw [hle] at HI HS hl
    by_cases hG : goodAB r c r' c' = true ∧ goodAB s d s' d' = true
    · obtain ⟨m1, m2, m3, m4, q, M, hm, hP, hM0, hq0, hq1⟩ := pieces_hold' hG.1 hG.2
      obtain ⟨h1, h2, h3, h4, A, B, C, D, E, F, G, H, hh, hma, hha, hmb, hhb⟩ := hull_holds hG.1 hG.2
      have CA := fun w => cellsIn r c f g r' c' f' g' w hG.1
      have TB := cellsN_bounds hG.1
      obtain ⟨T, hT⟩ : ∃ T, cellsN r c r' c' = T := ⟨_, rfl⟩
      rw [hT] at hP CA TB
      rw [hle] at hP
      rw [hm] at HM
      rw [hh] at HH
      rw [hG.1] at GA
      rw [hG.2] at GB
      have HP : Hid (Pcs l (lo s s', lo d d', hi s s', hi d d') M T) := hP
      have HQ0 : Hid (q = false → M = 0) := hq0
      have HQ1 : Hid (q = true → goodAB m1 m2 m3 m4 = true ∧ cellsN m1 m2 m3 m4 = M) := hq1
      have MA := fun w => meetI h1 h2 false false h3 h4 false false r c f g r' c' f' g' w
      have MB := fun w => meetI h1 h2 false false h3 h4 false false s d h k s' d' h' k' w
      have HA := fun w => hullS r c f g r' c' f' g' r c f g r' c' f' g' w
      have HB := fun w => hullS s d h k s' d' h' k' s d h k s' d' h' k' w
      rw [hma] at MA
      rw [hmb] at MB
      rw [hha] at HA
      rw [hhb] at HB
      clear hm hP hq0 hq1 hh hma hha hmb hhb hG hle hT
      obtain ⟨⟨⟨a0, a1, a2, a3⟩, a4, a5, a6, a7⟩, _⟩ := V3.box8
      obtain ⟨⟨⟨b0, b1, b2, b3⟩, b4, b5, b6, b7⟩, _⟩ := V4.box8
      go_wp2_with fail
      refine (HM _).mono ?_
      rintro e w2 ⟨rfl, e2⟩
      have V3 := V3.later e2
      have V4 := V4.later e2
      have X := xt X e2
      clear e2 HM a0 a1 a2 a3 a4 a5 a6 a7 b0 b1 b2 b3 b4 b5 b6 b7
      go_upto_region 5 with fail
      obtain ⟨w3, hw3⟩ : ∃ q, w2.alloc (.cells #[.int .i64 m1, .int .i64 m2, .bool false, .bool false, .int .i64 m3, .int .i64 m4, .bool false, .bool false] 26) = q := ⟨_, rfl⟩
      have V5 := Vec.made8 w2 (.int .i64 m1) (.int .i64 m2) (.bool false) (.bool false) (.int .i64 m3) (.int .i64 m4) (.bool false) (.bool false) 26
      have ew3 := x1 w2 (.cells #[.int .i64 m1, .int .i64 m2, .bool false, .bool false, .int .i64 m3, .int .i64 m4, .bool false, .bool false] 26)
      rw [hw3] at V5 ew3 ⊢
      clear hw3
      have V3 := V3.later ew3
      have V4 := V4.later ew3
      have X := xt X ew3
      clear ew3
      obtain ⟨⟨⟨a0, a1, a2, a3⟩, a4, a5, a6, a7⟩, _⟩ := V3.box8
      obtain ⟨⟨⟨b0, b1, b2, b3⟩, b4, b5, b6, b7⟩, _⟩ := V4.box8
      go_wp2_with fail
      refine (HI _ (hS.later X)).mono ?_
      rintro e w4 ⟨v4, rfl, own4, e4⟩
      have V3 := V3.later e4
      have V4 := V4.later e4
      have V5 := V5.later e4
      have X := xt X e4
      have A4 : Hid (AreasAt w4 w3.heap.size v4 l.length (flatA l)) := AreasAt.of_own own4 (by omega)
      obtain ⟨p4, cap4, rfl, hc4, hp4⟩ := own_slice own4
      have P4 : Hid (0 < l.length → ∃ g, p4 = some ⟨g, 0, none⟩ ∧ Vec w4 g (flatA l)) := hp4
      clear e4 own4 hp4 HI a0 a1 a2 a3 a4 a5 a6 a7 b0 b1 b2 b3 b4 b5 b6 b7
      obtain ⟨⟨⟨a0, a1, a2, a3⟩, a4, a5, a6, a7⟩, _⟩ := V3.box8
      obtain ⟨⟨⟨b0, b1, b2, b3⟩, b4, b5, b6, b7⟩, _⟩ := V4.box8
      go_wp2_with fail
      refine (HS _).mono ?_
      rintro e w5 ⟨v5, rfl, own5, e5⟩
      have A5 : Hid (AreasAt w5 w4.heap.size v5 l.length (flatA l)) := AreasAt.of_own own5 (by omega)
      clear own5 HS a0 a1 a2 a3 a4 a5 a6 a7 b0 b1 b2 b3 b4 b5 b6 b7
      go_wp2_with fail
      refine (zAreasC w3.heap.size w4.heap.size _ _ l w5 (A4.out.later e5) A5.out).mono ?_
      rintro e w6 ⟨rfl, e6⟩
      have Y := xt e5 e6
      clear e5 e6 A4 A5
      have V3 := V3.later Y
      have V4 := V4.later Y
      have V5 := V5.later Y
      have X := xt X Y
      obtain ⟨⟨⟨a0, a1, a2, a3⟩, a4, a5, a6, a7⟩, _⟩ := V3.box8
      go_wp2_with fail
      refine (GA _).mono ?_
      rintro e w7 ⟨rfl, e7⟩
      have V3 := V3.later e7
      have V4 := V4.later e7
      have V5 := V5.later e7
      have X := xt X e7
      have Y := xt Y e7
      clear e7 GA a0 a1 a2 a3 a4 a5 a6 a7
      obtain ⟨⟨⟨b0, b1, b2, b3⟩, b4, b5, b6, b7⟩, _⟩ := V4.box8
      go_wp2_with fail
      refine (GB _).mono ?_
      rintro e w8 ⟨rfl, e8⟩
      have V3 := V3.later e8
      have V4 := V4.later e8
      have V5 := V5.later e8
      have X := xt X e8
      have Y := xt Y e8
      clear e8 GB b0 b1 b2 b3 b4 b5 b6 b7
      go_upto_if 67 with fail
      go_cut [8] (fun v wc => v = .int .i64 M ∧ Ext w8 wc)
      case first =>
        cases q
        · have hM : M = 0 := HQ0.out rfl
          subst hM
          go_wp2_with fail
          go_meet
          case rel => exact ⟨rfl, xr _⟩
        · obtain ⟨gm, hm⟩ := HQ1.out rfl
          have CM := fun w => cellsIn m1 m2 false false m3 m4 false false w gm
          rw [hm] at CM
          clear gm hm
          obtain ⟨⟨⟨a0, a1, a2, a3⟩, a4, a5, a6, a7⟩, _⟩ := V5.box8
          go_wp2_with fail
          refine (CM _).mono ?_
          rintro e w9 ⟨rfl, e9⟩
          go_wp2_with fail
          go_meet
          case rel => exact ⟨rfl, e9⟩
      case rest =>
        rename World => w9
        obtain ⟨rfl, e9⟩ := hcut
        have V3 := V3.later e9
        have V4 := V4.later e9
        have X := xt X e9
        have Y := xt Y e9
        clear e9 HQ0 HQ1 V5
        obtain ⟨N, hN⟩ : ∃ N, l.length = N := ⟨_, rfl⟩
        have HN : Hid (l.length = N) := hN
        rw [hN] at hl hc4 P4 ⊢
        clear hN
        go_wp2_with fail
        go_loopw [8, 72] (fun mm i wr => ∃ kk : Nat, kk ≤ N ∧ i = .int .i64 kk ∧ Hid (mm = .int .i64 (M + sumA (l.take kk))) ∧ Ext w9 wr) (fun _ i _ => N - (intOf i).toNat)
        case atStart => exact ⟨0, by omega, rfl, by show _ = _; simp [sumA], xr _⟩
        case round =>
          obtain ⟨kk, hk, rfl, HMM, Z⟩ := hrel
          by_cases hlt : kk < N
          · obtain ⟨g4, rfl, VR⟩ := P4.out (by omega)
            have VR := VR.later (xt Y Z)
            have V3 := V3.later Z
            have V4 := V4.later Z
            obtain ⟨x, hx⟩ : ∃ x, l[kk]? = some x := ⟨_, List.getElem?_eq_getElem (by rw [HN.out]; exact hlt)⟩
            have Fz := fun j hj => flatA_at hx j hj
            obtain ⟨hfx, hax⟩ := HP.out.1 x (List.mem_of_getElem? hx)
            have b1 := HP.out.part kk
            have b2 := HP.out.part (kk + 1)
            have hs := sumA_take_succ hx
            have ce0 : 0 ≤ (x.2.2.1 - x.1 + 1) * (x.2.2.2 - x.2.1 + 1) := Int.mul_nonneg (by have := hfx.1; omega) (by have := hfx.2; omega)
            have CX := fun w => cellsIn x.1 x.2.1 false false x.2.2.1 x.2.2.2 false false w hfx.good
            rw [hfx.cells] at CX
            have MX := fun w => meetS x.1 x.2.1 false false x.2.2.1 x.2.2.2 false false s d h k s' d' h' k' w
            rw [meetB_none ⟨hfx.1.2.1, hfx.2.2.1⟩ hax] at MX
            have PR : Hid (∀ (j : Nat) (y : Ar), j < kk → l[j]? = some y → meetB x.1 x.2.1 x.2.2.1 x.2.2.2 y.1 y.2.1 y.2.2.1 y.2.2.2 = .tuple #[arV 0 0 false false 0 0 false false, .bool false]) := fun j y hj hy => HP.out.pair hj hy hx
            have HF : Hid (∀ (j : Nat) (y : Ar), l[j]? = some y → Fine y) := fun j y hy => (HP.out.1 y (List.mem_of_getElem? hy)).1
            obtain ⟨k1, k2, k3, k4⟩ := x
            dsimp only at hs CX MX PR ce0
            obtain ⟨S0, hS0⟩ : ∃ q, M + sumA (l.take kk) = q := ⟨_, rfl⟩
            obtain ⟨ce, hce⟩ : ∃ q, (k3 - k1 + 1) * (k4 - k2 + 1) = q := ⟨_, rfl⟩
            rw [hce] at hs CX ce0
            rw [hS0] at HMM
            have HMM' := HMM.out
            subst HMM'
            have HS1 : Hid (M + sumA (l.take (kk + 1)) = S0 + ce) := by show _ = _; rw [hs]; omega
            have bS : 0 ≤ S0 ∧ S0 ≤ 200000 := by omega
            have bC : 0 ≤ ce ∧ ce ≤ 200000 := by omega
            have z0 := (VR (kk * 8 + 0) _ (Fz 0 (by omega))).1
            have z1 := (VR (kk * 8 + 1) _ (Fz 1 (by omega))).1
            have z2 := (VR (kk * 8 + 2) _ (Fz 2 (by omega))).1
            have z3 := (VR (kk * 8 + 3) _ (Fz 3 (by omega))).1
            have z4 := (VR (kk * 8 + 4) _ (Fz 4 (by omega))).1
            have z5 := (VR (kk * 8 + 5) _ (Fz 5 (by omega))).1
            have z6 := (VR (kk * 8 + 6) _ (Fz 6 (by omega))).1
            have z7 := (VR (kk * 8 + 7) _ (Fz 7 (by omega))).1
            simp only [Nat.add_zero] at z0
            have i1 : (0 : Int) ≤ (kk : Int) := by omega
            have i2 : (kk : Int) < (N : Int) := by omega
            clear hs hce hS0 b1 b2 hx hfx hax Fz HMM ce0
            go_upto_region 16 with fail
            clear z0 z1 z2 z3 z4 z5 z6 z7
            obtain ⟨wA, hwA⟩ : ∃ q, wr.alloc (.cells #[.int .i64 k1, .int .i64 k2, .bool false, .bool false, .int .i64 k3, .int .i64 k4, .bool false, .bool false] 26) = q := ⟨_, rfl⟩
            have V10 := Vec.made8 wr (.int .i64 k1) (.int .i64 k2) (.bool false) (.bool false) (.int .i64 k3) (.int .i64 k4) (.bool false) (.bool false) 26
            have ewA := x1 wr (.cells #[.int .i64 k1, .int .i64 k2, .bool false, .bool false, .int .i64 k3, .int .i64 k4, .bool false, .bool false] 26)
            rw [hwA] at V10 ewA ⊢
            clear hwA
            have V3 := V3.later ewA
            have V4 := V4.later ewA
            have VR := VR.later ewA
            have Z := xt Z ewA
            clear ewA
            obtain ⟨⟨⟨a0, a1, a2, a3⟩, a4, a5, a6, a7⟩, _⟩ := V10.box8
            go_wp2_with fail
            refine (CX _).mono ?_
            rintro e wB ⟨rfl, eB⟩
            have V3 := V3.later eB
            have V4 := V4.later eB
            have VR := VR.later eB
            have V10 := V10.later eB
            have Z := xt Z eB
            clear eB CX a0 a1 a2 a3 a4 a5 a6 a7
            obtain ⟨⟨⟨a0, a1, a2, a3⟩, a4, a5, a6, a7⟩, _⟩ := V10.box8
            obtain ⟨⟨⟨b0, b1, b2, b3⟩, b4, b5, b6, b7⟩, _⟩ := V4.box8
            go_wp2_with fail
            refine (MX _).mono ?_
            rintro e wC ⟨rfl, eC⟩
            have V3 := V3.later eC
            have V4 := V4.later eC
            have VR := VR.later eC
            have V10 := V10.later eC
            have Z := xt Z eC
            clear eC MX a0 a1 a2 a3 a4 a5 a6 a7 b0 b1 b2 b3 b4 b5 b6 b7
            go_upto_region 18 with fail
            obtain ⟨wD, hwD⟩ : ∃ q, wC.alloc (.cells #[.int .i64 0, .int .i64 0, .bool false, .bool false, .int .i64 0, .int .i64 0, .bool false, .bool false] 26) = q := ⟨_, rfl⟩
            have V11 := Vec.made8 wC (.int .i64 0) (.int .i64 0) (.bool false) (.bool false) (.int .i64 0) (.int .i64 0) (.bool false) (.bool false) 26
            have ewD := x1 wC (.cells #[.int .i64 0, .int .i64 0, .bool false, .bool false, .int .i64 0, .int .i64 0, .bool false, .bool false] 26)
            rw [hwD] at V11 ewD ⊢
            clear hwD
            have V3 := V3.later ewD
            have V4 := V4.later ewD
            have VR := VR.later ewD
            have V10 := V10.later ewD
            have Z := xt Z ewD
            clear ewD V11
            have i3 : (kk : Int) ≤ (cap4 : Int) := by omega
            go_wp2_with fail
            go_loopw [92] (fun i wi => ∃ jj : Nat, jj ≤ kk ∧ i = .int .i64 jj ∧ Ext wD wi) (fun i _ => kk - (intOf i).toNat)
            case atStart => exact ⟨0, by omega, rfl, xr _⟩
            case round =>
              rename World => wi
              obtain ⟨jj, hj, rfl, ZI⟩ := hrel
              by_cases hjt : jj < kk
              · have VR := VR.later ZI
                have V10 := V10.later ZI
                obtain ⟨y, hy⟩ : ∃ y, l[jj]? = some y := ⟨_, List.getElem?_eq_getElem (by rw [HN.out]; omega)⟩
                have Fo := fun j hj => flatA_at hy j hj
                have MY := fun w => meetS k1 k2 false false k3 k4 false false y.1 y.2.1 false false y.2.2.1 y.2.2.2 false false w
                rw [PR.out jj y hjt hy] at MY
                obtain ⟨t1, t2, t3, t4⟩ := y
                dsimp only at MY
                have o0 := (VR (jj * 8 + 0) _ (Fo 0 (by omega))).1
                have o1 := (VR (jj * 8 + 1) _ (Fo 1 (by omega))).1
                have o2 := (VR (jj * 8 + 2) _ (Fo 2 (by omega))).1
                have o3 := (VR (jj * 8 + 3) _ (Fo 3 (by omega))).1
                have o4 := (VR (jj * 8 + 4) _ (Fo 4 (by omega))).1
                have o5 := (VR (jj * 8 + 5) _ (Fo 5 (by omega))).1
                have o6 := (VR (jj * 8 + 6) _ (Fo 6 (by omega))).1
                have o7 := (VR (jj * 8 + 7) _ (Fo 7 (by omega))).1
                simp only [Nat.add_zero] at o0
                have j1 : (0 : Int) ≤ (jj : Int) := by omega
                have j2 : (jj : Int) < (kk : Int) := by omega
                clear hy Fo
                go_upto_region 23 with fail
                clear o0 o1 o2 o3 o4 o5 o6 o7
                obtain ⟨wE, hwE⟩ : ∃ q, wi.alloc (.cells #[.int .i64 t1, .int .i64 t2, .bool false, .bool false, .int .i64 t3, .int .i64 t4, .bool false, .bool false] 26) = q := ⟨_, rfl⟩
                have V14 := Vec.made8 wi (.int .i64 t1) (.int .i64 t2) (.bool false) (.bool false) (.int .i64 t3) (.int .i64 t4) (.bool false) (.bool false) 26
                have ewE := x1 wi (.cells #[.int .i64 t1, .int .i64 t2, .bool false, .bool false, .int .i64 t3, .int .i64 t4, .bool false, .bool false] 26)
                rw [hwE] at V14 ewE ⊢
                clear hwE
                have V10 := V10.later ewE
                have ZI := xt ZI ewE
                clear ewE
                obtain ⟨⟨⟨a0, a1, a2, a3⟩, a4, a5, a6, a7⟩, _⟩ := V10.box8
                obtain ⟨⟨⟨b0, b1, b2, b3⟩, b4, b5, b6, b7⟩, _⟩ := V14.box8
                go_wp2_with fail
                refine (MY _).mono ?_
                rintro e wF ⟨rfl, eF⟩
                have ZI := xt ZI eF
                clear eF MY V14 V10 VR a0 a1 a2 a3 a4 a5 a6 a7 b0 b1 b2 b3 b4 b5 b6 b7
                go_upto_region 24 with fail
                obtain ⟨wG, hwG⟩ : ∃ q, wF.alloc (.cells #[.int .i64 0, .int .i64 0, .bool false, .bool false, .int .i64 0, .int .i64 0, .bool false, .bool false] 26) = q := ⟨_, rfl⟩
                have V15 := Vec.made8 wF (.int .i64 0) (.int .i64 0) (.bool false) (.bool false) (.int .i64 0) (.int .i64 0) (.bool false) (.bool false) 26
                have ewG := x1 wF (.cells #[.int .i64 0, .int .i64 0, .bool false, .bool false, .int .i64 0, .int .i64 0, .bool false, .bool false] 26)
                rw [hwG] at V15 ewG ⊢
                clear hwG
                have ZI := xt ZI ewG
                clear ewG V15
                go_wp2_with fail
                go_roundw
                case rel => exact ⟨jj + 1, by omega, by go_num, ZI⟩
                case measure => simp [intOf]; omega
              · obtain rfl : jj = kk := by omega
                go_wp2_with fail
                go_roundw
                case rel => exact ⟨jj + 1, by omega, by go_num, by show _ = _; rw [HS1.out], xt Z ZI⟩
                case measure => simp [intOf]; omega
          · obtain rfl : kk = N := by omega
            have hT : M + sumA (l.take kk) = T := by rw [List.take_of_length_le (by rw [HN.out]; omega)]; exact HP.out.2.2
            rw [hT] at HMM
            have HMM' := HMM.out
            subst HMM'
            clear HMM hT HP P4 HN
            have V3 := V3.later Z
            have V4 := V4.later Z
            have X := xt X Z
            clear Z Y
            obtain ⟨⟨⟨a0, a1, a2, a3⟩, a4, a5, a6, a7⟩, _⟩ := V3.box8
            obtain ⟨⟨⟨b0, b1, b2, b3⟩, b4, b5, b6, b7⟩, _⟩ := V4.box8
            go_wp2_with fail
            refine (HH _).mono ?_
            rintro e wA ⟨rfl, eA⟩
            have V3 := V3.later eA
            have V4 := V4.later eA
            have X := xt X eA
            clear eA HH a0 a1 a2 a3 a4 a5 a6 a7 b0 b1 b2 b3 b4 b5 b6 b7
            go_upto_region 29 with fail
            obtain ⟨wB, hwB⟩ : ∃ q, wA.alloc (.cells #[.int .i64 h1, .int .i64 h2, .bool false, .bool false, .int .i64 h3, .int .i64 h4, .bool false, .bool false] 26) = q := ⟨_, rfl⟩
            have V17 := Vec.made8 wA (.int .i64 h1) (.int .i64 h2) (.bool false) (.bool false) (.int .i64 h3) (.int .i64 h4) (.bool false) (.bool false) 26
            have ewB := x1 wA (.cells #[.int .i64 h1, .int .i64 h2, .bool false, .bool false, .int .i64 h3, .int .i64 h4, .bool false, .bool false] 26)
            rw [hwB] at V17 ewB ⊢
            clear hwB
            have V3 := V3.later ewB
            have V4 := V4.later ewB
            have X := xt X ewB
            clear ewB
            obtain ⟨⟨⟨a0, a1, a2, a3⟩, a4, a5, a6, a7⟩, _⟩ := V3.box8
            obtain ⟨⟨⟨b0, b1, b2, b3⟩, b4, b5, b6, b7⟩, _⟩ := V17.box8
            go_wp2_with fail
            refine (MA _).mono ?_
            rintro e wC ⟨rfl, eC⟩
            have V3 := V3.later eC
            have V4 := V4.later eC
            have V17 := V17.later eC
            have X := xt X eC
            clear eC MA a0 a1 a2 a3 a4 a5 a6 a7 b0 b1 b2 b3 b4 b5 b6 b7
            go_upto_region 30 with fail
            obtain ⟨wD, hwD⟩ : ∃ q, wC.alloc (.cells #[.int .i64 A, .int .i64 C, .bool false, .bool false, .int .i64 B, .int .i64 D, .bool false, .bool false] 26) = q := ⟨_, rfl⟩
            have V18 := Vec.made8 wC (.int .i64 A) (.int .i64 C) (.bool false) (.bool false) (.int .i64 B) (.int .i64 D) (.bool false) (.bool false) 26
            have ewD := x1 wC (.cells #[.int .i64 A, .int .i64 C, .bool false, .bool false, .int .i64 B, .int .i64 D, .bool false, .bool false] 26)
            rw [hwD] at V18 ewD ⊢
            clear hwD
            have V3 := V3.later ewD
            have V4 := V4.later ewD
            have V17 := V17.later ewD
            have X := xt X ewD
            clear ewD
            obtain ⟨⟨⟨a0, a1, a2, a3⟩, a4, a5, a6, a7⟩, _⟩ := V4.box8
            obtain ⟨⟨⟨b0, b1, b2, b3⟩, b4, b5, b6, b7⟩, _⟩ := V17.box8
            go_wp2_with fail
            refine (MB _).mono ?_
            rintro e wE ⟨rfl, eE⟩
            have V3 := V3.later eE
            have V4 := V4.later eE
            have V18 := V18.later eE
            have X := xt X eE
            clear eE MB V17 a0 a1 a2 a3 a4 a5 a6 a7 b0 b1 b2 b3 b4 b5 b6 b7
            go_upto_region 31 with fail
            obtain ⟨wF, hwF⟩ : ∃ q, wE.alloc (.cells #[.int .i64 E, .int .i64 G, .bool false, .bool false, .int .i64 F, .int .i64 H, .bool false, .bool false] 26) = q := ⟨_, rfl⟩
            have V20 := Vec.made8 wE (.int .i64 E) (.int .i64 G) (.bool false) (.bool false) (.int .i64 F) (.int .i64 H) (.bool false) (.bool false) 26
            have ewF := x1 wE (.cells #[.int .i64 E, .int .i64 G, .bool false, .bool false, .int .i64 F, .int .i64 H, .bool false, .bool false] 26)
            rw [hwF] at V20 ewF ⊢
            clear hwF
            have V3 := V3.later ewF
            have V4 := V4.later ewF
            have V18 := V18.later ewF
            have X := xt X ewF
            clear ewF
            obtain ⟨⟨⟨a0, a1, a2, a3⟩, a4, a5, a6, a7⟩, _⟩ := V3.box8
            obtain ⟨⟨⟨b0, b1, b2, b3⟩, b4, b5, b6, b7⟩, _⟩ := V4.box8
            obtain ⟨⟨⟨c0, c1, c2, c3⟩, c4, c5, c6, c7⟩, _⟩ := V18.box8
            obtain ⟨⟨⟨d0, d1, d2, d3⟩, d4, d5, d6, d7⟩, _⟩ := V20.box8
            go_region_held3 (fun w' => (w'.cell? ⟨w1.heap.size, 0, none⟩ = some (.int .i64 r) ∧ w'.cell? ⟨w1.heap.size, 1, none⟩ = some (.int .i64 c) ∧ w'.cell? ⟨w1.heap.size, 2, none⟩ = some (.bool f) ∧ w'.cell? ⟨w1.heap.size, 3, none⟩ = some (.bool g) ∧ w'.cell? ⟨w1.heap.size, 4, none⟩ = some (.int .i64 r') ∧ w'.cell? ⟨w1.heap.size, 5, none⟩ = some (.int .i64 c') ∧ w'.cell? ⟨w1.heap.size, 6, none⟩ = some (.bool f') ∧ w'.cell? ⟨w1.heap.size, 7, none⟩ = some (.bool g')) ∧ (w'.cell? ⟨w1.heap.size + 1, 0, none⟩ = some (.int .i64 s) ∧ w'.cell? ⟨w1.heap.size + 1, 1, none⟩ = some (.int .i64 d) ∧ w'.cell? ⟨w1.heap.size + 1, 2, none⟩ = some (.bool h) ∧ w'.cell? ⟨w1.heap.size + 1, 3, none⟩ = some (.bool k) ∧ w'.cell? ⟨w1.heap.size + 1, 4, none⟩ = some (.int .i64 s') ∧ w'.cell? ⟨w1.heap.size + 1, 5, none⟩ = some (.int .i64 d') ∧ w'.cell? ⟨w1.heap.size + 1, 6, none⟩ = some (.bool h') ∧ w'.cell? ⟨w1.heap.size + 1, 7, none⟩ = some (.bool k')) ∧ (w'.cell? ⟨wC.heap.size, 0, none⟩ = some (.int .i64 A) ∧ w'.cell? ⟨wC.heap.size, 1, none⟩ = some (.int .i64 C) ∧ w'.cell? ⟨wC.heap.size, 2, none⟩ = some (.bool false) ∧ w'.cell? ⟨wC.heap.size, 3, none⟩ = some (.bool false) ∧ w'.cell? ⟨wC.heap.size, 4, none⟩ = some (.int .i64 B) ∧ w'.cell? ⟨wC.heap.size, 5, none⟩ = some (.int .i64 D) ∧ w'.cell? ⟨wC.heap.size, 6, none⟩ = some (.bool false) ∧ w'.cell? ⟨wC.heap.size, 7, none⟩ = some (.bool false)) ∧ (w'.cell? ⟨wE.heap.size, 0, none⟩ = some (.int .i64 E) ∧ w'.cell? ⟨wE.heap.size, 1, none⟩ = some (.int .i64 G) ∧ w'.cell? ⟨wE.heap.size, 2, none⟩ = some (.bool false) ∧ w'.cell? ⟨wE.heap.size, 3, none⟩ = some (.bool false) ∧ w'.cell? ⟨wE.heap.size, 4, none⟩ = some (.int .i64 F) ∧ w'.cell? ⟨wE.heap.size, 5, none⟩ = some (.int .i64 H) ∧ w'.cell? ⟨wE.heap.size, 6, none⟩ = some (.bool false) ∧ w'.cell? ⟨wE.heap.size, 7, none⟩ = some (.bool false))) (go_keep) (first
              | (go_at_call 12; refine (CA _).mono ?_; rintro e y1 ⟨rfl, e1⟩; have Z1 : Ext wF y1 := (by first | exact xt (xr _) e1 | exact xt (xd (xr _)) e1); obtain ⟨⟨⟨a0, a1, a2, a3⟩, a4, a5, a6, a7⟩, _⟩ := (V3.later Z1).box8; obtain ⟨⟨⟨b0, b1, b2, b3⟩, b4, b5, b6, b7⟩, _⟩ := (V4.later Z1).box8; obtain ⟨⟨⟨c0, c1, c2, c3⟩, c4, c5, c6, c7⟩, _⟩ := (V18.later Z1).box8; obtain ⟨⟨⟨d0, d1, d2, d3⟩, d4, d5, d6, d7⟩, _⟩ := (V20.later Z1).box8)
              | (go_at_call_of 14 (Value.int IntKind.i64 r); refine (HA _).mono ?_; rintro e y2 ⟨rfl, e2⟩; have Z2 : Ext wF y2 := (by exact xt Z1 e2); obtain ⟨⟨⟨a0, a1, a2, a3⟩, a4, a5, a6, a7⟩, _⟩ := (V3.later Z2).box8; obtain ⟨⟨⟨b0, b1, b2, b3⟩, b4, b5, b6, b7⟩, _⟩ := (V4.later Z2).box8; obtain ⟨⟨⟨c0, c1, c2, c3⟩, c4, c5, c6, c7⟩, _⟩ := (V18.later Z2).box8; obtain ⟨⟨⟨d0, d1, d2, d3⟩, d4, d5, d6, d7⟩, _⟩ := (V20.later Z2).box8)
              | (go_at_call_of 14 (Value.int IntKind.i64 s); refine (HB _).mono ?_; rintro e y3 ⟨rfl, e3⟩; have Z3 : Ext wF y3 := (by exact xt Z2 e3); obtain ⟨⟨⟨a0, a1, a2, a3⟩, a4, a5, a6, a7⟩, _⟩ := (V3.later Z3).box8; obtain ⟨⟨⟨b0, b1, b2, b3⟩, b4, b5, b6, b7⟩, _⟩ := (V4.later Z3).box8; obtain ⟨⟨⟨c0, c1, c2, c3⟩, c4, c5, c6, c7⟩, _⟩ := (V18.later Z3).box8; obtain ⟨⟨⟨d0, d1, d2, d3⟩, d4, d5, d6, d7⟩, _⟩ := (V20.later Z3).box8))
            go_wp2_with fail
            go_ret
            exact ⟨rfl, xt X Z3⟩
    · have hm : meetB r c r' c' s d s' d' = .tuple #[arV 0 0 false false 0 0 false false, .bool false] := by unfold meetB; rw [if_neg (fun q => hG q.1)]
      have hh : hullB r c r' c' s d s' d' = arV 0 0 false false 0 0 false false := by unfold hullB; rw [if_neg hG]
      have hl0 : l = [] := by rw [← hle]; unfold woB; rw [if_neg hG]
      rw [hm] at HM
      rw [hh] at HH
      clear hm hh hle hl
      subst hl0
      obtain ⟨⟨⟨a0, a1, a2, a3⟩, a4, a5, a6, a7⟩, _⟩ := V3.box8
      obtain ⟨⟨⟨b0, b1, b2, b3⟩, b4, b5, b6, b7⟩, _⟩ := V4.box8
      go_wp2_with fail
      refine (HM _).mono ?_
      rintro e w2 ⟨rfl, e2⟩
      have V3 := V3.later e2
      have V4 := V4.later e2
      have X := xt X e2
      clear e2 HM a0 a1 a2 a3 a4 a5 a6 a7 b0 b1 b2 b3 b4 b5 b6 b7
      go_upto_region 5 with fail
      obtain ⟨w3, hw3⟩ : ∃ q, w2.alloc (.cells #[.int .i64 0, .int .i64 0, .bool false, .bool false, .int .i64 0, .int .i64 0, .bool false, .bool false] 26) = q := ⟨_, rfl⟩
      have V5 := Vec.made8 w2 (.int .i64 0) (.int .i64 0) (.bool false) (.bool false) (.int .i64 0) (.int .i64 0) (.bool false) (.bool false) 26
      have ew3 := x1 w2 (.cells #[.int .i64 0, .int .i64 0, .bool false, .bool false, .int .i64 0, .int .i64 0, .bool false, .bool false] 26)
      rw [hw3] at V5 ew3 ⊢
      clear hw3
      have V3 := V3.later ew3
      have V4 := V4.later ew3
      have X := xt X ew3
      clear ew3
      obtain ⟨⟨⟨a0, a1, a2, a3⟩, a4, a5, a6, a7⟩, _⟩ := V3.box8
      obtain ⟨⟨⟨b0, b1, b2, b3⟩, b4, b5, b6, b7⟩, _⟩ := V4.box8
      go_wp2_with fail
      refine (HI _ (hS.later X)).mono ?_
      rintro e w4 ⟨v4, rfl, own4, e4⟩
      have V3 := V3.later e4
      have V4 := V4.later e4
      have X := xt X e4
      have A4 : Hid (AreasAt w4 w3.heap.size v4 ([] : List Ar).length (flatA [])) := AreasAt.of_own own4 (by simp)
      obtain ⟨p4, cap4, rfl, hc4, _⟩ := own_slice own4
      clear e4 own4 HI V5 a0 a1 a2 a3 a4 a5 a6 a7 b0 b1 b2 b3 b4 b5 b6 b7
      obtain ⟨⟨⟨a0, a1, a2, a3⟩, a4, a5, a6, a7⟩, _⟩ := V3.box8
      obtain ⟨⟨⟨b0, b1, b2, b3⟩, b4, b5, b6, b7⟩, _⟩ := V4.box8
      go_wp2_with fail
      refine (HS _).mono ?_
      rintro e w5 ⟨v5, rfl, own5, e5⟩
      have A5 : Hid (AreasAt w5 w4.heap.size v5 ([] : List Ar).length (flatA [])) := AreasAt.of_own own5 (by simp)
      clear own5 HS a0 a1 a2 a3 a4 a5 a6 a7 b0 b1 b2 b3 b4 b5 b6 b7
      go_wp2_with fail
      refine (zAreasC w3.heap.size w4.heap.size _ _ [] w5 (A4.out.later e5) A5.out).mono ?_
      rintro e w6 ⟨rfl, e6⟩
      have Y := xt e5 e6
      clear e5 e6 A4 A5
      have V3 := V3.later Y
      have V4 := V4.later Y
      have X := xt X Y
      obtain ⟨⟨⟨a0, a1, a2, a3⟩, a4, a5, a6, a7⟩, _⟩ := V3.box8
      go_wp2_with fail
      refine (GA _).mono ?_
      rintro e w7 ⟨rfl, e7⟩
      have V3 := V3.later e7
      have V4 := V4.later e7
      have X := xt X e7
      clear e7 GA a0 a1 a2 a3 a4 a5 a6 a7
      obtain ⟨⟨⟨a0, a1, a2, a3⟩, a4, a5, a6, a7⟩, _⟩ := V3.box8
      obtain ⟨⟨⟨b0, b1, b2, b3⟩, b4, b5, b6, b7⟩, _⟩ := V4.box8
      by_cases hA : goodAB r c r' c' = true
      · have hB : goodAB s d s' d' = false := by
          cases hq : goodAB s d s' d'
          · rfl
          · exact absurd ⟨hA, hq⟩ hG
        rw [hA]
        rw [hB] at GB
        clear hA hB hG
        go_wp2_with fail
        refine (GB _).mono ?_
        rintro e w8 ⟨rfl, e8⟩
        have V3 := V3.later e8
        have V4 := V4.later e8
        have X := xt X e8
        clear e8 GB a0 a1 a2 a3 a4 a5 a6 a7 b0 b1 b2 b3 b4 b5 b6 b7
        obtain ⟨⟨⟨a0, a1, a2, a3⟩, a4, a5, a6, a7⟩, _⟩ := V3.box8
        obtain ⟨⟨⟨b0, b1, b2, b3⟩, b4, b5, b6, b7⟩, _⟩ := V4.box8
        go_wp2_with fail
        refine (HH _).mono ?_
        rintro e w9 ⟨rfl, e9⟩
        go_wp2_with fail
        go_ret
        exact ⟨rfl, xt X e9⟩
      · have hA' : goodAB r c r' c' = false := by simpa using hA
        rw [hA']
        clear hA hA' hG GB
        go_wp2_with fail
        refine (HH _).mono ?_
        rintro e w9 ⟨rfl, e9⟩
        go_wp2_with fail
        go_ret
        exact ⟨rfl, xt X e9⟩
  · obtain ⟨p, cap, rfl⟩ := hv
    have hn' : (1048576 : Int) < (n : Int) := by omega
    clear hc
    go_enter Tryd.func3, Tryd.ntmps3
    go_wp2_with fail
    go_ret
    exact ⟨rfl, xr _⟩

end Go.Proofs.YthdjlhhedkfibaaDoor
