/-
  FnExactSheetOfRows, walked.
-/
import Derived.Test.YtichaheefailoaaSh5
import Derived.Test.YtichaheefailoaaSh6
import Derived.Deep.DeepCutAuto
namespace Go.Proofs.Ytichaheefailoaa
open Go.RowKit

theorem sheetR_length (L : List (List (List UInt8))) : (sheetR L).length ≤ 300 := by
  unfold sheetR
  split
  · next h =>
    unfold okC at h
    simp only [Bool.and_eq_true, decide_eq_true_eq] at h
    exact h.1
  · simp
theorem rows_small {L : List (List (List UInt8))} (h : szTT L ≤ 1048576) : L.length ≤ 1048576 ∧ ∀ l ∈ L, l.length ≤ 1048576 := by
  refine ⟨by unfold szTT at h; omega, fun l hl => ?_⟩
  have h1 := le_sum_mem (List.mem_map_of_mem (f := szT) hl)
  have h2 : l.length ≤ szT l := by unfold szT; omega
  unfold szTT at h
  omega
theorem box_two (w : World) (u v : Value) (t : TypeId) : Vec (w.alloc (.cells #[u, v] t)) w.heap.size [u, v] := vec_made w [u, v] t

set_option maxRecDepth 8000 in
set_option maxHeartbeats 4000000 in
theorem lawSheet (v : Value) (L : List (List (List UInt8))) (w : World) (h : SsIn w v L) (hb : FitTT L) :
    Calls Try.prog 3 #[v] w fun e w' => e = .returned (.bool true) ∧ Ext w w' := by
  have CZ := szSS v L 1048576 w h (by omega) hb
  have HI : Hid (SsIn w v L) := h
  obtain ⟨p, cap, vs0, rfl, hcap, -, -, -⟩ := h
  obtain ⟨n, hn⟩ : ∃ n, L.length = n := ⟨_, rfl⟩
  rw [hn] at CZ HI ⊢
  clear hcap hn hb
  unfold leftR at CZ
  by_cases hz : szTT L ≤ 1048576
  · rw [if_pos hz] at CZ
    obtain ⟨q, hq⟩ : ∃ q, 1048576 - szTT L = q := ⟨_, rfl⟩
    rw [hq] at CZ
    have f1 : decide ((q : Int) < 0) = false := by simp
    have HZ : Hid (szTT L ≤ 1048576) := hz
    have HS : Hid (L.length ≤ 1048576 ∧ ∀ l ∈ L, l.length ≤ 1048576) := rows_small hz
    have HR : Hid ((sheetR L).length ≤ 300) := sheetR_length L
    have T : Hid (∀ (w' : World) (x : Ext w w'), Calls Try.prog 6 #[.slice p n cap] w' fun e w'' => ∃ u, e = .returned u ∧ SsOwn w'' w'.heap.size w''.heap.size u L ∧ Ext w' w'') := fun w' x => toSS _ L w' (HI.out.later x) HS.out.1 HS.out.2
    clear hz hq
    go_enter Try.func3, Try.ntmps3
    go_wp2_with fail
    refine CZ.mono ?_
    rintro _ w0 ⟨rfl, rfl⟩
    clear CZ
    go_wp2_with fail
    refine (T.out w0 (xr _)).mono ?_
    rintro _ w1 ⟨u1, rfl, S1, e1⟩
    have CS := sheetS u1 L w1 S1.ssIn HZ.out
    obtain ⟨p1, c1, vs1, bs1, hu1, -⟩ := S1
    subst hu1
    go_wp2_with fail
    refine CS.mono ?_
    rintro _ w2 ⟨u2, rfl, O2, e2, _⟩
    clear CS
    obtain ⟨p2, c2, hu2, _⟩ := ownC_slice O2
    subst hu2
    have K := sheetR_length L
    obtain ⟨R, hR⟩ : ∃ R, sheetR L = R := ⟨_, rfl⟩
    obtain ⟨m, hm⟩ : ∃ m, R.length = m := ⟨_, rfl⟩
    have HRR : Hid (sheetR L = R) := hR
    have HM : Hid (R.length = m) := hm
    rw [hR, hm] at K
    rw [hR] at O2 ⊢
    rw [hm] at O2 ⊢
    clear hR hm
    go_wp2_with fail
    have B0 := box_two w2 (.slice p2 m c2) (.slice none 0 0) 27
    have x2 := x1 w2 (.cells #[.slice p2 m c2, .slice none 0 0] 27)
    have z2 : w2.heap.size < (w2.alloc (.cells #[.slice p2 m c2, .slice none 0 0] 27)).heap.size := by simp
    obtain ⟨w3, hw3⟩ : ∃ q, w2.alloc (.cells #[.slice p2 m c2, .slice none 0 0] 27) = q := ⟨_, rfl⟩
    rw [hw3] at B0 x2 z2 ⊢
    clear hw3
    have E3 := xt e1 (xt e2 x2)
    obtain ⟨g0, gl0, gh0, V0⟩ := ownC_cellV (ownC_later O2 x2) (by have := e2.size; omega)
    refine (T.out w3 E3).mono ?_
    rintro _ w4 ⟨u4, rfl, S4, e4⟩
    have CI := sheetI u4 L w4 S4.ssIn HZ.out
    rw [HRR.out] at CI
    have HS4 : Hid (SsOwn w4 w3.heap.size w4.heap.size u4 L) := S4
    obtain ⟨p4, c4, vs4, bs4, hu4, -⟩ := S4
    subst hu4
    go_wp2_with fail
    refine CI.mono ?_
    rintro _ w5 ⟨u5, rfl, O5, e5, z45⟩
    clear CI
    obtain ⟨p5, c5, hu5, _⟩ := ownC_slice O5
    subst hu5
    rw [HM.out] at O5 ⊢
    go_upto_region 8 with fail
    have B1 := box_two w5 (.slice p5 m c5) (.slice none 0 0) 27
    have x5 := x1 w5 (.cells #[.slice p5 m c5, .slice none 0 0] 27)
    have z5 : (w5.alloc (.cells #[.slice p5 m c5, .slice none 0 0] 27)).heap.size = w5.heap.size + 1 := by simp
    obtain ⟨w6, hw6⟩ : ∃ q, w5.alloc (.cells #[.slice p5 m c5, .slice none 0 0] 27) = q := ⟨_, rfl⟩
    rw [hw6] at B1 x5 z5 ⊢
    clear hw6
    have E6 := xt e4 (xt e5 x5)
    obtain ⟨g1, gl1, gh1, V1⟩ := ownC_cellV O5 z45
    have V1 := V1.later x5
    have B0 := B0.later E6
    have V0 := V0.later E6
    have a0 := (B0 0 _ rfl).1
    have a1 := (B0 1 _ rfl).1
    have b0 := (B1 0 _ rfl).1
    have b1 := (B1 1 _ rfl).1
    have CE1 := eqSheets _ _ R w6 V1.row V0.row (by rw [HM.out]; omega)
    go_wp2_with fail
    refine CE1.mono ?_
    rintro _ w7 ⟨rfl, e7⟩
    have E7 := xt E3 (xt E6 e7)
    clear CE1 a0 a1 b0 b1
    go_wp2_with fail
    refine (T.out w7 E7).mono ?_
    rintro _ w8 ⟨u8, rfl, S8, e8⟩
    have HS8 := HS4.out.later (xt e5 (xt x5 (xt e7 e8)))
    have CQ := eqSS _ u8 L w8 HS8.ssIn S8.ssIn HS.out.1 HS.out.2
    obtain ⟨p8, c8, vs8, bs8, hu8, -⟩ := S8
    subst hu8
    go_wp2_with fail
    refine CQ.mono ?_
    rintro _ w9 ⟨rfl, e9⟩
    clear CQ
    have CM := markSS _ L _ _ 1 w9 (HS8.later e9) HZ.out (by omega) (by omega)
    obtain ⟨kk, hkk⟩ : ∃ kk, 1 + cntF L L.length = kk := ⟨_, rfl⟩
    rw [hkk] at CM
    have k1 : decide ((kk : Int) < 0) = false := by simp
    clear HS8 hkk
    go_wp2_with fail
    refine CM.mono ?_
    rintro _ w10 ⟨rfl, -, T10⟩
    clear CM
    have Y9 : Ext w6 w9 := xt e7 (xt e8 e9)
    have z3 := e4.size
    have B0 := T10.vec _ _ (by omega) (B0.later Y9)
    have B1 := T10.vec _ _ (by have := e5.size; omega) (B1.later Y9)
    have V0 := (V0.later Y9).turned T10 (by omega)
    have V1 := (V1.later Y9).turned T10 (by have := e5.size; omega)
    have E10 : Ext w0 w10 := T10.ext w0 (xt E3 (xt E6 Y9)) (by have := E3.size; omega)
    have sz10 := T10.size
    have sz9 := Y9.size
    have a0 := (B0 0 _ rfl).1
    have a1 := (B0 1 _ rfl).1
    have b0 := (B1 0 _ rfl).1
    have b1 := (B1 1 _ rfl).1
    have CE1 := eqSheets _ _ R w10 V1.row V0.row (by rw [HM.out]; omega)
    clear T10
    go_wp2_with fail
    refine CE1.mono ?_
    rintro _ w11 ⟨rfl, e11⟩
    clear CE1 a0 a1 b0 b1
    have B0 := B0.later e11
    have B1 := B1.later e11
    have V0 := V0.later e11
    have V1 := V1.later e11
    have b0 := (B1 0 _ rfl).1
    have b1 := (B1 1 _ rfl).1
    have sz11 := e11.size
    have CMS := markSheets _ R g1 w11 V1 (by rw [HM.out]; omega) (by omega)
    rw [HM.out] at CMS
    go_wp2_with fail
    refine CMS.mono ?_
    rintro _ w12 ⟨rfl, VM, T12⟩
    clear CMS b0 b1
    have B0 := T12.vec _ _ (by have := e5.size; omega) B0
    have B1 := T12.vec _ _ (by omega) B1
    have V0 := V0.turned T12 (by have := e5.size; omega)
    have E12 : Ext w0 w12 := T12.ext w0 (xt E10 e11) (by have := E3.size; have := e5.size; omega)
    have b0 := (B1 0 _ rfl).1
    have b1 := (B1 1 _ rfl).1
    have CH := heldSheets _ m g1 w12 VM (by omega)
    obtain ⟨K3, hK3⟩ : ∃ K3, 1 + 3 * m = K3 := ⟨_, rfl⟩
    rw [hK3] at CH ⊢
    have k3 : decide ((K3 : Int) < 0) = false := by simp
    clear T12
    go_wp2_with fail
    refine CH.mono ?_
    rintro _ w13 ⟨rfl, e13⟩
    clear CH b0 b1
    go_wp2_with fail
    refine (T.out w13 (xt E12 e13)).mono ?_
    rintro _ w14 ⟨u14, rfl, S14, e14⟩
    have CI := sheetI u14 L w14 S14.ssIn HZ.out
    rw [HRR.out] at CI
    obtain ⟨p14, c14, vs14, bs14, hu14, -⟩ := S14
    subst hu14
    go_wp2_with fail
    refine CI.mono ?_
    rintro _ w15 ⟨u15, rfl, O15, e15, _⟩
    clear CI
    obtain ⟨p15, c15, hu15, _⟩ := ownC_slice O15
    subst hu15
    rw [HM.out] at O15 ⊢
    go_upto_region 25 with fail
    have B2 := box_two w15 (.slice p15 m c15) (.slice none 0 0) 27
    have x15 := x1 w15 (.cells #[.slice p15 m c15, .slice none 0 0] 27)
    obtain ⟨w16, hw16⟩ : ∃ q, w15.alloc (.cells #[.slice p15 m c15, .slice none 0 0] 27) = q := ⟨_, rfl⟩
    rw [hw16] at B2 x15 ⊢
    clear hw16
    have E16 := xt e13 (xt e14 (xt e15 x15))
    have B0 := B0.later E16
    have B1 := B1.later E16
    have V0 := V0.later E16
    have VM := VM.later E16
    have a0 := (B0 0 _ rfl).1
    have a1 := (B0 1 _ rfl).1
    have b0 := (B2 0 _ rfl).1
    have b1 := (B2 1 _ rfl).1
    have CE2 := eqSheets _ _ R w16 (ownC_row (ownC_later O15 x15)) V0.row (by rw [HM.out]; omega)
    go_wp2_with fail
    refine CE2.mono ?_
    rintro _ w17 ⟨rfl, e17⟩
    clear CE2 a0 a1 b0 b1
    have B1 := B1.later e17
    have VM := VM.later e17
    have b0 := (B1 0 _ rfl).1
    have b1 := (B1 1 _ rfl).1
    have CH := heldSheets _ m g1 w17 VM (by omega)
    rw [hK3] at CH
    go_wp2_with fail
    refine CH.mono ?_
    rintro _ w18 ⟨rfl, e18⟩
    go_wp2_with fail
    go_ret
    exact ⟨rfl, xt E12 (xt E16 (xt e17 e18))⟩
  · rw [if_neg hz] at CZ
    clear hz
    go_enter Try.func3, Try.ntmps3
    go_wp2_with fail
    refine CZ.mono ?_
    rintro _ w0 ⟨rfl, rfl⟩
    go_wp2_with fail
    go_ret
    exact ⟨rfl, xr _⟩

end Go.Proofs.Ytichaheefailoaa
