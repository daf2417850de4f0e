/-
  Two numbers, drawn.
-/
import Derived.Test.YtfkihaihbaobeaaGreatDoorMg32
import Derived.Test.YtfkihaihbaobeaaGreatDoorCd2
import Derived.BigRegion
import Derived.Deep.CutBlock
namespace Go.Proofs.YtfkihaihbaobeaaGreatDoor
open Go.RowKit

set_option maxRecDepth 8000 in
set_option maxHeartbeats 4000000 in
theorem decsC (v : Value) (k : Nat) (w : World) (hc : CodeIn w w.heap.size v k) (hk : k ≤ 1048576) :
    Calls Tryz.prog 16 #[v] w fun e w' => (∃ n d x m f y, e = .returned (.tuple #[decV n d x, decV m f y]) ∧ -1000000000000000000 ≤ d ∧ d ≤ 1000000000000000000 ∧ -1000000000000000000 ≤ f ∧ f ≤ 1000000000000000000) ∧ Ext w w' := by
  have X0 := x1 w (.cells #[.bool false, .int .i64 0, .int .i64 0] 24)
  have V0 := vec_made w [.bool false, .int .i64 0, .int .i64 0] 24
  change Vec (w.alloc (.cells #[.bool false, .int .i64 0, .int .i64 0] 24)) _ _ at V0
  obtain ⟨wa, ha⟩ : ∃ u, w.alloc (.cells #[.bool false, .int .i64 0, .int .i64 0] 24) = u := ⟨_, rfl⟩
  have za : wa.heap.size = w.heap.size + 1 := by rw [← ha]; simp
  rw [ha] at X0 V0
  have X1 := x1 wa (.cells #[.bool false, .int .i64 0, .int .i64 0] 24)
  have U0 := vec_made wa [.bool false, .int .i64 0, .int .i64 0] 24
  change Vec (wa.alloc (.cells #[.bool false, .int .i64 0, .int .i64 0] 24)) _ _ at U0
  obtain ⟨wb, hb⟩ : ∃ u, wa.alloc (.cells #[.bool false, .int .i64 0, .int .i64 0] 24) = u := ⟨_, rfl⟩
  have zb : wb.heap.size = w.heap.size + 2 := by rw [← hb]; simp [za]
  rw [hb] at X1 U0
  rw [za] at U0
  have hc1 : CodeIn wb w.heap.size v k := hc.only (b := w.heap.size) (Only.of_ext (xt X0 X1)) (Nat.le_refl _)
  have C0 := Cur.made wb v k w.heap.size 61 hc1 hk (by omega)
  have X2 := x1 wb (.cells #[v, .int .i64 0, .int .u64 0] 61)
  rw [zb] at C0
  have V1 := (V0.later X1).later X2
  have U1 := U0.later X2
  have XW := xt (xt X0 X1) X2
  have hv : ∃ p cap, v = .slice p k cap := by
    rcases hc with ⟨⟨p, cap, h⟩, rfl⟩ | ⟨pb, po, cap, _, h, _⟩
    · exact ⟨p, cap, h⟩
    · exact ⟨_, cap, h⟩
  clear hc hc1 V0 U0 X0 X1 X2 hk
  obtain ⟨p, cap, rfl⟩ := hv
  go_enter Tryz.func16, Tryz.ntmps16
  go_wp2_with fail
  refine (decC (w.heap.size + 2) w.heap.size 0 _ C0 (by omega)).mono ?_
  rintro e w1 ⟨⟨n, d, x, rfl, d0, d1⟩, c1, o1⟩
  have V := o1.vecC (by omega) V1
  have U := o1.vecC (by omega) U1
  have O := o1
  clear C0 V1 U1 o1 ha hb za zb
  go_wp2_with fail
  refine (oddC (w.heap.size + 2) w.heap.size _ n d x w1 c1 (by omega) d0 d1).mono ?_
  rintro e w2 ⟨⟨n, d, x, rfl, e0, e1⟩, c2, o2⟩
  have Y2 := x1 w2 (.cells #[.bool n, .int .i64 d, .int .i64 x] 24)
  have GA := vec_made w2 [.bool n, .int .i64 d, .int .i64 x] 24
  change Vec (w2.alloc (.cells #[.bool n, .int .i64 d, .int .i64 x] 24)) _ _ at GA
  have V := (o2.vecC (by omega) V).later Y2
  have U := (o2.vecC (by omega) U).later Y2
  have lt2 := c2.lt
  have O := (O.trans o2).trans (Only.of_ext Y2)
  have C := c2.ext Y2
  clear c1 c2 o2 Y2 d0 d1
  go_wp2_with fail
  refine (decC (w.heap.size + 2) w.heap.size _ _ C (by omega)).mono ?_
  rintro e w3 ⟨⟨m, f, y, rfl, d0, d1⟩, c1, o1⟩
  have V := o1.vecC (by omega) V
  have U := o1.vecC (by omega) U
  have GA := o1.vecC (by omega) GA
  have O := O.trans o1
  clear C o1
  go_wp2_with fail
  refine (oddC (w.heap.size + 2) w.heap.size _ m f y w3 c1 (by omega) d0 d1).mono ?_
  rintro e w4 ⟨⟨m, f, y, rfl, f0, f1⟩, c2, o2⟩
  have l4 : w2.heap.size < w4.heap.size := World.block_lt_of_cell? _ _ (o2.vecC (by omega) GA).three.1
  have Y4 := x1 w4 (.cells #[.bool m, .int .i64 f, .int .i64 y] 24)
  have GB := vec_made w4 [.bool m, .int .i64 f, .int .i64 y] 24
  change Vec (w4.alloc (.cells #[.bool m, .int .i64 f, .int .i64 y] 24)) _ _ at GB
  have V := (o2.vecC (by omega) V).later Y4
  have U := (o2.vecC (by omega) U).later Y4
  have GA := (o2.vecC (by omega) GA).later Y4
  have O := (O.trans o2).trans (Only.of_ext Y4)
  have C := c2.ext Y4
  clear c1 c2 o2 Y4 d0 d1
  go_wp2_with fail
  refine (pickC (w.heap.size + 2) w.heap.size _ 6 _ C (by omega) (by omega) (by omega)).mono ?_
  rintro e w5 ⟨q, rfl, ⟨q0, q1⟩, C, o5⟩
  have V := o5.vecC (by omega) V
  have U := o5.vecC (by omega) U
  have GA := o5.vecC (by omega) GA
  have GB := o5.vecC (by omega) GB
  have O := O.trans o5
  clear o5
  have lA := World.block_lt_of_cell? _ _ GA.three.1
  have lB := World.block_lt_of_cell? _ _ GB.three.1
  dsimp only at lA lB
  have XE : Ext w w5 := Only.ext XW O (by omega)
  go_upto_block 0 with fail
  go_cut [] (fun wc => (∃ (m : Bool) (f y : Int), Vec wc w4.heap.size [.bool m, .int .i64 f, .int .i64 y] ∧ -1000000000000000000 ≤ f ∧ f ≤ 1000000000000000000) ∧ Vec wc w2.heap.size [.bool n, .int .i64 d, .int .i64 x] ∧ Vec wc w.heap.size [.bool false, .int .i64 0, .int .i64 0] ∧ Vec wc (w.heap.size + 1) [.bool false, .int .i64 0, .int .i64 0] ∧ Ext w wc)
  case first =>
    by_cases h0 : q = 0
    · subst h0
      obtain ⟨i0, i1, i2⟩ := GA.three
      obtain ⟨j0, j1, j2⟩ := GB.three
      obtain ⟨fj0, fj1, fj2⟩ := GB.threeF
      have GAz := ((GA.far (p := ⟨w4.heap.size, 0, none⟩) (by show w4.heap.size ≠ w2.heap.size; omega) (.bool n)).far (p := ⟨w4.heap.size, 1, none⟩) (by show w4.heap.size ≠ w2.heap.size; omega) (.int .i64 d)).far (p := ⟨w4.heap.size, 2, none⟩) (by show w4.heap.size ≠ w2.heap.size; omega) (.int .i64 x)
      have GBz : Vec _ w4.heap.size [.bool n, .int .i64 d, .int .i64 x] := ((GB.put 0 (by simp) (.bool n)).put 1 (by simp) (.int .i64 d)).put 2 (by simp) (.int .i64 x)
      have Vz := ((V.far (p := ⟨w4.heap.size, 0, none⟩) (by show w4.heap.size ≠ w.heap.size; omega) (.bool n)).far (p := ⟨w4.heap.size, 1, none⟩) (by show w4.heap.size ≠ w.heap.size; omega) (.int .i64 d)).far (p := ⟨w4.heap.size, 2, none⟩) (by show w4.heap.size ≠ w.heap.size; omega) (.int .i64 x)
      have Uz := ((U.far (p := ⟨w4.heap.size, 0, none⟩) (by show w4.heap.size ≠ w.heap.size + 1; omega) (.bool n)).far (p := ⟨w4.heap.size, 1, none⟩) (by show w4.heap.size ≠ w.heap.size + 1; omega) (.int .i64 d)).far (p := ⟨w4.heap.size, 2, none⟩) (by show w4.heap.size ≠ w.heap.size + 1; omega) (.int .i64 x)
      have Xz := xset (xset (xset XE (p := ⟨w4.heap.size, 0, none⟩) (by show w.heap.size ≤ w4.heap.size; omega) (.bool n)) (p := ⟨w4.heap.size, 1, none⟩) (by show w.heap.size ≤ w4.heap.size; omega) (.int .i64 d)) (p := ⟨w4.heap.size, 2, none⟩) (by show w.heap.size ≤ w4.heap.size; omega) (.int .i64 x)
      obtain ⟨wz, hz⟩ : ∃ wz, ((w5.setCell ⟨w4.heap.size, 0, none⟩ (.bool n)).setCell ⟨w4.heap.size, 1, none⟩ (.int .i64 d)).setCell ⟨w4.heap.size, 2, none⟩ (.int .i64 x) = wz := ⟨_, rfl⟩
      rw [hz] at GAz GBz Vz Uz Xz
      obtain ⟨k0, k1, k2⟩ := GBz.three
      obtain ⟨l0, l1, l2⟩ := GBz.threeF
      have FIN : ∀ u : Bool, ((∃ (m : Bool) (f y : Int), Vec (wz.setCell ⟨w4.heap.size, 0, none⟩ (.bool u)) w4.heap.size [.bool m, .int .i64 f, .int .i64 y] ∧ -1000000000000000000 ≤ f ∧ f ≤ 1000000000000000000) ∧ Vec (wz.setCell ⟨w4.heap.size, 0, none⟩ (.bool u)) w2.heap.size [.bool n, .int .i64 d, .int .i64 x] ∧ Vec (wz.setCell ⟨w4.heap.size, 0, none⟩ (.bool u)) w.heap.size [.bool false, .int .i64 0, .int .i64 0] ∧ Vec (wz.setCell ⟨w4.heap.size, 0, none⟩ (.bool u)) (w.heap.size + 1) [.bool false, .int .i64 0, .int .i64 0] ∧ Ext w (wz.setCell ⟨w4.heap.size, 0, none⟩ (.bool u))) := fun u =>
        ⟨⟨u, d, x, GBz.put 0 (by simp) _, e0, e1⟩, GAz.far (p := ⟨w4.heap.size, 0, none⟩) (by show w4.heap.size ≠ w2.heap.size; omega) _, Vz.far (p := ⟨w4.heap.size, 0, none⟩) (by show w4.heap.size ≠ w.heap.size; omega) _, Uz.far (p := ⟨w4.heap.size, 0, none⟩) (by show w4.heap.size ≠ w.heap.size + 1; omega) _, xset Xz (p := ⟨w4.heap.size, 0, none⟩) (by show w.heap.size ≤ w4.heap.size; omega) _⟩
      clear GA GB V U GAz GBz Vz Uz
      cases n
      · by_cases hd : 0 < d
        · go_wp2_with fail
          go_meet
          case rel => exact FIN _
        · have hd' : decide (0 < d) = false := decide_eq_false hd
          go_wp2_with fail
          go_meet
          case rel => exact FIN _
      · go_wp2_with fail
        go_meet
        case rel => exact FIN _
    · have g0 : (q == 0) = false := by simpa using h0
      by_cases h1 : q = 1
      · subst h1
        obtain ⟨i0, i1, i2⟩ := GA.three
        obtain ⟨j0, j1, j2⟩ := GB.three
        obtain ⟨fj0, fj1, fj2⟩ := GB.threeF
        have GAz := ((GA.far (p := ⟨w4.heap.size, 0, none⟩) (by show w4.heap.size ≠ w2.heap.size; omega) (.bool n)).far (p := ⟨w4.heap.size, 1, none⟩) (by show w4.heap.size ≠ w2.heap.size; omega) (.int .i64 d)).far (p := ⟨w4.heap.size, 2, none⟩) (by show w4.heap.size ≠ w2.heap.size; omega) (.int .i64 x)
        have GBz : Vec _ w4.heap.size [.bool n, .int .i64 d, .int .i64 x] := ((GB.put 0 (by simp) (.bool n)).put 1 (by simp) (.int .i64 d)).put 2 (by simp) (.int .i64 x)
        have Vz := ((V.far (p := ⟨w4.heap.size, 0, none⟩) (by show w4.heap.size ≠ w.heap.size; omega) (.bool n)).far (p := ⟨w4.heap.size, 1, none⟩) (by show w4.heap.size ≠ w.heap.size; omega) (.int .i64 d)).far (p := ⟨w4.heap.size, 2, none⟩) (by show w4.heap.size ≠ w.heap.size; omega) (.int .i64 x)
        have Uz := ((U.far (p := ⟨w4.heap.size, 0, none⟩) (by show w4.heap.size ≠ w.heap.size + 1; omega) (.bool n)).far (p := ⟨w4.heap.size, 1, none⟩) (by show w4.heap.size ≠ w.heap.size + 1; omega) (.int .i64 d)).far (p := ⟨w4.heap.size, 2, none⟩) (by show w4.heap.size ≠ w.heap.size + 1; omega) (.int .i64 x)
        have Xz := xset (xset (xset XE (p := ⟨w4.heap.size, 0, none⟩) (by show w.heap.size ≤ w4.heap.size; omega) (.bool n)) (p := ⟨w4.heap.size, 1, none⟩) (by show w.heap.size ≤ w4.heap.size; omega) (.int .i64 d)) (p := ⟨w4.heap.size, 2, none⟩) (by show w.heap.size ≤ w4.heap.size; omega) (.int .i64 x)
        have Cz := ((C.far (g := w4.heap.size) (i := 0) (by omega) (by omega) (.bool n)).far (g := w4.heap.size) (i := 1) (by omega) (by omega) (.int .i64 d)).far (g := w4.heap.size) (i := 2) (by omega) (by omega) (.int .i64 x)
        obtain ⟨wz, hz⟩ : ∃ wz, ((w5.setCell ⟨w4.heap.size, 0, none⟩ (.bool n)).setCell ⟨w4.heap.size, 1, none⟩ (.int .i64 d)).setCell ⟨w4.heap.size, 2, none⟩ (.int .i64 x) = wz := ⟨_, rfl⟩
        rw [hz] at GAz GBz Vz Uz Xz Cz
        obtain ⟨k0, k1, k2⟩ := GBz.three
        obtain ⟨l0, l1, l2⟩ := GBz.threeF
        clear GA GB V U
        go_wp2_with fail
        go_region_with (refine (pickC (w.heap.size + 2) w.heap.size _ 3 _ (by first | exact Cz | exact Cz.drewN _) (by omega) (by omega) (by omega)).mono ?_; rintro e w7 ⟨q2, rfl, ⟨u0, u1⟩, C7, o7⟩; have m2 := (o7.vecC (by omega) GBz).three.2.2; have f2 := (o7.vecC (by omega) GBz).threeF.2.2)
        all_goals go_wp2_with fail
        all_goals go_meet
        all_goals case rel => exact ⟨⟨n, d, _, (o7.vecC (by omega) GBz).put 2 (by simp) _, e0, e1⟩, (o7.vecC (by omega) GAz).far (p := ⟨w4.heap.size, 2, none⟩) (by show w4.heap.size ≠ w2.heap.size; omega) _, (o7.vecC (by omega) Vz).far (p := ⟨w4.heap.size, 2, none⟩) (by show w4.heap.size ≠ w.heap.size; omega) _, (o7.vecC (by omega) Uz).far (p := ⟨w4.heap.size, 2, none⟩) (by show w4.heap.size ≠ w.heap.size + 1; omega) _, xset (Only.ext (xd Xz) o7 (by omega)) (p := ⟨w4.heap.size, 2, none⟩) (by show w.heap.size ≤ w4.heap.size; omega) _⟩
      · have g1 : (q == 1) = false := by simpa using h1
        go_wp2_with fail
        go_meet
        case rel => exact ⟨⟨m, f, y, GB, f0, f1⟩, GA, V, U, XE⟩
  case rest =>
    obtain ⟨⟨m, f, y, GB, f0, f1⟩, GA, V, U, XE⟩ := hcut
    rename World => w6
    have n1 : (w.heap.size = w2.heap.size) = False := eq_false (by omega)
    have n2 : (w.heap.size = w4.heap.size) = False := eq_false (by omega)
    have n3 : (w.heap.size + 1 = w2.heap.size) = False := eq_false (by omega)
    have n4 : (w.heap.size + 1 = w4.heap.size) = False := eq_false (by omega)
    have n5 : (w.heap.size = w.heap.size + 1) = False := eq_false (by omega)
    have n6 : (w.heap.size + 1 = w.heap.size) = False := eq_false (by omega)
    obtain ⟨i0, i1, i2⟩ := GA.three
    obtain ⟨j0, j1, j2⟩ := GB.three
    obtain ⟨a0, a1, a2⟩ := V.three
    obtain ⟨fa0, fa1, fa2⟩ := V.threeF
    obtain ⟨b0, b1, b2⟩ := U.three
    obtain ⟨fb0, fb1, fb2⟩ := U.threeF
    have VF := ((((((V.put 0 (by simp) (.bool n)).put 1 (by simp) (.int .i64 d)).put 2 (by simp) (.int .i64 x)).far (p := ⟨w.heap.size + 1, 0, none⟩) (by show w.heap.size + 1 ≠ w.heap.size; omega) (.bool m)).far (p := ⟨w.heap.size + 1, 1, none⟩) (by show w.heap.size + 1 ≠ w.heap.size; omega) (.int .i64 f)).far (p := ⟨w.heap.size + 1, 2, none⟩) (by show w.heap.size + 1 ≠ w.heap.size; omega) (.int .i64 y))
    have UF := ((((((U.far (p := ⟨w.heap.size, 0, none⟩) (by show w.heap.size ≠ w.heap.size + 1; omega) (.bool n)).far (p := ⟨w.heap.size, 1, none⟩) (by show w.heap.size ≠ w.heap.size + 1; omega) (.int .i64 d)).far (p := ⟨w.heap.size, 2, none⟩) (by show w.heap.size ≠ w.heap.size + 1; omega) (.int .i64 x)).put 0 (by simp) (.bool m)).put 1 (by simp) (.int .i64 f)).put 2 (by simp) (.int .i64 y))
    have XF := (xset (xset (xset (xset (xset (xset XE (p := ⟨w.heap.size, 0, none⟩) (Nat.le_refl _) (.bool n)) (p := ⟨w.heap.size, 1, none⟩) (Nat.le_refl _) (.int .i64 d)) (p := ⟨w.heap.size, 2, none⟩) (Nat.le_refl _) (.int .i64 x)) (p := ⟨w.heap.size + 1, 0, none⟩) (by show _ ≤ w.heap.size + 1; omega) (.bool m)) (p := ⟨w.heap.size + 1, 1, none⟩) (by show _ ≤ w.heap.size + 1; omega) (.int .i64 f)) (p := ⟨w.heap.size + 1, 2, none⟩) (by show _ ≤ w.heap.size + 1; omega) (.int .i64 y))
    clear GA GB V U
    go_wp2_with fail
    go_region
    obtain ⟨wy, hy⟩ : ∃ wy, (((((w6.setCell ⟨w.heap.size, 0, none⟩ (.bool n)).setCell ⟨w.heap.size, 1, none⟩ (.int .i64 d)).setCell ⟨w.heap.size, 2, none⟩ (.int .i64 x)).setCell ⟨w.heap.size + 1, 0, none⟩ (.bool m)).setCell ⟨w.heap.size + 1, 1, none⟩ (.int .i64 f)).setCell ⟨w.heap.size + 1, 2, none⟩ (.int .i64 y) = wy := ⟨_, rfl⟩
    rw [hy] at VF UF XF ⊢
    obtain ⟨r0, r1, r2⟩ := VF.three
    obtain ⟨s0, s1, s2⟩ := UF.three
    go_wp2
    exact bodyPost_ret (v := .tuple #[decV n d x, decV m f y]) (by simp [results, Tryz.results16, go_sem, r0, r1, r2, s0, s1, s2]) rfl ⟨⟨n, d, x, m, f, y, rfl, e0, e1, f0, f1⟩, xd XF⟩

set_option maxRecDepth 8000 in
set_option maxHeartbeats 2000000 in
theorem drawAdd (v : Value) (k : Nat) (w : World) (hc : CodeIn w w.heap.size v k) (hk : k ≤ 1048576) :
    Calls Tryz.prog 4 #[v] w fun e w' => (∃ n d x m f y, e = .returned (.tuple #[decV n d x, decV m f y]) ∧ -1000000000000000000 ≤ d ∧ d ≤ 1000000000000000000 ∧ -1000000000000000000 ≤ f ∧ f ≤ 1000000000000000000) ∧ Ext w w' := by
  obtain ⟨wa, wb, ha, hb, sa, sb, V, U, X⟩ := mkB2 w [.bool false, .int .i64 0, .int .i64 0] [.bool false, .int .i64 0, .int .i64 0] 24 24
  have hc1 : CodeIn wb wb.heap.size v k := by
    have h := hc.only (b := w.heap.size) (Only.of_ext X) (Nat.le_refl _)
    rcases h with ⟨⟨p, cap, h⟩, rfl⟩ | ⟨pb, po, cap, h0, h, hx⟩
    · exact .inl ⟨⟨p, cap, h⟩, rfl⟩
    · exact .inr ⟨pb, po, cap, by omega, h, hx⟩
  have DC := decsC v k wb hc1 hk
  clear hc hc1
  go_enter Tryz.func4, Tryz.ntmps4
  go_wp2_with fail
  refine DC.mono ?_
  rintro e w1 ⟨⟨n, d, x, m, f, y, rfl, d0, d1, f0, f1⟩, E⟩
  have V := V.later E
  have U := U.later E
  have X := xt X E
  have VF := ((((((V.put 0 (by simp) (.bool n)).put 1 (by simp) (.int .i64 d)).put 2 (by simp) (.int .i64 x)).far (p := ⟨w.heap.size + 1, 0, none⟩) (by show w.heap.size + 1 ≠ w.heap.size; omega) (.bool m)).far (p := ⟨w.heap.size + 1, 1, none⟩) (by show w.heap.size + 1 ≠ w.heap.size; omega) (.int .i64 f)).far (p := ⟨w.heap.size + 1, 2, none⟩) (by show w.heap.size + 1 ≠ w.heap.size; omega) (.int .i64 y))
  have UM := (((U.far (p := ⟨w.heap.size, 0, none⟩) (by show w.heap.size ≠ w.heap.size + 1; omega) (.bool n)).far (p := ⟨w.heap.size, 1, none⟩) (by show w.heap.size ≠ w.heap.size + 1; omega) (.int .i64 d)).far (p := ⟨w.heap.size, 2, none⟩) (by show w.heap.size ≠ w.heap.size + 1; omega) (.int .i64 x))
  have UF := ((UM.put 0 (by simp) (.bool m)).put 1 (by simp) (.int .i64 f)).put 2 (by simp) (.int .i64 y)
  have XF := (xset (xset (xset (xset (xset (xset X (p := ⟨w.heap.size, 0, none⟩) (Nat.le_refl _) (.bool n)) (p := ⟨w.heap.size, 1, none⟩) (Nat.le_refl _) (.int .i64 d)) (p := ⟨w.heap.size, 2, none⟩) (Nat.le_refl _) (.int .i64 x)) (p := ⟨w.heap.size + 1, 0, none⟩) (by show _ ≤ w.heap.size + 1; omega) (.bool m)) (p := ⟨w.heap.size + 1, 1, none⟩) (by show _ ≤ w.heap.size + 1; omega) (.int .i64 f)) (p := ⟨w.heap.size + 1, 2, none⟩) (by show _ ≤ w.heap.size + 1; omega) (.int .i64 y))
  obtain ⟨wm, hm⟩ : ∃ wm, ((w1.setCell ⟨w.heap.size, 0, none⟩ (.bool n)).setCell ⟨w.heap.size, 1, none⟩ (.int .i64 d)).setCell ⟨w.heap.size, 2, none⟩ (.int .i64 x) = wm := ⟨_, rfl⟩
  rw [hm] at VF UF XF UM
  obtain ⟨wy, hy⟩ : ∃ wy, ((wm.setCell ⟨w.heap.size + 1, 0, none⟩ (.bool m)).setCell ⟨w.heap.size + 1, 1, none⟩ (.int .i64 f)).setCell ⟨w.heap.size + 1, 2, none⟩ (.int .i64 y) = wy := ⟨_, rfl⟩
  rw [hy] at VF UF XF
  obtain ⟨r0, r1, r2⟩ := VF.three
  obtain ⟨s0, s1, s2⟩ := UF.three
  obtain ⟨a0, a1, a2⟩ := V.three
  obtain ⟨fa0, fa1, fa2⟩ := V.threeF
  obtain ⟨b0, b1, b2⟩ := UM.three
  obtain ⟨fb0, fb1, fb2⟩ := UM.threeF
  clear V U UM VF UF DC
  go_wp2_with fail
  exact bodyPost_ret (v := .tuple #[decV n d x, decV m f y]) (by simp [results, Tryz.results4, go_sem, r0, r1, r2, s0, s1, s2]) rfl ⟨⟨n, d, x, m, f, y, rfl, d0, d1, f0, f1⟩, XF⟩
end Go.Proofs.YtfkihaihbaobeaaGreatDoor

