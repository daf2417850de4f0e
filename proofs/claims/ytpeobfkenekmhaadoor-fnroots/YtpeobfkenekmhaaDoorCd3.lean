/-
  What FnRoots draws: a number not below 0 mostly, a number and a power.
-/
import Derived.Test.YtpeobfkenekmhaaDoorCd1
import Derived.Test.YtpeobfkenekmhaaDoorCd2
namespace Go.Proofs.YtpeobfkenekmhaaDoor
open Go.RowKit

theorem mulS3 (na nb : Bool) (da ea db eb : Int) (w : World) :
    Calls Tryd.prog 15 #[.agg #[.bool na, .int .i64 da, .int .i64 ea], .agg #[.bool nb, .int .i64 db, .int .i64 eb]] w fun r w' => (∃ ok n d x, r = .returned (.agg #[.bool ok, .bool n, .int .i64 d, .int .i64 x]) ∧ 0 ≤ d ∧ d < 1000000000000000) ∧ Ext w w' := by
  refine (mulS na nb da ea db eb w).mono ?_
  rintro r w' ⟨rfl, E⟩
  refine ⟨⟨_, _, _, _, rfl, ?_⟩, E⟩
  unfold mulR
  split
  · exact put_d _ _ _ _
  · constructor <;> decide

/-- The last store into a result's cells, the reader of choices left behind. -/
theorem finD3 {a w : World} {g : Nat} {u0 u1 u2 : Value} (V : Vec w g [u0, u1, u2]) (O : Ext a w) (hg : a.heap.size ≤ g) (n : Bool) (d x : Int) :
    ∃ wy, ((w.setCell ⟨g, 0, none⟩ (.bool n)).setCell ⟨g, 1, none⟩ (.int .i64 d)).setCell ⟨g, 2, none⟩ (.int .i64 x) = wy ∧ Ext a wy ∧ (w.cell? ⟨g, 0, none⟩ = some u0 ∧ w.cell? ⟨g, 1, none⟩ = some u1 ∧ w.cell? ⟨g, 2, none⟩ = some u2) ∧ (w.frozen? ⟨g, 0, none⟩ = false ∧ w.frozen? ⟨g, 1, none⟩ = false ∧ w.frozen? ⟨g, 2, none⟩ = false) ∧ (wy.cell? ⟨g, 0, none⟩ = some (.bool n) ∧ wy.cell? ⟨g, 1, none⟩ = some (.int .i64 d) ∧ wy.cell? ⟨g, 2, none⟩ = some (.int .i64 x)) :=
  ⟨_, rfl, xset (p := ⟨g, 2, none⟩) (xset (p := ⟨g, 1, none⟩) (xset (p := ⟨g, 0, none⟩) O hg _) hg _) hg _, V.three, V.threeF, Vec.three (((V.put 0 (by simp) (.bool n)).put 1 (by simp) (.int .i64 d)).put 2 (by simp) (.int .i64 x))⟩

set_option maxRecDepth 8000 in
set_option maxHeartbeats 2000000 in
theorem drawPow (v : Value) (k : Nat) (w : World) (hc : CodeIn w w.heap.size v k) (hk : k ≤ 1048576) :
    Calls Tryd.prog 8 #[v] w fun e w' => (∃ n d x m, e = .returned (.tuple #[decV n d x, .int .i64 m]) ∧ -1000000000000000000 ≤ d ∧ d ≤ 1000000000000000000 ∧ -2000 ≤ m ∧ m ≤ 2000) ∧ Ext w w' := by
  have X0 := x1 w (.cells #[.bool false, .int .i64 0, .int .i64 0] 24)
  have V0 := vec_made w [.bool false, .int .i64 0, .int .i64 0] 24
  change Vec (w.alloc (.cells #[.bool false, .int .i64 0, .int .i64 0] 24)) _ _ at V0
  have hc1 : CodeIn (w.alloc (.cells #[.bool false, .int .i64 0, .int .i64 0] 24)) w.heap.size v k := hc.only (b := w.heap.size) (Only.of_ext X0) (Nat.le_refl _)
  have C0 := Cur.made (w.alloc (.cells #[.bool false, .int .i64 0, .int .i64 0] 24)) v k w.heap.size 38 hc1 hk (by rw [World.size_alloc]; omega)
  have X1 := x1 (w.alloc (.cells #[.bool false, .int .i64 0, .int .i64 0] 24)) (.cells #[v, .int .i64 0, .int .u64 0] 38)
  have V1 := V0.later X1
  rw [World.size_alloc] at C0
  have hv : ∃ p cap, v = .slice p k cap := by
    rcases hc with ⟨⟨p, cap, h⟩, rfl⟩ | ⟨pb, po, cap, _, h, _⟩
    · exact ⟨p, cap, h⟩
    · exact ⟨_, cap, h⟩
  have XW := xt X0 X1
  clear hc hc1 V0 X0 X1 hk
  obtain ⟨p, cap, rfl⟩ := hv
  go_enter Tryd.func8, Tryd.ntmps8
  go_wp2_with fail
  refine (decC (w.heap.size + 1) w.heap.size 0 _ C0 (by omega)).mono ?_
  rintro e w1 ⟨⟨n, d, x, rfl, d0, d1⟩, c1, o1⟩
  have V2 := o1.vecC (by omega) V1
  clear C0 V1
  go_wp2_with fail
  refine (oddC (w.heap.size + 1) w.heap.size _ n d x w1 c1 (by omega) d0 d1).mono ?_
  rintro e w2 ⟨⟨n, d, x, rfl, e0, e1⟩, c2, o2⟩
  have V3 := o2.vecC (by omega) V2
  have Y2 := x1 w2 (.cells #[.bool n, .int .i64 d, .int .i64 x] 24)
  have D3 := vec_made w2 [.bool n, .int .i64 d, .int .i64 x] 24
  change Vec (w2.alloc (.cells #[.bool n, .int .i64 d, .int .i64 x] 24)) _ _ at D3
  have c3 := c2.ext Y2
  have lt2 := c2.lt
  have V4 := V3.later Y2
  have O3 := (o1.trans o2).trans (Only.of_ext Y2)
  clear c1 c2 o1 o2 V2 V3 Y2 d0 d1
  go_wp2_with fail
  refine (pickC (w.heap.size + 1) w.heap.size _ 30 _ c3 (by omega) (by omega) (by omega)).mono ?_
  rintro e w3 ⟨u, rfl, ⟨u0, u1⟩, c4, o4⟩
  go_wp2_with fail
  refine (oneC (w.heap.size + 1) w.heap.size _ 4 w3 c4 (by omega) (by omega) (by omega)).mono ?_
  rintro e w4 ⟨bo, rfl, c5, o5⟩
  have O5 := (O3.trans o4).trans o5
  have V5 := (o4.trans o5).vecC (by omega) V4
  have D5 := (o4.trans o5).vecC (by omega) D3
  clear c3 c4 o4 o5 O3 V4 D3
  cases bo
  · obtain ⟨i0, i1, i2⟩ := D5.three
    obtain ⟨wy, hy, XF, ⟨a0, a1, a2⟩, ⟨f0, f1, f2⟩, g0, g1, g2⟩ := finD3 V5 (Only.ext XW O5 (by omega)) (Nat.le_refl _) n d x
    go_wp2_with fail
    exact bodyPost_ret (v := .tuple #[decV n d x, .int .i64 (u - 10)]) (by simp [results, Tryd.results8, go_sem, g0, g1, g2]) rfl ⟨⟨n, d, x, u - 10, rfl, e0, e1, by omega, by omega⟩, XF⟩
  · go_wp2_with fail
    refine (pickC (w.heap.size + 1) w.heap.size _ 2010 w4 c5 (by omega) (by omega) (by omega)).mono ?_
    rintro e w5 ⟨z, rfl, ⟨z0, z1⟩, c6, o6⟩
    have O6 := O5.trans o6
    have V6 := o6.vecC (by omega) V5
    have D6 := o6.vecC (by omega) D5
    clear V5 D5
    obtain ⟨i0, i1, i2⟩ := D6.three
    obtain ⟨wy, hy, XF, ⟨a0, a1, a2⟩, ⟨f0, f1, f2⟩, g0, g1, g2⟩ := finD3 V6 (Only.ext XW O6 (by omega)) (Nat.le_refl _) n d x
    go_wp2_with fail
    exact bodyPost_ret (v := .tuple #[decV n d x, .int .i64 (z - 1005)]) (by simp [results, Tryd.results8, go_sem, g0, g1, g2]) rfl ⟨⟨n, d, x, z - 1005, rfl, e0, e1, by omega, by omega⟩, XF⟩

set_option maxRecDepth 8000 in
set_option maxHeartbeats 2000000 in
theorem drawSqrt (v : Value) (k : Nat) (w : World) (hc : CodeIn w w.heap.size v k) (hk : k ≤ 1048576) :
    Calls Tryd.prog 4 #[v] w fun e w' => (∃ n d x, e = .returned (decV n d x) ∧ -1000000000000000000 ≤ d ∧ d ≤ 1000000000000000000) ∧ Ext w w' := by
  have X0 := x1 w (.cells #[.bool false, .int .i64 0, .int .i64 0] 24)
  have V0 := vec_made w [.bool false, .int .i64 0, .int .i64 0] 24
  change Vec (w.alloc (.cells #[.bool false, .int .i64 0, .int .i64 0] 24)) _ _ at V0
  have hc1 : CodeIn (w.alloc (.cells #[.bool false, .int .i64 0, .int .i64 0] 24)) w.heap.size v k := hc.only (b := w.heap.size) (Only.of_ext X0) (Nat.le_refl _)
  have C0 := Cur.made (w.alloc (.cells #[.bool false, .int .i64 0, .int .i64 0] 24)) v k w.heap.size 38 hc1 hk (by rw [World.size_alloc]; omega)
  have X1 := x1 (w.alloc (.cells #[.bool false, .int .i64 0, .int .i64 0] 24)) (.cells #[v, .int .i64 0, .int .u64 0] 38)
  have V1 := V0.later X1
  rw [World.size_alloc] at C0
  have hv : ∃ p cap, v = .slice p k cap := by
    rcases hc with ⟨⟨p, cap, h⟩, rfl⟩ | ⟨pb, po, cap, _, h, _⟩
    · exact ⟨p, cap, h⟩
    · exact ⟨_, cap, h⟩
  have XW := xt X0 X1
  clear hc hc1 V0 X0 X1 hk
  obtain ⟨p, cap, rfl⟩ := hv
  go_enter Tryd.func4, Tryd.ntmps4
  go_wp2_with fail
  refine (decC (w.heap.size + 1) w.heap.size 0 _ C0 (by omega)).mono ?_
  rintro e w1 ⟨⟨n, d, x, rfl, d0, d1⟩, c1, o1⟩
  have V2 := o1.vecC (by omega) V1
  clear C0 V1
  go_wp2_with fail
  refine (oddC (w.heap.size + 1) w.heap.size _ n d x w1 c1 (by omega) d0 d1).mono ?_
  rintro e w2 ⟨⟨n, d, x, rfl, e0, e1⟩, c2, o2⟩
  have V3 := o2.vecC (by omega) V2
  have Y2 := x1 w2 (.cells #[.bool n, .int .i64 d, .int .i64 x] 24)
  have D3 := vec_made w2 [.bool n, .int .i64 d, .int .i64 x] 24
  change Vec (w2.alloc (.cells #[.bool n, .int .i64 d, .int .i64 x] 24)) _ _ at D3
  have c3 := c2.ext Y2
  have lt2 := c2.lt
  have V4 := V3.later Y2
  have O3 := (o1.trans o2).trans (Only.of_ext Y2)
  clear c1 c2 o1 o2 V2 V3 Y2 d0 d1
  go_wp2_with fail
  refine (oneC (w.heap.size + 1) w.heap.size _ 3 _ c3 (by omega) (by omega) (by omega)).mono ?_
  rintro e w4 ⟨bo, rfl, c5, o5⟩
  have O5 := O3.trans o5
  have V5 := o5.vecC (by omega) V4
  have D5 := o5.vecC (by omega) D3
  clear c3 o5 O3 V4 D3
  cases bo
  · go_wp2_with fail
    refine (oneC (w.heap.size + 1) w.heap.size _ 4 _ c5 (by omega) (by omega) (by omega)).mono ?_
    rintro e w6 ⟨bo, rfl, c7, o7⟩
    have O7 := O5.trans o7
    have V7 := o7.vecC (by omega) V5
    have D7 := o7.vecC (by omega) D5
    have l7 : w2.heap.size < w6.heap.size := World.block_lt_of_cell? _ _ D7.three.1
    clear o7 V5 D5 c5 O5
    cases bo
    · obtain ⟨i0, i1, i2⟩ := D7.three
      obtain ⟨j0, j1, j2⟩ := D7.threeF
      obtain ⟨wz, hz⟩ : ∃ wz, w6.setCell ⟨w2.heap.size, 0, none⟩ (.bool false) = wz := ⟨_, rfl⟩
      have Vz : Vec wz w.heap.size [.bool false, .int .i64 0, .int .i64 0] := by rw [← hz]; exact V7.far (by show w2.heap.size ≠ w.heap.size; omega) _
      have Dz : Vec wz w2.heap.size [.bool false, .int .i64 d, .int .i64 x] := by rw [← hz]; exact D7.put 0 (by simp) _
      have Xz : Ext w wz := by rw [← hz]; exact xset (p := ⟨w2.heap.size, 0, none⟩) (Only.ext XW O7 (by omega)) (by show w.heap.size ≤ w2.heap.size; omega) _
      obtain ⟨k0, k1, k2⟩ := Dz.three
      obtain ⟨wy, hy, XF, ⟨a0, a1, a2⟩, ⟨f0, f1, f2⟩, g0, g1, g2⟩ := finD3 Vz Xz (Nat.le_refl _) false d x
      go_wp2_with fail
      exact bodyPost_ret (v := decV false d x) (by simp [results, Tryd.results4, go_sem, g0, g1, g2]) rfl ⟨⟨false, d, x, rfl, e0, e1⟩, XF⟩
    · obtain ⟨i0, i1, i2⟩ := D7.three
      obtain ⟨wy, hy, XF, ⟨a0, a1, a2⟩, ⟨f0, f1, f2⟩, g0, g1, g2⟩ := finD3 V7 (Only.ext XW O7 (by omega)) (Nat.le_refl _) n d x
      go_wp2_with fail
      exact bodyPost_ret (v := decV n d x) (by simp [results, Tryd.results4, go_sem, g0, g1, g2]) rfl ⟨⟨n, d, x, rfl, e0, e1⟩, XF⟩
  · obtain ⟨i0, i1, i2⟩ := D5.three
    go_wp2_with fail
    refine (mulS3 n n d x d x _).mono ?_
    rintro e w5 ⟨⟨ok, nm, dm, xm, rfl, m0, m1⟩, E⟩
    have Y5 := x1 w5 (.cells #[.bool ok, .bool nm, .int .i64 dm, .int .i64 xm] 27)
    have R5 := vec_made w5 [.bool ok, .bool nm, .int .i64 dm, .int .i64 xm] 27
    change Vec (w5.alloc (.cells #[.bool ok, .bool nm, .int .i64 dm, .int .i64 xm] 27)) _ _ at R5
    have O5 := O5.trans (Only.of_ext (xt E Y5))
    have V5 := V5.later (xt E Y5)
    have D5 := D5.later (xt E Y5)
    have c5 := c5.ext (xt E Y5)
    have l5 := D5.three.1
    have lw : w2.heap.size < w5.heap.size := by
      have : w2.heap.size < w4.heap.size := World.block_lt_of_cell? _ _ i0
      have := E.size
      omega
    clear i0 i1 i2 E Y5 l5
    obtain ⟨r0, r1, r2, r3⟩ := R5.four
    obtain ⟨w6, hw6⟩ : ∃ u, w5.alloc (.cells #[.bool ok, .bool nm, .int .i64 dm, .int .i64 xm] 27) = u := ⟨_, rfl⟩
    rw [hw6] at O5 V5 D5 c5 R5 r0 r1 r2 r3
    cases ok
    · go_wp2_with fail
      clear hw6
      refine (oneC (w.heap.size + 1) w.heap.size _ 4 _ c5 (by omega) (by omega) (by omega)).mono ?_
      rintro e w7 ⟨bo, rfl, c7, o7⟩
      have O7 := O5.trans o7
      have V7 := o7.vecC (by omega) V5
      have D7 := o7.vecC (by omega) D5
      have l7 : w2.heap.size < w7.heap.size := World.block_lt_of_cell? _ _ D7.three.1
      clear o7 V5 D5 c5 O5 R5 r0 r1 r2 r3
      cases bo
      · obtain ⟨i0, i1, i2⟩ := D7.three
        obtain ⟨j0, j1, j2⟩ := D7.threeF
        obtain ⟨wz, hz⟩ : ∃ wz, w7.setCell ⟨w2.heap.size, 0, none⟩ (.bool false) = wz := ⟨_, rfl⟩
        have Vz : Vec wz w.heap.size [.bool false, .int .i64 0, .int .i64 0] := by rw [← hz]; exact V7.far (by show w2.heap.size ≠ w.heap.size; omega) _
        have Dz : Vec wz w2.heap.size [.bool false, .int .i64 d, .int .i64 x] := by rw [← hz]; exact D7.put 0 (by simp) _
        have Xz : Ext w wz := by rw [← hz]; exact xset (p := ⟨w2.heap.size, 0, none⟩) (Only.ext XW O7 (by omega)) (by show w.heap.size ≤ w2.heap.size; omega) _
        obtain ⟨k0, k1, k2⟩ := Dz.three
        obtain ⟨wy, hy, XF, ⟨a0, a1, a2⟩, ⟨f0, f1, f2⟩, g0, g1, g2⟩ := finD3 Vz Xz (Nat.le_refl _) false d x
        go_wp2_with fail
        exact bodyPost_ret (v := decV false d x) (by simp [results, Tryd.results4, go_sem, g0, g1, g2]) rfl ⟨⟨false, d, x, rfl, e0, e1⟩, XF⟩
      · obtain ⟨i0, i1, i2⟩ := D7.three
        obtain ⟨wy, hy, XF, ⟨a0, a1, a2⟩, ⟨f0, f1, f2⟩, g0, g1, g2⟩ := finD3 V7 (Only.ext XW O7 (by omega)) (Nat.le_refl _) n d x
        go_wp2_with fail
        exact bodyPost_ret (v := decV n d x) (by simp [results, Tryd.results4, go_sem, g0, g1, g2]) rfl ⟨⟨n, d, x, rfl, e0, e1⟩, XF⟩
    · obtain ⟨wy, hy, XF, ⟨a0, a1, a2⟩, ⟨f0, f1, f2⟩, g0, g1, g2⟩ := finD3 V5 (Only.ext XW O5 (by omega)) (Nat.le_refl _) nm dm xm
      go_wp2_with fail
      exact bodyPost_ret (v := decV nm dm xm) (by simp [results, Tryd.results4, go_sem, g0, g1, g2]) rfl ⟨⟨nm, dm, xm, rfl, by omega, by omega⟩, XF⟩

end Go.Proofs.YtpeobfkenekmhaaDoor

