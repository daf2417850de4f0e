/-
  Several texts in one: PutZ, MuI, WideE.
-/
import Derived.Test.YtpeobfkenekmhaaDoorPutS
import Derived.Test.YtpeobfkenekmhaaDoorMg20
import Derived.Test.YtpeobfkenekmhaaDoorMg21
import Derived.Deep.RegionHeld3
namespace Go.Proofs.YtpeobfkenekmhaaDoor
open Go.RowKit

theorem put_zero (sg : Bool) (e : Int) (more : Bool) : putR sg 0 e more = ⟨true, false, 0, 0⟩ := by
  unfold putR
  rw [nd_zero, if_neg (by decide)]
  unfold fitR
  rw [if_pos rfl]

set_option maxRecDepth 4000 in
set_option maxHeartbeats 2000000 in
theorem putS0 {v : Value} (e : Int) (more : Bool) (w : World) (h : ZV w v 0) :
    Calls Tryd.prog 28 #[v, .int .i64 e, .bool more] w fun r w' => r = .returned (.agg #[.bool true, .bool false, .int .i64 0, .int .i64 0]) ∧ Ext w w' := by
  obtain ⟨c0, c1, pa, na, ca, rfl⟩ := h.shape
  have NA : Hid (∀ w2, Ext w w2 → Calls Tryd.prog 48 #[.agg #[.int .i64 c0, .bool c1, .slice pa na ca]] w2 fun e w' => e = .returned (.bool false) ∧ Ext w2 w') := fun w2 x => neg_is false w2 (by decide) (h.later x)
  have AB : Hid (∀ w2, Ext w w2 → Calls Tryd.prog 55 #[.agg #[.int .i64 c0, .bool c1, .slice pa na ca]] w2 fun e w' => ∃ z0 z1 p n c, e = .returned (.agg #[.int .i64 z0, .bool z1, .slice p n c]) ∧ ZV w' (.agg #[.int .i64 z0, .bool z1, .slice p n c]) 0 ∧ Ext w2 w') := fun w2 x => by
    refine (abs_any w2 (h.later x)).mono ?_
    rintro e w' ⟨v', rfl, hz, hx⟩
    obtain ⟨z0, z1, p, n, c, rfl⟩ := hz.shape
    exact ⟨z0, z1, p, n, c, rfl, hz, hx⟩
  have DG : Hid (∀ (w2 : World) (v : Value), ZV w2 v 0 → Calls Tryd.prog 50 #[v] w2 fun e w' => e = .returned (.int .i64 1) ∧ Ext w2 w') := fun w2 v hv => digits_any w2 hv (by decide) 1 (by decide) (by decide)
  have ZR : Hid (∀ (w2 : World) (v : Value), ZV w2 v 0 → Calls Tryd.prog 49 #[v] w2 fun e w' => e = .returned (.bool true) ∧ Ext w2 w') := fun w2 v hv => zero_any w2 hv
  have Ba := (Box3.made w (.int .i64 c0) (.bool c1) (.slice pa na ca) 52).later (x1 _ (.cells #[.bool false, .bool false, .int .i64 0, .int .i64 0] 27))
  have Br := Box4.made (w.alloc (.cells #[.int .i64 c0, .bool c1, .slice pa na ca] 52)) (.bool false) (.bool false) (.int .i64 0) (.int .i64 0) 27
  have X0 := xa (x1 w (.cells #[.int .i64 c0, .bool c1, .slice pa na ca] 52)) (.cells #[.bool false, .bool false, .int .i64 0, .int .i64 0] 27)
  simp only [World.size_alloc] at Br
  clear h
  go_enter Tryd.func28, Tryd.ntmps28
  go_wp2_with fail
  refine (NA.out _ X0).mono ?_
  rintro r w1 ⟨rfl, x1'⟩
  have Ba' := Ba.later x1'
  obtain ⟨⟨p0, p1, p2⟩, _⟩ := Ba'
  go_wp2_with fail
  refine (AB.out _ (xt X0 x1')).mono ?_
  rintro r w2 ⟨z0, z1, z2, z3, z4, rfl, hz2, x2'⟩
  have B2 := (Ba.later x1').later x2'
  have ZP : ZIn (set3 w2 w.heap.size (.int .i64 z0) (.bool z1) (.slice z2 z3 z4)) w.heap.size 0 := ⟨_, _, _, _, _, B2.put _ _ _, hz2.set3 B2 _ _ _⟩
  have X2 := Ext.set3 (xt (xt X0 x1') x2') (b := w.heap.size) (Nat.le_refl _) (.int .i64 z0) (.bool z1) (.slice z2 z3 z4)
  have Br2 := (Br.later x1').later x2'
  have Br3 := ((Br2.far (p := ⟨w.heap.size, 0, none⟩) (show w.heap.size ≠ w.heap.size + 1 by omega) (.int .i64 z0)).far (p := ⟨w.heap.size, 1, none⟩) (show w.heap.size ≠ w.heap.size + 1 by omega) (.bool z1)).far (p := ⟨w.heap.size, 2, none⟩) (show w.heap.size ≠ w.heap.size + 1 by omega) (.slice z2 z3 z4)
  obtain ⟨⟨g0, g1, g2⟩, h0, h1, h2⟩ := B2
  obtain ⟨u2, hu2⟩ : ∃ u, set3 w2 w.heap.size (.int .i64 z0) (.bool z1) (.slice z2 z3 z4) = u := ⟨_, rfl⟩
  rw [hu2] at ZP X2
  unfold set3 at hu2
  rw [hu2] at Br3
  obtain ⟨y0, y1, y2, y3, y4, ⟨⟨i0, i1, i2⟩, _⟩, hy⟩ := ZP
  clear hz2 NA AB Ba Br Br2 X0 x1' x2' p0 p1 p2
  go_wp2_with fail
  refine (DG.out _ _ hy).mono ?_
  rintro r w3 ⟨rfl, x3'⟩
  replace Br3 := Br3.later x3'
  replace X2 := xt X2 x3'
  have hy3 := hy.later x3'
  have i3 := cell_later x3' i0
  have i4 := cell_later x3' i1
  have i5 := cell_later x3' i2
  clear hy g0 g1 g2 h0 h1 h2 hu2 DG x3' i0 i1 i2
  go_wp2_with fail
  refine (ZR.out _ _ hy3).mono ?_
  rintro r w4 ⟨rfl, x4'⟩
  replace Br3 := Br3.later x4'
  replace X2 := xt X2 x4'
  have hy4 := hy3.later x4'
  replace i3 := cell_later x4' i3
  replace i4 := cell_later x4' i4
  replace i5 := cell_later x4' i5
  clear hy3 x4'
  go_wp2_with fail
  refine (ZR.out _ _ hy4).mono ?_
  rintro r w5 ⟨rfl, x5'⟩
  obtain ⟨⟨m0, m1, m2, m3⟩, n0, n1, n2, n3⟩ := Br3.later x5'
  have XD := xt X2 x5'
  clear i3 i4 i5 hy4
  go_wp2_with fail
  exact bodyPost_ret (v := .agg #[.bool true, .bool false, .int .i64 0, .int .i64 0]) (by simp [results, Tryd.results28, go_sem, m0, m1, m2, m3]) rfl ⟨rfl, xset (xset (xset (xset XD (Nat.le_succ _) _) (Nat.le_succ _) _) (Nat.le_succ _) _) (Nat.le_succ _) _⟩

/-- l1Put, whatever it is put. -/
theorem put_spec {v : Value} {z : Int} (e : Int) (more : Bool) (w : World) (h : ZV w v z) (k : Nat) (hk : k ≤ 1000) (kz : (z.natAbs : Int) < 1000000000 ^ k) (e0 : -50000 ≤ e) (e1 : e ≤ 50000) (sg : Bool) (P : Nat) (hP : z.natAbs = P) (hs : z ≠ 0 → decide (z < 0) = sg) :
    Calls Tryd.prog 28 #[v, .int .i64 e, .bool more] w fun r w' => r = .returned (resV (putR sg P e more)) ∧ Ext w w' := by
  by_cases hz : z = 0
  · subst hz
    have : P = 0 := by rw [← hP]; rfl
    subst this
    rw [put_zero]
    exact putS0 e more w h
  · have := putS e more w h hz k hk kz e0 e1
    rw [hP, hs hz] at this
    exact this

/-- Four cells stored. -/
theorem Box4.put4 {w : World} {b : Nat} {v0 v1 v2 v3 : Value} (h : Box4 w b v0 v1 v2 v3) (u0 u1 u2 u3 : Value) : Box4 ((((w.setCell ⟨b, 0, none⟩ u0).setCell ⟨b, 1, none⟩ u1).setCell ⟨b, 2, none⟩ u2).setCell ⟨b, 3, none⟩ u3) b u0 u1 u2 u3 := by
  obtain ⟨⟨h0, h1, h2, h3⟩, f0, f1, f2, f3⟩ := h
  refine ⟨⟨?_, ?_, ?_, ?_⟩, ?_, ?_, ?_, ?_⟩ <;> simp [go_sem, h0, h1, h2, h3, f0, f1, f2, f3]

def badR : DR := ⟨false, false, 0, 0⟩
/-- What DecMul answers. -/
def mulR (na : Bool) (da ea : Int) (nb : Bool) (db eb : Int) : DR := if (goodB na da ea && goodB nb db eb) = true then putR (na != nb) (da.toNat * db.toNat) (ea + eb) false else badR
/-- What DecOf answers. -/
def ofR (d e : Int) : DR := if -1000 ≤ e ∧ e ≤ 1000 then putR (decide (d < 0)) d.natAbs e false else badR

set_option maxRecDepth 4000 in
set_option maxHeartbeats 2000000 in
theorem mulI (na nb : Bool) (da ea db eb : Int) (w : World) (a1 : -9223372036854775808 ≤ da) (a2 : da ≤ 9223372036854775807) (b1 : -9223372036854775808 ≤ db) (b2 : db ≤ 9223372036854775807) (hT : Tens w) :
    Calls Tryd.prog 11 #[.agg #[.bool na, .int .i64 da, .int .i64 ea], .agg #[.bool nb, .int .i64 db, .int .i64 eb]] w fun r w' => r = .returned (resV (mulR na da ea nb db eb)) ∧ Ext w w' := by
  obtain ⟨R, hR⟩ : ∃ R, mulR na da ea nb db eb = R := ⟨_, rfl⟩
  rw [hR]
  have X0 := xa (xa (x1 w (.cells #[.bool na, .int .i64 da, .int .i64 ea] 24)) (.cells #[.bool nb, .int .i64 db, .int .i64 eb] 24)) (.cells #[.bool false, .bool false, .int .i64 0, .int .i64 0] 27)
  have Ba := (Box3.made w (.bool na) (.int .i64 da) (.int .i64 ea) 24).later (xa (x1 _ (.cells #[.bool nb, .int .i64 db, .int .i64 eb] 24)) (.cells #[.bool false, .bool false, .int .i64 0, .int .i64 0] 27))
  have Bb := (Box3.made (w.alloc (.cells #[.bool na, .int .i64 da, .int .i64 ea] 24)) (.bool nb) (.int .i64 db) (.int .i64 eb) 24).later (x1 _ (.cells #[.bool false, .bool false, .int .i64 0, .int .i64 0] 27))
  have Br := Box4.made ((w.alloc (.cells #[.bool na, .int .i64 da, .int .i64 ea] 24)).alloc (.cells #[.bool nb, .int .i64 db, .int .i64 eb] 24)) (.bool false) (.bool false) (.int .i64 0) (.int .i64 0) 27
  simp only [World.size_alloc] at Bb Br
  have T := hT.later X0
  clear hT
  go_enter Tryd.func11, Tryd.ntmps11
  go_wp2_with fail
  cases ga : goodB na da ea
  · have HR : Hid (R = ⟨false, false, 0, 0⟩) := by rw [← hR]; unfold mulR; rw [ga]; rfl
    refine (goodI_is false na da ea _ a1 a2 T ga).mono ?_
    rintro r w1 ⟨rfl, x1'⟩
    obtain ⟨⟨m0, m1, m2, m3⟩, n0, n1, n2, n3⟩ := Br.later x1'
    clear ga hR
    go_wp2_with fail
    exact bodyPost_ret (v := .agg #[.bool false, .bool false, .int .i64 0, .int .i64 0]) (by simp [results, Tryd.results11, go_sem, m0, m1, m2, m3]) rfl ⟨by rw [HR.out], xset (xset (xset (xset (xt X0 x1') (by simp only; omega) _) (by simp only; omega) _) (by simp only; omega) _) (by simp only; omega) _⟩
  · refine (goodI_is true na da ea _ a1 a2 T ga).mono ?_
    rintro r w1 ⟨rfl, x1'⟩
    have Bb1 := Bb.later x1'
    have Bb1' := Bb1
    obtain ⟨⟨q0, q1, q2⟩, _⟩ := Bb1'
    go_wp2_with fail
    cases gb : goodB nb db eb
    · have HR : Hid (R = ⟨false, false, 0, 0⟩) := by rw [← hR]; unfold mulR; rw [ga, gb]; rfl
      refine (goodI_is false nb db eb _ b1 b2 (T.later x1') gb).mono ?_
      rintro r w2 ⟨rfl, x2'⟩
      obtain ⟨⟨m0, m1, m2, m3⟩, n0, n1, n2, n3⟩ := (Br.later x1').later x2'
      clear ga gb hR q0 q1 q2
      go_wp2_with fail
      exact bodyPost_ret (v := .agg #[.bool false, .bool false, .int .i64 0, .int .i64 0]) (by simp [results, Tryd.results11, go_sem, m0, m1, m2, m3]) rfl ⟨by rw [HR.out], xset (xset (xset (xset (xt (xt X0 x1') x2') (by simp only; omega) _) (by simp only; omega) _) (by simp only; omega) _) (by simp only; omega) _⟩
    · refine (goodI_is true nb db eb _ b1 b2 (T.later x1') gb).mono ?_
      rintro r w2 ⟨rfl, x2'⟩
      obtain ⟨ga0, ga1, ga2, ga3⟩ := good_bd ga
      obtain ⟨gb0, gb1, gb2, gb3⟩ := good_bd gb
      have HR : Hid (putR (na != nb) (da.toNat * db.toNat) (ea + eb) false = R) := by rw [← hR]; unfold mulR; rw [ga, gb]; rfl
      obtain ⟨A, rfl⟩ := Int.eq_ofNat_of_zero_le ga0
      obtain ⟨B, rfl⟩ := Int.eq_ofNat_of_zero_le gb0
      simp only [Int.toNat_natCast] at HR
      have PR : Hid (∀ w2, Calls Tryd.prog 22 #[.int .u64 A, .int .u64 B] w2 fun e w' => ∃ h l : Nat, e = .returned (.agg #[.int .u64 h, .int .u64 l]) ∧ WV (.agg #[.int .u64 h, .int .u64 l]) (A * B) ∧ Ext w2 w') := fun w2 => by
        refine (product_any A B (by omega) (by omega) w2).mono ?_
        rintro e w' ⟨v, rfl, hv, hx⟩
        have hv' := hv
        obtain ⟨h, l, rfl, _⟩ := hv'
        exact ⟨h, l, rfl, hv, hx⟩
      have PU : Hid (∀ w2 h l, Tens w2 → WV (.agg #[.int .u64 h, .int .u64 l]) (A * B) → Calls Tryd.prog 21 #[.bool (na != nb), .agg #[.int .u64 h, .int .u64 l], .int .i64 (ea + eb), .bool false] w2 fun r w' => r = .returned (resV R) ∧ Ext w2 w') := fun w2 h l hT hv => by
        rw [← HR.out]; exact put_any _ _ _ w2 hv (by omega) (by omega) hT
      have wA : IntKind.u64.wrap (A : Int) = (A : Int) := by rw [IntKind.wrap_u64]; omega
      have wB : IntKind.u64.wrap (B : Int) = (B : Int) := by rw [IntKind.wrap_u64]; omega
      have wE : IntKind.i64.wrap (ea + eb) = ea + eb := by rw [IntKind.wrap_i64]; omega
      have Ba2 := (Ba.later x1').later x2'
      have Bb2 := Bb1.later x2'
      have Br2 := (Br.later x1').later x2'
      have T2 := (T.later x1').later x2'
      have X2 := xt (xt X0 x1') x2'
      have Ba2' := Ba2
      have Bb2' := Bb2
      obtain ⟨⟨p0, p1, p2⟩, _⟩ := Ba2'
      obtain ⟨⟨p3, p4, p5⟩, _⟩ := Bb2'
      have xn : ((na != nb)) = !(na == nb) := rfl
      clear ga gb hR q0 q1 q2 Ba Bb Bb1 Br T X0 x1' x2' a1 a2 b1 b2 ga0 gb0 HR xn
      have nz0 : w.heap.size + 1 + 1 ≠ w.heap.size := by omega
      have nz1 : w.heap.size + 1 + 1 ≠ w.heap.size + 1 := by omega
      go_upto_region 3 with fail
      go_region_held3 (fun w' => (w'.cell? ⟨w.heap.size, 0, none⟩ = some (.bool na) ∧ w'.cell? ⟨w.heap.size, 1, none⟩ = some (.int .i64 A) ∧ w'.cell? ⟨w.heap.size, 2, none⟩ = some (.int .i64 ea)) ∧ w'.cell? ⟨w.heap.size + 1, 0, none⟩ = some (.bool nb) ∧ w'.cell? ⟨w.heap.size + 1, 1, none⟩ = some (.int .i64 B) ∧ w'.cell? ⟨w.heap.size + 1, 2, none⟩ = some (.int .i64 eb)) (go_keep) (first
        | (go_at_call 22; refine (PR.out _).mono ?_; rintro r w3 ⟨h, l, rfl, hW, e3⟩; have X3 : Ext w2 w3 := xt (xd (xr _)) e3; obtain ⟨⟨a30, a31, a32⟩, _⟩ := Ba2.later X3; obtain ⟨⟨b30, b31, b32⟩, _⟩ := Bb2.later X3)
        | (go_at_call 21; refine (PU.out _ _ _ (T2.later X3) hW).mono ?_; rintro r w4 ⟨rfl, e4⟩; have X4 : Ext w2 w4 := xt X3 e4; obtain ⟨⟨a40, a41, a42⟩, _⟩ := Ba2.later X4; obtain ⟨⟨b40, b41, b42⟩, _⟩ := Bb2.later X4; obtain ⟨⟨m0, m1, m2, m3⟩, n0, n1, n2, n3⟩ := Br2.later X4))
      all_goals
        go_wp2_with fail
        exact bodyPost_ret (v := resV R) (by simp [results, Tryd.results11, go_sem, m0, m1, m2, m3]) rfl ⟨rfl, xset (xset (xset (xset (xt X2 X4) (by simp only; omega) _) (by simp only; omega) _) (by simp only; omega) _) (by simp only; omega) _⟩

set_option maxRecDepth 4000 in
set_option maxHeartbeats 1000000 in
theorem within_any (n m : Int) (c : Bool) (w : World) (hc : decide (-m ≤ n ∧ n ≤ m) = c) (m0 : 0 ≤ m) (m1 : m ≤ 100000) :
    Calls Tryd.prog 30 #[.int .i64 n, .int .i64 m] w fun r w' => r = .returned (.bool c) ∧ w' = w := by
  have H : Hid (∀ b : Bool, (b = true ↔ -m ≤ n ∧ n ≤ m) → b = c) := fun b hb => by
    rw [← hc, Bool.eq_iff_iff, decide_eq_true_eq]; exact hb
  clear hc
  by_cases h1 : -m ≤ n
  · go_enter Tryd.func30, Tryd.ntmps30
    go_wp2
    all_goals go_ret
    all_goals exact ⟨ret_bool (H.out _ (by simp [h1])), rfl⟩
  · have h1' : n < -m := by omega
    go_enter Tryd.func30, Tryd.ntmps30
    go_wp2
    all_goals go_ret
    all_goals exact ⟨ret_bool (H.out _ (by simp; omega)), rfl⟩

set_option maxHeartbeats 2000000 in
theorem raised_any {v : Value} {a : Nat} (n : Nat) (hn : n ≤ 38) (w : World) (hv : WV v a) (hT : Tens w) (hlt : a * 10 ^ n < 340282366920938463463374607431768211456) :
    Calls Tryd.prog 19 #[v, .int .i64 n] w fun e w' => ∃ v', e = .returned v' ∧ WV v' (a * 10 ^ n) ∧ Ext w w' := by
  have hv' := hv
  obtain ⟨h, l, rfl, h1, h2, e1⟩ := hv
  clear e1
  have nt1 : ¬ w.heap.size + 1 = 0 := by
    obtain ⟨_, _, _, c⟩ := hT.at (i := 0) (by omega)
    have := World.block_lt_of_cell? _ _ c
    dsimp only at this
    omega
  (try simp at nt1)
  have hT2 := hT.later (xa (x1 w (.cells #[.int .u64 h, .int .u64 l] 43)) (.cells #[.int .u64 0, .int .u64 0] 43))
  by_cases h19 : n ≤ 19
  · obtain ⟨t, et, t1, ct⟩ := hT2.at (i := n) (by omega)
    obtain ⟨u, eu, u1, cu⟩ := hT2.at (i := 0) (by omega)
    have HU : Hid (u = 1) := by rw [← eu]; rfl
    have HP : Hid (a * t * u = a * 10 ^ n) := by rw [HU.out, ← et, Nat.mul_one]; rfl
    have H1 : Hid (a * t < 340282366920938463463374607431768211456) := by rw [← et]; exact hlt
    have H2 : Hid (a * t * u < 340282366920938463463374607431768211456) := by rw [HP.out]; exact hlt
    have B := ((Box2.made w (.int .u64 h) (.int .u64 l) 43).later (x1 _ (.cells #[.int .u64 0, .int .u64 0] 43)))
    have Br := (Box2.made (w.alloc (.cells #[.int .u64 h, .int .u64 l] 43)) (.int .u64 0) (.int .u64 0) 43)
    simp only [World.size_alloc] at Br
    have hm1 : (if (19 : Int) < (n : Int) then (19 : Int) else (n : Int)) = (n : Int) := if_neg (by omega)
    have hm2 : (if (n : Int) - 19 < 0 then (0 : Int) else (n : Int) - 19) = 0 := by split <;> omega
    have i0 : (0 : Int) ≤ (n : Int) := by omega
    have i1 : (n : Int) < 20 := by omega
    have hm3 : (if (n : Int) < 19 then (0 : Int) else (n : Int) - 19) = 0 := by split <;> omega
    have hw : IntKind.i64.wrap ((n : Int) - 19) = (n : Int) - 19 := by rw [IntKind.wrap_i64]; omega
    obtain ⟨⟨q0, q1⟩, _⟩ := B
    clear et eu hT hlt hT2
    go_enter Tryd.func19, Tryd.ntmps19
    go_wp2_with fail
    go_region_held3 (fun w' => (w'.cell? ⟨w.heap.size, 0, none⟩ = some (.int .u64 h) ∧ w'.cell? ⟨w.heap.size, 1, none⟩ = some (.int .u64 l)) ∧ w'.cell? ⟨0, n, none⟩ = some (.int .u64 t) ∧ w'.cell? ⟨0, 0, none⟩ = some (.int .u64 u)) (go_keep)
      (first
        | (go_at_call_of 38 (Value.int .u64 t); refine (times_any t _ hv' t1 H1.out).mono ?_; rintro e w1 ⟨v1, rfl, hv1, e1⟩; have c1 := cell_later (xt (xd (xr _)) e1) ct; have c2 := cell_later (xt (xd (xr _)) e1) cu; have c3 := cell_later (xt (xd (xr _)) e1) q0; have c4 := cell_later (xt (xd (xr _)) e1) q1)
        | (go_at_call 38; refine (times_any u _ (by assumption) u1 H2.out).mono ?_; rintro e w2 ⟨v2, rfl, hv2, e2⟩; have d1 := cell_later e2 c1; have d2 := cell_later e2 c2; have d3 := cell_later e2 c3; have d4 := cell_later e2 c4; obtain ⟨h', l', rfl, h1', h2', h3'⟩ := hv2; have H3 : Hid (h' * 18446744073709551616 + l' = a * t * u) := h3'; clear h3'; have X2 := xt (xt (xd (xr _)) e1) e2; obtain ⟨⟨r0, r1⟩, s0, s1⟩ := Br.later X2))
    all_goals
      go_wp2
      exact bodyPost_ret (v := .agg #[.int .u64 h', .int .u64 l']) (by simp [results, Tryd.results19, go_sem, r0, r1]) rfl
        ⟨_, rfl, ⟨h', l', rfl, h1', h2', H3.out.trans HP.out⟩, xset (xset (xt (xa (x1 _ _) _) X2) (Nat.le_succ _) _) (Nat.le_succ _) _⟩
  · obtain ⟨j, rfl⟩ : ∃ j, n = j + 19 := ⟨n - 19, by omega⟩
    obtain ⟨t, et, t1, ct⟩ := hT2.at (i := 19) (by omega)
    obtain ⟨u, eu, u1, cu⟩ := hT2.at (i := j) (by omega)
    have HP : Hid (a * t * u = a * 10 ^ (j + 19)) := by rw [← et, ← eu, Nat.mul_assoc, ← Nat.pow_add, Nat.add_comm 19 j]; rfl
    have H2 : Hid (a * t * u < 340282366920938463463374607431768211456) := by rw [HP.out]; exact hlt
    have H1 : Hid (a * t < 340282366920938463463374607431768211456) := Nat.lt_of_le_of_lt (Nat.le_mul_of_pos_right _ (by rw [← eu]; exact Nat.pow_pos (by decide))) H2.out
    have B := ((Box2.made w (.int .u64 h) (.int .u64 l) 43).later (x1 _ (.cells #[.int .u64 0, .int .u64 0] 43)))
    have Br := (Box2.made (w.alloc (.cells #[.int .u64 h, .int .u64 l] 43)) (.int .u64 0) (.int .u64 0) 43)
    simp only [World.size_alloc] at Br
    have ej : ((j + 19 : Nat) : Int) = (j : Int) + 19 := by omega
    rw [ej]
    have hj : 0 < j := by omega
    have hm1 : (if (19 : Int) < (j : Int) + 19 then (19 : Int) else (j : Int) + 19) = 19 := if_pos (by omega)
    have hm2 : (if (j : Int) < 0 then (0 : Int) else (j : Int)) = (j : Int) := if_neg (by omega)
    have hm3 : (if (0 : Int) < (j : Int) then (19 : Int) else (j : Int) + 19) = 19 := if_pos (by omega)
    have hm4 : (if 0 < j then (19 : Int) else (j : Int) + 19) = 19 := if_pos hj
    have i0 : (0 : Int) ≤ (j : Int) := by omega
    have i1 : (j : Int) < 20 := by omega
    have hw : IntKind.i64.wrap (j : Int) = (j : Int) := by rw [IntKind.wrap_i64]; omega
    obtain ⟨⟨q0, q1⟩, _⟩ := B
    clear et eu hT hlt hT2 ej
    go_enter Tryd.func19, Tryd.ntmps19
    go_wp2_with fail
    go_region_held3 (fun w' => (w'.cell? ⟨w.heap.size, 0, none⟩ = some (.int .u64 h) ∧ w'.cell? ⟨w.heap.size, 1, none⟩ = some (.int .u64 l)) ∧ w'.cell? ⟨0, 19, none⟩ = some (.int .u64 t) ∧ w'.cell? ⟨0, j, none⟩ = some (.int .u64 u)) (go_keep)
      (first
        | (go_at_call_of 38 (Value.int .u64 t); refine (times_any t _ hv' t1 H1.out).mono ?_; rintro e w1 ⟨v1, rfl, hv1, e1⟩; have c1 := cell_later (xt (xd (xr _)) e1) ct; have c2 := cell_later (xt (xd (xr _)) e1) cu; have c3 := cell_later (xt (xd (xr _)) e1) q0; have c4 := cell_later (xt (xd (xr _)) e1) q1)
        | (go_at_call 38; refine (times_any u _ (by assumption) u1 H2.out).mono ?_; rintro e w2 ⟨v2, rfl, hv2, e2⟩; have d1 := cell_later e2 c1; have d2 := cell_later e2 c2; have d3 := cell_later e2 c3; have d4 := cell_later e2 c4; obtain ⟨h', l', rfl, h1', h2', h3'⟩ := hv2; have H3 : Hid (h' * 18446744073709551616 + l' = a * t * u) := h3'; clear h3'; have X2 := xt (xt (xd (xr _)) e1) e2; obtain ⟨⟨r0, r1⟩, s0, s1⟩ := Br.later X2))
    all_goals
      go_wp2
      exact bodyPost_ret (v := .agg #[.int .u64 h', .int .u64 l']) (by simp [results, Tryd.results19, go_sem, r0, r1]) rfl
        ⟨_, rfl, ⟨h', l', rfl, h1', h2', H3.out.trans HP.out⟩, xset (xset (xt (xa (x1 _ _) _) X2) (Nat.le_succ _) _) (Nat.le_succ _) _⟩

end Go.Proofs.YtpeobfkenekmhaaDoor

