/-
  Several texts in one: PutZ, MuI, Fn0, V9o.
-/
import Derived.Test.YtfgohahfppabbaaGreatDoorPutS
import Derived.Test.YtfgohahfppabbaaGreatDoorMg17
import Derived.Test.YtfgohahfppabbaaGreatDoorMg4
import Derived.Test.YtfgohahfppabbaaGreatDoorMg7
import Derived.Test.YtfgohahfppabbaaGreatDoorMg8
namespace Go.Proofs.YtfgohahfppabbaaGreatDoor
open Go.RowKit

theorem put_zero (sg : Bool) (e : Int) (more : Bool) : putR sg 0 e more = ⟨true, false, 0, 0⟩ := by
 unfold putR
 rw [nd_zero, if_neg (by decide)]
 unfold fitR
 rw [if_pos rfl]

set_option maxRecDepth 4000 in
set_option maxHeartbeats 2000000 in
theorem putS0 {v : Value} (e : Int) (more : Bool) (w : World) (h : ZV w v 0) :
  Calls Tryz.prog 52 #[v, .int .i64 e, .bool more] w fun r w' => r = .returned (.agg #[.bool true, .bool false, .int .i64 0, .int .i64 0]) ∧ Ext w w' := by
 obtain ⟨c0, c1, pa, na, ca, rfl⟩ := h.shape
 have NA : Hid (∀ w2, Ext w w2 → Calls Tryz.prog 66 #[.agg #[.int .i64 c0, .bool c1, .slice pa na ca]] w2 fun e w' => e = .returned (.bool false) ∧ Ext w2 w') := fun w2 x => neg_is false w2 (by decide) (h.later x)
 have AB : Hid (∀ w2, Ext w w2 → Calls Tryz.prog 67 #[.agg #[.int .i64 c0, .bool c1, .slice pa na ca]] w2 fun e w' => ∃ z0 z1 p n c, e = .returned (.agg #[.int .i64 z0, .bool z1, .slice p n c]) ∧ ZV w' (.agg #[.int .i64 z0, .bool z1, .slice p n c]) 0 ∧ Ext w2 w') := fun w2 x => by
  refine (abs_any w2 (h.later x)).mono ?_
  rintro e w' ⟨v', rfl, hz, hx⟩
  obtain ⟨z0, z1, p, n, c, rfl⟩ := hz.shape
  exact ⟨z0, z1, p, n, c, rfl, hz, hx⟩
 have DG : Hid (∀ (w2 : World) (v : Value), ZV w2 v 0 → Calls Tryz.prog 68 #[v] w2 fun e w' => e = .returned (.int .i64 1) ∧ Ext w2 w') := fun w2 v hv => digits_any w2 hv (by decide) 1 (by decide) (by decide)
 have ZR : Hid (∀ (w2 : World) (v : Value), ZV w2 v 0 → Calls Tryz.prog 69 #[v] w2 fun e w' => e = .returned (.bool true) ∧ Ext w2 w') := fun w2 v hv => zero_any w2 hv
 have Ba := (Box3.made w (.int .i64 c0) (.bool c1) (.slice pa na ca) 74).later (x1 _ (.cells #[.bool false, .bool false, .int .i64 0, .int .i64 0] 70))
 have Br := Box4.made (w.alloc (.cells #[.int .i64 c0, .bool c1, .slice pa na ca] 74)) (.bool false) (.bool false) (.int .i64 0) (.int .i64 0) 70
 have X0 := xa (x1 w (.cells #[.int .i64 c0, .bool c1, .slice pa na ca] 74)) (.cells #[.bool false, .bool false, .int .i64 0, .int .i64 0] 70)
 simp only [World.size_alloc] at Br
 clear h
 go_enter Tryz.func52, Tryz.ntmps52
 go_wp2_with fail
 refine (NA.out _ X0).mono ?_
 rintro r w1 ⟨rfl, x1'⟩
 have Ba' := Ba.later x1'
 obtain ⟨⟨p0, p1, p2⟩, _⟩ := Ba'
 go_wp2_with fail
 refine (AB.out _ (xt X0 x1')).mono ?_
 rintro r w2 ⟨z0, z1, z2, z3, z4, rfl, hz2, x2'⟩
 have B2 := (Ba.later x1').later x2'
 have ZP : ZIn (set3 w2 w.heap.size (.int .i64 z0) (.bool z1) (.slice z2 z3 z4)) w.heap.size 0 := ⟨_, _, _, _, _, B2.put _ _ _, hz2.set3 B2 _ _ _⟩
 have X2 := Ext.set3 (xt (xt X0 x1') x2') (b := w.heap.size) (Nat.le_refl _) (.int .i64 z0) (.bool z1) (.slice z2 z3 z4)
 have Br2 := (Br.later x1').later x2'
 have Br3 := ((Br2.far (p := ⟨w.heap.size, 0, none⟩) (show w.heap.size ≠ w.heap.size + 1 by omega) (.int .i64 z0)).far (p := ⟨w.heap.size, 1, none⟩) (show w.heap.size ≠ w.heap.size + 1 by omega) (.bool z1)).far (p := ⟨w.heap.size, 2, none⟩) (show w.heap.size ≠ w.heap.size + 1 by omega) (.slice z2 z3 z4)
 obtain ⟨⟨g0, g1, g2⟩, h0, h1, h2⟩ := B2
 obtain ⟨u2, hu2⟩ : ∃ u, set3 w2 w.heap.size (.int .i64 z0) (.bool z1) (.slice z2 z3 z4) = u := ⟨_, rfl⟩
 rw [hu2] at ZP X2
 unfold set3 at hu2
 rw [hu2] at Br3
 obtain ⟨y0, y1, y2, y3, y4, ⟨⟨i0, i1, i2⟩, _⟩, hy⟩ := ZP
 clear hz2 NA AB Ba Br Br2 X0 x1' x2' p0 p1 p2
 go_wp2_with fail
 refine (DG.out _ _ hy).mono ?_
 rintro r w3 ⟨rfl, x3'⟩
 replace Br3 := Br3.later x3'
 replace X2 := xt X2 x3'
 have hy3 := hy.later x3'
 have i3 := cell_later x3' i0
 have i4 := cell_later x3' i1
 have i5 := cell_later x3' i2
 clear hy g0 g1 g2 h0 h1 h2 hu2 DG x3' i0 i1 i2
 go_wp2_with fail
 refine (ZR.out _ _ hy3).mono ?_
 rintro r w4 ⟨rfl, x4'⟩
 replace Br3 := Br3.later x4'
 replace X2 := xt X2 x4'
 have hy4 := hy3.later x4'
 replace i3 := cell_later x4' i3
 replace i4 := cell_later x4' i4
 replace i5 := cell_later x4' i5
 clear hy3 x4'
 go_wp2_with fail
 refine (ZR.out _ _ hy4).mono ?_
 rintro r w5 ⟨rfl, x5'⟩
 obtain ⟨⟨m0, m1, m2, m3⟩, n0, n1, n2, n3⟩ := Br3.later x5'
 have XD := xt X2 x5'
 clear i3 i4 i5 hy4
 go_wp2_with fail
 exact bodyPost_ret (v := .agg #[.bool true, .bool false, .int .i64 0, .int .i64 0]) (by simp [results, Tryz.results52, go_sem, m0, m1, m2, m3]) rfl ⟨rfl, xset (xset (xset (xset XD (Nat.le_succ _) _) (Nat.le_succ _) _) (Nat.le_succ _) _) (Nat.le_succ _) _⟩

/-- l1Put, whatever it is put. -/
theorem put_spec {v : Value} {z : Int} (e : Int) (more : Bool) (w : World) (h : ZV w v z) (k : Nat) (hk : k ≤ 1000) (kz : (z.natAbs : Int) < 1000000000 ^ k) (e0 : -50000 ≤ e) (e1 : e ≤ 50000) (sg : Bool) (P : Nat) (hP : z.natAbs = P) (hs : z ≠ 0 → decide (z < 0) = sg) :
  Calls Tryz.prog 52 #[v, .int .i64 e, .bool more] w fun r w' => r = .returned (resV (putR sg P e more)) ∧ Ext w w' := by
 by_cases hz : z = 0
 ·
  subst hz
  have : P = 0 := by rw [← hP]; rfl
  subst this
  rw [put_zero]
  exact putS0 e more w h
 ·
  have := putS e more w h hz k hk kz e0 e1
  rw [hP, hs hz] at this
  exact this

def badR : DR := ⟨false, false, 0, 0⟩
/-- What DecOf answers. -/
def ofR (d e : Int) : DR := if -1000 ≤ e ∧ e ≤ 1000 then putR (decide (d < 0)) d.natAbs e false else badR

set_option maxRecDepth 4000 in
set_option maxHeartbeats 1000000 in
theorem within_any (n m : Int) (c : Bool) (w : World) (hc : decide (-m ≤ n ∧ n ≤ m) = c) (m0 : 0 ≤ m) (m1 : m ≤ 100000) :
  Calls Tryz.prog 57 #[.int .i64 n, .int .i64 m] w fun r w' => r = .returned (.bool c) ∧ w' = w := by
 have H : Hid (∀ b : Bool, (b = true ↔ -m ≤ n ∧ n ≤ m) → b = c) := fun b hb => by
  rw [← hc, Bool.eq_iff_iff, decide_eq_true_eq]; exact hb
 clear hc
 by_cases h1 : -m ≤ n
 ·
  go_enter Tryz.func57, Tryz.ntmps57
  go_wp2
  all_goals go_ret
  all_goals exact ⟨ret_bool (H.out _ (by simp [h1])), rfl⟩
 ·
  have h1' : n < -m := by omega
  go_enter Tryz.func57, Tryz.ntmps57
  go_wp2
  all_goals go_ret
  all_goals exact ⟨ret_bool (H.out _ (by simp; omega)), rfl⟩

set_option maxRecDepth 4000 in
set_option maxHeartbeats 1000000 in
theorem ofI (d e : Int) (w : World) (a1 : -9223372036854775808 ≤ d) (a2 : d ≤ 9223372036854775807) (hT : Tens w) :
  Calls Tryz.prog 59 #[.int .i64 d, .int .i64 e] w fun r w' => r = .returned (resV (ofR d e)) ∧ Ext w w' := by
 obtain ⟨R, hR⟩ : ∃ R, ofR d e = R := ⟨_, rfl⟩
 rw [hR]
 have X0 := x1 w (.cells #[.bool false, .bool false, .int .i64 0, .int .i64 0] 70)
 have Br := Box4.made w (.bool false) (.bool false) (.int .i64 0) (.int .i64 0) 70
 have T := hT.later X0
 clear hT
 by_cases he : -1000 ≤ e ∧ e ≤ 1000
 ·
  have HR : Hid (putR (decide (d < 0)) d.natAbs e false = R) := by rw [← hR]; unfold ofR; rw [if_pos he]; rfl
  have WI : Hid (∀ w2, Calls Tryz.prog 57 #[.int .i64 e, .int .i64 1000] w2 fun r w' => r = .returned (.bool true) ∧ w' = w2) := fun w2 => within_any e 1000 true w2 (decide_eq_true he) (by decide) (by decide)
  obtain ⟨he0, he1⟩ := he
  clear hR
  by_cases hd : d < 0
  ·
   obtain ⟨P, hP⟩ : ∃ P : Nat, d.natAbs = P := ⟨_, rfl⟩
   have hdd : decide (d < 0) = true := decide_eq_true hd
   rw [hP, hdd] at HR
   have PU : Hid (∀ w2, Tens w2 → Calls Tryz.prog 82 #[.bool true, .agg #[.int .u64 0, .int .u64 P], .int .i64 e, .bool false] w2 fun r w' => r = .returned (resV R) ∧ Ext w2 w') := fun w2 hT => by
    rw [← HR.out]; exact put_any _ _ _ w2 ⟨0, P, rfl, by decide, by omega, by omega⟩ (by omega) (by omega) hT
   have e1 : IntKind.u64.wrap d = d + 18446744073709551616 := by rw [IntKind.wrap_u64]; omega
   have e2 : IntKind.u64.wrap (-(d + 18446744073709551616)) = (P : Int) := by rw [IntKind.wrap_u64]; omega
   clear HR hP hdd a1 a2
   go_enter Tryz.func59, Tryz.ntmps59
   go_wp2_with fail
   refine (WI.out _).mono ?_
   rintro r w1 ⟨rfl, hw⟩
   subst hw
   go_wp2_with fail
   refine (PU.out _ T).mono ?_
   rintro r w2 ⟨rfl, x2'⟩
   obtain ⟨⟨m0, m1, m2, m3⟩, n0, n1, n2, n3⟩ := Br.later x2'
   go_wp2_with fail
   exact bodyPost_ret (v := resV R) (by simp [results, Tryz.results59, go_sem, m0, m1, m2, m3]) rfl ⟨rfl, xset (xset (xset (xset (xt X0 x2') (Nat.le_refl _) _) (Nat.le_refl _) _) (Nat.le_refl _) _) (Nat.le_refl _) _⟩
  ·
   obtain ⟨P, hP⟩ : ∃ P : Nat, d = P := ⟨d.toNat, by omega⟩
   subst hP
   have hdd : decide ((P : Int) < 0) = false := decide_eq_false hd
   rw [hdd, Int.natAbs_natCast] at HR
   have PU : Hid (∀ w2, Tens w2 → Calls Tryz.prog 82 #[.bool false, .agg #[.int .u64 0, .int .u64 P], .int .i64 e, .bool false] w2 fun r w' => r = .returned (resV R) ∧ Ext w2 w') := fun w2 hT => by
    rw [← HR.out]; exact put_any _ _ _ w2 ⟨0, P, rfl, by decide, by omega, by omega⟩ (by omega) (by omega) hT
   have e1 : IntKind.u64.wrap (P : Int) = (P : Int) := by rw [IntKind.wrap_u64]; omega
   clear HR hdd a1 a2
   go_enter Tryz.func59, Tryz.ntmps59
   go_wp2_with fail
   refine (WI.out _).mono ?_
   rintro r w1 ⟨rfl, hw⟩
   subst hw
   go_wp2_with fail
   refine (PU.out _ T).mono ?_
   rintro r w2 ⟨rfl, x2'⟩
   obtain ⟨⟨m0, m1, m2, m3⟩, n0, n1, n2, n3⟩ := Br.later x2'
   go_wp2_with fail
   exact bodyPost_ret (v := resV R) (by simp [results, Tryz.results59, go_sem, m0, m1, m2, m3]) rfl ⟨rfl, xset (xset (xset (xset (xt X0 x2') (Nat.le_refl _) _) (Nat.le_refl _) _) (Nat.le_refl _) _) (Nat.le_refl _) _⟩
 ·
  have HR : Hid (R = ⟨false, false, 0, 0⟩) := by rw [← hR]; unfold ofR; rw [if_neg he]; rfl
  have WI : Hid (∀ w2, Calls Tryz.prog 57 #[.int .i64 e, .int .i64 1000] w2 fun r w' => r = .returned (.bool false) ∧ w' = w2) := fun w2 => within_any e 1000 false w2 (decide_eq_false he) (by decide) (by decide)
  clear hR he
  go_enter Tryz.func59, Tryz.ntmps59
  go_wp2_with fail
  refine (WI.out _).mono ?_
  rintro r w1 ⟨rfl, hw⟩
  subst hw
  obtain ⟨⟨m0, m1, m2, m3⟩, n0, n1, n2, n3⟩ := Br
  go_wp2_with fail
  exact bodyPost_ret (v := .agg #[.bool false, .bool false, .int .i64 0, .int .i64 0]) (by simp [results, Tryz.results59, go_sem]) rfl ⟨by rw [HR.out], X0⟩

abbrev fnV (f : Nat) : Value := .func (.func f) #[] #[]

set_option maxRecDepth 8000 in
set_option maxHeartbeats 2000000 in
theorem of_left (n : Bool) (d x : Int) (t : List UInt8) (k' : Int) (n' : Bool) (d' x' : Int) (t' : List UInt8) (fv : Value) (w : World) :
  Calls Tryz.prog 83 #[fv, valV 4 n d x t, valV k' n' d' x' t'] w fun e w' => e = .returned (valV 4 n d x t) ∧ Ext w w' := by
 obtain ⟨u0, u1, u2, h0, h1, h2, s0, s1, s2, B0, B1, B2, X⟩ := mkB3 w [.int .i64 4, .bool n, .int .i64 d, .int .i64 x, sV t] [.int .i64 k', .bool n', .int .i64 d', .int .i64 x', sV t'] [.int .i64 0, .bool false, .int .i64 0, .int .i64 0, sV []] 27 27 27
 obtain ⟨a0, a1, a2, a3, a4⟩ := Vec.five (B0)
 obtain ⟨c0, c1, c2, c3, c4⟩ := Vec.five (B1)
 go_enter Tryz.func83, Tryz.ntmps83
 go_wp2_with fail
 clear h0 s0 h1 s1 h2 s2 a0 a1 a2 a3 a4 c0 c1 c2 c3 c4
 refine (isErrI 4 n d x t u2).mono ?_
 rintro e w1 ⟨rfl, e1⟩
 obtain ⟨a0, a1, a2, a3, a4⟩ := Vec.five ((B0.later e1))
 rw [show decide ((4 : Int) = 4) = true from rfl]
 obtain ⟨wy, hy, FX, ⟨b0, b1, b2, b3, b4⟩, ⟨fb0, fb1, fb2, fb3, fb4⟩, fd0, fd1, fd2, fd3, fd4⟩ := fin5 (B2.later e1) (xt X e1) (by omega) 4 n d x t
 go_wp2_with fail
 exact bodyPost_ret (v := valV 4 n d x t) (by simp [results, Tryz.results83, go_sem, fd0, fd1, fd2, fd3, fd4]) rfl ⟨rfl, FX⟩
set_option maxRecDepth 8000 in
set_option maxHeartbeats 2000000 in
theorem of_go (k : Int) (n : Bool) (d x : Int) (t : List UInt8) (k' : Int) (n' : Bool) (d' x' : Int) (t' : List UInt8) (f : Nat) (HF : ∀ ar w, (callFunc f ar).run Tryz.prog w = .ok (.enter f ar) w) (h4 : k ≠ 4) (h4' : k' ≠ 4) (w : World) {k2 : Int} {n2 : Bool} {d2 x2 : Int} {t2 : List UInt8}
  (H : ∀ w1, Ext w w1 → Calls Tryz.prog f #[valV k n d x t, valV k' n' d' x' t'] w1 fun e w' => e = .returned (valV k2 n2 d2 x2 t2) ∧ Ext w1 w') :
  Calls Tryz.prog 83 #[.func (.func f) #[] #[], valV k n d x t, valV k' n' d' x' t'] w fun e w' => e = .returned (valV k2 n2 d2 x2 t2) ∧ Ext w w' := by
 obtain ⟨u0, u1, u2, h0, h1, h2, s0, s1, s2, B0, B1, B2, X⟩ := mkB3 w [.int .i64 k, .bool n, .int .i64 d, .int .i64 x, sV t] [.int .i64 k', .bool n', .int .i64 d', .int .i64 x', sV t'] [.int .i64 0, .bool false, .int .i64 0, .int .i64 0, sV []] 27 27 27
 obtain ⟨a0, a1, a2, a3, a4⟩ := Vec.five (B0)
 obtain ⟨c0, c1, c2, c3, c4⟩ := Vec.five (B1)
 go_enter Tryz.func83, Tryz.ntmps83
 go_wp2_with fail
 clear h0 s0 h1 s1 h2 s2 a0 a1 a2 a3 a4 c0 c1 c2 c3 c4
 refine (isErrI k n d x t u2).mono ?_
 rintro e w1 ⟨rfl, e1⟩
 rw [decide_eq_false h4]
 obtain ⟨c0, c1, c2, c3, c4⟩ := Vec.five ((B1.later e1))
 go_wp2_with fail
 clear c0 c1 c2 c3 c4
 refine (isErrI k' n' d' x' t' w1).mono ?_
 rintro e w2 ⟨rfl, e2⟩
 rw [decide_eq_false h4']
 have Xw := xt (xt X e1) e2
 have C0 := (B0.later e1).later e2
 have C1 := (B1.later e1).later e2
 have C2 := (B2.later e1).later e2
 clear B0 B1 B2 X e1 e2
 obtain ⟨a0, a1, a2, a3, a4⟩ := Vec.five (C0)
 obtain ⟨c0, c1, c2, c3, c4⟩ := Vec.five (C1)
 go_wp2_with fail
 clear a0 a1 a2 a3 a4 c0 c1 c2 c3 c4
 refine (H w2 Xw).mono ?_
 rintro e w3 ⟨rfl, e3⟩
 obtain ⟨wy, hy, FX, ⟨b0, b1, b2, b3, b4⟩, ⟨fb0, fb1, fb2, fb3, fb4⟩, fd0, fd1, fd2, fd3, fd4⟩ := fin5 (C2.later e3) (xt Xw e3) (by omega) k2 n2 d2 x2 t2
 go_wp2_with fail
 exact bodyPost_ret (v := valV k2 n2 d2 x2 t2) (by simp [results, Tryz.results83, go_sem, fd0, fd1, fd2, fd3, fd4]) rfl ⟨rfl, FX⟩
set_option maxRecDepth 8000 in
set_option maxHeartbeats 2000000 in
theorem of_cap (k : Int) (n : Bool) (d x : Int) (t : List UInt8) (k' : Int) (n' : Bool) (d' x' : Int) (t' : List UInt8) (p : Value) (f : Nat) (HF : ∀ ar w, (callFunc f ar).run Tryz.prog w = .ok (.enter f ar) w) (h4 : k ≠ 4) (h4' : k' ≠ 4) (w : World) {k2 : Int} {n2 : Bool} {d2 x2 : Int} {t2 : List UInt8}
  (H : ∀ w1, Ext w w1 → Calls Tryz.prog f #[valV k n d x t, valV k' n' d' x' t', p] w1 fun e w' => e = .returned (valV k2 n2 d2 x2 t2) ∧ Ext w1 w') :
  Calls Tryz.prog 83 #[.func (.func f) #[] #[p], valV k n d x t, valV k' n' d' x' t'] w fun e w' => e = .returned (valV k2 n2 d2 x2 t2) ∧ Ext w w' := by
 obtain ⟨u0, u1, u2, h0, h1, h2, s0, s1, s2, B0, B1, B2, X⟩ := mkB3 w [.int .i64 k, .bool n, .int .i64 d, .int .i64 x, sV t] [.int .i64 k', .bool n', .int .i64 d', .int .i64 x', sV t'] [.int .i64 0, .bool false, .int .i64 0, .int .i64 0, sV []] 27 27 27
 obtain ⟨a0, a1, a2, a3, a4⟩ := Vec.five (B0)
 obtain ⟨c0, c1, c2, c3, c4⟩ := Vec.five (B1)
 go_enter Tryz.func83, Tryz.ntmps83
 go_wp2_with fail
 clear h0 s0 h1 s1 h2 s2 a0 a1 a2 a3 a4 c0 c1 c2 c3 c4
 refine (isErrI k n d x t u2).mono ?_
 rintro e w1 ⟨rfl, e1⟩
 rw [decide_eq_false h4]
 obtain ⟨c0, c1, c2, c3, c4⟩ := Vec.five ((B1.later e1))
 go_wp2_with fail
 clear c0 c1 c2 c3 c4
 refine (isErrI k' n' d' x' t' w1).mono ?_
 rintro e w2 ⟨rfl, e2⟩
 rw [decide_eq_false h4']
 have Xw := xt (xt X e1) e2
 have C0 := (B0.later e1).later e2
 have C1 := (B1.later e1).later e2
 have C2 := (B2.later e1).later e2
 clear B0 B1 B2 X e1 e2
 obtain ⟨a0, a1, a2, a3, a4⟩ := Vec.five (C0)
 obtain ⟨c0, c1, c2, c3, c4⟩ := Vec.five (C1)
 go_wp2_with fail
 clear a0 a1 a2 a3 a4 c0 c1 c2 c3 c4
 refine (H w2 Xw).mono ?_
 rintro e w3 ⟨rfl, e3⟩
 obtain ⟨wy, hy, FX, ⟨b0, b1, b2, b3, b4⟩, ⟨fb0, fb1, fb2, fb3, fb4⟩, fd0, fd1, fd2, fd3, fd4⟩ := fin5 (C2.later e3) (xt Xw e3) (by omega) k2 n2 d2 x2 t2
 go_wp2_with fail
 exact bodyPost_ret (v := valV k2 n2 d2 x2 t2) (by simp [results, Tryz.results83, go_sem, fd0, fd1, fd2, fd3, fd4]) rfl ⟨rfl, FX⟩
end Go.Proofs.YtfgohahfppabbaaGreatDoor

