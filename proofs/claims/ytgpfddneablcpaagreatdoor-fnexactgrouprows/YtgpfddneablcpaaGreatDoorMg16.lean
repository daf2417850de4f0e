/-
  Several texts in one: Ten, TenB, Sized.
-/
import Derived.Test.YtgpfddneablcpaaGreatDoorMg15
import Derived.Test.YtgpfddneablcpaaGreatDoorMg9
import Derived.Test.YtgpfddneablcpaaGreatDoorCmp
import Derived.Test.YtgpfddneablcpaaGreatDoorMg0
namespace Go.Proofs.YtgpfddneablcpaaGreatDoor
open Go.RowKit

theorem Box3.set3_same {w : World} {b : Nat} {v0 v1 v2 : Value} (h : Box3 w b v0 v1 v2) (c0 c1 c2 : Value) : Box3 (set3 w b c0 c1 c2) b c0 c1 c2 := by
 obtain ⟨⟨q0, q1, q2⟩, f0, f1, f2⟩ := h
 have n01 : (⟨b, 0, none⟩ : Addr) ≠ ⟨b, 1, none⟩ := addr_ne (by decide)
 have n02 : (⟨b, 0, none⟩ : Addr) ≠ ⟨b, 2, none⟩ := addr_ne (by decide)
 have n12 : (⟨b, 1, none⟩ : Addr) ≠ ⟨b, 2, none⟩ := addr_ne (by decide)
 refine ⟨⟨?_, ?_, ?_⟩, ?_, ?_, ?_⟩
 ·
  rw [World.cell?_setCell_other _ _ _ _ n02.symm, World.cell?_setCell_other _ _ _ _ n01.symm]
  exact World.cell?_setCell_same _ _ _ q0
 ·
  rw [World.cell?_setCell_other _ _ _ _ n12.symm]
  exact World.cell?_setCell_same _ _ _ (by rw [World.cell?_setCell_other _ _ _ _ n01]; exact q1)
 ·
  exact World.cell?_setCell_same _ _ _ (by rw [World.cell?_setCell_other _ _ _ _ n12, World.cell?_setCell_other _ _ _ _ n02]; exact q2)
 ·
  simp [World.frozen?_setCell, f0]
 ·
  simp [World.frozen?_setCell, f1]
 ·
  simp [World.frozen?_setCell, f2]
theorem addr_far {b g i j : Nat} (h : b ≠ g) : (⟨g, i, none⟩ : Addr) ≠ ⟨b, j, none⟩ := fun e => h (by cases e; rfl)
theorem Box3.set3_other {w : World} {b g : Nat} {v0 v1 v2 : Value} (h : Box3 w b v0 v1 v2) (hb : b ≠ g) (c0 c1 c2 : Value) : Box3 (set3 w g c0 c1 c2) b v0 v1 v2 := by
 obtain ⟨⟨q0, q1, q2⟩, f0, f1, f2⟩ := h
 refine ⟨⟨?_, ?_, ?_⟩, ?_, ?_, ?_⟩
 ·
  rw [World.cell?_setCell_other _ _ _ _ (addr_far hb), World.cell?_setCell_other _ _ _ _ (addr_far hb), World.cell?_setCell_other _ _ _ _ (addr_far hb)]; exact q0
 ·
  rw [World.cell?_setCell_other _ _ _ _ (addr_far hb), World.cell?_setCell_other _ _ _ _ (addr_far hb), World.cell?_setCell_other _ _ _ _ (addr_far hb)]; exact q1
 ·
  rw [World.cell?_setCell_other _ _ _ _ (addr_far hb), World.cell?_setCell_other _ _ _ _ (addr_far hb), World.cell?_setCell_other _ _ _ _ (addr_far hb)]; exact q2
 ·
  simp [World.frozen?_setCell, f0]
 ·
  simp [World.frozen?_setCell, f1]
 ·
  simp [World.frozen?_setCell, f2]

set_option maxHeartbeats 2000000 in
theorem power_any {va : Value} {a : Int} (n : Nat) (w : World) (ha : ZV w va a) (hn : n ≤ 1000000) (k : Nat) (hk : k ≤ 1000000000) (ka : (a.natAbs : Int) < 1000000000 ^ k) (kp : ∀ i, i ≤ n → ((a ^ i).natAbs : Int) < 1000000000 ^ k) :
  Calls Tryz.prog 119 #[va, .int .i64 n] w fun e w' => ∃ v', e = .returned v' ∧ ZV w' v' (a ^ n) ∧ Ext w w' := by
 obtain ⟨a0, a1, pa, na, ca, rfl⟩ := ha.shape
 go_enter Tryz.func119, Tryz.ntmps119
 go_wp2_with fail
 refine (small_any 1 _ (by decide) (by decide)).mono ?_
 rintro e w1 ⟨v1, rfl, h1, e1⟩
 obtain ⟨o0, o1, po, no, co, rfl⟩ := h1.shape
 have Ba := ((Box3.made w (.int .i64 a0) (.bool a1) (.slice pa na ca) 133).later (x1 _ _)).later e1
 have Br := (Box3.made (w.alloc (.cells #[.int .i64 a0, .bool a1, .slice pa na ca] 133)) (.int .i64 0) (.bool false) (.slice none 0 0) 133).later e1
 simp only [World.size_alloc] at Br
 have X1 := xt (xa (x1 _ _) _) e1
 have sz := e1.size
 simp only [World.size_alloc] at sz
 have KH : Hid ((a.natAbs : Int) < 1000000000 ^ k ∧ ∀ i, i ≤ n → ((a ^ i).natAbs : Int) < 1000000000 ^ k) := ⟨ka, kp⟩
 clear e1 ka kp
 go_wp2_with fail
 go_loopw [6] (fun i wr => ∃ (m : Nat) (c0 : Int) (c1 : Bool) (pc : Option Addr) (nc cc : Nat), m ≤ n ∧ i = .int .i64 m ∧ Box3 wr w1.heap.size (.int .i64 c0) (.bool c1) (.slice pc nc cc) ∧ ZV wr (.agg #[.int .i64 c0, .bool c1, .slice pc nc cc]) (a ^ m) ∧
   Box3 wr w.heap.size (.int .i64 a0) (.bool a1) (.slice pa na ca) ∧ Box3 wr (w.heap.size + 1) (.int .i64 0) (.bool false) (.slice none 0 0) ∧ Ext w wr) (fun i _ => n - (intOf i).toNat)
 case atStart => exact ⟨0, o0, o1, po, no, co, Nat.zero_le _, rfl, Box3.made _ _ _ _ _, by rw [Int.pow_zero]; exact h1.later (x1 _ _), Ba.later (x1 _ _), Br.later (x1 _ _), xa X1 _⟩
 case round =>
  obtain ⟨m, c0, c1, pc, nc, cc, hm, rfl, Bo, ho, Bar, Brr, X⟩ := hrel
  by_cases hlt : m < n
  ·
   have Bo' := Bo
   have Ba' := Bar
   obtain ⟨⟨q0, q1, q2⟩, _⟩ := Bo'
   obtain ⟨⟨p0, p1, p2⟩, _⟩ := Ba'
   clear Ba Br
   go_wp2_with fail
   refine (mul_any _ ho (ha.later X) k hk (KH.out.2 m hm) KH.out.1).mono ?_
   rintro e w2 ⟨v2, rfl, h2, e2⟩
   obtain ⟨d0, d1, pd, nd, cd, rfl⟩ := h2.shape
   have B2 := Bo.later e2
   have R : Hid (Box3 (set3 w2 w1.heap.size (.int .i64 d0) (.bool d1) (.slice pd nd cd)) w1.heap.size (.int .i64 d0) (.bool d1) (.slice pd nd cd) ∧ ZV (set3 w2 w1.heap.size (.int .i64 d0) (.bool d1) (.slice pd nd cd)) (.agg #[.int .i64 d0, .bool d1, .slice pd nd cd]) (a ^ (m + 1)) ∧
     Box3 (set3 w2 w1.heap.size (.int .i64 d0) (.bool d1) (.slice pd nd cd)) w.heap.size (.int .i64 a0) (.bool a1) (.slice pa na ca) ∧ Box3 (set3 w2 w1.heap.size (.int .i64 d0) (.bool d1) (.slice pd nd cd)) (w.heap.size + 1) (.int .i64 0) (.bool false) (.slice none 0 0) ∧ Ext w (set3 w2 w1.heap.size (.int .i64 d0) (.bool d1) (.slice pd nd cd))) :=
    ⟨B2.set3_same _ _ _, by rw [Int.pow_succ]; exact h2.set3 B2 _ _ _, (Bar.later e2).set3_other (by omega) _ _ _, (Brr.later e2).set3_other (by omega) _ _ _, Ext.set3 (xt X e2) (by omega) _ _ _⟩
   obtain ⟨⟨r0, r1, r2⟩, s0, s1, s2⟩ := B2
   clear Bo ho Bar Brr X h2 e2
   go_wp2
   go_roundw
   case rel => exact ⟨m + 1, d0, d1, pd, nd, cd, by omega, by go_num, R.out.1, R.out.2.1, R.out.2.2.1, R.out.2.2.2.1, R.out.2.2.2.2⟩
   case measure => simp [intOf]; omega
  ·
   obtain rfl : m = n := by omega
   have Hz := ho.set3 Brr (.int .i64 c0) (.bool c1) (.slice pc nc cc)
   have Hx := Ext.set3 (b := w.heap.size + 1) X (by omega) (.int .i64 c0) (.bool c1) (.slice pc nc cc)
   obtain ⟨⟨q0, q1, q2⟩, _⟩ := Bo
   obtain ⟨⟨r0, r1, r2⟩, s0, s1, s2⟩ := Brr
   clear Ba Br
   go_wp2
   exact bodyPost_ret (v := .agg #[.int .i64 c0, .bool c1, .slice pc nc cc]) (by simp [results, Tryz.results119, go_sem, r0, r1, r2]) rfl ⟨_, rfl, Hz, Hx⟩

theorem ten_fit (i : Nat) : (((10 : Int) ^ i).natAbs : Int) < 1000000000 ^ (i + 1) := by
 have e : (((10 : Int) ^ i).natAbs : Int) = ((10 ^ i : Nat) : Int) := by rw [Int.natAbs_pow]; rfl
 rw [e]
 have h1 : 10 ^ i ≤ 1000000000 ^ i := Nat.pow_le_pow_left (by decide) i
 have h2 : 1000000000 ^ i < 1000000000 ^ (i + 1) := Nat.pow_lt_pow_right (by decide) (by omega)
 have h3 : ((10 ^ i : Nat) : Int) < ((1000000000 ^ (i + 1) : Nat) : Int) := by exact_mod_cast Nat.lt_of_le_of_lt h1 h2
 simpa using h3
theorem ten_fits (n i : Nat) (h : i ≤ n) : (((10 : Int) ^ i).natAbs : Int) < 1000000000 ^ (n + 1) := by
 have h1 := ten_fit i
 have h2 : (1000000000 : Int) ^ (i + 1) ≤ 1000000000 ^ (n + 1) := by
  have := Nat.pow_le_pow_right (n := 1000000000) (by decide) (show i + 1 ≤ n + 1 by omega)
  have h3 : ((1000000000 ^ (i + 1) : Nat) : Int) ≤ ((1000000000 ^ (n + 1) : Nat) : Int) := by exact_mod_cast this
  simpa using h3
 omega

theorem Box3.up {w : World} {b : Nat} {v0 v1 v2 : Value} (h : Box3 w b v0 v1 v2) : ((∀ o, (w.alloc o).cell? ⟨b, 0, none⟩ = some v0) ∧ (∀ o, (w.alloc o).cell? ⟨b, 1, none⟩ = some v1) ∧ ∀ o, (w.alloc o).cell? ⟨b, 2, none⟩ = some v2) ∧ (∀ o, (w.alloc o).frozen? ⟨b, 0, none⟩ = false) ∧ (∀ o, (w.alloc o).frozen? ⟨b, 1, none⟩ = false) ∧ ∀ o, (w.alloc o).frozen? ⟨b, 2, none⟩ = false :=
 ⟨⟨fun o => (h.later (x1 w o)).1.1, fun o => (h.later (x1 w o)).1.2.1, fun o => (h.later (x1 w o)).1.2.2⟩, fun o => (h.later (x1 w o)).2.1, fun o => (h.later (x1 w o)).2.2.1, fun o => (h.later (x1 w o)).2.2.2⟩

set_option maxHeartbeats 1000000 in
theorem ten_any (n : Nat) (w : World) (hn : n ≤ 1000000) :
  Calls Tryz.prog 106 #[.int .i64 n] w fun e w' => ∃ v', e = .returned v' ∧ ZV w' v' (10 ^ n) ∧ Ext w w' := by
 go_enter Tryz.func106, Tryz.ntmps106
 go_wp2_with fail
 refine (small_any 10 _ (by decide) (by decide)).mono ?_
 rintro e w1 ⟨v1, rfl, h1, e1⟩
 go_wp2_with fail
 refine (power_any n _ h1 hn (n + 1 + 1) (by omega) (by simpa using ten_fits (n + 1) 1 (by omega)) (fun i hi => ten_fits (n + 1) i (by omega))).mono ?_
 rintro e w2 ⟨v2, rfl, h2, e2⟩
 obtain ⟨o0, o1, po, no, co, rfl⟩ := h2.shape
 have Br := ((Box3.made w (.int .i64 0) (.bool false) (.slice none 0 0) 133).later e1).later e2
 have Hz := h2.set3 Br (.int .i64 o0) (.bool o1) (.slice po no co)
 have Hx := Ext.set3 (b := w.heap.size) (xt (xt (x1 _ _) e1) e2) (Nat.le_refl _) (.int .i64 o0) (.bool o1) (.slice po no co)
 obtain ⟨⟨r0, r1, r2⟩, s0, s1, s2⟩ := Br
 go_wp2
 exact bodyPost_ret (v := .agg #[.int .i64 o0, .bool o1, .slice po no co]) (by simp [results, Tryz.results106, go_sem, r0, r1, r2]) rfl ⟨_, rfl, Hz, Hx⟩

set_option maxHeartbeats 1000000 in
theorem of_any (neg : Bool) (d x : Int) (w : World) (h1 : -9000000000000000000 < d) (h2 : d < 9000000000000000000) :
  Calls Tryz.prog 105 #[.agg #[.bool neg, .int .i64 d, .int .i64 x]] w fun e w' => ∃ v', e = .returned v' ∧ ZV w' v' (sgn neg d) ∧ Ext w w' := by
 go_enter Tryz.func105, Tryz.ntmps105
 go_wp2_with fail
 refine (small_any d _ h1 h2).mono ?_
 rintro e w1 ⟨v1, rfl, hz1, e1⟩
 obtain ⟨o0, o1, po, no, co, rfl⟩ := hz1.shape
 have Ba := ((Box3.made w (.bool neg) (.int .i64 d) (.int .i64 x) 49).later (x1 _ _)).later e1
 have Br := (Box3.made (w.alloc (.cells #[.bool neg, .int .i64 d, .int .i64 x] 49)) (.int .i64 0) (.bool false) (.slice none 0 0) 133).later e1
 simp only [World.size_alloc] at Br
 have X1 := xt (xa (x1 _ _) _) e1
 have sz := e1.size
 simp only [World.size_alloc] at sz
 have n0 : w.heap.size + 1 ≠ w1.heap.size := by omega
 cases neg
 ·
  have Br1 := Br.later (x1 w1 (.cells #[.int .i64 o0, .bool o1, .slice po no co] 133))
  have Hz := (hz1.later (x1 _ _)).set3 Br1 (.int .i64 o0) (.bool o1) (.slice po no co)
  have Hx := Ext.set3 (b := w.heap.size + 1) (xa X1 (.cells #[.int .i64 o0, .bool o1, .slice po no co] 133)) (by omega) (.int .i64 o0) (.bool o1) (.slice po no co)
  obtain ⟨⟨q0, q1, q2⟩, _⟩ := Ba.up
  obtain ⟨⟨r0, r1, r2⟩, s0, s1, s2⟩ := Br.up
  clear Ba Br Br1
  go_wp2
  exact bodyPost_ret (v := .agg #[.int .i64 o0, .bool o1, .slice po no co]) (by simp [results, Tryz.results105, go_sem, r0, r1, r2]) rfl ⟨_, rfl, Hz, Hx⟩
 ·
  obtain ⟨⟨q0, q1, q2⟩, _⟩ := Ba.up
  go_wp2_with fail
  refine (minus_any _ (hz1.later (x1 _ _))).mono ?_
  rintro e w2 ⟨v2, rfl, hz2, e2⟩
  obtain ⟨m0, m1, pm, nm, cm, rfl⟩ := hz2.shape
  have Br2 := (Br.later (x1 _ _)).later e2
  have Hz := hz2.set3 Br2 (.int .i64 m0) (.bool m1) (.slice pm nm cm)
  have Hx := Ext.set3 (b := w.heap.size + 1) (xt (xa X1 _) e2) (by omega) (.int .i64 m0) (.bool m1) (.slice pm nm cm)
  obtain ⟨⟨r0, r1, r2⟩, s0, s1, s2⟩ := Br2
  clear Ba Br
  go_wp2
  exact bodyPost_ret (v := .agg #[.int .i64 m0, .bool m1, .slice pm nm cm]) (by simp [results, Tryz.results105, go_sem, r0, r1, r2]) rfl ⟨_, rfl, Hz, Hx⟩

theorem ten_int (n : Int) (w : World) (h0 : 0 ≤ n) (hn : n ≤ 1000000) :
  Calls Tryz.prog 106 #[.int .i64 n] w fun e w' => ∃ v', e = .returned v' ∧ ZV w' v' (10 ^ n.toNat) ∧ Ext w w' := by
 obtain ⟨m, rfl⟩ := Int.eq_ofNat_of_zero_le h0
 rw [Int.toNat_natCast]
 exact ten_any m w (by omega)

theorem fit_dec {neg : Bool} {d : Int} (k : Nat) (hk : 2 ≤ k) (h0 : 0 ≤ d) (h1 : d < 1000000000000000000) : ((sgn neg d).natAbs : Int) < 1000000000 ^ k := by
 have h2 : (1000000000 : Int) ^ 2 ≤ 1000000000 ^ k := pow_le_pow hk
 have e : (1000000000 : Int) ^ 2 = 1000000000000000000 := by decide
 cases neg <;> simp [sgn] <;> omega
theorem fit_ten {n : Int} (k : Nat) (hk : n.toNat + 1 ≤ k) : (((10 : Int) ^ n.toNat).natAbs : Int) < 1000000000 ^ k := by
 have := ten_fit n.toNat
 have := pow_le_pow hk
 omega

set_option maxHeartbeats 4000000 in
theorem sized_any (na nb : Bool) (da xa db xb : Int) (w : World) (da0 : 0 ≤ da) (da1 : da < 1000000000000000) (db0 : 0 ≤ db) (db1 : db < 1000000000000000) (xa0 : -300 ≤ xa) (xa1' : xa ≤ 300) (xb0 : -300 ≤ xb) (xb1 : xb ≤ 300) :
  Calls Tryz.prog 91 #[.agg #[.bool na, .int .i64 da, .int .i64 xa], .agg #[.bool nb, .int .i64 db, .int .i64 xb]] w
   fun e w' => e = .returned (.int .i64 (cmpI (sgn na da * 10 ^ (xa - min xa xb).toNat) (sgn nb db * 10 ^ (xb - min xa xb).toNat))) ∧ Ext w w' := by
 have Ba := (Box3.made w (.bool na) (.int .i64 da) (.int .i64 xa) 49).later (x1 _ (.cells #[.bool nb, .int .i64 db, .int .i64 xb] 49))
 have Bb := Box3.made (w.alloc (.cells #[.bool na, .int .i64 da, .int .i64 xa] 49)) (.bool nb) (.int .i64 db) (.int .i64 xb) 49
 simp only [World.size_alloc] at Bb
 have hda1 : -9000000000000000000 < da := by omega
 have hda2 : da < 9000000000000000000 := by omega
 have hdb1 : -9000000000000000000 < db := by omega
 have hdb2 : db < 9000000000000000000 := by omega
 have KA' : Hid (((sgn na da).natAbs : Int) < 1000000000 ^ 700) := fit_dec 700 (by decide) da0 (by omega)
 have KB' : Hid (((sgn nb db).natAbs : Int) < 1000000000 ^ 700) := fit_dec 700 (by decide) db0 (by omega)
 by_cases hlt : xb < xa
 ·
  have em : min xa xb = xb := by omega
  rw [em]
  have e0 : xb - xb = 0 := by omega
  rw [e0]
  have i0 : 0 ≤ xa - xb := by omega
  have i1 : xa - xb ≤ 600 := by omega
  have hw : IntKind.i64.wrap (xa - xb) = xa - xb := by rw [IntKind.wrap_i64]; omega
  clear em
  have T10 : 0 ≤ xa - xb := by omega
  have T11 : xa - xb ≤ 1000000 := by omega
  have T20 : (0 : Int) ≤ 0 := by omega
  have T21 : (0 : Int) ≤ 1000000 := by omega
  have KT1 : Hid ((((10 : Int) ^ (xa - xb).toNat).natAbs : Int) < 1000000000 ^ 700) := fit_ten 700 (by omega)
  have KT2 : Hid ((((10 : Int) ^ (0 : Int).toNat).natAbs : Int) < 1000000000 ^ 700) := fit_ten 700 (by omega)
  have Ba' := Ba
  have Bb' := Bb
  obtain ⟨⟨p0, p1, p2⟩, _⟩ := Ba'
  obtain ⟨⟨q0, q1, q2⟩, _⟩ := Bb'
  go_enter Tryz.func91, Tryz.ntmps91
  go_wp2_with fail
  go_region_held3 (fun w' => (w'.cell? ⟨w.heap.size, 0, none⟩ = some (.bool na) ∧ w'.cell? ⟨w.heap.size, 1, none⟩ = some (.int .i64 da) ∧ w'.cell? ⟨w.heap.size, 2, none⟩ = some (.int .i64 xa)) ∧ w'.cell? ⟨w.heap.size + 1, 0, none⟩ = some (.bool nb) ∧ w'.cell? ⟨w.heap.size + 1, 1, none⟩ = some (.int .i64 db) ∧ w'.cell? ⟨w.heap.size + 1, 2, none⟩ = some (.int .i64 xb)) (go_keep)
   (first
    | (go_at_call_of 105 (Value.agg #[.bool na, .int .i64 da, .int .i64 xa]); refine (of_any na da xa _ hda1 hda2).mono ?_; rintro e w1 ⟨v1, rfl, z1, e1⟩; have X1 := xt (xd (xr _)) e1; obtain ⟨⟨a10, a11, a12⟩, _⟩ := Ba.later X1; obtain ⟨⟨b10, b11, b12⟩, _⟩ := Bb.later X1)
    | (go_at_call_of 105 (Value.agg #[.bool nb, .int .i64 db, .int .i64 xb]); refine (of_any nb db xb _ hdb1 hdb2).mono ?_; rintro e w4 ⟨v4, rfl, z4, e4⟩; have X4 := xt X3 e4; obtain ⟨⟨a40, a41, a42⟩, _⟩ := Ba.later X4; obtain ⟨⟨b40, b41, b42⟩, _⟩ := Bb.later X4)
    | (go_at_call_of 103 v3; refine (cmp_any _ (((z3.later e4).later e5).later e6) z6).mono ?_; rintro e w7 ⟨rfl, e7⟩; have X7 := xt X6 e7; obtain ⟨⟨a70, a71, a72⟩, _⟩ := Ba.later X7; obtain ⟨⟨b70, b71, b72⟩, _⟩ := Bb.later X7)
    | (go_at_call_of 104 v1; refine (mul_any _ (z1.later e2) z2 700 (by decide) KA'.out KT1.out).mono ?_; rintro e w3 ⟨v3, rfl, z3, e3⟩; have X3 := xt X2 e3; obtain ⟨⟨a30, a31, a32⟩, _⟩ := Ba.later X3; obtain ⟨⟨b30, b31, b32⟩, _⟩ := Bb.later X3)
    | (go_at_call_of 104 v4; refine (mul_any _ (z4.later e5) z5 700 (by decide) KB'.out KT2.out).mono ?_; rintro e w6 ⟨v6, rfl, z6, e6⟩; have X6 := xt X5 e6; obtain ⟨⟨a60, a61, a62⟩, _⟩ := Ba.later X6; obtain ⟨⟨b60, b61, b62⟩, _⟩ := Bb.later X6)
    | (go_at_call_of 106 (Value.int .i64 (xa - xb)); refine (ten_int (xa - xb) _ T10 T11).mono ?_; rintro e w2 ⟨v2, rfl, z2, e2⟩; have X2 := xt X1 e2; obtain ⟨⟨a20, a21, a22⟩, _⟩ := Ba.later X2; obtain ⟨⟨b20, b21, b22⟩, _⟩ := Bb.later X2)
    | (go_at_call 106; refine (ten_int (0) _ T20 T21).mono ?_; rintro e w5 ⟨v5, rfl, z5, e5⟩; have X5 := xt X4 e5; obtain ⟨⟨a50, a51, a52⟩, _⟩ := Ba.later X5; obtain ⟨⟨b50, b51, b52⟩, _⟩ := Bb.later X5))
  go_wp2
  go_ret
  exact ⟨ret_int (by simp), xt (xt (x1 _ _) (x1 _ _)) X7⟩
 ·
  have em : min xa xb = xa := by omega
  rw [em]
  have e0 : xa - xa = 0 := by omega
  rw [e0]
  have i0 : 0 ≤ xb - xa := by omega
  have i1 : xb - xa ≤ 600 := by omega
  have hw : IntKind.i64.wrap (xb - xa) = xb - xa := by rw [IntKind.wrap_i64]; omega
  clear em
  have T10 : (0 : Int) ≤ 0 := by omega
  have T11 : (0 : Int) ≤ 1000000 := by omega
  have T20 : 0 ≤ xb - xa := by omega
  have T21 : xb - xa ≤ 1000000 := by omega
  have KT1 : Hid ((((10 : Int) ^ (0 : Int).toNat).natAbs : Int) < 1000000000 ^ 700) := fit_ten 700 (by omega)
  have KT2 : Hid ((((10 : Int) ^ (xb - xa).toNat).natAbs : Int) < 1000000000 ^ 700) := fit_ten 700 (by omega)
  have Ba' := Ba
  have Bb' := Bb
  obtain ⟨⟨p0, p1, p2⟩, _⟩ := Ba'
  obtain ⟨⟨q0, q1, q2⟩, _⟩ := Bb'
  go_enter Tryz.func91, Tryz.ntmps91
  go_wp2_with fail
  go_region_held3 (fun w' => (w'.cell? ⟨w.heap.size, 0, none⟩ = some (.bool na) ∧ w'.cell? ⟨w.heap.size, 1, none⟩ = some (.int .i64 da) ∧ w'.cell? ⟨w.heap.size, 2, none⟩ = some (.int .i64 xa)) ∧ w'.cell? ⟨w.heap.size + 1, 0, none⟩ = some (.bool nb) ∧ w'.cell? ⟨w.heap.size + 1, 1, none⟩ = some (.int .i64 db) ∧ w'.cell? ⟨w.heap.size + 1, 2, none⟩ = some (.int .i64 xb)) (go_keep)
   (first
    | (go_at_call_of 105 (Value.agg #[.bool na, .int .i64 da, .int .i64 xa]); refine (of_any na da xa _ hda1 hda2).mono ?_; rintro e w1 ⟨v1, rfl, z1, e1⟩; have X1 := xt (xd (xr _)) e1; obtain ⟨⟨a10, a11, a12⟩, _⟩ := Ba.later X1; obtain ⟨⟨b10, b11, b12⟩, _⟩ := Bb.later X1)
    | (go_at_call_of 105 (Value.agg #[.bool nb, .int .i64 db, .int .i64 xb]); refine (of_any nb db xb _ hdb1 hdb2).mono ?_; rintro e w4 ⟨v4, rfl, z4, e4⟩; have X4 := xt X3 e4; obtain ⟨⟨a40, a41, a42⟩, _⟩ := Ba.later X4; obtain ⟨⟨b40, b41, b42⟩, _⟩ := Bb.later X4)
    | (go_at_call_of 103 v3; refine (cmp_any _ (((z3.later e4).later e5).later e6) z6).mono ?_; rintro e w7 ⟨rfl, e7⟩; have X7 := xt X6 e7; obtain ⟨⟨a70, a71, a72⟩, _⟩ := Ba.later X7; obtain ⟨⟨b70, b71, b72⟩, _⟩ := Bb.later X7)
    | (go_at_call_of 104 v1; refine (mul_any _ (z1.later e2) z2 700 (by decide) KA'.out KT1.out).mono ?_; rintro e w3 ⟨v3, rfl, z3, e3⟩; have X3 := xt X2 e3; obtain ⟨⟨a30, a31, a32⟩, _⟩ := Ba.later X3; obtain ⟨⟨b30, b31, b32⟩, _⟩ := Bb.later X3)
    | (go_at_call_of 104 v4; refine (mul_any _ (z4.later e5) z5 700 (by decide) KB'.out KT2.out).mono ?_; rintro e w6 ⟨v6, rfl, z6, e6⟩; have X6 := xt X5 e6; obtain ⟨⟨a60, a61, a62⟩, _⟩ := Ba.later X6; obtain ⟨⟨b60, b61, b62⟩, _⟩ := Bb.later X6)
    | (go_at_call_of 106 (Value.int .i64 (xb - xa)); refine (ten_int (xb - xa) _ T20 T21).mono ?_; rintro e w5 ⟨v5, rfl, z5, e5⟩; have X5 := xt X4 e5; obtain ⟨⟨a50, a51, a52⟩, _⟩ := Ba.later X5; obtain ⟨⟨b50, b51, b52⟩, _⟩ := Bb.later X5)
    | (go_at_call 106; refine (ten_int (0) _ T10 T11).mono ?_; rintro e w2 ⟨v2, rfl, z2, e2⟩; have X2 := xt X1 e2; obtain ⟨⟨a20, a21, a22⟩, _⟩ := Ba.later X2; obtain ⟨⟨b20, b21, b22⟩, _⟩ := Bb.later X2))
  go_wp2
  go_ret
  exact ⟨ret_int (by simp), xt (xt (x1 _ _) (x1 _ _)) X7⟩

/-- A good decimal's bounds. -/
theorem good_bd {neg : Bool} {d x : Int} (h : goodB neg d x = true) : 0 ≤ d ∧ d < 1000000000000000 ∧ -300 ≤ x ∧ x ≤ 300 := by
 unfold goodB at h
 by_cases hd : d = 0
 ·
  rw [if_pos hd] at h
  simp at h
  omega
 ·
  rw [if_neg hd] at h
  simp at h
  omega

/-- What DecCmp answers. -/
def cmpDec (na : Bool) (da xa : Int) (nb : Bool) (db xb : Int) : Int :=
 if goodB na da xa && goodB nb db xb then cmpI (sgn na da * 10 ^ (xa - min xa xb).toNat) (sgn nb db * 10 ^ (xb - min xa xb).toNat) else -2

theorem goodI_is (c : Bool) (neg : Bool) (d x : Int) (w : World) (h1 : -9223372036854775808 ≤ d) (h2 : d ≤ 9223372036854775807) (hT : Tens w) (h : goodB neg d x = c) :
  Calls Tryz.prog 58 #[.agg #[.bool neg, .int .i64 d, .int .i64 x]] w fun e w' => e = .returned (.bool c) ∧ Ext w w' := by
 rw [← h]; exact goodI neg d x w h1 h2 hT

end Go.Proofs.YtgpfddneablcpaaGreatDoor

