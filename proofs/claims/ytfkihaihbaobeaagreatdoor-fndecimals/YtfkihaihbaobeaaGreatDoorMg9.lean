/-
  Several texts in one: Ten, TenB.
-/
import Derived.Test.YtfkihaihbaobeaaGreatDoorMg8
import Derived.Test.YtfkihaihbaobeaaGreatDoorWideD
namespace Go.Proofs.YtfkihaihbaobeaaGreatDoor
open Go.RowKit

theorem Box3.set3_same {w : World} {b : Nat} {v0 v1 v2 : Value} (h : Box3 w b v0 v1 v2) (c0 c1 c2 : Value) : Box3 (set3 w b c0 c1 c2) b c0 c1 c2 := by
  obtain ⟨⟨q0, q1, q2⟩, f0, f1, f2⟩ := h
  have n01 : (⟨b, 0, none⟩ : Addr) ≠ ⟨b, 1, none⟩ := addr_ne (by decide)
  have n02 : (⟨b, 0, none⟩ : Addr) ≠ ⟨b, 2, none⟩ := addr_ne (by decide)
  have n12 : (⟨b, 1, none⟩ : Addr) ≠ ⟨b, 2, none⟩ := addr_ne (by decide)
  refine ⟨⟨?_, ?_, ?_⟩, ?_, ?_, ?_⟩
  · rw [World.cell?_setCell_other _ _ _ _ n02.symm, World.cell?_setCell_other _ _ _ _ n01.symm]
    exact World.cell?_setCell_same _ _ _ q0
  · rw [World.cell?_setCell_other _ _ _ _ n12.symm]
    exact World.cell?_setCell_same _ _ _ (by rw [World.cell?_setCell_other _ _ _ _ n01]; exact q1)
  · exact World.cell?_setCell_same _ _ _ (by rw [World.cell?_setCell_other _ _ _ _ n12, World.cell?_setCell_other _ _ _ _ n02]; exact q2)
  · simp [World.frozen?_setCell, f0]
  · simp [World.frozen?_setCell, f1]
  · simp [World.frozen?_setCell, f2]
theorem addr_far {b g i j : Nat} (h : b ≠ g) : (⟨g, i, none⟩ : Addr) ≠ ⟨b, j, none⟩ := fun e => h (by cases e; rfl)
theorem Box3.set3_other {w : World} {b g : Nat} {v0 v1 v2 : Value} (h : Box3 w b v0 v1 v2) (hb : b ≠ g) (c0 c1 c2 : Value) : Box3 (set3 w g c0 c1 c2) b v0 v1 v2 := by
  obtain ⟨⟨q0, q1, q2⟩, f0, f1, f2⟩ := h
  refine ⟨⟨?_, ?_, ?_⟩, ?_, ?_, ?_⟩
  · rw [World.cell?_setCell_other _ _ _ _ (addr_far hb), World.cell?_setCell_other _ _ _ _ (addr_far hb), World.cell?_setCell_other _ _ _ _ (addr_far hb)]; exact q0
  · rw [World.cell?_setCell_other _ _ _ _ (addr_far hb), World.cell?_setCell_other _ _ _ _ (addr_far hb), World.cell?_setCell_other _ _ _ _ (addr_far hb)]; exact q1
  · rw [World.cell?_setCell_other _ _ _ _ (addr_far hb), World.cell?_setCell_other _ _ _ _ (addr_far hb), World.cell?_setCell_other _ _ _ _ (addr_far hb)]; exact q2
  · simp [World.frozen?_setCell, f0]
  · simp [World.frozen?_setCell, f1]
  · simp [World.frozen?_setCell, f2]

set_option maxHeartbeats 2000000 in
theorem power_any {va : Value} {a : Int} (n : Nat) (w : World) (ha : ZV w va a) (hn : n ≤ 1000000) (k : Nat) (hk : k ≤ 1000000000) (ka : (a.natAbs : Int) < 1000000000 ^ k) (kp : ∀ i, i ≤ n → ((a ^ i).natAbs : Int) < 1000000000 ^ k) :
    Calls Tryz.prog 80 #[va, .int .i64 n] w fun e w' => ∃ v', e = .returned v' ∧ ZV w' v' (a ^ n) ∧ Ext w w' := by
  obtain ⟨a0, a1, pa, na, ca, rfl⟩ := ha.shape
  go_enter Tryz.func80, Tryz.ntmps80
  go_wp2_with fail
  refine (small_any 1 _ (by decide) (by decide)).mono ?_
  rintro e w1 ⟨v1, rfl, h1, e1⟩
  obtain ⟨o0, o1, po, no, co, rfl⟩ := h1.shape
  have Ba := ((Box3.made w (.int .i64 a0) (.bool a1) (.slice pa na ca) 46).later (x1 _ _)).later e1
  have Br := (Box3.made (w.alloc (.cells #[.int .i64 a0, .bool a1, .slice pa na ca] 46)) (.int .i64 0) (.bool false) (.slice none 0 0) 46).later e1
  simp only [World.size_alloc] at Br
  have X1 := xt (xa (x1 _ _) _) e1
  have sz := e1.size
  simp only [World.size_alloc] at sz
  have KH : Hid ((a.natAbs : Int) < 1000000000 ^ k ∧ ∀ i, i ≤ n → ((a ^ i).natAbs : Int) < 1000000000 ^ k) := ⟨ka, kp⟩
  clear e1 ka kp
  go_wp2_with fail
  go_loopw [6] (fun i wr => ∃ (m : Nat) (c0 : Int) (c1 : Bool) (pc : Option Addr) (nc cc : Nat), m ≤ n ∧ i = .int .i64 m ∧ Box3 wr w1.heap.size (.int .i64 c0) (.bool c1) (.slice pc nc cc) ∧ ZV wr (.agg #[.int .i64 c0, .bool c1, .slice pc nc cc]) (a ^ m) ∧
      Box3 wr w.heap.size (.int .i64 a0) (.bool a1) (.slice pa na ca) ∧ Box3 wr (w.heap.size + 1) (.int .i64 0) (.bool false) (.slice none 0 0) ∧ Ext w wr) (fun i _ => n - (intOf i).toNat)
  case atStart => exact ⟨0, o0, o1, po, no, co, Nat.zero_le _, rfl, Box3.made _ _ _ _ _, by rw [Int.pow_zero]; exact h1.later (x1 _ _), Ba.later (x1 _ _), Br.later (x1 _ _), xa X1 _⟩
  case round =>
    obtain ⟨m, c0, c1, pc, nc, cc, hm, rfl, Bo, ho, Bar, Brr, X⟩ := hrel
    by_cases hlt : m < n
    · have Bo' := Bo
      have Ba' := Bar
      obtain ⟨⟨q0, q1, q2⟩, _⟩ := Bo'
      obtain ⟨⟨p0, p1, p2⟩, _⟩ := Ba'
      clear Ba Br
      go_wp2_with fail
      refine (mul_any _ ho (ha.later X) k hk (KH.out.2 m hm) KH.out.1).mono ?_
      rintro e w2 ⟨v2, rfl, h2, e2⟩
      obtain ⟨d0, d1, pd, nd, cd, rfl⟩ := h2.shape
      have B2 := Bo.later e2
      have R : Hid (Box3 (set3 w2 w1.heap.size (.int .i64 d0) (.bool d1) (.slice pd nd cd)) w1.heap.size (.int .i64 d0) (.bool d1) (.slice pd nd cd) ∧ ZV (set3 w2 w1.heap.size (.int .i64 d0) (.bool d1) (.slice pd nd cd)) (.agg #[.int .i64 d0, .bool d1, .slice pd nd cd]) (a ^ (m + 1)) ∧
          Box3 (set3 w2 w1.heap.size (.int .i64 d0) (.bool d1) (.slice pd nd cd)) w.heap.size (.int .i64 a0) (.bool a1) (.slice pa na ca) ∧ Box3 (set3 w2 w1.heap.size (.int .i64 d0) (.bool d1) (.slice pd nd cd)) (w.heap.size + 1) (.int .i64 0) (.bool false) (.slice none 0 0) ∧ Ext w (set3 w2 w1.heap.size (.int .i64 d0) (.bool d1) (.slice pd nd cd))) :=
        ⟨B2.set3_same _ _ _, by rw [Int.pow_succ]; exact h2.set3 B2 _ _ _, (Bar.later e2).set3_other (by omega) _ _ _, (Brr.later e2).set3_other (by omega) _ _ _, Ext.set3 (xt X e2) (by omega) _ _ _⟩
      obtain ⟨⟨r0, r1, r2⟩, s0, s1, s2⟩ := B2
      clear Bo ho Bar Brr X h2 e2
      go_wp2
      go_roundw
      case rel => exact ⟨m + 1, d0, d1, pd, nd, cd, by omega, by go_num, R.out.1, R.out.2.1, R.out.2.2.1, R.out.2.2.2.1, R.out.2.2.2.2⟩
      case measure => simp [intOf]; omega
    · obtain rfl : m = n := by omega
      have Hz := ho.set3 Brr (.int .i64 c0) (.bool c1) (.slice pc nc cc)
      have Hx := Ext.set3 (b := w.heap.size + 1) X (by omega) (.int .i64 c0) (.bool c1) (.slice pc nc cc)
      obtain ⟨⟨q0, q1, q2⟩, _⟩ := Bo
      obtain ⟨⟨r0, r1, r2⟩, s0, s1, s2⟩ := Brr
      clear Ba Br
      go_wp2
      exact bodyPost_ret (v := .agg #[.int .i64 c0, .bool c1, .slice pc nc cc]) (by simp [results, Tryz.results80, go_sem, r0, r1, r2]) rfl ⟨_, rfl, Hz, Hx⟩

theorem ten_fit (i : Nat) : (((10 : Int) ^ i).natAbs : Int) < 1000000000 ^ (i + 1) := by
  have e : (((10 : Int) ^ i).natAbs : Int) = ((10 ^ i : Nat) : Int) := by rw [Int.natAbs_pow]; rfl
  rw [e]
  have h1 : 10 ^ i ≤ 1000000000 ^ i := Nat.pow_le_pow_left (by decide) i
  have h2 : 1000000000 ^ i < 1000000000 ^ (i + 1) := Nat.pow_lt_pow_right (by decide) (by omega)
  have h3 : ((10 ^ i : Nat) : Int) < ((1000000000 ^ (i + 1) : Nat) : Int) := by exact_mod_cast Nat.lt_of_le_of_lt h1 h2
  simpa using h3
theorem ten_fits (n i : Nat) (h : i ≤ n) : (((10 : Int) ^ i).natAbs : Int) < 1000000000 ^ (n + 1) := by
  have h1 := ten_fit i
  have h2 : (1000000000 : Int) ^ (i + 1) ≤ 1000000000 ^ (n + 1) := by
    have := Nat.pow_le_pow_right (n := 1000000000) (by decide) (show i + 1 ≤ n + 1 by omega)
    have h3 : ((1000000000 ^ (i + 1) : Nat) : Int) ≤ ((1000000000 ^ (n + 1) : Nat) : Int) := by exact_mod_cast this
    simpa using h3
  omega

theorem Box3.up {w : World} {b : Nat} {v0 v1 v2 : Value} (h : Box3 w b v0 v1 v2) : ((∀ o, (w.alloc o).cell? ⟨b, 0, none⟩ = some v0) ∧ (∀ o, (w.alloc o).cell? ⟨b, 1, none⟩ = some v1) ∧ ∀ o, (w.alloc o).cell? ⟨b, 2, none⟩ = some v2) ∧ (∀ o, (w.alloc o).frozen? ⟨b, 0, none⟩ = false) ∧ (∀ o, (w.alloc o).frozen? ⟨b, 1, none⟩ = false) ∧ ∀ o, (w.alloc o).frozen? ⟨b, 2, none⟩ = false :=
  ⟨⟨fun o => (h.later (x1 w o)).1.1, fun o => (h.later (x1 w o)).1.2.1, fun o => (h.later (x1 w o)).1.2.2⟩, fun o => (h.later (x1 w o)).2.1, fun o => (h.later (x1 w o)).2.2.1, fun o => (h.later (x1 w o)).2.2.2⟩

set_option maxHeartbeats 1000000 in
theorem ten_any (n : Nat) (w : World) (hn : n ≤ 1000000) :
    Calls Tryz.prog 41 #[.int .i64 n] w fun e w' => ∃ v', e = .returned v' ∧ ZV w' v' (10 ^ n) ∧ Ext w w' := by
  go_enter Tryz.func41, Tryz.ntmps41
  go_wp2_with fail
  refine (small_any 10 _ (by decide) (by decide)).mono ?_
  rintro e w1 ⟨v1, rfl, h1, e1⟩
  go_wp2_with fail
  refine (power_any n _ h1 hn (n + 1 + 1) (by omega) (by simpa using ten_fits (n + 1) 1 (by omega)) (fun i hi => ten_fits (n + 1) i (by omega))).mono ?_
  rintro e w2 ⟨v2, rfl, h2, e2⟩
  obtain ⟨o0, o1, po, no, co, rfl⟩ := h2.shape
  have Br := ((Box3.made w (.int .i64 0) (.bool false) (.slice none 0 0) 46).later e1).later e2
  have Hz := h2.set3 Br (.int .i64 o0) (.bool o1) (.slice po no co)
  have Hx := Ext.set3 (b := w.heap.size) (xt (xt (x1 _ _) e1) e2) (Nat.le_refl _) (.int .i64 o0) (.bool o1) (.slice po no co)
  obtain ⟨⟨r0, r1, r2⟩, s0, s1, s2⟩ := Br
  go_wp2
  exact bodyPost_ret (v := .agg #[.int .i64 o0, .bool o1, .slice po no co]) (by simp [results, Tryz.results41, go_sem, r0, r1, r2]) rfl ⟨_, rfl, Hz, Hx⟩

set_option maxHeartbeats 1000000 in
theorem of_any (neg : Bool) (d x : Int) (w : World) (h1 : -9000000000000000000 < d) (h2 : d < 9000000000000000000) :
    Calls Tryz.prog 24 #[.agg #[.bool neg, .int .i64 d, .int .i64 x]] w fun e w' => ∃ v', e = .returned v' ∧ ZV w' v' (sgn neg d) ∧ Ext w w' := by
  go_enter Tryz.func24, Tryz.ntmps24
  go_wp2_with fail
  refine (small_any d _ h1 h2).mono ?_
  rintro e w1 ⟨v1, rfl, hz1, e1⟩
  obtain ⟨o0, o1, po, no, co, rfl⟩ := hz1.shape
  have Ba := ((Box3.made w (.bool neg) (.int .i64 d) (.int .i64 x) 24).later (x1 _ _)).later e1
  have Br := (Box3.made (w.alloc (.cells #[.bool neg, .int .i64 d, .int .i64 x] 24)) (.int .i64 0) (.bool false) (.slice none 0 0) 46).later e1
  simp only [World.size_alloc] at Br
  have X1 := xt (xa (x1 _ _) _) e1
  have sz := e1.size
  simp only [World.size_alloc] at sz
  have n0 : w.heap.size + 1 ≠ w1.heap.size := by omega
  cases neg
  · have Br1 := Br.later (x1 w1 (.cells #[.int .i64 o0, .bool o1, .slice po no co] 46))
    have Hz := (hz1.later (x1 _ _)).set3 Br1 (.int .i64 o0) (.bool o1) (.slice po no co)
    have Hx := Ext.set3 (b := w.heap.size + 1) (xa X1 (.cells #[.int .i64 o0, .bool o1, .slice po no co] 46)) (by omega) (.int .i64 o0) (.bool o1) (.slice po no co)
    obtain ⟨⟨q0, q1, q2⟩, _⟩ := Ba.up
    obtain ⟨⟨r0, r1, r2⟩, s0, s1, s2⟩ := Br.up
    clear Ba Br Br1
    go_wp2
    exact bodyPost_ret (v := .agg #[.int .i64 o0, .bool o1, .slice po no co]) (by simp [results, Tryz.results24, go_sem, r0, r1, r2]) rfl ⟨_, rfl, Hz, Hx⟩
  · obtain ⟨⟨q0, q1, q2⟩, _⟩ := Ba.up
    go_wp2_with fail
    refine (minus_any _ (hz1.later (x1 _ _))).mono ?_
    rintro e w2 ⟨v2, rfl, hz2, e2⟩
    obtain ⟨m0, m1, pm, nm, cm, rfl⟩ := hz2.shape
    have Br2 := (Br.later (x1 _ _)).later e2
    have Hz := hz2.set3 Br2 (.int .i64 m0) (.bool m1) (.slice pm nm cm)
    have Hx := Ext.set3 (b := w.heap.size + 1) (xt (xa X1 _) e2) (by omega) (.int .i64 m0) (.bool m1) (.slice pm nm cm)
    obtain ⟨⟨r0, r1, r2⟩, s0, s1, s2⟩ := Br2
    clear Ba Br
    go_wp2
    exact bodyPost_ret (v := .agg #[.int .i64 m0, .bool m1, .slice pm nm cm]) (by simp [results, Tryz.results24, go_sem, r0, r1, r2]) rfl ⟨_, rfl, Hz, Hx⟩

end Go.Proofs.YtfkihaihbaobeaaGreatDoor

