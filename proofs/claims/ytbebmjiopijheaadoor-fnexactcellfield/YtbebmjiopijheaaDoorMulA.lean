/-
  l1Mul: the product.
-/
import Derived.Test.YtbebmjiopijheaaDoorMul
namespace Go.Proofs.YtbebmjiopijheaaDoor
open Go.RowKit

theorem mul_small (a b x y : Int) (hx : (a.natAbs : Int) = x) (hy : (b.natAbs : Int) = y) (hp : x = 0 ∨ y ≤ 999999999999999999 / x) : -1000000000000000000 < a * b ∧ a * b < 1000000000000000000 := by
  have h : x * y ≤ 999999999999999999 := by
    rcases hp with rfl | hp
    · simp
    · by_cases h0 : x = 0
      · subst h0; simp
      · have h1 : x * y ≤ x * (999999999999999999 / x) := Int.mul_le_mul_of_nonneg_left hp (by omega)
        have h2 : x * (999999999999999999 / x) ≤ 999999999999999999 := Int.mul_ediv_self_le h0
        omega
  have h3 : (((a * b).natAbs : Nat) : Int) = x * y := by rw [Int.natAbs_mul, Int.natCast_mul, hx, hy]
  omega

set_option maxHeartbeats 2000000 in
theorem mul_fast {va vb : Value} {a b : Int} (w : World) (ha : ZV w va a) (hb : ZV w vb b) (sa' : smallB a = true) (sb' : smallB b = true) (hp : (a.natAbs : Int) = 0 ∨ (b.natAbs : Int) ≤ 999999999999999999 / (a.natAbs : Int)) :
    Calls Tryd.prog 58 #[va, vb] w fun e w' => ∃ v', e = .returned v' ∧ ZV w' v' (a * b) ∧ Ext w w' := by
  obtain ⟨s1, s2, rfl⟩ := ha.small_of sa'
  obtain ⟨t1, t2, rfl⟩ := hb.small_of sb'
  obtain ⟨x, hx⟩ : ∃ x, (a.natAbs : Int) = x := ⟨_, rfl⟩
  obtain ⟨y, hy⟩ : ∃ y, (b.natAbs : Int) = y := ⟨_, rfl⟩
  have HX : Hid ((a.natAbs : Int) = x) := hx
  have HY : Hid ((b.natAbs : Int) = y) := hy
  rw [hx, hy] at hp
  obtain ⟨m1, m2⟩ := mul_small a b x y hx hy hp
  have x0 : 0 ≤ x := by omega
  have x1' : x < 1000000000000000000 := by omega
  have y0 : 0 ≤ y := by omega
  have y1' : y < 1000000000000000000 := by omega
  clear hx hy
  go_enter Tryd.func58, Tryd.ntmps58
  go_wp2_with fail
  refine (isSmall_any _ (ha.later (xa (xa (x1 _ _) _) _))).mono ?_
  rintro e w1 ⟨rfl, e1⟩
  have Ba := ((Box3.made w (.int .i64 a) (.bool false) (.slice none 0 0) 80).later (xa (x1 _ _) _)).later e1
  have Bb := ((Box3.made (w.alloc (.cells #[.int .i64 a, .bool false, .slice none 0 0] 80)) (.int .i64 b) (.bool false) (.slice none 0 0) 80).later (x1 _ _)).later e1
  have Br := (Box3.made ((w.alloc (.cells #[.int .i64 a, .bool false, .slice none 0 0] 80)).alloc (.cells #[.int .i64 b, .bool false, .slice none 0 0] 80)) (.int .i64 0) (.bool false) (.slice none 0 0) 80).later e1
  simp only [World.size_alloc] at Ba Bb Br
  have ha1 := (ha.later (xa (xa (x1 _ _) _) _)).later e1
  have hb1 := (hb.later (xa (xa (x1 _ _) _) _)).later e1
  have X1 := xt (xa (xa (x1 _ _) _) _) e1
  clear e1 ha hb
  have Bb' := Bb
  obtain ⟨⟨p0, p1, p2⟩, _⟩ := Bb'
  go_wp2_with fail
  clear p0 p1 p2
  refine (isSmall_any _ hb1).mono ?_
  rintro e w1b ⟨rfl, e1b⟩
  replace Ba := Ba.later e1b
  replace Bb := Bb.later e1b
  replace Br := Br.later e1b
  replace ha1 := ha1.later e1b
  replace hb1 := hb1.later e1b
  replace X1 := xt X1 e1b
  clear e1b
  have Ba' := Ba
  have Bb' := Bb
  obtain ⟨⟨p0, p1, p2⟩, _⟩ := Ba'
  obtain ⟨⟨q0, q1, q2⟩, _⟩ := Bb'
  go_wp2_with fail
  refine (abs64_eq a x _ s1 s2 HX.out).mono ?_
  rintro e w' ⟨rfl, hw⟩
  subst hw
  go_wp2_with fail
  refine (abs64_eq b y _ t1 t2 HY.out).mono ?_
  rintro e w' ⟨rfl, hw⟩
  subst hw
  have Hz := (ZV.small (w := w') m1 m2).set3 Br (.int .i64 (a * b)) (.bool false) (.slice none 0 0)
  have Hx := Ext.set3 (b := w.heap.size + 1 + 1) X1 (by omega) (.int .i64 (a * b)) (.bool false) (.slice none 0 0)
  obtain ⟨⟨r0, r1, r2⟩, f0, f1, f2⟩ := Br
  by_cases hx0 : x = 0
  · have hx0' : (x == 0) = true := by rw [hx0]; rfl
    clear hx0
    go_wp2
    exact bodyPost_ret (v := zS (a * b)) (by simp [results, Tryd.results58, go_sem, r0, r1, r2]) rfl ⟨_, rfl, Hz, Hx⟩
  · have hx0' : (x == 0) = false := by rw [beq_eq_false_iff_ne]; exact hx0
    have hx2 : 0 < x := by omega
    have hp' : y ≤ 999999999999999999 / x := hp.resolve_left hx0
    clear hx0 hp
    go_wp2
    exact bodyPost_ret (v := zS (a * b)) (by simp [results, Tryd.results58, go_sem, r0, r1, r2]) rfl ⟨_, rfl, Hz, Hx⟩

end Go.Proofs.YtbebmjiopijheaaDoor

