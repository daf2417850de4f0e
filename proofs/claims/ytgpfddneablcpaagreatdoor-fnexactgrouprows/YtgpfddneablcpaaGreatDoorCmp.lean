/-
  l1Cmp: two numbers compared.
-/
import Derived.Test.YtgpfddneablcpaaGreatDoorMg12
import Derived.Deep.RegionHeld3
namespace Go.Proofs.YtgpfddneablcpaaGreatDoor
open Go.RowKit

theorem cmp_abs_neg {a b : Int} (ha : a < 0) (hb : b < 0) : -cmpI (a.natAbs : Int) (b.natAbs : Int) = cmpI a b := by
 have e1 : (a.natAbs : Int) = -a := by omega
 have e2 : (b.natAbs : Int) = -b := by omega
 rw [e1, e2, cmpI_neg]; simp
theorem cmp_abs_pos {a b : Int} (ha : ¬ a < 0) (hb : ¬ b < 0) : cmpI (a.natAbs : Int) (b.natAbs : Int) = cmpI a b := by
 have e1 : (a.natAbs : Int) = a := by omega
 have e2 : (b.natAbs : Int) = b := by omega
 rw [e1, e2]

set_option maxHeartbeats 2000000 in
theorem cmp_small {va vb : Value} {a b : Int} (w : World) (ha : ZV w va a) (hb : ZV w vb b) (sa : smallB a = true) (sb : smallB b = true) :
  Calls Tryz.prog 103 #[va, vb] w fun e w' => e = .returned (.int .i64 (cmpI a b)) ∧ Ext w w' := by
 obtain ⟨s1, s2, rfl⟩ := ha.small_of sa
 obtain ⟨t1, t2, rfl⟩ := hb.small_of sb
 have H : Hid (cmpI a b = if a < b then -1 else if b < a then 1 else 0) := rfl
 go_enter Tryz.func103, Tryz.ntmps103
 go_wp2
 all_goals go_ret
 all_goals refine ⟨ret_int ?_, ?_⟩
 all_goals first | (rw [H.out]; split <;> (try split) <;> omega) | skip
 all_goals exact xa (xa (xa (x1 _ _) _) _) _

theorem neg_is {v : Value} {z : Int} (c : Bool) (w : World) (hc : decide (z < 0) = c) (h : ZV w v z) :
  Calls Tryz.prog 112 #[v] w fun e w' => e = .returned (.bool c) ∧ Ext w w' := by
 rw [← hc]; exact neg_any w h
theorem cmpI_bd (a b : Int) : -1 ≤ cmpI a b ∧ cmpI a b ≤ 1 := by unfold cmpI; split <;> (try split) <;> omega
theorem cmpL_any {va vb : Value} {a b : Int} (w : World) (ha : Limbs w va a) (hb : Limbs w vb b) :
  Calls Tryz.prog 113 #[va, vb] w fun e w' => e = .returned (.int .i64 (cmpI a b)) ∧ Ext w w' := by
 obtain ⟨xs, h1, h2, h3, rfl⟩ := ha
 obtain ⟨ys, k1, k2, k3, rfl⟩ := hb
 exact cmpD_any w h1 k1 h2 k2 h3 k3

set_option maxHeartbeats 4000000 in
theorem cmp_bigA {va vb : Value} {a b : Int} (w : World) (ha : ZV w va a) (hb : ZV w vb b) (sa : smallB a = false) :
  Calls Tryz.prog 103 #[va, vb] w fun e w' => e = .returned (.int .i64 (cmpI a b)) ∧ Ext w w' := by
 obtain ⟨a0, a1, pa, na, ca, rfl⟩ := ha.shape
 obtain ⟨b0, b1, pb, nb, cb, rfl⟩ := hb.shape
 go_enter Tryz.func103, Tryz.ntmps103
 go_wp2_with fail
 refine (isSmall_any _ (ha.later (xa (x1 _ _) _))).mono ?_
 rintro e w1 ⟨rfl, e1⟩
 have Ba := ((Box3.made w (.int .i64 a0) (.bool a1) (.slice pa na ca) 133).later (x1 _ _)).later e1
 have Bb := (Box3.made (w.alloc (.cells #[.int .i64 a0, .bool a1, .slice pa na ca] 133)) (.int .i64 b0) (.bool b1) (.slice pb nb cb) 133).later e1
 simp only [World.size_alloc] at Bb
 have ha1 := (ha.later (xa (x1 _ _) _)).later e1
 have hb1 := (hb.later (xa (x1 _ _) _)).later e1
 have X1 := xt (xa (x1 _ _) _) e1
 clear e1 ha hb
 have Ba' := Ba
 have Bb' := Bb
 obtain ⟨⟨p0, p1, p2⟩, _⟩ := Ba'
 obtain ⟨⟨q0, q1, q2⟩, _⟩ := Bb'
 go_wp2_with fail
 by_cases hn : a < 0
 ·
  have hn' : decide (a < 0) = true := by simpa using hn
  by_cases hm : b < 0
  ·
   have hm' : decide (b < 0) = true := by simpa using hm
   go_region_held3 (fun w' => (w'.cell? ⟨w.heap.size, 0, none⟩ = some (.int .i64 a0) ∧ w'.cell? ⟨w.heap.size, 1, none⟩ = some (.bool a1) ∧ w'.cell? ⟨w.heap.size, 2, none⟩ = some (.slice pa na ca)) ∧ w'.cell? ⟨w.heap.size + 1, 0, none⟩ = some (.int .i64 b0) ∧ w'.cell? ⟨w.heap.size + 1, 1, none⟩ = some (.bool b1) ∧ w'.cell? ⟨w.heap.size + 1, 2, none⟩ = some (.slice pb nb cb)) (go_keep)
    (first
     | (go_at_call_of 112 (Value.agg #[.int .i64 a0, .bool a1, .slice pa na ca]); refine (neg_is (z := a) true _ hn' ?_).mono ?_; (exact ha1.later (xd (xr _))); rintro e w4 ⟨rfl, e4⟩; have X4 := xt (xd (xr _)) e4; obtain ⟨⟨c0, c1, c2⟩, _⟩ := Ba.later X4; obtain ⟨⟨d0, d1, d2⟩, _⟩ := Bb.later X4)
     | (go_at_call_of 112 (Value.agg #[.int .i64 b0, .bool b1, .slice pb nb cb]); refine (neg_is (z := b) true _ hm' ?_).mono ?_; (exact hb1.later X4); rintro e w5 ⟨rfl, e5⟩; have X5 := xt X4 e5; obtain ⟨⟨f0, f1, f2⟩, _⟩ := Ba.later X5; obtain ⟨⟨g0, g1, g2⟩, _⟩ := Bb.later X5))
   have HH : Hid (-cmpI (a.natAbs : Int) (b.natAbs : Int) = cmpI a b) := cmp_abs_neg (by omega) (by omega)
   go_wp2_with fail
   go_region_held3 (fun w' => (w'.cell? ⟨w.heap.size, 0, none⟩ = some (.int .i64 a0) ∧ w'.cell? ⟨w.heap.size, 1, none⟩ = some (.bool a1) ∧ w'.cell? ⟨w.heap.size, 2, none⟩ = some (.slice pa na ca)) ∧ w'.cell? ⟨w.heap.size + 1, 0, none⟩ = some (.int .i64 b0) ∧ w'.cell? ⟨w.heap.size + 1, 1, none⟩ = some (.bool b1) ∧ w'.cell? ⟨w.heap.size + 1, 2, none⟩ = some (.slice pb nb cb)) (go_keep)
    (first
     | (go_at_call_of 114 (Value.agg #[.int .i64 a0, .bool a1, .slice pa na ca]); refine (limbs_any (z := a) _ ?_).mono ?_; (exact (ha1.later X5).later (xd (xr _))); rintro e w6 ⟨x6, rfl, l6, e6⟩; have X6 := xt (xt X5 (xd (xr _))) e6; obtain ⟨⟨i0, i1, i2⟩, _⟩ := Ba.later X6; obtain ⟨⟨j0, j1, j2⟩, _⟩ := Bb.later X6)
     | (go_at_call_of 114 (Value.agg #[.int .i64 b0, .bool b1, .slice pb nb cb]); refine (limbs_any (z := b) _ ?_).mono ?_; (exact hb1.later X6); rintro e w7 ⟨x7, rfl, l7, e7⟩; have X7 := xt X6 e7; obtain ⟨⟨k0, k1, k2⟩, _⟩ := Ba.later X7; obtain ⟨⟨m0, m1, m2⟩, _⟩ := Bb.later X7)
     | (go_at_call 113; refine (cmpL_any _ (l6.later e7) l7).mono ?_; rintro e w8 ⟨rfl, e8⟩; have X8 := xt X7 e8; obtain ⟨⟨n0, n1, n2⟩, _⟩ := Ba.later X8; obtain ⟨⟨o0, o1, o2⟩, _⟩ := Bb.later X8))
   go_wp2_with fail
   refine (neg_is _ _ hn' (ha1.later X8)).mono ?_
   rintro e w9 ⟨rfl, e9⟩
   have cb := cmpI_bd (a.natAbs : Int) (b.natAbs : Int)
   go_wp2
   go_ret
   exact ⟨ret_int HH.out, xt X1 (xt X8 e9)⟩
  ·
   have hm' : decide (b < 0) = false := by simpa using hm
   go_region_held3 (fun w' => (w'.cell? ⟨w.heap.size, 0, none⟩ = some (.int .i64 a0) ∧ w'.cell? ⟨w.heap.size, 1, none⟩ = some (.bool a1) ∧ w'.cell? ⟨w.heap.size, 2, none⟩ = some (.slice pa na ca)) ∧ w'.cell? ⟨w.heap.size + 1, 0, none⟩ = some (.int .i64 b0) ∧ w'.cell? ⟨w.heap.size + 1, 1, none⟩ = some (.bool b1) ∧ w'.cell? ⟨w.heap.size + 1, 2, none⟩ = some (.slice pb nb cb)) (go_keep)
    (first
     | (go_at_call_of 112 (Value.agg #[.int .i64 a0, .bool a1, .slice pa na ca]); refine (neg_is (z := a) true _ hn' ?_).mono ?_; (exact ha1.later (xd (xr _))); rintro e w4 ⟨rfl, e4⟩; have X4 := xt (xd (xr _)) e4; obtain ⟨⟨c0, c1, c2⟩, _⟩ := Ba.later X4; obtain ⟨⟨d0, d1, d2⟩, _⟩ := Bb.later X4)
     | (go_at_call_of 112 (Value.agg #[.int .i64 b0, .bool b1, .slice pb nb cb]); refine (neg_is (z := b) false _ hm' ?_).mono ?_; (exact hb1.later X4); rintro e w5 ⟨rfl, e5⟩; have X5 := xt X4 e5; obtain ⟨⟨f0, f1, f2⟩, _⟩ := Ba.later X5; obtain ⟨⟨g0, g1, g2⟩, _⟩ := Bb.later X5))
   have HH : Hid (cmpI a b = -1) := cmpI_lt (by omega)
   go_wp2_with fail
   refine (neg_is _ _ hn' (ha1.later X5)).mono ?_
   rintro e w9 ⟨rfl, e9⟩
   go_wp2
   go_ret
   exact ⟨ret_int HH.out.symm, xt X1 (xt X5 e9)⟩
 ·
  have hn' : decide (a < 0) = false := by simpa using hn
  by_cases hm : b < 0
  ·
   have hm' : decide (b < 0) = true := by simpa using hm
   go_region_held3 (fun w' => (w'.cell? ⟨w.heap.size, 0, none⟩ = some (.int .i64 a0) ∧ w'.cell? ⟨w.heap.size, 1, none⟩ = some (.bool a1) ∧ w'.cell? ⟨w.heap.size, 2, none⟩ = some (.slice pa na ca)) ∧ w'.cell? ⟨w.heap.size + 1, 0, none⟩ = some (.int .i64 b0) ∧ w'.cell? ⟨w.heap.size + 1, 1, none⟩ = some (.bool b1) ∧ w'.cell? ⟨w.heap.size + 1, 2, none⟩ = some (.slice pb nb cb)) (go_keep)
    (first
     | (go_at_call_of 112 (Value.agg #[.int .i64 a0, .bool a1, .slice pa na ca]); refine (neg_is (z := a) false _ hn' ?_).mono ?_; (exact ha1.later (xd (xr _))); rintro e w4 ⟨rfl, e4⟩; have X4 := xt (xd (xr _)) e4; obtain ⟨⟨c0, c1, c2⟩, _⟩ := Ba.later X4; obtain ⟨⟨d0, d1, d2⟩, _⟩ := Bb.later X4)
     | (go_at_call_of 112 (Value.agg #[.int .i64 b0, .bool b1, .slice pb nb cb]); refine (neg_is (z := b) true _ hm' ?_).mono ?_; (exact hb1.later X4); rintro e w5 ⟨rfl, e5⟩; have X5 := xt X4 e5; obtain ⟨⟨f0, f1, f2⟩, _⟩ := Ba.later X5; obtain ⟨⟨g0, g1, g2⟩, _⟩ := Bb.later X5))
   have HH : Hid (cmpI a b = 1) := cmpI_gt (by omega)
   go_wp2_with fail
   refine (neg_is _ _ hn' (ha1.later X5)).mono ?_
   rintro e w9 ⟨rfl, e9⟩
   go_wp2
   go_ret
   exact ⟨ret_int HH.out.symm, xt X1 (xt X5 e9)⟩
  ·
   have hm' : decide (b < 0) = false := by simpa using hm
   go_region_held3 (fun w' => (w'.cell? ⟨w.heap.size, 0, none⟩ = some (.int .i64 a0) ∧ w'.cell? ⟨w.heap.size, 1, none⟩ = some (.bool a1) ∧ w'.cell? ⟨w.heap.size, 2, none⟩ = some (.slice pa na ca)) ∧ w'.cell? ⟨w.heap.size + 1, 0, none⟩ = some (.int .i64 b0) ∧ w'.cell? ⟨w.heap.size + 1, 1, none⟩ = some (.bool b1) ∧ w'.cell? ⟨w.heap.size + 1, 2, none⟩ = some (.slice pb nb cb)) (go_keep)
    (first
     | (go_at_call_of 112 (Value.agg #[.int .i64 a0, .bool a1, .slice pa na ca]); refine (neg_is (z := a) false _ hn' ?_).mono ?_; (exact ha1.later (xd (xr _))); rintro e w4 ⟨rfl, e4⟩; have X4 := xt (xd (xr _)) e4; obtain ⟨⟨c0, c1, c2⟩, _⟩ := Ba.later X4; obtain ⟨⟨d0, d1, d2⟩, _⟩ := Bb.later X4)
     | (go_at_call_of 112 (Value.agg #[.int .i64 b0, .bool b1, .slice pb nb cb]); refine (neg_is (z := b) false _ hm' ?_).mono ?_; (exact hb1.later X4); rintro e w5 ⟨rfl, e5⟩; have X5 := xt X4 e5; obtain ⟨⟨f0, f1, f2⟩, _⟩ := Ba.later X5; obtain ⟨⟨g0, g1, g2⟩, _⟩ := Bb.later X5))
   have HH : Hid (cmpI (a.natAbs : Int) (b.natAbs : Int) = cmpI a b) := cmp_abs_pos (by omega) (by omega)
   go_wp2_with fail
   go_region_held3 (fun w' => (w'.cell? ⟨w.heap.size, 0, none⟩ = some (.int .i64 a0) ∧ w'.cell? ⟨w.heap.size, 1, none⟩ = some (.bool a1) ∧ w'.cell? ⟨w.heap.size, 2, none⟩ = some (.slice pa na ca)) ∧ w'.cell? ⟨w.heap.size + 1, 0, none⟩ = some (.int .i64 b0) ∧ w'.cell? ⟨w.heap.size + 1, 1, none⟩ = some (.bool b1) ∧ w'.cell? ⟨w.heap.size + 1, 2, none⟩ = some (.slice pb nb cb)) (go_keep)
    (first
     | (go_at_call_of 114 (Value.agg #[.int .i64 a0, .bool a1, .slice pa na ca]); refine (limbs_any (z := a) _ ?_).mono ?_; (exact (ha1.later X5).later (xd (xr _))); rintro e w6 ⟨x6, rfl, l6, e6⟩; have X6 := xt (xt X5 (xd (xr _))) e6; obtain ⟨⟨i0, i1, i2⟩, _⟩ := Ba.later X6; obtain ⟨⟨j0, j1, j2⟩, _⟩ := Bb.later X6)
     | (go_at_call_of 114 (Value.agg #[.int .i64 b0, .bool b1, .slice pb nb cb]); refine (limbs_any (z := b) _ ?_).mono ?_; (exact hb1.later X6); rintro e w7 ⟨x7, rfl, l7, e7⟩; have X7 := xt X6 e7; obtain ⟨⟨k0, k1, k2⟩, _⟩ := Ba.later X7; obtain ⟨⟨m0, m1, m2⟩, _⟩ := Bb.later X7)
     | (go_at_call 113; refine (cmpL_any _ (l6.later e7) l7).mono ?_; rintro e w8 ⟨rfl, e8⟩; have X8 := xt X7 e8; obtain ⟨⟨n0, n1, n2⟩, _⟩ := Ba.later X8; obtain ⟨⟨o0, o1, o2⟩, _⟩ := Bb.later X8))
   go_wp2_with fail
   refine (neg_is _ _ hn' (ha1.later X8)).mono ?_
   rintro e w9 ⟨rfl, e9⟩
   go_wp2
   go_ret
   exact ⟨ret_int HH.out, xt X1 (xt X8 e9)⟩

set_option maxHeartbeats 4000000 in
theorem cmp_bigB {va vb : Value} {a b : Int} (w : World) (ha : ZV w va a) (hb : ZV w vb b) (sa : smallB a = true) (sb : smallB b = false) :
  Calls Tryz.prog 103 #[va, vb] w fun e w' => e = .returned (.int .i64 (cmpI a b)) ∧ Ext w w' := by
 obtain ⟨a0, a1, pa, na, ca, rfl⟩ := ha.shape
 obtain ⟨b0, b1, pb, nb, cb, rfl⟩ := hb.shape
 go_enter Tryz.func103, Tryz.ntmps103
 go_wp2_with fail
 refine (isSmall_any _ (ha.later (xa (x1 _ _) _))).mono ?_
 rintro e w1 ⟨rfl, e1⟩
 have Ba := ((Box3.made w (.int .i64 a0) (.bool a1) (.slice pa na ca) 133).later (x1 _ _)).later e1
 have Bb := (Box3.made (w.alloc (.cells #[.int .i64 a0, .bool a1, .slice pa na ca] 133)) (.int .i64 b0) (.bool b1) (.slice pb nb cb) 133).later e1
 simp only [World.size_alloc] at Bb
 have ha1 := (ha.later (xa (x1 _ _) _)).later e1
 have hb1 := (hb.later (xa (x1 _ _) _)).later e1
 have X1 := xt (xa (x1 _ _) _) e1
 clear e1 ha hb
 have Bb' := Bb
 obtain ⟨⟨p0, p1, p2⟩, _⟩ := Bb'
 go_wp2_with fail
 clear p0 p1 p2
 refine (isSmall_any _ hb1).mono ?_
 rintro e w1b ⟨rfl, e1b⟩
 replace Ba := Ba.later e1b
 replace Bb := Bb.later e1b
 replace ha1 := ha1.later e1b
 replace hb1 := hb1.later e1b
 replace X1 := xt X1 e1b
 clear e1b
 have Ba' := Ba
 have Bb' := Bb
 obtain ⟨⟨p0, p1, p2⟩, _⟩ := Ba'
 obtain ⟨⟨q0, q1, q2⟩, _⟩ := Bb'
 go_wp2_with fail
 by_cases hn : a < 0
 ·
  have hn' : decide (a < 0) = true := by simpa using hn
  by_cases hm : b < 0
  ·
   have hm' : decide (b < 0) = true := by simpa using hm
   go_region_held3 (fun w' => (w'.cell? ⟨w.heap.size, 0, none⟩ = some (.int .i64 a0) ∧ w'.cell? ⟨w.heap.size, 1, none⟩ = some (.bool a1) ∧ w'.cell? ⟨w.heap.size, 2, none⟩ = some (.slice pa na ca)) ∧ w'.cell? ⟨w.heap.size + 1, 0, none⟩ = some (.int .i64 b0) ∧ w'.cell? ⟨w.heap.size + 1, 1, none⟩ = some (.bool b1) ∧ w'.cell? ⟨w.heap.size + 1, 2, none⟩ = some (.slice pb nb cb)) (go_keep)
    (first
     | (go_at_call_of 112 (Value.agg #[.int .i64 a0, .bool a1, .slice pa na ca]); refine (neg_is (z := a) true _ hn' ?_).mono ?_; (exact ha1.later (xd (xr _))); rintro e w4 ⟨rfl, e4⟩; have X4 := xt (xd (xr _)) e4; obtain ⟨⟨c0, c1, c2⟩, _⟩ := Ba.later X4; obtain ⟨⟨d0, d1, d2⟩, _⟩ := Bb.later X4)
     | (go_at_call_of 112 (Value.agg #[.int .i64 b0, .bool b1, .slice pb nb cb]); refine (neg_is (z := b) true _ hm' ?_).mono ?_; (exact hb1.later X4); rintro e w5 ⟨rfl, e5⟩; have X5 := xt X4 e5; obtain ⟨⟨f0, f1, f2⟩, _⟩ := Ba.later X5; obtain ⟨⟨g0, g1, g2⟩, _⟩ := Bb.later X5))
   have HH : Hid (-cmpI (a.natAbs : Int) (b.natAbs : Int) = cmpI a b) := cmp_abs_neg (by omega) (by omega)
   go_wp2_with fail
   go_region_held3 (fun w' => (w'.cell? ⟨w.heap.size, 0, none⟩ = some (.int .i64 a0) ∧ w'.cell? ⟨w.heap.size, 1, none⟩ = some (.bool a1) ∧ w'.cell? ⟨w.heap.size, 2, none⟩ = some (.slice pa na ca)) ∧ w'.cell? ⟨w.heap.size + 1, 0, none⟩ = some (.int .i64 b0) ∧ w'.cell? ⟨w.heap.size + 1, 1, none⟩ = some (.bool b1) ∧ w'.cell? ⟨w.heap.size + 1, 2, none⟩ = some (.slice pb nb cb)) (go_keep)
    (first
     | (go_at_call_of 114 (Value.agg #[.int .i64 a0, .bool a1, .slice pa na ca]); refine (limbs_any (z := a) _ ?_).mono ?_; (exact (ha1.later X5).later (xd (xr _))); rintro e w6 ⟨x6, rfl, l6, e6⟩; have X6 := xt (xt X5 (xd (xr _))) e6; obtain ⟨⟨i0, i1, i2⟩, _⟩ := Ba.later X6; obtain ⟨⟨j0, j1, j2⟩, _⟩ := Bb.later X6)
     | (go_at_call_of 114 (Value.agg #[.int .i64 b0, .bool b1, .slice pb nb cb]); refine (limbs_any (z := b) _ ?_).mono ?_; (exact hb1.later X6); rintro e w7 ⟨x7, rfl, l7, e7⟩; have X7 := xt X6 e7; obtain ⟨⟨k0, k1, k2⟩, _⟩ := Ba.later X7; obtain ⟨⟨m0, m1, m2⟩, _⟩ := Bb.later X7)
     | (go_at_call 113; refine (cmpL_any _ (l6.later e7) l7).mono ?_; rintro e w8 ⟨rfl, e8⟩; have X8 := xt X7 e8; obtain ⟨⟨n0, n1, n2⟩, _⟩ := Ba.later X8; obtain ⟨⟨o0, o1, o2⟩, _⟩ := Bb.later X8))
   go_wp2_with fail
   refine (neg_is _ _ hn' (ha1.later X8)).mono ?_
   rintro e w9 ⟨rfl, e9⟩
   have cb := cmpI_bd (a.natAbs : Int) (b.natAbs : Int)
   go_wp2
   go_ret
   exact ⟨ret_int HH.out, xt X1 (xt X8 e9)⟩
  ·
   have hm' : decide (b < 0) = false := by simpa using hm
   go_region_held3 (fun w' => (w'.cell? ⟨w.heap.size, 0, none⟩ = some (.int .i64 a0) ∧ w'.cell? ⟨w.heap.size, 1, none⟩ = some (.bool a1) ∧ w'.cell? ⟨w.heap.size, 2, none⟩ = some (.slice pa na ca)) ∧ w'.cell? ⟨w.heap.size + 1, 0, none⟩ = some (.int .i64 b0) ∧ w'.cell? ⟨w.heap.size + 1, 1, none⟩ = some (.bool b1) ∧ w'.cell? ⟨w.heap.size + 1, 2, none⟩ = some (.slice pb nb cb)) (go_keep)
    (first
     | (go_at_call_of 112 (Value.agg #[.int .i64 a0, .bool a1, .slice pa na ca]); refine (neg_is (z := a) true _ hn' ?_).mono ?_; (exact ha1.later (xd (xr _))); rintro e w4 ⟨rfl, e4⟩; have X4 := xt (xd (xr _)) e4; obtain ⟨⟨c0, c1, c2⟩, _⟩ := Ba.later X4; obtain ⟨⟨d0, d1, d2⟩, _⟩ := Bb.later X4)
     | (go_at_call_of 112 (Value.agg #[.int .i64 b0, .bool b1, .slice pb nb cb]); refine (neg_is (z := b) false _ hm' ?_).mono ?_; (exact hb1.later X4); rintro e w5 ⟨rfl, e5⟩; have X5 := xt X4 e5; obtain ⟨⟨f0, f1, f2⟩, _⟩ := Ba.later X5; obtain ⟨⟨g0, g1, g2⟩, _⟩ := Bb.later X5))
   have HH : Hid (cmpI a b = -1) := cmpI_lt (by omega)
   go_wp2_with fail
   refine (neg_is _ _ hn' (ha1.later X5)).mono ?_
   rintro e w9 ⟨rfl, e9⟩
   go_wp2
   go_ret
   exact ⟨ret_int HH.out.symm, xt X1 (xt X5 e9)⟩
 ·
  have hn' : decide (a < 0) = false := by simpa using hn
  by_cases hm : b < 0
  ·
   have hm' : decide (b < 0) = true := by simpa using hm
   go_region_held3 (fun w' => (w'.cell? ⟨w.heap.size, 0, none⟩ = some (.int .i64 a0) ∧ w'.cell? ⟨w.heap.size, 1, none⟩ = some (.bool a1) ∧ w'.cell? ⟨w.heap.size, 2, none⟩ = some (.slice pa na ca)) ∧ w'.cell? ⟨w.heap.size + 1, 0, none⟩ = some (.int .i64 b0) ∧ w'.cell? ⟨w.heap.size + 1, 1, none⟩ = some (.bool b1) ∧ w'.cell? ⟨w.heap.size + 1, 2, none⟩ = some (.slice pb nb cb)) (go_keep)
    (first
     | (go_at_call_of 112 (Value.agg #[.int .i64 a0, .bool a1, .slice pa na ca]); refine (neg_is (z := a) false _ hn' ?_).mono ?_; (exact ha1.later (xd (xr _))); rintro e w4 ⟨rfl, e4⟩; have X4 := xt (xd (xr _)) e4; obtain ⟨⟨c0, c1, c2⟩, _⟩ := Ba.later X4; obtain ⟨⟨d0, d1, d2⟩, _⟩ := Bb.later X4)
     | (go_at_call_of 112 (Value.agg #[.int .i64 b0, .bool b1, .slice pb nb cb]); refine (neg_is (z := b) true _ hm' ?_).mono ?_; (exact hb1.later X4); rintro e w5 ⟨rfl, e5⟩; have X5 := xt X4 e5; obtain ⟨⟨f0, f1, f2⟩, _⟩ := Ba.later X5; obtain ⟨⟨g0, g1, g2⟩, _⟩ := Bb.later X5))
   have HH : Hid (cmpI a b = 1) := cmpI_gt (by omega)
   go_wp2_with fail
   refine (neg_is _ _ hn' (ha1.later X5)).mono ?_
   rintro e w9 ⟨rfl, e9⟩
   go_wp2
   go_ret
   exact ⟨ret_int HH.out.symm, xt X1 (xt X5 e9)⟩
  ·
   have hm' : decide (b < 0) = false := by simpa using hm
   go_region_held3 (fun w' => (w'.cell? ⟨w.heap.size, 0, none⟩ = some (.int .i64 a0) ∧ w'.cell? ⟨w.heap.size, 1, none⟩ = some (.bool a1) ∧ w'.cell? ⟨w.heap.size, 2, none⟩ = some (.slice pa na ca)) ∧ w'.cell? ⟨w.heap.size + 1, 0, none⟩ = some (.int .i64 b0) ∧ w'.cell? ⟨w.heap.size + 1, 1, none⟩ = some (.bool b1) ∧ w'.cell? ⟨w.heap.size + 1, 2, none⟩ = some (.slice pb nb cb)) (go_keep)
    (first
     | (go_at_call_of 112 (Value.agg #[.int .i64 a0, .bool a1, .slice pa na ca]); refine (neg_is (z := a) false _ hn' ?_).mono ?_; (exact ha1.later (xd (xr _))); rintro e w4 ⟨rfl, e4⟩; have X4 := xt (xd (xr _)) e4; obtain ⟨⟨c0, c1, c2⟩, _⟩ := Ba.later X4; obtain ⟨⟨d0, d1, d2⟩, _⟩ := Bb.later X4)
     | (go_at_call_of 112 (Value.agg #[.int .i64 b0, .bool b1, .slice pb nb cb]); refine (neg_is (z := b) false _ hm' ?_).mono ?_; (exact hb1.later X4); rintro e w5 ⟨rfl, e5⟩; have X5 := xt X4 e5; obtain ⟨⟨f0, f1, f2⟩, _⟩ := Ba.later X5; obtain ⟨⟨g0, g1, g2⟩, _⟩ := Bb.later X5))
   have HH : Hid (cmpI (a.natAbs : Int) (b.natAbs : Int) = cmpI a b) := cmp_abs_pos (by omega) (by omega)
   go_wp2_with fail
   go_region_held3 (fun w' => (w'.cell? ⟨w.heap.size, 0, none⟩ = some (.int .i64 a0) ∧ w'.cell? ⟨w.heap.size, 1, none⟩ = some (.bool a1) ∧ w'.cell? ⟨w.heap.size, 2, none⟩ = some (.slice pa na ca)) ∧ w'.cell? ⟨w.heap.size + 1, 0, none⟩ = some (.int .i64 b0) ∧ w'.cell? ⟨w.heap.size + 1, 1, none⟩ = some (.bool b1) ∧ w'.cell? ⟨w.heap.size + 1, 2, none⟩ = some (.slice pb nb cb)) (go_keep)
    (first
     | (go_at_call_of 114 (Value.agg #[.int .i64 a0, .bool a1, .slice pa na ca]); refine (limbs_any (z := a) _ ?_).mono ?_; (exact (ha1.later X5).later (xd (xr _))); rintro e w6 ⟨x6, rfl, l6, e6⟩; have X6 := xt (xt X5 (xd (xr _))) e6; obtain ⟨⟨i0, i1, i2⟩, _⟩ := Ba.later X6; obtain ⟨⟨j0, j1, j2⟩, _⟩ := Bb.later X6)
     | (go_at_call_of 114 (Value.agg #[.int .i64 b0, .bool b1, .slice pb nb cb]); refine (limbs_any (z := b) _ ?_).mono ?_; (exact hb1.later X6); rintro e w7 ⟨x7, rfl, l7, e7⟩; have X7 := xt X6 e7; obtain ⟨⟨k0, k1, k2⟩, _⟩ := Ba.later X7; obtain ⟨⟨m0, m1, m2⟩, _⟩ := Bb.later X7)
     | (go_at_call 113; refine (cmpL_any _ (l6.later e7) l7).mono ?_; rintro e w8 ⟨rfl, e8⟩; have X8 := xt X7 e8; obtain ⟨⟨n0, n1, n2⟩, _⟩ := Ba.later X8; obtain ⟨⟨o0, o1, o2⟩, _⟩ := Bb.later X8))
   go_wp2_with fail
   refine (neg_is _ _ hn' (ha1.later X8)).mono ?_
   rintro e w9 ⟨rfl, e9⟩
   go_wp2
   go_ret
   exact ⟨ret_int HH.out, xt X1 (xt X8 e9)⟩

theorem cmp_any {va vb : Value} {a b : Int} (w : World) (ha : ZV w va a) (hb : ZV w vb b) :
  Calls Tryz.prog 103 #[va, vb] w fun e w' => e = .returned (.int .i64 (cmpI a b)) ∧ Ext w w' := by
 cases sa : smallB a
 ·
  exact cmp_bigA w ha hb sa
 ·
  cases sb : smallB b
  ·
   exact cmp_bigB w ha hb sa sb
  ·
   exact cmp_small w ha hb sa sb

end Go.Proofs.YtgpfddneablcpaaGreatDoor

