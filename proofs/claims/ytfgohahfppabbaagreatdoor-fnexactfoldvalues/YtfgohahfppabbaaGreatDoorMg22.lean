/-
  Several texts in one: DvM, Gp, V9r, Pok, Vq, G3.
-/
import Derived.Test.YtfgohahfppabbaaGreatDoorDvA
import Derived.Test.YtfgohahfppabbaaGreatDoorMg3
import Derived.Test.YtfgohahfppabbaaGreatDoorMg19
import Derived.Test.YtfgohahfppabbaaGreatDoorMg20
import Derived.Test.YtfgohahfppabbaaGreatDoorImE
import Derived.Test.YtfgohahfppabbaaGreatDoorMg0
import Derived.Test.YtfgohahfppabbaaGreatDoorMg2
import Derived.Deep.RegionHeld3
namespace Go.Proofs.YtfgohahfppabbaaGreatDoor
open Go.RowKit

theorem good_nought {n : Bool} {d e : Int} (h : goodB n d e = true) (hd : d = 0) : e = 0 ∧ n = false := by
 unfold goodB at h
 rw [if_pos hd] at h
 simp at h
 exact ⟨h.2, h.1⟩

set_option maxRecDepth 4000 in
set_option maxHeartbeats 2000000 in
theorem divI (na nb : Bool) (da ea db eb : Int) (w : World) (a1 : -9223372036854775808 ≤ da) (a2 : da ≤ 9223372036854775807) (b1 : -9223372036854775808 ≤ db) (b2 : db ≤ 9223372036854775807) (hT : Tens w) :
  Calls Tryz.prog 94 #[.agg #[.bool na, .int .i64 da, .int .i64 ea], .agg #[.bool nb, .int .i64 db, .int .i64 eb]] w fun r w' => r = .returned (resV (divR na da ea nb db eb)) ∧ Ext w w' := by
 by_cases hg : (goodB na da ea && goodB nb db eb && !(db == 0)) = true
 ·
  unfold divR
  rw [if_pos hg]
  simp only [Bool.and_eq_true, Bool.not_eq_true', beq_eq_false_iff_ne] at hg
  obtain ⟨⟨ga, gb⟩, hd⟩ := hg
  obtain ⟨A, rfl⟩ := Int.eq_ofNat_of_zero_le (good_bd ga).1
  obtain ⟨B, rfl⟩ := Int.eq_ofNat_of_zero_le (good_bd gb).1
  rw [Int.toNat_natCast, Int.toNat_natCast]
  exact divI_good na nb A B ea eb w ga gb (by omega) hT
 ·
  have hR : divR na da ea nb db eb = ⟨false, false, 0, 0⟩ := by unfold divR; rw [if_neg hg]; rfl
  rw [hR]
  have X0 := xa (xa (x1 w (.cells #[.bool na, .int .i64 da, .int .i64 ea] 25)) (.cells #[.bool nb, .int .i64 db, .int .i64 eb] 25)) (.cells #[.bool false, .bool false, .int .i64 0, .int .i64 0] 70)
  have Ba := (Box3.made w (.bool na) (.int .i64 da) (.int .i64 ea) 25).later (xa (x1 _ (.cells #[.bool nb, .int .i64 db, .int .i64 eb] 25)) (.cells #[.bool false, .bool false, .int .i64 0, .int .i64 0] 70))
  have Bb := (Box3.made (w.alloc (.cells #[.bool na, .int .i64 da, .int .i64 ea] 25)) (.bool nb) (.int .i64 db) (.int .i64 eb) 25).later (x1 _ (.cells #[.bool false, .bool false, .int .i64 0, .int .i64 0] 70))
  have Br := Box4.made ((w.alloc (.cells #[.bool na, .int .i64 da, .int .i64 ea] 25)).alloc (.cells #[.bool nb, .int .i64 db, .int .i64 eb] 25)) (.bool false) (.bool false) (.int .i64 0) (.int .i64 0) 70
  simp only [World.size_alloc] at Bb Br
  have T := hT.later X0
  clear hR hT
  go_enter Tryz.func94, Tryz.ntmps94
  go_wp2_with fail
  cases ga : goodB na da ea
  ·
   refine (goodI_is false na da ea _ a1 a2 T ga).mono ?_
   rintro r w1 ⟨rfl, x1'⟩
   obtain ⟨⟨m0, m1, m2, m3⟩, n0, n1, n2, n3⟩ := Br.later x1'
   clear ga hg
   go_wp2_with fail
   exact bodyPost_ret (v := .agg #[.bool false, .bool false, .int .i64 0, .int .i64 0]) (by simp [results, Tryz.results94, go_sem, m0, m1, m2, m3]) rfl ⟨rfl, xset (xset (xset (xset (xt X0 x1') (by simp only; omega) _) (by simp only; omega) _) (by simp only; omega) _) (by simp only; omega) _⟩
  ·
   refine (goodI_is true na da ea _ a1 a2 T ga).mono ?_
   rintro r w1 ⟨rfl, x1'⟩
   have Bb1 := Bb.later x1'
   have Bb1' := Bb1
   obtain ⟨⟨q0, q1, q2⟩, _⟩ := Bb1'
   go_wp2_with fail
   cases gb : goodB nb db eb
   ·
    refine (goodI_is false nb db eb _ b1 b2 (T.later x1') gb).mono ?_
    rintro r w2 ⟨rfl, x2'⟩
    obtain ⟨⟨m0, m1, m2, m3⟩, n0, n1, n2, n3⟩ := (Br.later x1').later x2'
    clear ga gb hg q0 q1 q2
    go_wp2_with fail
    exact bodyPost_ret (v := .agg #[.bool false, .bool false, .int .i64 0, .int .i64 0]) (by simp [results, Tryz.results94, go_sem, m0, m1, m2, m3]) rfl ⟨rfl, xset (xset (xset (xset (xt (xt X0 x1') x2') (by simp only; omega) _) (by simp only; omega) _) (by simp only; omega) _) (by simp only; omega) _⟩
   ·
    refine (goodI_is true nb db eb _ b1 b2 (T.later x1') gb).mono ?_
    rintro r w2 ⟨rfl, x2'⟩
    have hd : db = 0 := by
     refine Classical.byContradiction fun h => hg ?_
     rw [ga, gb]
     simpa using h
    obtain ⟨he, hn⟩ := good_nought gb hd
    subst hd
    subst he
    subst hn
    obtain ⟨⟨r0, r1, r2⟩, _⟩ := Bb1.later x2'
    obtain ⟨⟨m0, m1, m2, m3⟩, n0, n1, n2, n3⟩ := (Br.later x1').later x2'
    clear ga gb hg q0 q1 q2
    go_wp2_with fail
    exact bodyPost_ret (v := .agg #[.bool false, .bool false, .int .i64 0, .int .i64 0]) (by simp [results, Tryz.results94, go_sem, m0, m1, m2, m3]) rfl ⟨rfl, xset (xset (xset (xset (xt (xt X0 x1') x2') (by simp only; omega) _) (by simp only; omega) _) (by simp only; omega) _) (by simp only; omega) _⟩

set_option maxRecDepth 4000 in
set_option maxHeartbeats 2000000 in
theorem divS (na nb : Bool) (da ea db eb : Int) (w : World) :
  Calls Tryz.prog 77 #[.agg #[.bool na, .int .i64 da, .int .i64 ea], .agg #[.bool nb, .int .i64 db, .int .i64 eb]] w fun r w' => r = .returned (resV (divR na da ea nb db eb)) ∧ Ext w w' := by
 by_cases hg : (goodB na da ea && goodB nb db eb && !(db == 0)) = true
 ·
  unfold divR
  rw [if_pos hg]
  simp only [Bool.and_eq_true, Bool.not_eq_true', beq_eq_false_iff_ne] at hg
  obtain ⟨⟨ga, gb⟩, hd⟩ := hg
  obtain ⟨A, rfl⟩ := Int.eq_ofNat_of_zero_le (good_bd ga).1
  obtain ⟨B, rfl⟩ := Int.eq_ofNat_of_zero_le (good_bd gb).1
  rw [Int.toNat_natCast, Int.toNat_natCast]
  exact divS_good na nb A B ea eb w ga gb (by omega)
 ·
  have hR : divR na da ea nb db eb = ⟨false, false, 0, 0⟩ := by unfold divR; rw [if_neg hg]; rfl
  rw [hR]
  have X0 := xa (xa (x1 w (.cells #[.bool na, .int .i64 da, .int .i64 ea] 25)) (.cells #[.bool nb, .int .i64 db, .int .i64 eb] 25)) (.cells #[.bool false, .bool false, .int .i64 0, .int .i64 0] 70)
  have Ba := (Box3.made w (.bool na) (.int .i64 da) (.int .i64 ea) 25).later (xa (x1 _ (.cells #[.bool nb, .int .i64 db, .int .i64 eb] 25)) (.cells #[.bool false, .bool false, .int .i64 0, .int .i64 0] 70))
  have Bb := (Box3.made (w.alloc (.cells #[.bool na, .int .i64 da, .int .i64 ea] 25)) (.bool nb) (.int .i64 db) (.int .i64 eb) 25).later (x1 _ (.cells #[.bool false, .bool false, .int .i64 0, .int .i64 0] 70))
  have Br := Box4.made ((w.alloc (.cells #[.bool na, .int .i64 da, .int .i64 ea] 25)).alloc (.cells #[.bool nb, .int .i64 db, .int .i64 eb] 25)) (.bool false) (.bool false) (.int .i64 0) (.int .i64 0) 70
  simp only [World.size_alloc] at Bb Br

  clear hR
  go_enter Tryz.func77, Tryz.ntmps77
  go_wp2_with fail
  cases ga : goodB na da ea
  ·
   refine (good_is false na da ea _ ga).mono ?_
   rintro r w1 ⟨rfl, x1'⟩
   obtain ⟨⟨m0, m1, m2, m3⟩, n0, n1, n2, n3⟩ := Br.later x1'
   clear ga hg
   go_wp2_with fail
   exact bodyPost_ret (v := .agg #[.bool false, .bool false, .int .i64 0, .int .i64 0]) (by simp [results, Tryz.results77, go_sem, m0, m1, m2, m3]) rfl ⟨rfl, xset (xset (xset (xset (xt X0 x1') (by simp only; omega) _) (by simp only; omega) _) (by simp only; omega) _) (by simp only; omega) _⟩
  ·
   refine (good_is true na da ea _ ga).mono ?_
   rintro r w1 ⟨rfl, x1'⟩
   have Bb1 := Bb.later x1'
   have Bb1' := Bb1
   obtain ⟨⟨q0, q1, q2⟩, _⟩ := Bb1'
   go_wp2_with fail
   cases gb : goodB nb db eb
   ·
    refine (good_is false nb db eb _ gb).mono ?_
    rintro r w2 ⟨rfl, x2'⟩
    obtain ⟨⟨m0, m1, m2, m3⟩, n0, n1, n2, n3⟩ := (Br.later x1').later x2'
    clear ga gb hg q0 q1 q2
    go_wp2_with fail
    exact bodyPost_ret (v := .agg #[.bool false, .bool false, .int .i64 0, .int .i64 0]) (by simp [results, Tryz.results77, go_sem, m0, m1, m2, m3]) rfl ⟨rfl, xset (xset (xset (xset (xt (xt X0 x1') x2') (by simp only; omega) _) (by simp only; omega) _) (by simp only; omega) _) (by simp only; omega) _⟩
   ·
    refine (good_is true nb db eb _ gb).mono ?_
    rintro r w2 ⟨rfl, x2'⟩
    have hd : db = 0 := by
     refine Classical.byContradiction fun h => hg ?_
     rw [ga, gb]
     simpa using h
    obtain ⟨he, hn⟩ := good_nought gb hd
    subst hd
    subst he
    subst hn
    obtain ⟨⟨r0, r1, r2⟩, _⟩ := Bb1.later x2'
    obtain ⟨⟨m0, m1, m2, m3⟩, n0, n1, n2, n3⟩ := (Br.later x1').later x2'
    clear ga gb hg q0 q1 q2
    go_wp2_with fail
    exact bodyPost_ret (v := .agg #[.bool false, .bool false, .int .i64 0, .int .i64 0]) (by simp [results, Tryz.results77, go_sem, m0, m1, m2, m3]) rfl ⟨rfl, xset (xset (xset (xset (xt (xt X0 x1') x2') (by simp only; omega) _) (by simp only; omega) _) (by simp only; omega) _) (by simp only; omega) _⟩

abbrev nameT : List UInt8 := [35, 78, 65, 77, 69, 63]
abbrev numbT : List UInt8 := [35, 78, 85, 77, 33]
abbrev divT : List UInt8 := [35, 68, 73, 86, 47, 48, 33]
abbrev evV (l : List UInt8) : Value := valV 4 false 0 0 l
def putV (r : DR) : Value := if r.ok = true then valV 1 r.neg r.d r.e [] else evV numbT

theorem putV_val (r : DR) : ∃ k2 n2 d2 x2 t2, putV r = valV k2 n2 d2 x2 t2 := by
 unfold putV
 split
 ·
  exact ⟨_, _, _, _, _, rfl⟩
 ·
  exact ⟨_, _, _, _, _, rfl⟩

set_option maxRecDepth 8000 in
set_option maxHeartbeats 2000000 in
theorem putVI (r : DR) (w : World) : Calls Tryz.prog 58 #[resV r] w fun rr w' => rr = .returned (putV r) ∧ Ext w w' := by
 obtain ⟨ok, rn, rd, re⟩ := r
 cases ok
 ·
  change Calls _ _ _ _ fun rr w' => rr = .returned (valV 4 false 0 0 numbT) ∧ _
  obtain ⟨u0, u1, h0, h1, s0, s1, B0, B1, X⟩ := mkB2 w [.bool false, .bool rn, .int .i64 rd, .int .i64 re] [.int .i64 0, .bool false, .int .i64 0, .int .i64 0, sV []] 70 27
  obtain ⟨a0, a1, a2, a3⟩ := Vec.four (B0)
  go_enter Tryz.func58, Tryz.ntmps58
  go_wp2_with fail
  clear h0 s0 h1 s1 a0 a1 a2 a3
  refine (errVI numbT u1).mono ?_
  rintro rr w1 ⟨rfl, e1⟩
  obtain ⟨wy, hy, FX, ⟨b0, b1, b2, b3, b4⟩, ⟨fb0, fb1, fb2, fb3, fb4⟩, fd0, fd1, fd2, fd3, fd4⟩ := fin5 (B1.later e1) (xt X e1) (by omega) 4 false 0 0 numbT
  go_wp2_with fail
  exact bodyPost_ret (v := valV 4 false 0 0 numbT) (by simp [results, Tryz.results58, go_sem, fd0, fd1, fd2, fd3, fd4]) rfl ⟨rfl, FX⟩
 ·
  change Calls _ _ _ _ fun rr w' => rr = .returned (valV 1 rn rd re []) ∧ _
  obtain ⟨u0, u1, h0, h1, s0, s1, B0, B1, X⟩ := mkB2 w [.bool true, .bool rn, .int .i64 rd, .int .i64 re] [.int .i64 0, .bool false, .int .i64 0, .int .i64 0, sV []] 70 27
  obtain ⟨a0, a1, a2, a3⟩ := Vec.four (B0)
  go_enter Tryz.func58, Tryz.ntmps58
  go_wp2_with fail
  clear h0 s0 h1 s1 a0 a1 a2 a3
  refine (numVI rn rd re u1).mono ?_
  rintro rr w1 ⟨rfl, e1⟩
  obtain ⟨wy, hy, FX, ⟨b0, b1, b2, b3, b4⟩, ⟨fb0, fb1, fb2, fb3, fb4⟩, fd0, fd1, fd2, fd3, fd4⟩ := fin5 (B1.later e1) (xt X e1) (by omega) 1 rn rd re []
  go_wp2_with fail
  exact bodyPost_ret (v := valV 1 rn rd re []) (by simp [results, Tryz.results58, go_sem, fd0, fd1, fd2, fd3, fd4]) rfl ⟨rfl, FX⟩
set_option maxRecDepth 8000 in
set_option maxHeartbeats 2000000 in
theorem plus1I (n : Bool) (d e : Int) (n' : Bool) (d' e' : Int) (w : World) (a1 : -9223372036854775808 ≤ d) (a2 : d ≤ 9223372036854775807) (b1 : -9223372036854775808 ≤ d') (b2 : d' ≤ 9223372036854775807) (hT : Tens w) :
  Calls Tryz.prog 85 #[decV n d e, decV n' d' e'] w fun rr w' => rr = .returned (putV (addR n d e n' d' e')) ∧ Ext w w' := by
 obtain ⟨k2, n2, d2, x2, t2, hv⟩ := putV_val (addR n d e n' d' e')
 have HV : Hid (putV (addR n d e n' d' e') = valV k2 n2 d2 x2 t2) := hv
 rw [hv]
 clear hv
 obtain ⟨u0, u1, u2, h0, h1, h2, s0, s1, s2, B0, B1, B2, X⟩ := mkB3 w [.bool n, .int .i64 d, .int .i64 e] [.bool n', .int .i64 d', .int .i64 e'] [.int .i64 0, .bool false, .int .i64 0, .int .i64 0, sV []] 25 25 27
 obtain ⟨a0, a1, a2⟩ := Vec.three (B0)
 obtain ⟨c0, c1, c2⟩ := Vec.three (B1)
 go_enter Tryz.func85, Tryz.ntmps85
 go_wp2_with fail
 clear h0 s0 h1 s1 h2 s2 a0 a1 a2 c0 c1 c2
 refine (addI n n' d e d' e' u2 a1 a2 b1 b2 (hT.later X)).mono ?_
 rintro rr w1 ⟨rfl, e1⟩
 go_wp2_with fail
 refine (putVI (addR n d e n' d' e') w1).mono ?_
 rintro rr w2 ⟨rfl, e2⟩
 rw [HV.out]
 obtain ⟨wy, hy, FX, ⟨b0, b1, b2, b3, b4⟩, ⟨fb0, fb1, fb2, fb3, fb4⟩, fd0, fd1, fd2, fd3, fd4⟩ := fin5 ((B2.later e1).later e2) (xt (xt X e1) e2) (by omega) k2 n2 d2 x2 t2
 go_wp2_with fail
 exact bodyPost_ret (v := valV k2 n2 d2 x2 t2) (by simp [results, Tryz.results85, go_sem, fd0, fd1, fd2, fd3, fd4]) rfl ⟨rfl, FX⟩
set_option maxRecDepth 8000 in
set_option maxHeartbeats 2000000 in
theorem over1I (n : Bool) (d e : Int) (n' : Bool) (d' e' : Int) (w : World) (a1 : -9223372036854775808 ≤ d) (a2 : d ≤ 9223372036854775807) (b1 : -9223372036854775808 ≤ d') (b2 : d' ≤ 9223372036854775807) (hT : Tens w) (gb : goodB n' d' e' = true) :
  Calls Tryz.prog 93 #[decV n d e, decV n' d' e'] w fun rr w' => rr = .returned (if d' = 0 then evV divT else putV (divR n d e n' d' e')) ∧ Ext w w' := by
 by_cases h0 : d' = 0
 ·
  rw [if_pos h0]
  subst h0
  obtain ⟨rfl, rfl⟩ : n' = false ∧ e' = 0 := by simpa [goodB] using gb
  clear gb
  obtain ⟨u0, u1, u2, h0, h1, h2, s0, s1, s2, B0, B1, B2, X⟩ := mkB3 w [.bool n, .int .i64 d, .int .i64 e] [.bool false, .int .i64 0, .int .i64 0] [.int .i64 0, .bool false, .int .i64 0, .int .i64 0, sV []] 25 25 27
  obtain ⟨a0, a1, a2⟩ := Vec.three (B0)
  obtain ⟨c0, c1, c2⟩ := Vec.three (B1)
  go_enter Tryz.func93, Tryz.ntmps93
  go_wp2_with fail
  clear h0 s0 h1 s1 h2 s2 a0 a1 a2 c0 c1 c2
  refine (errVI divT u2).mono ?_
  rintro rr w1 ⟨rfl, e1⟩
  obtain ⟨wy, hy, FX, ⟨b0, b1, b2, b3, b4⟩, ⟨fb0, fb1, fb2, fb3, fb4⟩, fd0, fd1, fd2, fd3, fd4⟩ := fin5 (B2.later e1) (xt X e1) (by omega) 4 false 0 0 divT
  go_wp2_with fail
  exact bodyPost_ret (v := valV 4 false 0 0 divT) (by simp [results, Tryz.results93, go_sem, fd0, fd1, fd2, fd3, fd4]) rfl ⟨rfl, FX⟩
 ·
  rw [if_neg h0]
  clear gb
  have hd : (d' == 0) = false := by simpa using h0
  obtain ⟨k2, n2, d2, x2, t2, hv⟩ := putV_val (divR n d e n' d' e')
  have HV : Hid (putV (divR n d e n' d' e') = valV k2 n2 d2 x2 t2) := hv
  rw [hv]
  clear hv
  obtain ⟨u0, u1, u2, h0, h1, h2, s0, s1, s2, B0, B1, B2, X⟩ := mkB3 w [.bool n, .int .i64 d, .int .i64 e] [.bool n', .int .i64 d', .int .i64 e'] [.int .i64 0, .bool false, .int .i64 0, .int .i64 0, sV []] 25 25 27
  obtain ⟨a0, a1, a2⟩ := Vec.three (B0)
  obtain ⟨c0, c1, c2⟩ := Vec.three (B1)
  go_enter Tryz.func93, Tryz.ntmps93
  go_wp2_with fail
  clear h0 s0 h1 s1 h2 s2 a0 a1 a2 c0 c1 c2
  refine (divI n n' d e d' e' u2 a1 a2 b1 b2 (hT.later X)).mono ?_
  rintro rr w1 ⟨rfl, e1⟩
  go_wp2_with fail
  refine (putVI (divR n d e n' d' e') w1).mono ?_
  rintro rr w2 ⟨rfl, e2⟩
  rw [HV.out]
  obtain ⟨wy, hy, FX, ⟨b0, b1, b2, b3, b4⟩, ⟨fb0, fb1, fb2, fb3, fb4⟩, fd0, fd1, fd2, fd3, fd4⟩ := fin5 ((B2.later e1).later e2) (xt (xt X e1) e2) (by omega) k2 n2 d2 x2 t2
  go_wp2_with fail
  exact bodyPost_ret (v := valV k2 n2 d2 x2 t2) (by simp [results, Tryz.results93, go_sem, fd0, fd1, fd2, fd3, fd4]) rfl ⟨rfl, FX⟩

set_option maxRecDepth 8000 in
set_option maxHeartbeats 2000000 in
theorem reck1 (k : Int) (n : Bool) (d x : Int) (t : List UInt8) (k' : Int) (n' : Bool) (d' x' : Int) (t' : List UInt8) (f p : Nat) (HF : ∀ ar w, (callFunc f ar).run Tryz.prog w = .ok (.enter f ar) w) (w : World) (hp : w.cell? ⟨p, 0, none⟩ = some (fnV f)) {k2 : Int} {n2 : Bool} {d2 x2 : Int} {t2 : List UInt8}
  (H : ∀ w1, Ext w w1 → Calls Tryz.prog f #[decV n d x, decV n' d' x'] w1 fun e w' => e = .returned (valV k2 n2 d2 x2 t2) ∧ Ext w1 w') :
  Calls Tryz.prog 115 #[valV k n d x t, valV k' n' d' x' t', .pointer (some ⟨p, 0, none⟩)] w fun e w' => e = .returned (valV k2 n2 d2 x2 t2) ∧ Ext w w' := by
 obtain ⟨u0, u1, u2, h0, h1, h2, s0, s1, s2, B0, B1, B2, X⟩ := mkB3 w [.int .i64 k, .bool n, .int .i64 d, .int .i64 x, sV t] [.int .i64 k', .bool n', .int .i64 d', .int .i64 x', sV t'] [.int .i64 0, .bool false, .int .i64 0, .int .i64 0, sV []] 27 27 27
 obtain ⟨a0, a1, a2, a3, a4⟩ := Vec.five (B0)
 obtain ⟨c0, c1, c2, c3, c4⟩ := Vec.five (B1)
 have q0 := cell_later X hp
 go_enter Tryz.func115, Tryz.ntmps115
 go_wp2_with fail
 clear h0 s0 h1 s1 h2 s2 a0 a1 a2 a3 a4 c0 c1 c2 c3 c4 q0
 refine (H u2 X).mono ?_
 rintro e w1 ⟨rfl, e1⟩
 obtain ⟨wy, hy, FX, ⟨b0, b1, b2, b3, b4⟩, ⟨fb0, fb1, fb2, fb3, fb4⟩, fd0, fd1, fd2, fd3, fd4⟩ := fin5 (B2.later e1) (xt X e1) (by omega) k2 n2 d2 x2 t2
 go_wp2_with fail
 exact bodyPost_ret (v := valV k2 n2 d2 x2 t2) (by simp [results, Tryz.results115, go_sem, fd0, fd1, fd2, fd3, fd4]) rfl ⟨rfl, FX⟩
set_option maxRecDepth 8000 in
set_option maxHeartbeats 2000000 in
theorem reckW (k : Int) (n : Bool) (d x : Int) (t : List UInt8) (k' : Int) (n' : Bool) (d' x' : Int) (t' : List UInt8) (f : Nat) (w : World) (ka : Int) (na : Bool) (da xa : Int) (ta : List UInt8) (kb : Int) (nb : Bool) (db xb : Int) (tb : List UInt8) {k2 : Int} {n2 : Bool} {d2 x2 : Int} {t2 : List UInt8}
  (HA : ∀ w1, Ext w w1 → Calls Tryz.prog 116 #[valV k n d x t] w1 fun e w' => e = .returned (valV ka na da xa ta) ∧ Ext w1 w')
  (HB : ∀ w1, Ext w w1 → Calls Tryz.prog 116 #[valV k' n' d' x' t'] w1 fun e w' => e = .returned (valV kb nb db xb tb) ∧ Ext w1 w')
  (HO : ∀ w1 p, Ext w w1 → w1.cell? ⟨p, 0, none⟩ = some (fnV f) → Calls Tryz.prog 83 #[.func (.func 115) #[] #[.pointer (some ⟨p, 0, none⟩)], valV ka na da xa ta, valV kb nb db xb tb] w1 fun e w' => e = .returned (valV k2 n2 d2 x2 t2) ∧ Ext w1 w') :
  Calls Tryz.prog 84 #[valV k n d x t, valV k' n' d' x' t', fnV f] w fun e w' => e = .returned (valV k2 n2 d2 x2 t2) ∧ Ext w w' := by
 obtain ⟨u0, u1, u2, u3, h0, h1, h2, h3, s0, s1, s2, s3, B0, B1, B2, B3, X⟩ := mkB4 w [.int .i64 k, .bool n, .int .i64 d, .int .i64 x, sV t] [.int .i64 k', .bool n', .int .i64 d', .int .i64 x', sV t'] [fnV f] [.int .i64 0, .bool false, .int .i64 0, .int .i64 0, sV []] 27 27 100 27
 obtain ⟨a0, a1, a2, a3, a4⟩ := Vec.five (B0)
 obtain ⟨c0, c1, c2, c3, c4⟩ := Vec.five (B1)
 go_enter Tryz.func84, Tryz.ntmps84
 go_wp2_with fail
 clear h0 s0 h1 s1 h2 s2 h3 s3 a0 a1 a2 a3 a4 c0 c1 c2 c3 c4
 refine wp_region_letters (fun lx : Nat → Value => { tmps := #[valV k n d x t, valV k' n' d' x' t', fnV f, Value.pointer (some ⟨w.heap.size, 0, none⟩), Value.pointer (some ⟨w.heap.size + 1, 0, none⟩), Value.pointer (some ⟨w.heap.size + 1 + 1, 0, none⟩), Value.pointer (some ⟨w.heap.size + 1 + 1 + 1, 0, none⟩), Value.func (Fn.func 115) #[] #[Value.pointer (some ⟨w.heap.size + 1 + 1, 0, none⟩)], Value.func (Fn.func 115) #[] #[Value.pointer (some ⟨w.heap.size + 1 + 1, 0, none⟩)], lx 9, lx 10, lx 11, lx 12, lx 13, lx 14], defers := [] }) (fun L lx lw => Hid (Ext w lw ∧ Vec lw (w.heap.size) [.int .i64 k, .bool n, .int .i64 d, .int .i64 x, sV t] ∧ Vec lw (w.heap.size + 1) [.int .i64 k', .bool n', .int .i64 d', .int .i64 x', sV t'] ∧ Vec lw (w.heap.size + 1 + 1) [fnV f] ∧ (L 0 = true → lx 9 = Value.func (Fn.func 115) #[] #[Value.pointer (some ⟨w.heap.size + 1 + 1, 0, none⟩)]) ∧ (L 1 = true → lx 10 = valV k n d x t) ∧ (L 2 = true → lx 11 = valV ka na da xa ta) ∧ (L 3 = true → lx 12 = valV k' n' d' x' t') ∧ (L 4 = true → lx 13 = valV kb nb db xb tb) ∧ (L 5 = true → lx 14 = valV k2 n2 d2 x2 t2) ∧ (L 6 = false → Vec lw (w.heap.size + 1 + 1 + 1) [.int .i64 0, .bool false, .int .i64 0, .int .i64 0, sV []]) ∧ (L 6 = true → Vec lw (w.heap.size + 1 + 1 + 1) [.int .i64 k2, .bool n2, .int .i64 d2, .int .i64 x2, sV t2]))) rfl (by kernel_rfl) (fun jj => undef) rfl ?_ ?_ ?_
 ·
  exact ⟨xd X, B0.later (xd (xr _)), B1.later (xd (xr _)), B2.later (xd (xr _)), (fun h => by cases h), (fun h => by cases h), (fun h => by cases h), (fun h => by cases h), (fun h => by cases h), (fun h => by cases h), fun _ => B3.later (xd (xr _)), (fun h => by cases h)⟩
 ·
  intro L lx wl i o K hK ho hL haf hI
  obtain ⟨X, f0, f1, f2, f3, f4, f5, f6, f7, f8, f9, f10⟩ := hI.out
  match i, ho, hL, haf, hK with
  | 0, ho, hL, haf, hK =>
   simp only [List.getElem?_toArray, List.getElem?_cons_zero, Option.some.injEq] at ho
   subst ho
   (try dsimp only)
   go_wp2_with fail
   exact hK (fun jj => if jj = 9 then Value.func (Fn.func 115) #[] #[Value.pointer (some ⟨w.heap.size + 1 + 1, 0, none⟩)] else lx jj) _ ⟨X, f0, f1, f2, (fun _ => rfl), f4, f5, f6, f7, f8, f9, f10⟩
  | 1, ho, hL, haf, hK =>
   simp only [List.getElem?_toArray, List.getElem?_cons_zero, List.getElem?_cons_succ, Option.some.injEq] at ho
   subst ho
   (try dsimp only)
   obtain ⟨a0, a1, a2, a3, a4⟩ := Vec.five (f0)
   go_wp2_with fail
   exact hK (fun jj => if jj = 10 then valV k n d x t else lx jj) _ ⟨X, f0, f1, f2, f3, (fun _ => rfl), f5, f6, f7, f8, f9, f10⟩
  | 2, ho, hL, haf, hK =>
   simp only [List.getElem?_toArray, List.getElem?_cons_zero, List.getElem?_cons_succ, Option.some.injEq] at ho
   subst ho
   (try dsimp only)
   rw [f4 (haf ⟨1, .data⟩ (by simp) rfl)]
   go_wp2_with fail
   refine (HA wl X).mono ?_
   rintro rr w' ⟨rfl, E⟩
   go_wp2_with fail
   exact hK (fun jj => if jj = 11 then valV ka na da xa ta else if jj = 10 then valV k n d x t else lx jj) _ ⟨xt X E, (f0.later E), (f1.later E), (f2.later E), f3, (fun _ => rfl), (fun _ => rfl), f6, f7, f8, (fun h => (f9 h).later E), (fun h => (f10 h).later E)⟩
  | 3, ho, hL, haf, hK =>
   simp only [List.getElem?_toArray, List.getElem?_cons_zero, List.getElem?_cons_succ, Option.some.injEq] at ho
   subst ho
   (try dsimp only)
   obtain ⟨a0, a1, a2, a3, a4⟩ := Vec.five (f1)
   go_wp2_with fail
   exact hK (fun jj => if jj = 12 then valV k' n' d' x' t' else lx jj) _ ⟨X, f0, f1, f2, f3, f4, f5, (fun _ => rfl), f7, f8, f9, f10⟩
  | 4, ho, hL, haf, hK =>
   simp only [List.getElem?_toArray, List.getElem?_cons_zero, List.getElem?_cons_succ, Option.some.injEq] at ho
   subst ho
   (try dsimp only)
   rw [f6 (haf ⟨3, .data⟩ (by simp) rfl)]
   go_wp2_with fail
   refine (HB wl X).mono ?_
   rintro rr w' ⟨rfl, E⟩
   go_wp2_with fail
   exact hK (fun jj => if jj = 13 then valV kb nb db xb tb else if jj = 12 then valV k' n' d' x' t' else lx jj) _ ⟨xt X E, (f0.later E), (f1.later E), (f2.later E), f3, f4, f5, (fun _ => rfl), (fun _ => rfl), f8, (fun h => (f9 h).later E), (fun h => (f10 h).later E)⟩
  | 5, ho, hL, haf, hK =>
   simp only [List.getElem?_toArray, List.getElem?_cons_zero, List.getElem?_cons_succ, Option.some.injEq] at ho
   subst ho
   (try dsimp only)
   rw [f3 (haf ⟨0, .data⟩ (by simp) rfl), f5 (haf ⟨2, .data⟩ (by simp) rfl), f7 (haf ⟨4, .data⟩ (by simp) rfl)]
   go_wp2_with fail
   refine (HO wl _ X (f2 0 _ rfl).1).mono ?_
   rintro rr w' ⟨rfl, E⟩
   go_wp2_with fail
   exact hK (fun jj => if jj = 14 then valV k2 n2 d2 x2 t2 else if jj = 9 then Value.func (Fn.func 115) #[] #[Value.pointer (some ⟨w.heap.size + 1 + 1, 0, none⟩)] else if jj = 11 then valV ka na da xa ta else if jj = 13 then valV kb nb db xb tb else lx jj) _ ⟨xt X E, (f0.later E), (f1.later E), (f2.later E), (fun _ => rfl), f4, (fun _ => rfl), f6, (fun _ => rfl), (fun _ => rfl), (fun h => (f9 h).later E), (fun h => (f10 h).later E)⟩
  | 6, ho, hL, haf, hK =>
   simp only [List.getElem?_toArray, List.getElem?_cons_zero, List.getElem?_cons_succ, Option.some.injEq] at ho
   subst ho
   (try dsimp only)
   rw [f8 (haf ⟨5, .data⟩ (by simp) rfl)]
   have bx := f9 hL
   obtain ⟨b0, b1, b2, b3, b4⟩ := Vec.five (bx)
   obtain ⟨fb0, fb1, fb2, fb3, fb4⟩ := Vec.fiveF (bx)
   have hX := Ext.setL (b := w.heap.size + 1 + 1 + 1) (by omega) [.int .i64 k2, .bool n2, .int .i64 d2, .int .i64 x2, sV t2] 0 X
   have hB := bx.put5 (.int .i64 k2) (.bool n2) (.int .i64 d2) (.int .i64 x2) (sV t2)
   go_wp2_with fail
   exact hK (fun jj => if jj = 14 then valV k2 n2 d2 x2 t2 else lx jj) _ ⟨hX, (Vec.farL (k := w.heap.size + 1 + 1 + 1) (by omega) [.int .i64 k2, .bool n2, .int .i64 d2, .int .i64 x2, sV t2] 0 f0), (Vec.farL (k := w.heap.size + 1 + 1 + 1) (by omega) [.int .i64 k2, .bool n2, .int .i64 d2, .int .i64 x2, sV t2] 0 f1), (Vec.farL (k := w.heap.size + 1 + 1 + 1) (by omega) [.int .i64 k2, .bool n2, .int .i64 d2, .int .i64 x2, sV t2] 0 f2), f3, f4, f5, f6, f7, (fun _ => rfl), (fun h => by cases h), (fun _ => hB)⟩
  | k + 7, ho, _, _, _ => simp at ho
 ·
  intro L lx wr hall hI
  obtain ⟨XR, f0, f1, f2, f3, f4, f5, f6, f7, f8, f9, f10⟩ := hI.out
  clear hI
  have G0 := f0
  have G1 := f1
  have G2 := f2
  replace f3 := f3 (hall 0 (by simp))
  replace f4 := f4 (hall 1 (by simp))
  replace f5 := f5 (hall 2 (by simp))
  replace f6 := f6 (hall 3 (by simp))
  replace f7 := f7 (hall 4 (by simp))
  replace f8 := f8 (hall 5 (by simp))
  have BR := f10 (hall 6 (by simp))
  (try dsimp only)
  rw [f3, f4, f5, f6, f7, f8]
  clear hall f0 f1 f2 f3 f4 f5 f6 f7 f8 f9 f10
  obtain ⟨fd0, fd1, fd2, fd3, fd4⟩ := Vec.five (BR)
  clear BR HA HB HO B0 B1 B2 B3
  go_wp2_with fail
  exact bodyPost_ret (v := valV k2 n2 d2 x2 t2) (by simp [results, Tryz.results84, go_sem, fd0, fd1, fd2, fd3, fd4]) rfl ⟨rfl, XR⟩

/-- What put gives is good, or it is none. -/
theorem strip_bd {P : Nat} (e : Int) : (P ≠ 0 → (strip P e).1 % 10 ≠ 0) ∧ (strip P e).1 ≤ P := by
 induction P using Nat.strongRecOn generalizing e with
 | ind P ih =>
  by_cases h : P ≠ 0 ∧ P % 10 = 0
  ·
   rw [strip_ten h.1 h.2]
   obtain ⟨h1, h2⟩ := ih (P / 10) (by omega) (e + 1)
   exact ⟨fun _ => h1 (by omega), by omega⟩
  ·
   rw [strip]
   simp only [h, dite_false]
   exact ⟨fun h0 => by omega, Nat.le_refl _⟩
theorem fit_ok {neg : Bool} {P : Nat} {e : Int} (hP : P ≤ 1000000000000000) (h : (fitR neg P e).ok = true) : goodB (fitR neg P e).neg (fitR neg P e).d (fitR neg P e).e = true := by
 unfold fitR at h ⊢
 split
 ·
  rfl
 ·
  rename_i h0
  simp only [h0, if_false] at h
  split
  ·
   rename_i h1; simp [h1] at h
  ·
   split
   ·
    rfl
   ·
    rename_i h1 h2
    obtain ⟨hm, hl⟩ := strip_bd (P := P) e
    have hm' := hm h0
    unfold goodB
    simp only
    have hne : ((strip P e).1 : Int) ≠ 0 := by omega
    rw [if_neg hne]
    have : (strip P e).1 ≠ 1000000000000000 := by omega
    simp
    omega
theorem put_ok {neg : Bool} {P : Nat} {e : Int} {more : Bool} (h : (putR neg P e more).ok = true) : goodB (putR neg P e more).neg (putR neg P e more).d (putR neg P e more).e = true := by
 unfold putR at h ⊢
 split
 ·
  rename_i h15
  rw [if_pos h15] at h
  exact fit_ok (rnd_lt h15) h
 ·
  rename_i h15
  rw [if_neg h15] at h
  refine fit_ok ?_ h
  have h1 := (nd_dig P).1
  have h2 := pow10_le (show nd P ≤ 15 by omega)
  have e15 : (10 : Nat) ^ 15 = 1000000000000000 := by decide
  omega

set_option maxRecDepth 8000 in
set_option maxHeartbeats 2000000 in
theorem eqVals (v v' : Value) (l : List VT) (w : World) (h : ValsIn w v l) (h' : ValsIn w v' l) (hl : l.length ≤ 2000000) :
  Calls Tryz.prog 9 #[v, v'] w fun e w' => e = .returned (.bool true) ∧ Ext w w' := by
 obtain ⟨p, cap, rfl, hcap, hrow⟩ := h
 obtain ⟨p', cap', rfl, hcap', hrow'⟩ := h'
 obtain ⟨n, hn⟩ : ∃ n, l.length = n := ⟨_, rfl⟩
 have HN : Hid (l.length = n) := hn
 rw [hn] at hcap hcap' hl hrow hrow' ⊢
 have HRow : Hid (0 < n → ∃ b o, p = some ⟨b, o, none⟩ ∧ RowV w b o l) := hrow
 have HRow' : Hid (0 < n → ∃ b o, p' = some ⟨b, o, none⟩ ∧ RowV w b o l) := hrow'
 clear hn hrow hrow'
 go_enter Tryz.func9, Tryz.ntmps9
 go_wp2_with fail
 go_loopw [5] (fun i wr => ∃ k : Nat, k ≤ n ∧ i = .int .i64 k ∧ Ext w wr) (fun i _ => n - (intOf i).toNat)
 case atStart => exact ⟨0, by omega, rfl, xr _⟩
 case round =>
  obtain ⟨k, hk, rfl, X⟩ := hrel
  by_cases hlt : k < n
  ·
   obtain ⟨e, he⟩ : ∃ e, l[k]? = some e := ⟨_, List.getElem?_eq_getElem (by rw [HN.out]; exact hlt)⟩
   obtain ⟨b, o, rfl, hR⟩ := HRow.out (by omega)
   obtain ⟨b', o', rfl, hR'⟩ := HRow'.out (by omega)
   obtain ⟨a0, a1, a2, a3, a4⟩ := (hR.later X).five he
   obtain ⟨c0, c1, c2, c3, c4⟩ := (hR'.later X).five he
   obtain ⟨ek, en, ed, ex, et⟩ := e
   have i2 : (k : Int) < (n : Int) := by omega
   clear hR hR' he
   dsimp only at a0 a1 a2 a3 a4 c0 c1 c2 c3 c4
   go_wp2_with fail
   go_region_held3 (fun w' => (w'.cell? ⟨b, o + k * 5, none⟩ = some (.int .i64 ek) ∧ w'.cell? ⟨b, o + k * 5 + 1, none⟩ = some (.bool en) ∧ w'.cell? ⟨b, o + k * 5 + 2, none⟩ = some (.int .i64 ed) ∧ w'.cell? ⟨b, o + k * 5 + 3, none⟩ = some (.int .i64 ex) ∧ w'.cell? ⟨b, o + k * 5 + 4, none⟩ = some (sV et)) ∧ w'.cell? ⟨b', o' + k * 5, none⟩ = some (.int .i64 ek) ∧ w'.cell? ⟨b', o' + k * 5 + 1, none⟩ = some (.bool en) ∧ w'.cell? ⟨b', o' + k * 5 + 2, none⟩ = some (.int .i64 ed) ∧ w'.cell? ⟨b', o' + k * 5 + 3, none⟩ = some (.int .i64 ex) ∧ w'.cell? ⟨b', o' + k * 5 + 4, none⟩ = some (sV et)) (go_keep)
    (first
     | (go_at_call 8; refine (eqValue_same ek en ed ex et _).mono ?_; rintro e w' ⟨rfl, E⟩; have Y := xt (xd (xr _)) E; have r0 := cell_later Y a0; have r1 := cell_later Y a1; have r2 := cell_later Y a2; have r3 := cell_later Y a3; have r4 := cell_later Y a4; have s0 := cell_later Y c0; have s1 := cell_later Y c1; have s2 := cell_later Y c2; have s3 := cell_later Y c3; have s4 := cell_later Y c4))
   go_wp2_with fail
   go_roundw
   case rel => exact ⟨k + 1, by omega, by go_num, xt X Y⟩
   case measure => simp [intOf]; omega
  ·
   obtain rfl : k = n := by omega
   go_wp2_with fail
   go_ret
   exact ⟨rfl, X⟩

/-- What is put, as a value. -/
def putT (r : DR) : VT := if r.ok = true then ⟨1, r.neg, r.d, r.e, []⟩ else ⟨4, false, 0, 0, numbT⟩
theorem putT_val (r : DR) : (putT r).val = putV r := by
 unfold putT putV
 split <;> rfl
/-- A number among values. -/
def VT.isN (e : VT) : Prop := e.k = 1 ∧ e.t = [] ∧ goodB e.n e.d e.x = true
/-- A number, or the error of one that is too great. -/
def VT.isS (e : VT) : Prop := e.isN ∨ e = ⟨4, false, 0, 0, numbT⟩ ∨ e = ⟨4, false, 0, 0, divT⟩
theorem putT_isS {r : DR} (h : r.ok = true → goodB r.neg r.d r.e = true) : (putT r).isS := by
 unfold putT
 split
 ·
  next hr => exact Or.inl ⟨rfl, rfl, h hr⟩
 ·
  exact Or.inr (Or.inl rfl)
theorem addR_ok {na : Bool} {da ea : Int} {nb : Bool} {db eb : Int} (h : (addR na da ea nb db eb).ok = true) : goodB (addR na da ea nb db eb).neg (addR na da ea nb db eb).d (addR na da ea nb db eb).e = true := by
 unfold addR at h ⊢
 split
 ·
  next hg =>
  rw [if_pos hg] at h
  unfold sumE sumZ at h ⊢
  exact put_ok h
 ·
  next hg =>
  rw [if_neg hg] at h
  exact absurd h (by decide)
theorem strip_hi (k : Nat) : ∀ (P : Nat) (e : Int), P ≠ 0 → P < 10 ^ k → (strip P e).2 ≤ e + k := by
 induction k with
 | zero => intro P e h0 h; simp at h; omega
 | succ k ih =>
  intro P e h0 h
  by_cases hm : P % 10 = 0
  ·
   rw [strip_ten h0 hm]
   have := ih (P / 10) (e + 1) (by omega) (by rw [Nat.pow_succ] at h; omega)
   omega
  ·
   rw [strip_stop hm]
   show e ≤ _
   omega
theorem count_ok {n : Nat} (h : n ≤ 2000) : (putR false n 0 false).ok = true := by
 unfold putR
 have h4 : n < 10 ^ 4 := by omega
 have hn : ¬ 15 < nd n := by have := nd_le h4; omega
 rw [if_neg hn]
 unfold fitR
 split
 ·
  rfl
 ·
  next h0 =>
  have h1 := strip_hi 4 n 0 h0 h4
  have h2 := (strip_le n 0).2
  rw [if_neg (by omega), if_neg (by omega)]
theorem ofR_count (n : Nat) : ofR (n : Int) 0 = putR false n 0 false := by
 unfold ofR
 rw [if_pos (by omega), decide_eq_false (by omega)]
 rfl
/-- A count as a value. -/
def cntT (n : Nat) : VT := putT (putR false n 0 false)
theorem cntT_isN {n : Nat} (h : n ≤ 2000) : (cntT n).isN := by
 have hk := count_ok h
 unfold cntT putT
 rw [if_pos hk]
 exact ⟨rfl, rfl, put_ok hk⟩
set_option maxHeartbeats 2000000 in
theorem countI (n : Nat) (w : World) (h : n ≤ 2000) (hT : Tens w) :
  Calls Tryz.prog 46 #[.int .i64 n] w fun e w' => e = .returned (cntT n).val ∧ Ext w w' := by
 have X0 := x1 w (.cells #[.int .i64 0, .bool false, .int .i64 0, .int .i64 0, sV []] 27)
 have B0 := vec_made w (valL 0 false 0 0 []) 27
 change Vec (w.alloc (.cells #[.int .i64 0, .bool false, .int .i64 0, .int .i64 0, sV []] 27)) _ _ at B0
 have CO := ofI (n : Int) 0 (w.alloc (.cells #[.int .i64 0, .bool false, .int .i64 0, .int .i64 0, sV []] 27)) (by omega) (by omega) (hT.later X0)
 have HP : Hid (∀ W, Calls Tryz.prog 58 #[resV (ofR (n : Int) 0)] W fun rr w' => rr = .returned (cntT n).val ∧ Ext W w') := fun W => by
  have := putVI (ofR (n : Int) 0) W
  rw [ofR_count, ← putT_val] at this
  rw [ofR_count]
  exact this
 obtain ⟨⟨k2, n2, d2, x2, t2⟩, hc⟩ : ∃ v, cntT n = v := ⟨_, rfl⟩
 rw [hc]
 rw [hc] at HP
 obtain ⟨R, hR⟩ : ∃ R, resV (ofR (n : Int) 0) = R := ⟨_, rfl⟩
 rw [hR] at CO HP
 clear hc hR hT
 go_enter Tryz.func46, Tryz.ntmps46
 go_wp2_with fail
 refine CO.mono ?_
 rintro rr w1 ⟨rfl, e1⟩
 go_wp2_with fail
 refine (HP.out w1).mono ?_
 rintro rr w2 ⟨rfl, e2⟩
 obtain ⟨wy, hy, FX, ⟨b0, b1, b2, b3, b4⟩, ⟨fb0, fb1, fb2, fb3, fb4⟩, fd0, fd1, fd2, fd3, fd4⟩ := fin5 ((B0.later e1).later e2) (xt (xt X0 e1) e2) (by omega) k2 n2 d2 x2 t2
 go_wp2_with fail
 exact bodyPost_ret (v := valV k2 n2 d2 x2 t2) (by simp [results, Tryz.results46, go_sem, fd0, fd1, fd2, fd3, fd4]) rfl ⟨rfl, FX⟩
set_option maxHeartbeats 2000000 in
theorem numNI (n : Bool) (d x : Int) (w : World) (hg : goodB n d x = true) (hT : Tens w) (hE : ErrTab w) :
  Calls Tryz.prog 116 #[valV 1 n d x []] w fun e w' => e = .returned (valV 1 n d x []) ∧ Ext w w' := by
 obtain ⟨u0, u1, h0, h1, s0, s1, B0, B1, X⟩ := mkB2 w [.int .i64 1, .bool n, .int .i64 d, .int .i64 x, sV []] [.int .i64 0, .bool false, .int .i64 0, .int .i64 0, sV []] 27 27
 have gg := good_all hg
 have CG := goodVI 1 n d x [] u1 (by simp) (by omega) (by omega) (hT.later X) (hE.later X)
 rw [show goodV 1 n d x [] = true by simp [goodV, hg]] at CG
 obtain ⟨a0, a1, a2, a3, a4⟩ := Vec.five B0
 clear gg hT hE hg
 go_enter Tryz.func116, Tryz.ntmps116
 go_wp2_with fail
 clear a0 a1 a2 a3 a4 h0 h1 s0 s1
 refine CG.mono ?_
 rintro rr w1 ⟨rfl, e1⟩
 obtain ⟨a0, a1, a2, a3, a4⟩ := Vec.five (B0.later e1)
 obtain ⟨wy, hy, FX, ⟨b0, b1, b2, b3, b4⟩, ⟨fb0, fb1, fb2, fb3, fb4⟩, fd0, fd1, fd2, fd3, fd4⟩ := fin5 (B1.later e1) (xt X e1) (by omega) 1 n d x []
 go_wp2_with fail
 exact bodyPost_ret (v := valV 1 n d x []) (by simp [results, Tryz.results116, go_sem, fd0, fd1, fd2, fd3, fd4]) rfl ⟨rfl, FX⟩
theorem enterF_plus1 : ∀ ar w, (callFunc 85 ar).run Tryz.prog w = .ok (.enter 85 ar) w := fun ar w => by kernel_rfl
theorem enterF_over1 : ∀ ar w, (callFunc 93 ar).run Tryz.prog w = .ok (.enter 93 ar) w := fun ar w => by kernel_rfl
theorem enterF_reck : ∀ ar w, (callFunc 115 ar).run Tryz.prog w = .ok (.enter 115 ar) w := fun ar w => by kernel_rfl
/-- Two numbers reckoned by a step. -/
theorem reckN (f : Nat) (HF : ∀ ar w, (callFunc f ar).run Tryz.prog w = .ok (.enter f ar) w) (n : Bool) (d x : Int) (n' : Bool) (d' x' : Int) (w : World) (ga : goodB n d x = true) (gb : goodB n' d' x' = true) (hT : Tens w) (hE : ErrTab w) (r : VT)
  (H : ∀ w1, Ext w w1 → Calls Tryz.prog f #[decV n d x, decV n' d' x'] w1 fun e w' => e = .returned r.val ∧ Ext w1 w') :
  Calls Tryz.prog 84 #[valV 1 n d x [], valV 1 n' d' x' [], fnV f] w fun e w' => e = .returned r.val ∧ Ext w w' := by
 refine reckW 1 n d x [] 1 n' d' x' [] f w 1 n d x [] 1 n' d' x' [] (fun w1 h => numNI n d x w1 ga (hT.later h) (hE.later h)) (fun w1 h => numNI n' d' x' w1 gb (hT.later h) (hE.later h)) fun w1 p h1 hp => ?_
 refine of_cap _ _ _ _ _ _ _ _ _ _ _ _ enterF_reck (by decide) (by decide) w1 fun w2 h2 => ?_
 exact reck1 _ _ _ _ _ _ _ _ _ _ f p HF w2 (cell_later h2 hp) fun w3 h3 => H w3 (xt (xt h1 h2) h3)
set_option maxHeartbeats 2000000 in
theorem plusN (n : Bool) (d x : Int) (n' : Bool) (d' x' : Int) (w : World) (ga : goodB n d x = true) (gb : goodB n' d' x' = true) (hT : Tens w) (hE : ErrTab w) :
  Calls Tryz.prog 61 #[valV 1 n d x [], valV 1 n' d' x' []] w fun e w' => e = .returned (putT (addR n d x n' d' x')).val ∧ Ext w w' := by
 obtain ⟨u0, u1, u2, h0, h1, h2, s0, s1, s2, B0, B1, B2, X⟩ := mkB3 w [.int .i64 1, .bool n, .int .i64 d, .int .i64 x, sV []] [.int .i64 1, .bool n', .int .i64 d', .int .i64 x', sV []] [.int .i64 0, .bool false, .int .i64 0, .int .i64 0, sV []] 27 27 27
 have a := good_all ga
 have b := good_all gb
 have CR := reckN 85 enterF_plus1 n d x n' d' x' u2 ga gb (hT.later X) (hE.later X) (putT (addR n d x n' d' x')) (fun w1 h => by
  have := plus1I n d x n' d' x' w1 (by omega) (by omega) (by omega) (by omega) ((hT.later X).later h)
  rw [putT_val]
  exact this)
 obtain ⟨⟨k2, n2, d2, x2, t2⟩, hc⟩ : ∃ v, putT (addR n d x n' d' x') = v := ⟨_, rfl⟩
 rw [hc]
 rw [hc] at CR
 obtain ⟨a0, a1, a2, a3, a4⟩ := Vec.five B0
 obtain ⟨c0, c1, c2, c3, c4⟩ := Vec.five B1
 clear a b ga gb hT hE hc
 go_enter Tryz.func61, Tryz.ntmps61
 go_wp2_with fail
 clear a0 a1 a2 a3 a4 c0 c1 c2 c3 c4 h0 h1 h2 s0 s1 s2
 refine CR.mono ?_
 rintro rr w1 ⟨rfl, e1⟩
 obtain ⟨wy, hy, FX, ⟨b0, b1, b2, b3, b4⟩, ⟨fb0, fb1, fb2, fb3, fb4⟩, fd0, fd1, fd2, fd3, fd4⟩ := fin5 (B2.later e1) (xt X e1) (by omega) k2 n2 d2 x2 t2
 go_wp2_with fail
 exact bodyPost_ret (v := valV k2 n2 d2 x2 t2) (by simp [results, Tryz.results61, go_sem, fd0, fd1, fd2, fd3, fd4]) rfl ⟨rfl, FX⟩
/-- What over makes of two numbers. -/
def overT (n : Bool) (d x : Int) (n' : Bool) (d' x' : Int) : VT := if d' = 0 then ⟨4, false, 0, 0, divT⟩ else putT (divR n d x n' d' x')
set_option maxHeartbeats 2000000 in
theorem overN (n : Bool) (d x : Int) (n' : Bool) (d' x' : Int) (w : World) (ga : goodB n d x = true) (gb : goodB n' d' x' = true) (hT : Tens w) (hE : ErrTab w) :
  Calls Tryz.prog 65 #[valV 1 n d x [], valV 1 n' d' x' []] w fun e w' => e = .returned (overT n d x n' d' x').val ∧ Ext w w' := by
 obtain ⟨u0, u1, u2, h0, h1, h2, s0, s1, s2, B0, B1, B2, X⟩ := mkB3 w [.int .i64 1, .bool n, .int .i64 d, .int .i64 x, sV []] [.int .i64 1, .bool n', .int .i64 d', .int .i64 x', sV []] [.int .i64 0, .bool false, .int .i64 0, .int .i64 0, sV []] 27 27 27
 have a := good_all ga
 have b := good_all gb
 have CR := reckN 93 enterF_over1 n d x n' d' x' u2 ga gb (hT.later X) (hE.later X) (overT n d x n' d' x') (fun w1 h => by
  have := over1I n d x n' d' x' w1 (by omega) (by omega) (by omega) (by omega) ((hT.later X).later h) gb
  unfold overT
  split
  ·
   next h0 => rw [if_pos h0] at this; exact this
  ·
   next h0 => rw [if_neg h0] at this; rw [putT_val]; exact this)
 obtain ⟨⟨k2, n2, d2, x2, t2⟩, hc⟩ : ∃ v, overT n d x n' d' x' = v := ⟨_, rfl⟩
 rw [hc]
 rw [hc] at CR
 obtain ⟨a0, a1, a2, a3, a4⟩ := Vec.five B0
 obtain ⟨c0, c1, c2, c3, c4⟩ := Vec.five B1
 clear a b ga gb hT hE hc
 go_enter Tryz.func65, Tryz.ntmps65
 go_wp2_with fail
 clear a0 a1 a2 a3 a4 c0 c1 c2 c3 c4 h0 h1 h2 s0 s1 s2
 refine CR.mono ?_
 rintro rr w1 ⟨rfl, e1⟩
 obtain ⟨wy, hy, FX, ⟨b0, b1, b2, b3, b4⟩, ⟨fb0, fb1, fb2, fb3, fb4⟩, fd0, fd1, fd2, fd3, fd4⟩ := fin5 (B2.later e1) (xt X e1) (by omega) k2 n2 d2 x2 t2
 go_wp2_with fail
 exact bodyPost_ret (v := valV k2 n2 d2 x2 t2) (by simp [results, Tryz.results65, go_sem, fd0, fd1, fd2, fd3, fd4]) rfl ⟨rfl, FX⟩

end Go.Proofs.YtfgohahfppabbaaGreatDoor

