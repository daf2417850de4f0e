/-
  DvB, DvLaw in one.
-/
import Derived.Test.YtpeobfkenekmhaaDoorDvA
namespace Go.Proofs.YtpeobfkenekmhaaDoor
open Go.RowKit

theorem good_nought {n : Bool} {d e : Int} (h : goodB n d e = true) (hd : d = 0) : e = 0 ∧ n = false := by
  unfold goodB at h
  rw [if_pos hd] at h
  simp at h
  exact ⟨h.2, h.1⟩

set_option maxRecDepth 4000 in
set_option maxHeartbeats 2000000 in
theorem divI (na nb : Bool) (da ea db eb : Int) (w : World) (a1 : -9223372036854775808 ≤ da) (a2 : da ≤ 9223372036854775807) (b1 : -9223372036854775808 ≤ db) (b2 : db ≤ 9223372036854775807) (hT : Tens w) :
    Calls Tryd.prog 32 #[.agg #[.bool na, .int .i64 da, .int .i64 ea], .agg #[.bool nb, .int .i64 db, .int .i64 eb]] w fun r w' => r = .returned (resV (divR na da ea nb db eb)) ∧ Ext w w' := by
  by_cases hg : (goodB na da ea && goodB nb db eb && !(db == 0)) = true
  · unfold divR
    rw [if_pos hg]
    simp only [Bool.and_eq_true, Bool.not_eq_true', beq_eq_false_iff_ne] at hg
    obtain ⟨⟨ga, gb⟩, hd⟩ := hg
    obtain ⟨A, rfl⟩ := Int.eq_ofNat_of_zero_le (good_bd ga).1
    obtain ⟨B, rfl⟩ := Int.eq_ofNat_of_zero_le (good_bd gb).1
    rw [Int.toNat_natCast, Int.toNat_natCast]
    exact divI_good na nb A B ea eb w ga gb (by omega) hT
  · have hR : divR na da ea nb db eb = ⟨false, false, 0, 0⟩ := by unfold divR; rw [if_neg hg]; rfl
    rw [hR]
    have X0 := xa (xa (x1 w (.cells #[.bool na, .int .i64 da, .int .i64 ea] 24)) (.cells #[.bool nb, .int .i64 db, .int .i64 eb] 24)) (.cells #[.bool false, .bool false, .int .i64 0, .int .i64 0] 27)
    have Ba := (Box3.made w (.bool na) (.int .i64 da) (.int .i64 ea) 24).later (xa (x1 _ (.cells #[.bool nb, .int .i64 db, .int .i64 eb] 24)) (.cells #[.bool false, .bool false, .int .i64 0, .int .i64 0] 27))
    have Bb := (Box3.made (w.alloc (.cells #[.bool na, .int .i64 da, .int .i64 ea] 24)) (.bool nb) (.int .i64 db) (.int .i64 eb) 24).later (x1 _ (.cells #[.bool false, .bool false, .int .i64 0, .int .i64 0] 27))
    have Br := Box4.made ((w.alloc (.cells #[.bool na, .int .i64 da, .int .i64 ea] 24)).alloc (.cells #[.bool nb, .int .i64 db, .int .i64 eb] 24)) (.bool false) (.bool false) (.int .i64 0) (.int .i64 0) 27
    simp only [World.size_alloc] at Bb Br
    have T := hT.later X0
    clear hR hT
    go_enter Tryd.func32, Tryd.ntmps32
    go_wp2_with fail
    cases ga : goodB na da ea
    · refine (goodI_is false na da ea _ a1 a2 T ga).mono ?_
      rintro r w1 ⟨rfl, x1'⟩
      obtain ⟨⟨m0, m1, m2, m3⟩, n0, n1, n2, n3⟩ := Br.later x1'
      clear ga hg
      go_wp2_with fail
      exact bodyPost_ret (v := .agg #[.bool false, .bool false, .int .i64 0, .int .i64 0]) (by simp [results, Tryd.results32, go_sem, m0, m1, m2, m3]) rfl ⟨rfl, xset (xset (xset (xset (xt X0 x1') (by simp only; omega) _) (by simp only; omega) _) (by simp only; omega) _) (by simp only; omega) _⟩
    · refine (goodI_is true na da ea _ a1 a2 T ga).mono ?_
      rintro r w1 ⟨rfl, x1'⟩
      have Bb1 := Bb.later x1'
      have Bb1' := Bb1
      obtain ⟨⟨q0, q1, q2⟩, _⟩ := Bb1'
      go_wp2_with fail
      cases gb : goodB nb db eb
      · refine (goodI_is false nb db eb _ b1 b2 (T.later x1') gb).mono ?_
        rintro r w2 ⟨rfl, x2'⟩
        obtain ⟨⟨m0, m1, m2, m3⟩, n0, n1, n2, n3⟩ := (Br.later x1').later x2'
        clear ga gb hg q0 q1 q2
        go_wp2_with fail
        exact bodyPost_ret (v := .agg #[.bool false, .bool false, .int .i64 0, .int .i64 0]) (by simp [results, Tryd.results32, go_sem, m0, m1, m2, m3]) rfl ⟨rfl, xset (xset (xset (xset (xt (xt X0 x1') x2') (by simp only; omega) _) (by simp only; omega) _) (by simp only; omega) _) (by simp only; omega) _⟩
      · refine (goodI_is true nb db eb _ b1 b2 (T.later x1') gb).mono ?_
        rintro r w2 ⟨rfl, x2'⟩
        have hd : db = 0 := by
          refine Classical.byContradiction fun h => hg ?_
          rw [ga, gb]
          simpa using h
        obtain ⟨he, hn⟩ := good_nought gb hd
        subst hd
        subst he
        subst hn
        obtain ⟨⟨r0, r1, r2⟩, _⟩ := Bb1.later x2'
        obtain ⟨⟨m0, m1, m2, m3⟩, n0, n1, n2, n3⟩ := (Br.later x1').later x2'
        clear ga gb hg q0 q1 q2
        go_wp2_with fail
        exact bodyPost_ret (v := .agg #[.bool false, .bool false, .int .i64 0, .int .i64 0]) (by simp [results, Tryd.results32, go_sem, m0, m1, m2, m3]) rfl ⟨rfl, xset (xset (xset (xset (xt (xt X0 x1') x2') (by simp only; omega) _) (by simp only; omega) _) (by simp only; omega) _) (by simp only; omega) _⟩

set_option maxRecDepth 4000 in
set_option maxHeartbeats 2000000 in
theorem divS (na nb : Bool) (da ea db eb : Int) (w : World) :
    Calls Tryd.prog 34 #[.agg #[.bool na, .int .i64 da, .int .i64 ea], .agg #[.bool nb, .int .i64 db, .int .i64 eb]] w fun r w' => r = .returned (resV (divR na da ea nb db eb)) ∧ Ext w w' := by
  by_cases hg : (goodB na da ea && goodB nb db eb && !(db == 0)) = true
  · unfold divR
    rw [if_pos hg]
    simp only [Bool.and_eq_true, Bool.not_eq_true', beq_eq_false_iff_ne] at hg
    obtain ⟨⟨ga, gb⟩, hd⟩ := hg
    obtain ⟨A, rfl⟩ := Int.eq_ofNat_of_zero_le (good_bd ga).1
    obtain ⟨B, rfl⟩ := Int.eq_ofNat_of_zero_le (good_bd gb).1
    rw [Int.toNat_natCast, Int.toNat_natCast]
    exact divS_good na nb A B ea eb w ga gb (by omega)
  · have hR : divR na da ea nb db eb = ⟨false, false, 0, 0⟩ := by unfold divR; rw [if_neg hg]; rfl
    rw [hR]
    have X0 := xa (xa (x1 w (.cells #[.bool na, .int .i64 da, .int .i64 ea] 24)) (.cells #[.bool nb, .int .i64 db, .int .i64 eb] 24)) (.cells #[.bool false, .bool false, .int .i64 0, .int .i64 0] 27)
    have Ba := (Box3.made w (.bool na) (.int .i64 da) (.int .i64 ea) 24).later (xa (x1 _ (.cells #[.bool nb, .int .i64 db, .int .i64 eb] 24)) (.cells #[.bool false, .bool false, .int .i64 0, .int .i64 0] 27))
    have Bb := (Box3.made (w.alloc (.cells #[.bool na, .int .i64 da, .int .i64 ea] 24)) (.bool nb) (.int .i64 db) (.int .i64 eb) 24).later (x1 _ (.cells #[.bool false, .bool false, .int .i64 0, .int .i64 0] 27))
    have Br := Box4.made ((w.alloc (.cells #[.bool na, .int .i64 da, .int .i64 ea] 24)).alloc (.cells #[.bool nb, .int .i64 db, .int .i64 eb] 24)) (.bool false) (.bool false) (.int .i64 0) (.int .i64 0) 27
    simp only [World.size_alloc] at Bb Br

    clear hR
    go_enter Tryd.func34, Tryd.ntmps34
    go_wp2_with fail
    cases ga : goodB na da ea
    · refine (good_is false na da ea _ ga).mono ?_
      rintro r w1 ⟨rfl, x1'⟩
      obtain ⟨⟨m0, m1, m2, m3⟩, n0, n1, n2, n3⟩ := Br.later x1'
      clear ga hg
      go_wp2_with fail
      exact bodyPost_ret (v := .agg #[.bool false, .bool false, .int .i64 0, .int .i64 0]) (by simp [results, Tryd.results34, go_sem, m0, m1, m2, m3]) rfl ⟨rfl, xset (xset (xset (xset (xt X0 x1') (by simp only; omega) _) (by simp only; omega) _) (by simp only; omega) _) (by simp only; omega) _⟩
    · refine (good_is true na da ea _ ga).mono ?_
      rintro r w1 ⟨rfl, x1'⟩
      have Bb1 := Bb.later x1'
      have Bb1' := Bb1
      obtain ⟨⟨q0, q1, q2⟩, _⟩ := Bb1'
      go_wp2_with fail
      cases gb : goodB nb db eb
      · refine (good_is false nb db eb _ gb).mono ?_
        rintro r w2 ⟨rfl, x2'⟩
        obtain ⟨⟨m0, m1, m2, m3⟩, n0, n1, n2, n3⟩ := (Br.later x1').later x2'
        clear ga gb hg q0 q1 q2
        go_wp2_with fail
        exact bodyPost_ret (v := .agg #[.bool false, .bool false, .int .i64 0, .int .i64 0]) (by simp [results, Tryd.results34, go_sem, m0, m1, m2, m3]) rfl ⟨rfl, xset (xset (xset (xset (xt (xt X0 x1') x2') (by simp only; omega) _) (by simp only; omega) _) (by simp only; omega) _) (by simp only; omega) _⟩
      · refine (good_is true nb db eb _ gb).mono ?_
        rintro r w2 ⟨rfl, x2'⟩
        have hd : db = 0 := by
          refine Classical.byContradiction fun h => hg ?_
          rw [ga, gb]
          simpa using h
        obtain ⟨he, hn⟩ := good_nought gb hd
        subst hd
        subst he
        subst hn
        obtain ⟨⟨r0, r1, r2⟩, _⟩ := Bb1.later x2'
        obtain ⟨⟨m0, m1, m2, m3⟩, n0, n1, n2, n3⟩ := (Br.later x1').later x2'
        clear ga gb hg q0 q1 q2
        go_wp2_with fail
        exact bodyPost_ret (v := .agg #[.bool false, .bool false, .int .i64 0, .int .i64 0]) (by simp [results, Tryd.results34, go_sem, m0, m1, m2, m3]) rfl ⟨rfl, xset (xset (xset (xset (xt (xt X0 x1') x2') (by simp only; omega) _) (by simp only; omega) _) (by simp only; omega) _) (by simp only; omega) _⟩

end Go.Proofs.YtpeobfkenekmhaaDoor

