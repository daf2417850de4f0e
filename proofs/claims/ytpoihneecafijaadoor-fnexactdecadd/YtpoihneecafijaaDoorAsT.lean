/-
  The specification's DecAdd, DecSub.
-/
import Derived.Test.YtpoihneecafijaaDoorAsS
namespace Go.Proofs.YtpoihneecafijaaDoor
open Go.RowKit

theorem good_sign {n m : Bool} {d e : Int} (h : d ≠ 0) : goodB n d e = goodB m d e := by
  unfold goodB
  rw [if_neg h, if_neg h]
theorem sumE_sign {na : Bool} {da ea eb : Int} (n m : Bool) : sumE na da ea n 0 eb = sumE na da ea m 0 eb := by
  have h : ∀ x y, sumI na da x n 0 y = sumI na da x m 0 y := fun x y => by unfold sumI; cases n <;> cases m <;> simp [sgn]
  unfold sumE sumZ
  rw [h]
theorem subR_eq (na : Bool) (da ea : Int) (nb : Bool) (db eb : Int) : subR na da ea nb db eb = if (goodB na da ea && goodB nb db eb) = true then sumE na da ea (nb != true) db eb else badR := by
  unfold subR addR
  by_cases h : db = 0
  · subst h
    rw [if_pos rfl, sumE_sign nb (nb != true)]
  · rw [if_neg h, good_sign (n := !nb) (m := nb) h]
    have : (nb != true) = !nb := by cases nb <;> rfl
    rw [this]

set_option maxRecDepth 4000 in
set_option maxHeartbeats 2000000 in
theorem addS_bad (na nb : Bool) (da ea db eb : Int) (minus : Bool) (w : World) (hg : (goodB na da ea && goodB nb db eb) = false) :
    Calls Tryd.prog 51 #[.agg #[.bool na, .int .i64 da, .int .i64 ea], .agg #[.bool nb, .int .i64 db, .int .i64 eb], .bool minus] w fun r w' => r = .returned (.agg #[.bool false, .bool false, .int .i64 0, .int .i64 0]) ∧ Ext w w' := by
  have X0 := xa (xa (x1 w (.cells #[.bool na, .int .i64 da, .int .i64 ea] 25)) (.cells #[.bool nb, .int .i64 db, .int .i64 eb] 25)) (.cells #[.bool false, .bool false, .int .i64 0, .int .i64 0] 29)
  have Bb := (Box3.made (w.alloc (.cells #[.bool na, .int .i64 da, .int .i64 ea] 25)) (.bool nb) (.int .i64 db) (.int .i64 eb) 25).later (x1 _ (.cells #[.bool false, .bool false, .int .i64 0, .int .i64 0] 29))
  have Br := Box4.made ((w.alloc (.cells #[.bool na, .int .i64 da, .int .i64 ea] 25)).alloc (.cells #[.bool nb, .int .i64 db, .int .i64 eb] 25)) (.bool false) (.bool false) (.int .i64 0) (.int .i64 0) 29
  simp only [World.size_alloc] at Bb Br
  go_enter Tryd.func51, Tryd.ntmps51
  go_wp2_with fail
  cases ga : goodB na da ea
  · refine (good_is false na da ea _ ga).mono ?_
    rintro r w1 ⟨rfl, x1'⟩
    obtain ⟨⟨m0, m1, m2, m3⟩, n0, n1, n2, n3⟩ := Br.later x1'
    clear ga hg
    go_wp2_with fail
    exact bodyPost_ret (v := .agg #[.bool false, .bool false, .int .i64 0, .int .i64 0]) (by simp [results, Tryd.results51, go_sem, m0, m1, m2, m3]) rfl ⟨rfl, xset (xset (xset (xset (xt X0 x1') (by simp only; omega) _) (by simp only; omega) _) (by simp only; omega) _) (by simp only; omega) _⟩
  · have gb : goodB nb db eb = false := by rw [ga] at hg; exact hg
    refine (good_is true na da ea _ ga).mono ?_
    rintro r w1 ⟨rfl, x1'⟩
    obtain ⟨⟨q0, q1, q2⟩, _⟩ := Bb.later x1'
    go_wp2_with fail
    refine (good_is false nb db eb _ gb).mono ?_
    rintro r w2 ⟨rfl, x2'⟩
    obtain ⟨⟨m0, m1, m2, m3⟩, n0, n1, n2, n3⟩ := (Br.later x1').later x2'
    clear ga gb hg q0 q1 q2
    go_wp2_with fail
    exact bodyPost_ret (v := .agg #[.bool false, .bool false, .int .i64 0, .int .i64 0]) (by simp [results, Tryd.results51, go_sem, m0, m1, m2, m3]) rfl ⟨rfl, xset (xset (xset (xset (xt (xt X0 x1') x2') (by simp only; omega) _) (by simp only; omega) _) (by simp only; omega) _) (by simp only; omega) _⟩

theorem decAdd_any (na nb : Bool) (da ea db eb : Int) (minus : Bool) (w : World) :
    Calls Tryd.prog 51 #[.agg #[.bool na, .int .i64 da, .int .i64 ea], .agg #[.bool nb, .int .i64 db, .int .i64 eb], .bool minus] w fun r w' => r = .returned (resV (if (goodB na da ea && goodB nb db eb) = true then sumE na da ea (nb != minus) db eb else badR)) ∧ Ext w w' := by
  cases hg : (goodB na da ea && goodB nb db eb)
  · exact addS_bad na nb da ea db eb minus w hg
  · rw [Bool.and_eq_true] at hg
    exact addS na nb da ea db eb minus w hg.1 hg.2

set_option maxRecDepth 4000 in
set_option maxHeartbeats 1000000 in
theorem addSpec (na nb : Bool) (da ea db eb : Int) (w : World) :
    Calls Tryd.prog 22 #[.agg #[.bool na, .int .i64 da, .int .i64 ea], .agg #[.bool nb, .int .i64 db, .int .i64 eb]] w fun r w' => r = .returned (resV (addR na da ea nb db eb)) ∧ Ext w w' := by
  obtain ⟨R, hR⟩ : ∃ R, addR na da ea nb db eb = R := ⟨_, rfl⟩
  rw [hR]
  have DA : Hid (∀ w2, Calls Tryd.prog 51 #[.agg #[.bool na, .int .i64 da, .int .i64 ea], .agg #[.bool nb, .int .i64 db, .int .i64 eb], .bool false] w2 fun r w' => r = .returned (resV R) ∧ Ext w2 w') := fun w2 => by
    have := decAdd_any na nb da ea db eb false w2
    have e : (nb != false) = nb := by cases nb <;> rfl
    rw [e] at this
    rw [← hR]
    exact this
  have X0 := xa (xa (x1 w (.cells #[.bool na, .int .i64 da, .int .i64 ea] 25)) (.cells #[.bool nb, .int .i64 db, .int .i64 eb] 25)) (.cells #[.bool false, .bool false, .int .i64 0, .int .i64 0] 29)
  have Br := Box4.made ((w.alloc (.cells #[.bool na, .int .i64 da, .int .i64 ea] 25)).alloc (.cells #[.bool nb, .int .i64 db, .int .i64 eb] 25)) (.bool false) (.bool false) (.int .i64 0) (.int .i64 0) 29
  simp only [World.size_alloc] at Br
  clear hR
  go_enter Tryd.func22, Tryd.ntmps22
  go_wp2_with fail
  refine (DA.out _).mono ?_
  rintro r w1 ⟨rfl, x1'⟩
  obtain ⟨⟨m0, m1, m2, m3⟩, n0, n1, n2, n3⟩ := Br.later x1'
  go_wp2_with fail
  exact bodyPost_ret (v := resV R) (by simp [results, Tryd.results22, go_sem, m0, m1, m2, m3]) rfl ⟨rfl, xset (xset (xset (xset (xt X0 x1') (by simp only; omega) _) (by simp only; omega) _) (by simp only; omega) _) (by simp only; omega) _⟩

set_option maxRecDepth 4000 in
set_option maxHeartbeats 1000000 in
theorem subSpec (na nb : Bool) (da ea db eb : Int) (w : World) :
    Calls Tryd.prog 24 #[.agg #[.bool na, .int .i64 da, .int .i64 ea], .agg #[.bool nb, .int .i64 db, .int .i64 eb]] w fun r w' => r = .returned (resV (subR na da ea nb db eb)) ∧ Ext w w' := by
  obtain ⟨R, hR⟩ : ∃ R, subR na da ea nb db eb = R := ⟨_, rfl⟩
  rw [hR]
  have DA : Hid (∀ w2, Calls Tryd.prog 51 #[.agg #[.bool na, .int .i64 da, .int .i64 ea], .agg #[.bool nb, .int .i64 db, .int .i64 eb], .bool true] w2 fun r w' => r = .returned (resV R) ∧ Ext w2 w') := fun w2 => by
    have := decAdd_any na nb da ea db eb true w2
    rw [← subR_eq, hR] at this
    exact this
  have X0 := xa (xa (x1 w (.cells #[.bool na, .int .i64 da, .int .i64 ea] 25)) (.cells #[.bool nb, .int .i64 db, .int .i64 eb] 25)) (.cells #[.bool false, .bool false, .int .i64 0, .int .i64 0] 29)
  have Br := Box4.made ((w.alloc (.cells #[.bool na, .int .i64 da, .int .i64 ea] 25)).alloc (.cells #[.bool nb, .int .i64 db, .int .i64 eb] 25)) (.bool false) (.bool false) (.int .i64 0) (.int .i64 0) 29
  simp only [World.size_alloc] at Br
  clear hR
  go_enter Tryd.func24, Tryd.ntmps24
  go_wp2_with fail
  refine (DA.out _).mono ?_
  rintro r w1 ⟨rfl, x1'⟩
  obtain ⟨⟨m0, m1, m2, m3⟩, n0, n1, n2, n3⟩ := Br.later x1'
  go_wp2_with fail
  exact bodyPost_ret (v := resV R) (by simp [results, Tryd.results24, go_sem, m0, m1, m2, m3]) rfl ⟨rfl, xset (xset (xset (xset (xt X0 x1') (by simp only; omega) _) (by simp only; omega) _) (by simp only; omega) _) (by simp only; omega) _⟩

end Go.Proofs.YtpoihneecafijaaDoor
