/-
  Chapter 16: GoodDo, by the program and by the specification.
-/
import Derived.Test.YtbpnamobifbgpaaDg1
namespace Go.Proofs.Ytbpnamobifbgpaa
open Go.RowKit

set_option maxHeartbeats 4000000 in
set_option maxRecDepth 8000 in
theorem goodDI (k o r c : Int) (t : List UInt8) (a b m : Int) (d : Bool) (w : World) (hl : t.length ≤ 2000000) : Calls Try.prog 7 #[doV k o r c t a b m d] w fun z w' => z = .returned (.bool (goodDB k o r c t a b m d)) ∧ Ext w w' := by
  have C1 := fun W => goodCI r c t W hl
  have C2 := fun W => goodTI a b m d W
  have T1 := fun W => turn_eql a b m d W
  have T2 := fun W => change_eql r c t W
  have T3 := fun W => do_eql k o r c t a b m d W
  have HG : Hid (goodDB k o r c t a b m d = if k = 1 then whoB o && zeroT a b m d && goodCB r c t else if k = 2 then whoB o && zeroC r c t && goodTB a b m d else zeroD k o r c t a b m d) := rfl
  obtain ⟨g, hg⟩ : ∃ g, goodDB k o r c t a b m d = g := ⟨_, rfl⟩
  obtain ⟨p1, hp1⟩ : ∃ p, goodCB r c t = p := ⟨_, rfl⟩
  obtain ⟨p2, hp2⟩ : ∃ p, goodTB a b m d = p := ⟨_, rfl⟩
  obtain ⟨q1, hq1⟩ : ∃ p, zeroT a b m d = p := ⟨_, rfl⟩
  obtain ⟨q2, hq2⟩ : ∃ p, zeroC r c t = p := ⟨_, rfl⟩
  obtain ⟨q3, hq3⟩ : ∃ p, zeroD k o r c t a b m d = p := ⟨_, rfl⟩
  rw [hg, hp1, hp2, hq1, hq2, hq3] at HG
  rw [hg]
  rw [hp1] at C1
  rw [hp2] at C2
  rw [hq1] at T1
  rw [hq2] at T2
  rw [hq3] at T3
  clear hg hp1 hp2 hq1 hq2 hq3 hl
  have B1 := vec_made w [.int .i64 k, .int .i64 o, .int .i64 r, .int .i64 c, sV t, .int .i64 a, .int .i64 b, .int .i64 m, .bool d] 33
  have X1 := x1 w (.cells #[.int .i64 k, .int .i64 o, .int .i64 r, .int .i64 c, sV t, .int .i64 a, .int .i64 b, .int .i64 m, .bool d] 33)
  change Vec (w.alloc (.cells #[.int .i64 k, .int .i64 o, .int .i64 r, .int .i64 c, sV t, .int .i64 a, .int .i64 b, .int .i64 m, .bool d] 33)) _ _ at B1
  obtain ⟨wa, ha⟩ : ∃ wa, w.alloc (.cells #[.int .i64 k, .int .i64 o, .int .i64 r, .int .i64 c, sV t, .int .i64 a, .int .i64 b, .int .i64 m, .bool d] 33) = wa := ⟨_, rfl⟩
  rw [ha] at B1 X1
  have a0 := (B1 0 _ rfl).1
  have a1 := (B1 1 _ rfl).1
  have a2 := (B1 2 _ rfl).1
  have a3 := (B1 3 _ rfl).1
  have a4 := (B1 4 _ rfl).1
  have a5 := (B1 5 _ rfl).1
  have a6 := (B1 6 _ rfl).1
  have a7 := (B1 7 _ rfl).1
  have a8 := (B1 8 _ rfl).1
  obtain ⟨u, hu⟩ : ∃ u, whoB o = u := ⟨_, rfl⟩
  rw [hu] at HG
  have W0 : (decide (0 ≤ o) = false ∧ u = false) ∨ (0 ≤ o ∧ decide (o ≤ 99) = u) := by
    rw [← hu]
    unfold whoB
    by_cases h : 0 ≤ o
    · exact .inr ⟨h, by simp [h]⟩
    · exact .inl ⟨decide_eq_false h, decide_eq_false (fun e => h e.1)⟩
  clear hu
  go_enter Try.func7, Try.ntmps7
  by_cases k1 : k = 1
  · subst k1
    have H1 : Hid (g = (u && q1 && p1)) := HG.out
    clear HG T3
    rcases W0 with ⟨h0, rfl⟩ | ⟨h0, h1⟩
    · go_wp2_with fail
      go_ret
      exact ⟨ret_bool (by rw [H1.out]; simp), X1⟩
    · cases u
      · go_wp2_with fail
        go_ret
        exact ⟨ret_bool (by rw [H1.out]; simp), X1⟩
      · cases q1
        · go_wp2_with fail
          go_ret
          exact ⟨ret_bool (by rw [H1.out]; simp), X1⟩
        · go_wp2_with fail
          refine (C1 _).mono ?_
          rintro z w1 ⟨rfl, e1⟩
          go_wp2_with fail
          go_ret
          exact ⟨ret_bool (by rw [H1.out]; simp), xt X1 e1⟩
  · have n1 : decide (k = 1) = false := decide_eq_false k1
    have n1' : (k == 1) = false := beq_eq_false_iff_ne.2 k1
    by_cases k2 : k = 2
    · subst k2
      have H1 : Hid (g = (u && q2 && p2)) := HG.out
      clear HG T3
      rcases W0 with ⟨h0, rfl⟩ | ⟨h0, h1⟩
      · go_wp2_with fail
        go_ret
        exact ⟨ret_bool (by rw [H1.out]; simp), X1⟩
      · cases u
        · go_wp2_with fail
          go_ret
          exact ⟨ret_bool (by rw [H1.out]; simp), X1⟩
        · cases q2
          · go_wp2_with fail
            go_ret
            exact ⟨ret_bool (by rw [H1.out]; simp), X1⟩
          · go_wp2_with fail
            refine (C2 _).mono ?_
            rintro z w1 ⟨rfl, e1⟩
            go_wp2_with fail
            go_ret
            exact ⟨ret_bool (by rw [H1.out]; simp), xt X1 e1⟩
    · have n2 : decide (k = 2) = false := decide_eq_false k2
      have n2' : (k == 2) = false := beq_eq_false_iff_ne.2 k2
      have H1 : Hid (g = q3) := by show _ = _; rw [HG.out, if_neg k1, if_neg k2]
      clear HG
      rcases W0 with ⟨h0, rfl⟩ | ⟨h0, h1⟩
      · go_wp2_with fail
        go_ret
        exact ⟨ret_bool (by rw [H1.out]), X1⟩
      · cases u
        all_goals go_wp2_with fail
        all_goals go_ret
        all_goals exact ⟨ret_bool (by rw [H1.out]), X1⟩

set_option maxHeartbeats 1000000 in
theorem placeDS (r c : Int) (w : World) : Calls Try.prog 9 #[.int .i64 r, .int .i64 c] w fun e w' => e = .returned (.bool (goodRB r c)) ∧ Ext w w' := by
  have C := goodRS r c false false w
  obtain ⟨q, hq⟩ : ∃ q, goodRB r c = q := ⟨_, rfl⟩
  rw [hq] at C ⊢
  clear hq
  go_enter Try.func9, Try.ntmps9
  go_wp2_with fail
  refine C.mono ?_
  rintro e w1 ⟨rfl, e1⟩
  go_wp2_with fail
  go_ret
  exact ⟨rfl, e1⟩

set_option maxHeartbeats 4000000 in
set_option maxRecDepth 8000 in
theorem goodDS (k o r c : Int) (t : List UInt8) (a b m : Int) (d : Bool) (w : World) (hl : t.length ≤ 2000000) : Calls Try.prog 5 #[doV k o r c t a b m d] w fun z w' => z = .returned (.bool (goodDB k o r c t a b m d)) ∧ Ext w w' := by
  have C0 := fun W => placeDS r c W
  have C1 := fun W => printS 2000 t W hl
  have C2 := fun W => goodTS a b m d W
  have T1 := fun W => turn_eql a b m d W
  have T2 := fun W => change_eql r c t W
  have T3 := fun W => do_eql k o r c t a b m d W
  have HG : Hid (goodDB k o r c t a b m d = if k = 1 then whoB o && zeroT a b m d && (goodRB r c && printN 2000 t) else if k = 2 then whoB o && zeroC r c t && goodTB a b m d else zeroD k o r c t a b m d) := rfl
  have HZ : Hid (¬ (0 ≤ o ∧ o ≤ 99) → zeroD k o r c t a b m d = false) := fun h => by
    unfold zeroD
    exact decide_eq_false (fun e => h ⟨by omega, by omega⟩)
  have HK : Hid (k ≠ 0 → zeroD k o r c t a b m d = false) := fun h => by
    unfold zeroD
    exact decide_eq_false (fun e => h e.1)
  obtain ⟨g, hg⟩ : ∃ g, goodDB k o r c t a b m d = g := ⟨_, rfl⟩
  obtain ⟨p0, hp0⟩ : ∃ p, goodRB r c = p := ⟨_, rfl⟩
  obtain ⟨p1, hp1⟩ : ∃ p, printN 2000 t = p := ⟨_, rfl⟩
  obtain ⟨p2, hp2⟩ : ∃ p, goodTB a b m d = p := ⟨_, rfl⟩
  obtain ⟨q1, hq1⟩ : ∃ p, zeroT a b m d = p := ⟨_, rfl⟩
  obtain ⟨q2, hq2⟩ : ∃ p, zeroC r c t = p := ⟨_, rfl⟩
  obtain ⟨q3, hq3⟩ : ∃ p, zeroD k o r c t a b m d = p := ⟨_, rfl⟩
  rw [hg, hp0, hp1, hp2, hq1, hq2, hq3] at HG
  rw [hq3] at HZ HK
  rw [hg]
  rw [hp0] at C0
  rw [hp1] at C1
  rw [hp2] at C2
  rw [hq1] at T1
  rw [hq2] at T2
  rw [hq3] at T3
  clear hg hp0 hp1 hp2 hq1 hq2 hq3 hl
  have B1 := vec_made w [.int .i64 k, .int .i64 o, .int .i64 r, .int .i64 c, sV t, .int .i64 a, .int .i64 b, .int .i64 m, .bool d] 33
  have X1 := x1 w (.cells #[.int .i64 k, .int .i64 o, .int .i64 r, .int .i64 c, sV t, .int .i64 a, .int .i64 b, .int .i64 m, .bool d] 33)
  change Vec (w.alloc (.cells #[.int .i64 k, .int .i64 o, .int .i64 r, .int .i64 c, sV t, .int .i64 a, .int .i64 b, .int .i64 m, .bool d] 33)) _ _ at B1
  obtain ⟨wa, ha⟩ : ∃ wa, w.alloc (.cells #[.int .i64 k, .int .i64 o, .int .i64 r, .int .i64 c, sV t, .int .i64 a, .int .i64 b, .int .i64 m, .bool d] 33) = wa := ⟨_, rfl⟩
  rw [ha] at B1 X1
  have a0 := (B1 0 _ rfl).1
  have a1 := (B1 1 _ rfl).1
  have a2 := (B1 2 _ rfl).1
  have a3 := (B1 3 _ rfl).1
  have a4 := (B1 4 _ rfl).1
  have a5 := (B1 5 _ rfl).1
  have a6 := (B1 6 _ rfl).1
  have a7 := (B1 7 _ rfl).1
  have a8 := (B1 8 _ rfl).1
  go_enter Try.func5, Try.ntmps5
  by_cases hw : 0 ≤ o ∧ o ≤ 99
  · obtain ⟨w0, w9⟩ := hw
    have HU : whoB o = true := by unfold whoB; exact decide_eq_true ⟨w0, w9⟩
    rw [HU] at HG
    clear HU HZ
    have f0 : decide (o < 0) = false := by simp; omega
    have f9 : decide (99 < o) = false := by simp; omega
    by_cases k0 : k = 0
    · subst k0
      have H1 : Hid (g = q3) := HG.out
      go_wp2_with fail
      go_ret
      exact ⟨ret_bool (by rw [H1.out]), X1⟩
    · have q0 := HK.out k0
      subst q0
      have n0 : decide (k = 0) = false := decide_eq_false k0
      have n0' : (k == 0) = false := beq_eq_false_iff_ne.2 k0
      clear T3 HK
      by_cases k1 : k = 1
      · subst k1
        have H1 : Hid (g = (true && q1 && (p0 && p1))) := HG.out
        cases q1
        · go_wp2_with fail
          go_ret
          exact ⟨ret_bool (by rw [H1.out]; simp), X1⟩
        · go_wp2_with fail
          refine (C0 _).mono ?_
          rintro z w1 ⟨rfl, e1⟩
          have b4 := cell_later e1 a4
          cases p0
          · go_wp2_with fail
            go_ret
            exact ⟨ret_bool (by rw [H1.out]; simp), xt X1 e1⟩
          · go_wp2_with fail
            refine (C1 _).mono ?_
            rintro z w2 ⟨rfl, rfl⟩
            go_wp2_with fail
            go_ret
            exact ⟨ret_bool (by rw [H1.out]; simp), xt X1 e1⟩
      · have n1 : decide (k = 1) = false := decide_eq_false k1
        have n1' : (k == 1) = false := beq_eq_false_iff_ne.2 k1
        by_cases k2 : k = 2
        · subst k2
          have H1 : Hid (g = (true && q2 && p2)) := HG.out
          cases q2
          · go_wp2_with fail
            go_ret
            exact ⟨ret_bool (by rw [H1.out]; simp), X1⟩
          · go_wp2_with fail
            refine (C2 _).mono ?_
            rintro z w1 ⟨rfl, e1⟩
            go_wp2_with fail
            go_ret
            exact ⟨ret_bool (by rw [H1.out]; simp), xt X1 e1⟩
        · have n2 : decide (k = 2) = false := decide_eq_false k2
          have n2' : (k == 2) = false := beq_eq_false_iff_ne.2 k2
          have H1 : Hid (g = false) := by show _ = _; rw [HG.out, if_neg k1, if_neg k2]
          go_wp2_with fail
          go_ret
          exact ⟨ret_bool (by rw [H1.out]), X1⟩
  · have HU : whoB o = false := by unfold whoB; exact decide_eq_false hw
    rw [HU] at HG
    have HF : Hid (g = false) := by
      show _ = _
      rw [HG.out, HZ.out hw]
      simp
    clear HG HZ HK HU
    by_cases w0 : o < 0
    · go_wp2_with fail
      go_ret
      exact ⟨ret_bool (by rw [HF.out]), X1⟩
    · have f0 : decide (o < 0) = false := by simp; omega
      have f9 : 99 < o := by omega
      go_wp2_with fail
      go_ret
      exact ⟨ret_bool (by rw [HF.out]), X1⟩

end Go.Proofs.Ytbpnamobifbgpaa
