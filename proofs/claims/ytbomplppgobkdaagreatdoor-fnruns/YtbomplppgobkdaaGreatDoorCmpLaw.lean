/-
  The program's DecCmp, and the law over it: the walks.
-/
import Derived.Test.YtbomplppgobkdaaGreatDoorMg5
import Derived.Test.YtbomplppgobkdaaGreatDoorSized
namespace Go.Proofs.YtbomplppgobkdaaGreatDoor
open Go.RowKit

theorem good_neg {neg : Bool} {d x : Int} (h : goodB neg d x = true) (hn : neg = true) : 0 < d := by
  unfold goodB at h
  by_cases hd : d = 0
  · rw [if_pos hd, hn] at h; simp at h
  · rw [if_neg hd] at h; simp at h; omega
theorem cmpDec_good {na nb : Bool} {da ea db eb : Int} (ga : goodB na da ea = true) (gb : goodB nb db eb = true) : cmpDec na da ea nb db eb = cmpI (sgn na da * 10 ^ (ea - min ea eb).toNat) (sgn nb db * 10 ^ (eb - min ea eb).toNat) := by
  unfold cmpDec; rw [ga, gb]; rfl
theorem cmpDec_pos {da ea db eb : Int} (ga : goodB false da ea = true) (gb : goodB false db eb = true) : cmpDec false da ea false db eb = cmpSize da ea db eb := by
  rw [cmpDec_good ga gb]; rfl
theorem cmpDec_neg {da ea db eb : Int} (ga : goodB true da ea = true) (gb : goodB true db eb = true) : cmpDec true da ea true db eb = cmpSize db eb da ea := by
  rw [cmpDec_good ga gb, cmpSize, Int.min_comm eb ea]
  simp only [sgn, if_true, Int.neg_mul]
  rw [← cmpI_neg, cmpI_flip]; simp
theorem cmpDec_np {da ea db eb : Int} (ga : goodB true da ea = true) (gb : goodB false db eb = true) : cmpDec true da ea false db eb = -1 := by
  rw [cmpDec_good ga gb]
  refine cmpI_lt ?_
  have h1 := Int.mul_pos (good_neg ga rfl) (ten_pos (ea - min ea eb).toNat)
  have h2 := Int.mul_nonneg (good_bd gb).1 (Int.le_of_lt (ten_pos (eb - min ea eb).toNat))
  simp only [sgn, if_true, Int.neg_mul]
  show _ < db * _
  omega
theorem cmpDec_pn {da ea db eb : Int} (ga : goodB false da ea = true) (gb : goodB true db eb = true) : cmpDec false da ea true db eb = 1 := by
  rw [cmpDec_good ga gb]
  refine cmpI_gt ?_
  have h1 := Int.mul_pos (good_neg gb rfl) (ten_pos (eb - min ea eb).toNat)
  have h2 := Int.mul_nonneg (good_bd ga).1 (Int.le_of_lt (ten_pos (ea - min ea eb).toNat))
  simp only [sgn, if_true, Int.neg_mul]
  show _ < da * _
  omega

set_option maxHeartbeats 4000000 in
theorem cmpImpl (na nb : Bool) (da ea db eb : Int) (w : World) (da1 : -9223372036854775808 ≤ da) (da2 : da ≤ 9223372036854775807) (db1 : -9223372036854775808 ≤ db) (db2 : db ≤ 9223372036854775807) (hT : Tens w) :
    Calls Tryz.prog 77 #[.agg #[.bool na, .int .i64 da, .int .i64 ea], .agg #[.bool nb, .int .i64 db, .int .i64 eb]] w fun e w' => e = .returned (.int .i64 (cmpDec na da ea nb db eb)) ∧ Ext w w' := by
  have Ba := (Box3.made w (.bool na) (.int .i64 da) (.int .i64 ea) 48).later (x1 _ (.cells #[.bool nb, .int .i64 db, .int .i64 eb] 48))
  have Bb := Box3.made (w.alloc (.cells #[.bool na, .int .i64 da, .int .i64 ea] 48)) (.bool nb) (.int .i64 db) (.int .i64 eb) 48
  simp only [World.size_alloc] at Bb
  have T := hT.later (xa (x1 w (.cells #[.bool na, .int .i64 da, .int .i64 ea] 48)) (.cells #[.bool nb, .int .i64 db, .int .i64 eb] 48))
  clear hT
  cases ga : goodB na da ea
  · have H : Hid (cmpDec na da ea nb db eb = -2) := by unfold cmpDec; rw [ga]; rfl
    go_enter Tryz.func77, Tryz.ntmps77
    go_wp2_with fail
    refine (goodI_is _ _ _ _ _ da1 da2 T ga).mono ?_
    rintro e w1 ⟨rfl, e1⟩
    go_wp2
    go_ret
    exact ⟨ret_int H.out.symm, xt (xa (x1 _ _) _) e1⟩
  · cases gb : goodB nb db eb
    · have H : Hid (cmpDec na da ea nb db eb = -2) := by unfold cmpDec; rw [ga, gb]; rfl
      go_enter Tryz.func77, Tryz.ntmps77
      go_wp2_with fail
      refine (goodI_is _ _ _ _ _ da1 da2 T ga).mono ?_
      rintro e w1 ⟨rfl, e1⟩
      obtain ⟨⟨q0, q1, q2⟩, _⟩ := Bb.later e1
      go_wp2_with fail
      refine (goodI_is _ _ _ _ _ db1 db2 (T.later e1) gb).mono ?_
      rintro e w2 ⟨rfl, e2⟩
      go_wp2
      go_ret
      exact ⟨ret_int H.out.symm, xt (xt (xa (x1 _ _) _) e1) e2⟩
    · obtain ⟨a1, a2, a3, a4⟩ := good_bd ga
      obtain ⟨b1, b2, b3, b4⟩ := good_bd gb
      go_enter Tryz.func77, Tryz.ntmps77
      go_wp2_with fail
      refine (goodI_is _ _ _ _ _ da1 da2 T ga).mono ?_
      rintro e w1 ⟨rfl, e1⟩
      obtain ⟨⟨q0, q1, q2⟩, _⟩ := Bb.later e1
      go_wp2_with fail
      refine (goodI_is _ _ _ _ _ db1 db2 (T.later e1) gb).mono ?_
      rintro e w2 ⟨rfl, e2⟩
      have T2 := (T.later e1).later e2
      obtain ⟨⟨r0, r1, r2⟩, _⟩ := (Bb.later e1).later e2
      obtain ⟨⟨s0, s1, s2⟩, _⟩ := (Ba.later e1).later e2
      have X2 := xt (xt (xa (x1 _ _) _) e1) e2
      clear e1 e2 q0 q1 q2 Ba Bb T
      have CS : Hid (∀ (w : World), Tens w → Calls Tryz.prog 116 #[.agg #[.bool na, .int .i64 da, .int .i64 ea], .agg #[.bool nb, .int .i64 db, .int .i64 eb]] w fun e w' => e = .returned (.int .i64 (cmpSize da ea db eb)) ∧ Ext w w') := fun w hT => by
        obtain ⟨m, rfl⟩ := Int.eq_ofNat_of_zero_le a1
        obtain ⟨n, rfl⟩ := Int.eq_ofNat_of_zero_le b1
        exact compareSizes_any na nb m n ea eb w (by omega) (by omega) a3 a4 b3 b4 hT
      have CT : Hid (∀ (w : World), Tens w → Calls Tryz.prog 116 #[.agg #[.bool nb, .int .i64 db, .int .i64 eb], .agg #[.bool na, .int .i64 da, .int .i64 ea]] w fun e w' => e = .returned (.int .i64 (cmpSize db eb da ea)) ∧ Ext w w') := fun w hT => by
        obtain ⟨m, rfl⟩ := Int.eq_ofNat_of_zero_le a1
        obtain ⟨n, rfl⟩ := Int.eq_ofNat_of_zero_le b1
        exact compareSizes_any nb na n m eb ea w (by omega) (by omega) b3 b4 a3 a4 hT
      cases na <;> cases nb
      · have H : Hid (cmpDec false da ea false db eb = cmpSize da ea db eb) := cmpDec_pos ga gb
        by_cases hd : da = db
        · subst hd
          by_cases he : ea = eb
          · subst he
            have H' : Hid (cmpDec false da ea false da ea = 0) := by rw [H.out]; exact cmpI_eq _
            clear CS CT
            go_wp2
            go_ret
            exact ⟨ret_int H'.out.symm, X2⟩
          · go_wp2_with fail
            refine (CS.out _ T2).mono ?_
            rintro e w3 ⟨rfl, e3⟩
            go_wp2
            go_ret
            exact ⟨ret_int H.out.symm, xt X2 e3⟩
        · go_wp2_with fail
          refine (CS.out _ T2).mono ?_
          rintro e w3 ⟨rfl, e3⟩
          go_wp2
          go_ret
          exact ⟨ret_int H.out.symm, xt X2 e3⟩
      · have H : Hid (cmpDec false da ea true db eb = 1) := cmpDec_pn ga gb
        clear CS CT
        go_wp2
        go_ret
        exact ⟨ret_int H.out.symm, X2⟩
      · have H : Hid (cmpDec true da ea false db eb = -1) := cmpDec_np ga gb
        clear CS CT
        go_wp2
        go_ret
        exact ⟨ret_int H.out.symm, X2⟩
      · have H : Hid (cmpDec true da ea true db eb = cmpSize db eb da ea) := cmpDec_neg ga gb
        by_cases hd : da = db
        · subst hd
          by_cases he : ea = eb
          · subst he
            have H' : Hid (cmpDec true da ea true da ea = 0) := by rw [H.out]; exact cmpI_eq _
            clear CS CT
            go_wp2
            go_ret
            exact ⟨ret_int H'.out.symm, X2⟩
          · go_wp2_with fail
            refine (CT.out _ T2).mono ?_
            rintro e w3 ⟨rfl, e3⟩
            go_wp2
            go_ret
            exact ⟨ret_int H.out.symm, xt X2 e3⟩
        · go_wp2_with fail
          refine (CT.out _ T2).mono ?_
          rintro e w3 ⟨rfl, e3⟩
          go_wp2
          go_ret
          exact ⟨ret_int H.out.symm, xt X2 e3⟩

end Go.Proofs.YtbomplppgobkdaaGreatDoor

