/-
  The program's DecCmp, and the law over it: the walks.
-/
import Derived.Test.YtpoihneecafijaaDoorCmpImplB
import Derived.Test.YtpoihneecafijaaDoorSized
namespace Go.Proofs.YtpoihneecafijaaDoor
open Go.RowKit

theorem good_neg {neg : Bool} {d x : Int} (h : goodB neg d x = true) (hn : neg = true) : 0 < d := by
  unfold goodB at h
  by_cases hd : d = 0
  · rw [if_pos hd, hn] at h; simp at h
  · rw [if_neg hd] at h; simp at h; omega
theorem cmpDec_good {na nb : Bool} {da ea db eb : Int} (ga : goodB na da ea = true) (gb : goodB nb db eb = true) : cmpDec na da ea nb db eb = cmpI (sgn na da * 10 ^ (ea - min ea eb).toNat) (sgn nb db * 10 ^ (eb - min ea eb).toNat) := by
  unfold cmpDec; rw [ga, gb]; rfl
theorem cmpDec_pos {da ea db eb : Int} (ga : goodB false da ea = true) (gb : goodB false db eb = true) : cmpDec false da ea false db eb = cmpSize da ea db eb := by
  rw [cmpDec_good ga gb]; rfl
theorem cmpDec_neg {da ea db eb : Int} (ga : goodB true da ea = true) (gb : goodB true db eb = true) : cmpDec true da ea true db eb = cmpSize db eb da ea := by
  rw [cmpDec_good ga gb, cmpSize, Int.min_comm eb ea]
  simp only [sgn, if_true, Int.neg_mul]
  rw [← cmpI_neg, cmpI_flip]; simp
theorem cmpDec_np {da ea db eb : Int} (ga : goodB true da ea = true) (gb : goodB false db eb = true) : cmpDec true da ea false db eb = -1 := by
  rw [cmpDec_good ga gb]
  refine cmpI_lt ?_
  have h1 := Int.mul_pos (good_neg ga rfl) (ten_pos (ea - min ea eb).toNat)
  have h2 := Int.mul_nonneg (good_bd gb).1 (Int.le_of_lt (ten_pos (eb - min ea eb).toNat))
  simp only [sgn, if_true, Int.neg_mul]
  show _ < db * _
  omega
theorem cmpDec_pn {da ea db eb : Int} (ga : goodB false da ea = true) (gb : goodB true db eb = true) : cmpDec false da ea true db eb = 1 := by
  rw [cmpDec_good ga gb]
  refine cmpI_gt ?_
  have h1 := Int.mul_pos (good_neg gb rfl) (ten_pos (eb - min ea eb).toNat)
  have h2 := Int.mul_nonneg (good_bd ga).1 (Int.le_of_lt (ten_pos (ea - min ea eb).toNat))
  simp only [sgn, if_true, Int.neg_mul]
  show _ < da * _
  omega

set_option maxHeartbeats 4000000 in
theorem cmpImpl (na nb : Bool) (da ea db eb : Int) (w : World) (da1 : -9223372036854775808 ≤ da) (da2 : da ≤ 9223372036854775807) (db1 : -9223372036854775808 ≤ db) (db2 : db ≤ 9223372036854775807) (hT : Tens w) :
    Calls Tryd.prog 31 #[.agg #[.bool na, .int .i64 da, .int .i64 ea], .agg #[.bool nb, .int .i64 db, .int .i64 eb]] w fun e w' => e = .returned (.int .i64 (cmpDec na da ea nb db eb)) ∧ Ext w w' := by
  have Ba := (Box3.made w (.bool na) (.int .i64 da) (.int .i64 ea) 25).later (x1 _ (.cells #[.bool nb, .int .i64 db, .int .i64 eb] 25))
  have Bb := Box3.made (w.alloc (.cells #[.bool na, .int .i64 da, .int .i64 ea] 25)) (.bool nb) (.int .i64 db) (.int .i64 eb) 25
  simp only [World.size_alloc] at Bb
  have T := hT.later (xa (x1 w (.cells #[.bool na, .int .i64 da, .int .i64 ea] 25)) (.cells #[.bool nb, .int .i64 db, .int .i64 eb] 25))
  clear hT
  cases ga : goodB na da ea
  · have H : Hid (cmpDec na da ea nb db eb = -2) := by unfold cmpDec; rw [ga]; rfl
    go_enter Tryd.func31, Tryd.ntmps31
    go_wp2_with fail
    refine (goodI_is _ _ _ _ _ da1 da2 T ga).mono ?_
    rintro e w1 ⟨rfl, e1⟩
    go_wp2
    go_ret
    exact ⟨ret_int H.out.symm, xt (xa (x1 _ _) _) e1⟩
  · cases gb : goodB nb db eb
    · have H : Hid (cmpDec na da ea nb db eb = -2) := by unfold cmpDec; rw [ga, gb]; rfl
      go_enter Tryd.func31, Tryd.ntmps31
      go_wp2_with fail
      refine (goodI_is _ _ _ _ _ da1 da2 T ga).mono ?_
      rintro e w1 ⟨rfl, e1⟩
      obtain ⟨⟨q0, q1, q2⟩, _⟩ := Bb.later e1
      go_wp2_with fail
      refine (goodI_is _ _ _ _ _ db1 db2 (T.later e1) gb).mono ?_
      rintro e w2 ⟨rfl, e2⟩
      go_wp2
      go_ret
      exact ⟨ret_int H.out.symm, xt (xt (xa (x1 _ _) _) e1) e2⟩
    · obtain ⟨a1, a2, a3, a4⟩ := good_bd ga
      obtain ⟨b1, b2, b3, b4⟩ := good_bd gb
      go_enter Tryd.func31, Tryd.ntmps31
      go_wp2_with fail
      refine (goodI_is _ _ _ _ _ da1 da2 T ga).mono ?_
      rintro e w1 ⟨rfl, e1⟩
      obtain ⟨⟨q0, q1, q2⟩, _⟩ := Bb.later e1
      go_wp2_with fail
      refine (goodI_is _ _ _ _ _ db1 db2 (T.later e1) gb).mono ?_
      rintro e w2 ⟨rfl, e2⟩
      have T2 := (T.later e1).later e2
      obtain ⟨⟨r0, r1, r2⟩, _⟩ := (Bb.later e1).later e2
      obtain ⟨⟨s0, s1, s2⟩, _⟩ := (Ba.later e1).later e2
      have X2 := xt (xt (xa (x1 _ _) _) e1) e2
      clear e1 e2 q0 q1 q2 Ba Bb T
      have CS : Hid (∀ (w : World), Tens w → Calls Tryd.prog 65 #[.agg #[.bool na, .int .i64 da, .int .i64 ea], .agg #[.bool nb, .int .i64 db, .int .i64 eb]] w fun e w' => e = .returned (.int .i64 (cmpSize da ea db eb)) ∧ Ext w w') := fun w hT => by
        obtain ⟨m, rfl⟩ := Int.eq_ofNat_of_zero_le a1
        obtain ⟨n, rfl⟩ := Int.eq_ofNat_of_zero_le b1
        exact compareSizes_any na nb m n ea eb w (by omega) (by omega) a3 a4 b3 b4 hT
      have CT : Hid (∀ (w : World), Tens w → Calls Tryd.prog 65 #[.agg #[.bool nb, .int .i64 db, .int .i64 eb], .agg #[.bool na, .int .i64 da, .int .i64 ea]] w fun e w' => e = .returned (.int .i64 (cmpSize db eb da ea)) ∧ Ext w w') := fun w hT => by
        obtain ⟨m, rfl⟩ := Int.eq_ofNat_of_zero_le a1
        obtain ⟨n, rfl⟩ := Int.eq_ofNat_of_zero_le b1
        exact compareSizes_any nb na n m eb ea w (by omega) (by omega) b3 b4 a3 a4 hT
      cases na <;> cases nb
      · have H : Hid (cmpDec false da ea false db eb = cmpSize da ea db eb) := cmpDec_pos ga gb
        by_cases hd : da = db
        · subst hd
          by_cases he : ea = eb
          · subst he
            have H' : Hid (cmpDec false da ea false da ea = 0) := by rw [H.out]; exact cmpI_eq _
            clear CS CT
            go_wp2
            go_ret
            exact ⟨ret_int H'.out.symm, X2⟩
          · go_wp2_with fail
            refine (CS.out _ T2).mono ?_
            rintro e w3 ⟨rfl, e3⟩
            go_wp2
            go_ret
            exact ⟨ret_int H.out.symm, xt X2 e3⟩
        · go_wp2_with fail
          refine (CS.out _ T2).mono ?_
          rintro e w3 ⟨rfl, e3⟩
          go_wp2
          go_ret
          exact ⟨ret_int H.out.symm, xt X2 e3⟩
      · have H : Hid (cmpDec false da ea true db eb = 1) := cmpDec_pn ga gb
        clear CS CT
        go_wp2
        go_ret
        exact ⟨ret_int H.out.symm, X2⟩
      · have H : Hid (cmpDec true da ea false db eb = -1) := cmpDec_np ga gb
        clear CS CT
        go_wp2
        go_ret
        exact ⟨ret_int H.out.symm, X2⟩
      · have H : Hid (cmpDec true da ea true db eb = cmpSize db eb da ea) := cmpDec_neg ga gb
        by_cases hd : da = db
        · subst hd
          by_cases he : ea = eb
          · subst he
            have H' : Hid (cmpDec true da ea true da ea = 0) := by rw [H.out]; exact cmpI_eq _
            clear CS CT
            go_wp2
            go_ret
            exact ⟨ret_int H'.out.symm, X2⟩
          · go_wp2_with fail
            refine (CT.out _ T2).mono ?_
            rintro e w3 ⟨rfl, e3⟩
            go_wp2
            go_ret
            exact ⟨ret_int H.out.symm, xt X2 e3⟩
        · go_wp2_with fail
          refine (CT.out _ T2).mono ?_
          rintro e w3 ⟨rfl, e3⟩
          go_wp2
          go_ret
          exact ⟨ret_int H.out.symm, xt X2 e3⟩

set_option maxHeartbeats 2000000 in
theorem lawCmp (na nb : Bool) (da ea db eb : Int) (w : World) (da1 : -9223372036854775808 ≤ da) (da2 : da ≤ 9223372036854775807) (db1 : -9223372036854775808 ≤ db) (db2 : db ≤ 9223372036854775807) (hT : Tens w) :
    Calls Tryd.prog 9 #[.agg #[.bool na, .int .i64 da, .int .i64 ea], .agg #[.bool nb, .int .i64 db, .int .i64 eb]] w fun e w' => e = .returned (.bool true) ∧ Ext w w' := by
  have Ba := (Box3.made w (.bool na) (.int .i64 da) (.int .i64 ea) 23).later (x1 _ (.cells #[.bool nb, .int .i64 db, .int .i64 eb] 23))
  have Bb := Box3.made (w.alloc (.cells #[.bool na, .int .i64 da, .int .i64 ea] 23)) (.bool nb) (.int .i64 db) (.int .i64 eb) 23
  simp only [World.size_alloc] at Bb
  have T := hT.later (xa (x1 w (.cells #[.bool na, .int .i64 da, .int .i64 ea] 23)) (.cells #[.bool nb, .int .i64 db, .int .i64 eb] 23))
  clear hT
  go_enter Tryd.func9, Tryd.ntmps9
  have Ba' := Ba
  have Bb' := Bb
  obtain ⟨⟨p0, p1, p2⟩, _⟩ := Ba'
  obtain ⟨⟨q0, q1, q2⟩, _⟩ := Bb'
  go_wp2_with fail
  go_region_held3 (fun w' => (w'.cell? ⟨w.heap.size, 0, none⟩ = some (.bool na) ∧ w'.cell? ⟨w.heap.size, 1, none⟩ = some (.int .i64 da) ∧ w'.cell? ⟨w.heap.size, 2, none⟩ = some (.int .i64 ea)) ∧ w'.cell? ⟨w.heap.size + 1, 0, none⟩ = some (.bool nb) ∧ w'.cell? ⟨w.heap.size + 1, 1, none⟩ = some (.int .i64 db) ∧ w'.cell? ⟨w.heap.size + 1, 2, none⟩ = some (.int .i64 eb)) (go_keep)
    (first
      | (go_at_call 30; refine (cmpS _ _ _ _ _ _ _).mono ?_; rintro e w3 ⟨rfl, e3⟩; have X3 := xt X2 e3; obtain ⟨⟨a30, a31, a32⟩, _⟩ := Ba.later X3; obtain ⟨⟨b30, b31, b32⟩, _⟩ := Bb.later X3)
      | (go_at_call_of 17 (Value.agg #[.bool na, .int .i64 da, .int .i64 ea]); refine (toDec _ _ _ _).mono ?_; rintro e w1 ⟨rfl, e1⟩; have X1 := xt (xd (xr _)) e1; obtain ⟨⟨a10, a11, a12⟩, _⟩ := Ba.later X1; obtain ⟨⟨b10, b11, b12⟩, _⟩ := Bb.later X1)
      | (go_at_call_of 17 (Value.agg #[.bool nb, .int .i64 db, .int .i64 eb]); refine (toDec _ _ _ _).mono ?_; rintro e w2 ⟨rfl, e2⟩; have X2 := xt X1 e2; obtain ⟨⟨a20, a21, a22⟩, _⟩ := Ba.later X2; obtain ⟨⟨b20, b21, b22⟩, _⟩ := Bb.later X2))
  go_wp2_with fail
  go_region_held3 (fun w' => (w'.cell? ⟨w.heap.size, 0, none⟩ = some (.bool na) ∧ w'.cell? ⟨w.heap.size, 1, none⟩ = some (.int .i64 da) ∧ w'.cell? ⟨w.heap.size, 2, none⟩ = some (.int .i64 ea)) ∧ w'.cell? ⟨w.heap.size + 1, 0, none⟩ = some (.bool nb) ∧ w'.cell? ⟨w.heap.size + 1, 1, none⟩ = some (.int .i64 db) ∧ w'.cell? ⟨w.heap.size + 1, 2, none⟩ = some (.int .i64 eb)) (go_keep)
    (first
      | (go_at_call 31; refine (cmpImpl _ _ _ _ _ _ _ da1 da2 db1 db2 (T.later X5)).mono ?_; rintro e w6 ⟨rfl, e6⟩; have X6 := xt X5 e6; obtain ⟨⟨a60, a61, a62⟩, _⟩ := Ba.later X6; obtain ⟨⟨b60, b61, b62⟩, _⟩ := Bb.later X6)
      | (go_at_call_of 17 (Value.agg #[.bool na, .int .i64 da, .int .i64 ea]); refine (toDec _ _ _ _).mono ?_; rintro e w4 ⟨rfl, e4⟩; have X4 := xt X3 (xt (xd (xr _)) e4); obtain ⟨⟨a40, a41, a42⟩, _⟩ := Ba.later X4; obtain ⟨⟨b40, b41, b42⟩, _⟩ := Bb.later X4)
      | (go_at_call_of 17 (Value.agg #[.bool nb, .int .i64 db, .int .i64 eb]); refine (toDec _ _ _ _).mono ?_; rintro e w5 ⟨rfl, e5⟩; have X5 := xt X4 e5; obtain ⟨⟨a50, a51, a52⟩, _⟩ := Ba.later X5; obtain ⟨⟨b50, b51, b52⟩, _⟩ := Bb.later X5))
  go_wp2
  go_ret
  exact ⟨rfl, xt (xa (x1 _ _) _) X6⟩

end Go.Proofs.YtpoihneecafijaaDoor
