/-
  ReadRefBy, the program's.
-/
import Derived.Test.YtifangkifpnnpaaGreatDoorLibS
import Derived.Test.YtifangkifpnnpaaGreatDoorAre
import Derived.Test.YtifangkifpnnpaaGreatDoorRc
import Derived.Test.YtifangkifpnnpaaGreatDoorAdB
import Derived.Deep.DeepCutAuto
namespace Go.Proofs.YtifangkifpnnpaaGreatDoor
open Go.RowKit

theorem tp_len (p q : List UInt8) : (Lib.trimPrefix p q).length ≤ p.length := by
  unfold Lib.trimPrefix
  split
  · simp
  · exact Nat.le_refl _
theorem ts_len (p q : List UInt8) : (Lib.trimSuffix p q).length ≤ p.length := by
  unfold Lib.trimSuffix
  split
  · simp
  · exact Nat.le_refl _
theorem cut_len (p q : List UInt8) : (Lib.cut p q).1.length ≤ p.length ∧ (Lib.cut p q).2.1.length ≤ p.length := by
  unfold Lib.cut
  split
  · refine ⟨?_, ?_⟩
    · simp; omega
    · simp
  · simp
set_option maxRecDepth 8000 in
set_option maxHeartbeats 1000000 in
theorem readFarI (p : List UInt8) (h : Int) (w : World) (hl : p.length ≤ 1048576) (LW : LibW w) :
    Calls Tryz.prog 36 #[.string (bs p), .int .i64 h] w fun e w' => e = .returned (.tuple #[.int .i64 (farI p h).1, .bool (farI p h).2]) ∧ Ext w w' := by
  by_cases hp : p = []
  · have HF : Hid (farI p h = (h, false)) := by show _ = _; unfold farI; rw [if_pos hp]
    rw [HF.out]
    subst hp
    clear LW hl
    go_enter Tryz.func36, Tryz.ntmps36
    have e0 : bs [] = ⟨#[]⟩ := rfl
    rw [e0]
    go_wp2_with fail
    go_ret2
    exact ⟨rfl, xr _⟩
  · have hne2 : ((bs p).toList == []) = false := by
      rw [ByteArray.toList_eq, beq_eq_false_iff_ne]
      exact hp
    have C1 := fun w => cutPrefixC p 91 w
    by_cases hb : Lib.hasPrefix p [91] = true
    · have HF : Hid (farI p h = (wrap64 (h + whole (Lib.trimSuffix (Lib.trimPrefix p [91]) [93])), false)) := by show _ = _; unfold farI; rw [if_neg hp, if_pos hb]
      rw [HF.out]
      have hl1 : (Lib.trimPrefix p [91]).length ≤ 1048576 := Nat.le_trans (tp_len p [91]) hl
      have hl2 : (Lib.trimSuffix (Lib.trimPrefix p [91]) [93]).length ≤ 1048576 := Nat.le_trans (ts_len _ [93]) hl1
      have C2 := fun w => trimSuffixC (Lib.trimPrefix p [91]) 93 w hl1
      have C3 := fun (w' : World) (x : Ext w w') => wholeC (Lib.trimSuffix (Lib.trimPrefix p [91]) [93]) w' hl2 (LW.later x)
      rw [hb] at C1
      clear hl hl1 hl2 LW hp hb HF
      go_enter Tryz.func36, Tryz.ntmps36
      go_wp2_with fail
      refine (C1 _).mono ?_
      rintro e w1 ⟨rfl, rfl⟩
      go_wp2_with fail
      refine (C2 _).mono ?_
      rintro e w2 ⟨rfl, rfl⟩
      go_wp2_with fail
      refine (C3 _ (xr _)).mono ?_
      rintro e w3 ⟨rfl, e3⟩
      go_wp2_with fail
      go_ret2
      exact ⟨rfl, e3⟩
    · have hb' : Lib.hasPrefix p [91] = false := by simpa using hb
      have HF : Hid (farI p h = (whole p, true)) := by show _ = _; unfold farI; rw [if_neg hp, if_neg hb]
      rw [HF.out]
      have C3 := wholeC p w hl LW
      rw [hb'] at C1
      clear hl LW hp hb hb' HF
      go_enter Tryz.func36, Tryz.ntmps36
      go_wp2_with fail
      refine (C1 _).mono ?_
      rintro e w1 ⟨rfl, rfl⟩
      go_wp2_with fail
      refine C3.mono ?_
      rintro e w3 ⟨rfl, e3⟩
      go_wp2_with fail
      go_ret2
      exact ⟨rfl, e3⟩

set_option maxRecDepth 8000 in
set_option maxHeartbeats 2000000 in
theorem readByI (l : List UInt8) (row col : Int) (w : World) (hl : l.length ≤ 1048576) (LW : LibW w) {w0 : World} (IT : ItoaC w0) (X0 : Ext w0 w) :
    Calls Tryz.prog 12 #[.string (bs l), .int .i64 row, .int .i64 col] w fun e w' => ∃ ok r c rf cf, e = .returned (.tuple #[refV r c rf cf, .bool ok]) ∧ ByOK l row col ok r c rf cf ∧ Ext w w' := by
  have PA := fun r c rf cf (hg : GoodR r c) (hh : GoodR row col) (e : byL r c rf cf row col = l) => parseBy hg hh e
  obtain ⟨T, hT⟩ : ∃ T, Lib.trimPrefix l [82] = T := ⟨_, rfl⟩
  have hTl : T.length ≤ 1048576 := by rw [← hT]; exact Nat.le_trans (tp_len _ _) hl
  obtain ⟨hA, hB⟩ := cut_len T [67]
  obtain ⟨A1, hA1⟩ : ∃ A, (Lib.cut T [67]).1 = A := ⟨_, rfl⟩
  obtain ⟨A2, hA2⟩ : ∃ A, (Lib.cut T [67]).2.1 = A := ⟨_, rfl⟩
  obtain ⟨q, hq⟩ : ∃ q, (Lib.cut T [67]).2.2 = q := ⟨_, rfl⟩
  rw [hA1] at hA
  rw [hA2] at hB
  obtain ⟨r, hr⟩ : ∃ r, (farI A1 row).1 = r := ⟨_, rfl⟩
  obtain ⟨rf, hrf⟩ : ∃ r, (farI A1 row).2 = r := ⟨_, rfl⟩
  obtain ⟨c, hc⟩ : ∃ r, (farI A2 col).1 = r := ⟨_, rfl⟩
  obtain ⟨cf, hcf⟩ : ∃ r, (farI A2 col).2 = r := ⟨_, rfl⟩
  have HP : Hid (∀ r' c' rf' cf', GoodR r' c' → GoodR row col → byL r' c' rf' cf' row col = l → r = r' ∧ c = c' ∧ rf = rf' ∧ cf = cf') := fun r' c' rf' cf' hg hh e => by
    have h := PA r' c' rf' cf' hg hh e
    rw [hT, hA1, hA2] at h
    rw [← hr, ← hc, ← hrf, ← hcf, h.1, h.2]
    exact ⟨rfl, rfl, rfl, rfl⟩
  have C1 := fun w => trimPrefixC l 82 w
  rw [hT] at C1
  have C2 := fun (w' : World) (h : LibW w') => cutC T 67 w' hTl h
  rw [hA1, hA2, hq] at C2
  have C3 := fun (w' : World) (h : LibW w') => readFarI A1 row w' (by omega) h
  rw [hr, hrf] at C3
  have C4 := fun (w' : World) (h : LibW w') => readFarI A2 col w' (by omega) h
  rw [hc, hcf] at C4
  have B6 := Vec.made4 w (.int .i64 0) (.int .i64 0) (.bool false) (.bool false) 24
  have X := x1 w (.cells #[.int .i64 0, .int .i64 0, .bool false, .bool false] 24)
  clear PA hT hA1 hA2 hq hr hrf hc hcf hA hB hTl
  go_enter Tryz.func12, Tryz.ntmps12
  go_wp2_with fail
  refine (C1 _).mono ?_
  rintro e w1 ⟨rfl, rfl⟩
  go_wp2_with fail
  refine (C2 _ (LW.later X)).mono ?_
  rintro e w2 ⟨rfl, e2⟩
  have B6 := B6.later (xa e2 (.cells #[.int .i64 0, .int .i64 0, .bool false, .bool false] 24))
  have X := xa (xt X e2) (.cells #[.int .i64 0, .int .i64 0, .bool false, .bool false] 24)
  have B11 := Vec.made4 w2 (.int .i64 0) (.int .i64 0) (.bool false) (.bool false) 24
  have g11 : w.heap.size < w2.heap.size := Nat.lt_of_lt_of_le (by rw [World.size_alloc]; omega) e2.size
  clear C1 C2 e2
  go_wp2_with fail
  refine (C3 _ (LW.later X)).mono ?_
  rintro e w3 ⟨rfl, e3⟩
  have B6 := B6.later e3
  have B11 := B11.later e3
  have X := xt X e3
  clear C3 e3
  obtain ⟨w4, h4⟩ : ∃ w4, (w3.setCell ⟨w2.heap.size, 0, none⟩ (.int .i64 r)).setCell ⟨w2.heap.size, 2, none⟩ (.bool rf) = w4 := ⟨_, rfl⟩
  obtain ⟨⟨m0, m1, m2, m3⟩, f0, f1, f2, f3⟩ := B11.box4
  have B11 := (B11.put 0 (by simp) (.int .i64 r)).put 2 (by simp) (.bool rf)
  have B6 := (B6.far (p := ⟨w2.heap.size, 0, none⟩) (by simp; omega) (.int .i64 r)).far (p := ⟨w2.heap.size, 2, none⟩) (by simp; omega) (.bool rf)
  have X := xset (xset X (p := ⟨w2.heap.size, 0, none⟩) (by simp; omega) (.int .i64 r)) (p := ⟨w2.heap.size, 2, none⟩) (by simp; omega) (.bool rf)
  rw [h4] at B11 B6 X
  simp only [List.set_cons_zero, List.set_cons_succ] at B11
  go_wp2_with fail
  clear h4 m0 m1 m2 m3 f0 f1 f2 f3
  refine (C4 _ (LW.later X)).mono ?_
  rintro e w5 ⟨rfl, e5⟩
  have B6 := B6.later e5
  have B11 := B11.later e5
  have X := xt X e5
  clear C4 e5
  obtain ⟨w6, h6⟩ : ∃ w6, (w5.setCell ⟨w2.heap.size, 1, none⟩ (.int .i64 c)).setCell ⟨w2.heap.size, 3, none⟩ (.bool cf) = w6 := ⟨_, rfl⟩
  obtain ⟨⟨m0, m1, m2, m3⟩, f0, f1, f2, f3⟩ := B11.box4
  have B11 := (B11.put 1 (by simp) (.int .i64 c)).put 3 (by simp) (.bool cf)
  have B6 := (B6.far (p := ⟨w2.heap.size, 1, none⟩) (by simp; omega) (.int .i64 c)).far (p := ⟨w2.heap.size, 3, none⟩) (by simp; omega) (.bool cf)
  have X := xset (xset X (p := ⟨w2.heap.size, 1, none⟩) (by simp; omega) (.int .i64 c)) (p := ⟨w2.heap.size, 3, none⟩) (by simp; omega) (.bool cf)
  rw [h6] at B11 B6 X
  simp only [List.set_cons_zero, List.set_cons_succ] at B11
  obtain ⟨⟨a0, a1, a2, a3⟩, _⟩ := B11.box4
  go_wp2_with fail
  clear h6 m0 m1 m2 m3 f0 f1 f2 f3 a0 a1 a2 a3
  refine (seenFromI _ _ _ _ _ _ _).mono ?_
  rintro e w7 ⟨rfl, e7⟩
  have P := Vec.made8 w7 (.int .i64 r) (.int .i64 c) (.bool rf) (.bool cf) (.int .i64 row) (.int .i64 col) (.bool false) (.bool false) 45
  have B6 := B6.later (xa e7 (.cells #[.int .i64 r, .int .i64 c, .bool rf, .bool cf, .int .i64 row, .int .i64 col, .bool false, .bool false] 45))
  have B11 := B11.later (xa e7 (.cells #[.int .i64 r, .int .i64 c, .bool rf, .bool cf, .int .i64 row, .int .i64 col, .bool false, .bool false] 45))
  have X := xa (xt X e7) (.cells #[.int .i64 r, .int .i64 c, .bool rf, .bool cf, .int .i64 row, .int .i64 col, .bool false, .bool false] 45)
  clear e7
  go_wp2_with fail
  refine (seenGoodI _ _ _ _ _ _ _).mono ?_
  rintro e w8 ⟨rfl, e8⟩
  have P := P.later e8
  have B6 := B6.later e8
  have B11 := B11.later e8
  have X := xt X e8
  clear e8
  obtain ⟨⟨⟨s0, s1, s2, s3⟩, s4, s5, s6, s7⟩, _⟩ := P.box8
  by_cases hg : GoodR r c ∧ GoodR row col
  · rw [(goodRB_iff r c).2 hg.1, (goodRB_iff row col).2 hg.2]
    have TX := seenTextI r c rf cf row col w8 IT (xt X0 X) hg.1 hg.2
    go_wp2_with fail
    refine TX.mono ?_
    rintro e w9 ⟨rfl, e9⟩
    have B6 := B6.later e9
    have B11 := B11.later e9
    have X := xt X e9
    clear e9 s0 s1 s2 s3 s4 s5 s6 s7 TX P
    obtain ⟨⟨a0, a1, a2, a3⟩, _⟩ := B11.box4
    obtain ⟨⟨m0, m1, m2, m3⟩, f0, f1, f2, f3⟩ := B6.box4
    by_cases he : byL r c rf cf row col = l
    · have HO : Hid (ByOK l row col true r c rf cf) := .inl ⟨rfl, hg, he⟩
      rw [he]
      clear hg he HP
      go_wp2_with fail
      exact bodyPost_ret (v := .tuple #[refV r c rf cf, .bool true]) (by simp [results, Tryz.results12, go_sem, m0, m1, m2, m3]) rfl ⟨true, r, c, rf, cf, rfl, HO.out, Ext.set4 (o := 0) X (Nat.le_refl _) _ _ _ _⟩
    · have HO : Hid (ByOK l row col false 0 0 false false) := ByOK.of_parse HP.out (fun q => he q.2)
      have hne : ((bs (byL r c rf cf row col)).toList == (bs l).toList) = false := str_not (fun q => he (by have := congrArg (fun s : ByteArray => s.data.toList) q; exact this))
      obtain ⟨t6, hs6⟩ : ∃ s, bs (byL r c rf cf row col) = s := ⟨_, rfl⟩
      obtain ⟨t7, hs7⟩ : ∃ s, bs l = s := ⟨_, rfl⟩
      rw [hs6, hs7] at hne
      rw [hs6, hs7]
      clear hg he HP hs6 hs7
      go_wp2_with fail
      exact bodyPost_ret (v := .tuple #[refV 0 0 false false, .bool false]) (by simp [results, Tryz.results12, go_sem, m0, m1, m2, m3]) rfl ⟨false, 0, 0, false, false, rfl, HO.out, Ext.set4 (o := 0) X (Nat.le_refl _) _ _ _ _⟩
  · have HO : Hid (ByOK l row col false 0 0 false false) := ByOK.of_parse HP.out (fun q => hg q.1)
    have hb : (goodRB r c && goodRB row col) = false := by
      rw [Bool.and_eq_false_iff]
      by_cases h1 : GoodR r c
      · exact .inr (notGood (fun h2 => hg ⟨h1, h2⟩))
      · exact .inl (notGood h1)
    rw [hb]
    obtain ⟨⟨m0, m1, m2, m3⟩, f0, f1, f2, f3⟩ := B6.box4
    clear hg hb HP
    go_wp2_with fail
    exact bodyPost_ret (v := .tuple #[refV 0 0 false false, .bool false]) (by simp [results, Tryz.results12, go_sem, m0, m1, m2, m3]) rfl ⟨false, 0, 0, false, false, rfl, HO.out, Ext.set4 (o := 0) X (Nat.le_refl _) _ _ _ _⟩

end Go.Proofs.YtifangkifpnnpaaGreatDoor
