/-
  ReadRef, the program's.
-/
import Derived.Test.YtifangkifpnnpaaGreatDoorLibS
import Derived.Test.YtifangkifpnnpaaGreatDoorAre
import Derived.Deep.DeepCutAuto
namespace Go.Proofs.YtifangkifpnnpaaGreatDoor
open Go.RowKit

theorem ext_listA (l : List UInt8) (a b : Nat) : (bs l).extract a b = bs ((l.drop a).take (b - a)) := by
  refine bs_of ?_
  simp [ByteArray.data_extract, bs_list]
theorem split_let (R : List UInt8) : R.take (R.length - (R.dropWhile isLet).length) = R.takeWhile isLet ∧ R.drop (R.length - (R.dropWhile isLet).length) = R.dropWhile isLet := by
  have h : R.takeWhile isLet ++ R.dropWhile isLet = R := List.takeWhile_append_dropWhile
  have hl : R.length - (R.dropWhile isLet).length = (R.takeWhile isLet).length := by
    have := congrArg List.length h
    simp only [List.length_append] at this
    omega
  rw [hl]
  have h1 : (R.takeWhile isLet ++ R.dropWhile isLet).take (R.takeWhile isLet).length = R.takeWhile isLet := List.take_left' rfl
  have h2 : (R.takeWhile isLet ++ R.dropWhile isLet).drop (R.takeWhile isLet).length = R.dropWhile isLet := List.drop_left' rfl
  rw [h] at h1 h2
  exact ⟨h1, h2⟩
/-- What the program reads of a text. -/
theorem parseI {l : List UInt8} {r c : Int} {rf cf : Bool} (hg : GoodR r c) (e : refL r c rf cf = l) :
    whole (Lib.trimPrefix ((Lib.trimPrefix l [36]).dropWhile isLet) [36]) = r ∧ colV ((Lib.trimPrefix l [36]).takeWhile isLet) = c ∧ Lib.hasPrefix ((Lib.trimPrefix l [36]).dropWhile isLet) [36] = rf ∧ Lib.hasPrefix l [36] = cf := by
  obtain ⟨rest, num0, a1, a2, a3, a4, a5, a6, a7, a8⟩ := read_refL (rf := rf) (cf := cf) hg
  rw [e] at a1 a2
  obtain ⟨⟨r1, r2⟩, c1, c2⟩ := hg
  rw [a1, a3, a4, a8, a7, a2]
  refine ⟨whole_intT (by omega) (by omega), ?_, rfl, rfl⟩
  rw [colName, if_pos ⟨c1, c2⟩]
  exact colV_colN c1 c2

set_option maxRecDepth 8000 in
set_option maxHeartbeats 2000000 in
theorem readRefI (l : List UInt8) (w : World) (hl : l.length ≤ 1048576) (LW : LibW w) {w0 : World} (IT : ItoaC w0) (X0 : Ext w0 w) :
    Calls Tryz.prog 9 #[.string (bs l)] w fun e w' => ∃ ok r c rf cf, e = .returned (.tuple #[refV r c rf cf, .bool ok]) ∧ RefOK l ok r c rf cf ∧ Ext w w' := by
  have PA := fun r c rf cf (hg : GoodR r c) (e : refL r c rf cf = l) => parseI hg e
  obtain ⟨R, hR⟩ : ∃ R, Lib.trimPrefix l [36] = R := ⟨_, rfl⟩
  have hRl : R.length ≤ l.length := by
    rw [← hR]
    unfold Lib.trimPrefix
    split
    · simp
    · exact Nat.le_refl _
  obtain ⟨s1, s2⟩ := split_let R
  obtain ⟨D, hD⟩ : ∃ D, R.dropWhile isLet = D := ⟨_, rfl⟩
  have hDl : D.length ≤ R.length := by rw [← hD]; exact (List.dropWhile_sublist _).length_le
  rw [hD] at s1 s2
  obtain ⟨M, hM⟩ : ∃ M, R.takeWhile isLet = M := ⟨_, rfl⟩
  rw [hM] at s1
  have hMl : M.length ≤ R.length := by rw [← hM]; exact (List.takeWhile_sublist _).length_le
  obtain ⟨U, hU⟩ : ∃ U, Lib.trimPrefix D [36] = U := ⟨_, rfl⟩
  have hUl : U.length ≤ D.length := by
    rw [← hU]
    unfold Lib.trimPrefix
    split
    · simp
    · exact Nat.le_refl _
  obtain ⟨cf, hcf⟩ : ∃ b, Lib.hasPrefix l [36] = b := ⟨_, rfl⟩
  obtain ⟨rf, hrf⟩ : ∃ b, Lib.hasPrefix D [36] = b := ⟨_, rfl⟩
  obtain ⟨row, hrow⟩ : ∃ v, whole U = v := ⟨_, rfl⟩
  obtain ⟨col, hcol⟩ : ∃ v, colV M = v := ⟨_, rfl⟩
  have HP : Hid (∀ r' c' rf' cf', GoodR r' c' → refL r' c' rf' cf' = l → row = r' ∧ col = c' ∧ rf = rf' ∧ cf = cf') := fun r' c' rf' cf' hg e => by
    have h := PA r' c' rf' cf' hg e
    rw [hR, hD, hM, hU, hrow, hcol, hrf, hcf] at h
    exact h
  have C1 := fun w => cutPrefixC l 36 w
  rw [hR, hcf] at C1
  have C2 := fun w => trimLeftC R w
  rw [hD] at C2
  have C3 := fun w => cutPrefixC D 36 w
  rw [hU, hrf] at C3
  have C4 : ∀ w', LibW w' → Calls Tryz.prog 31 #[.string (bs U)] w' fun e w'' => e = .returned (.int .i64 row) ∧ Ext w' w'' := fun w' h => by
    have := wholeC U w' (by omega) h
    rwa [hrow] at this
  have C5 : ∀ w', Calls Tryz.prog 10 #[.string (bs M)] w' fun e w'' => e = .returned (.int .i64 col) ∧ w'' = w' := fun w' => by
    have := colNumI (bs M) M w' (bs_list M) (by rw [bs_size]; omega)
    rwa [hcol] at this
  obtain ⟨n, hn⟩ : ∃ n : Nat, R.length - D.length = n := ⟨_, rfl⟩
  rw [hn] at s1 s2
  have HX1 : (bs R).extract 0 n = bs M := by rw [ext_listA]; simp [s1]
  obtain ⟨LR, hLR⟩ : ∃ k, R.length = k := ⟨_, rfl⟩
  obtain ⟨LD, hLD⟩ : ∃ k, D.length = k := ⟨_, rfl⟩
  obtain ⟨LM, hLM⟩ : ∃ k, M.length = k := ⟨_, rfl⟩
  have hMn : LM = n := by
    rw [← hLM, ← s1, List.length_take]
    omega
  have HX2 : (bs R).extract n LR = bs D := by
    rw [ext_listA, s2, List.take_of_length_le (by omega)]
  have zR : (bs R).size = LR := by rw [bs_size, hLR]
  have zD : (bs D).size = LD := by rw [bs_size, hLD]
  have zM : (bs M).size = n := by rw [bs_size, hLM, hMn]
  have hi : (LR : Int) - (LD : Int) = (n : Int) := by omega
  have hnR : (n : Int) ≤ (LR : Int) := by omega
  have n0 : (0 : Int) ≤ (n : Int) := by omega
  have LR20 : (LR : Int) ≤ 1048576 := by omega
  have LD20 : (LD : Int) ≤ 1048576 := by omega
  have B2 := Box4.made w (.int .i64 0) (.int .i64 0) (.bool false) (.bool false) 24
  have X := x1 w (.cells #[.int .i64 0, .int .i64 0, .bool false, .bool false] 24)
  clear PA hR hD hM hU hcf hrf hrow hcol s1 s2 hn hLR hLD hLM hMn hRl hDl hMl hUl
  go_enter Tryz.func9, Tryz.ntmps9
  go_wp2_with fail
  refine (C1 _).mono ?_
  rintro e w1 ⟨rfl, rfl⟩
  go_wp2_with fail
  refine (C2 _).mono ?_
  rintro e w2 ⟨rfl, e2⟩
  have B2 := B2.later e2
  have X := xt X e2
  clear C1 C2 e2
  go_wp2_with fail
  refine (C3 _).mono ?_
  rintro e w1 ⟨rfl, rfl⟩
  clear C3
  go_wp2_with fail
  refine (C4 _ (LW.later X)).mono ?_
  rintro e w3 ⟨rfl, e3⟩
  have B2 := B2.later e3
  have X := xt X e3
  clear C4 e3
  go_wp2_with fail
  refine (C5 _).mono ?_
  rintro e w1 ⟨rfl, rfl⟩
  clear C5 HX1 HX2 zR zD zM hi hnR n0 LR20 LD20
  have P := Box4.made w1 (.int .i64 row) (.int .i64 col) (.bool rf) (.bool cf) 24
  have x4 := x1 w1 (.cells #[.int .i64 row, .int .i64 col, .bool rf, .bool cf] 24)
  have B2 := B2.later x4
  have X := xt X x4
  clear x4
  go_wp2_with fail
  refine (goodRI _ _ _ _ _).mono ?_
  rintro e w5 ⟨rfl, e5⟩
  have P := P.later e5
  have B2 := B2.later e5
  have X := xt X e5
  clear e5
  obtain ⟨⟨a0, a1, a2, a3⟩, _⟩ := P
  by_cases hg : GoodR row col
  · rw [(goodRB_iff row col).2 hg]
    go_wp2_with fail
    refine (refTextI row col rf cf _ IT (xt X0 X)).mono ?_
    rintro e w6 ⟨rfl, e6⟩
    have HT : Hid (refT row col rf cf = refL row col rf cf) := by show _ = _; unfold refT; rw [if_pos hg]
    rw [HT.out]
    have B2 := B2.later e6
    have X := xt X e6
    have a0 := cell_later e6 a0
    have a1 := cell_later e6 a1
    have a2 := cell_later e6 a2
    have a3 := cell_later e6 a3
    clear e6
    obtain ⟨⟨m0, m1, m2, m3⟩, f0, f1, f2, f3⟩ := B2
    by_cases he : refL row col rf cf = l
    · have HO : Hid (RefOK l true row col rf cf) := .inl ⟨rfl, hg, he⟩
      rw [he]
      clear hg he HP HT
      go_wp2_with fail
      exact bodyPost_ret (v := .tuple #[refV row col rf cf, .bool true]) (by simp [results, Tryz.results9, go_sem, m0, m1, m2, m3]) rfl ⟨true, row, col, rf, cf, rfl, HO.out, Ext.set4 (o := 0) X (Nat.le_refl _) _ _ _ _⟩
    · have HO : Hid (RefOK l false 0 0 false false) := RefOK.of_parse HP.out (fun q => he q.2)
      have hne : ((bs (refL row col rf cf)).toList == (bs l).toList) = false := str_not (fun q => he (by have := congrArg (fun s : ByteArray => s.data.toList) q; exact this))
      obtain ⟨s6, hs6⟩ : ∃ s, bs (refL row col rf cf) = s := ⟨_, rfl⟩
      obtain ⟨s7, hs7⟩ : ∃ s, bs l = s := ⟨_, rfl⟩
      rw [hs6, hs7] at hne
      rw [hs6, hs7]
      clear hg he HP HT hs6 hs7
      go_wp2_with fail
      exact bodyPost_ret (v := .tuple #[refV 0 0 false false, .bool false]) (by simp [results, Tryz.results9, go_sem, m0, m1, m2, m3]) rfl ⟨false, 0, 0, false, false, rfl, HO.out, Ext.set4 (o := 0) X (Nat.le_refl _) _ _ _ _⟩
  · have HO : Hid (RefOK l false 0 0 false false) := RefOK.of_parse HP.out (fun q => hg q.1)
    have hb : goodRB row col = false := by
      rw [← Bool.not_eq_true, goodRB_iff]
      exact hg
    rw [hb]
    obtain ⟨⟨m0, m1, m2, m3⟩, f0, f1, f2, f3⟩ := B2
    clear hg hb HP
    go_wp2_with fail
    exact bodyPost_ret (v := .tuple #[refV 0 0 false false, .bool false]) (by simp [results, Tryz.results9, go_sem, m0, m1, m2, m3]) rfl ⟨false, 0, 0, false, false, rfl, HO.out, Ext.set4 (o := 0) X (Nat.le_refl _) _ _ _ _⟩

end Go.Proofs.YtifangkifpnnpaaGreatDoor
