/-
  Chapter 10: words of dates, and how long each part is, by the program.
-/
import Derived.Test.YthedbjjncnddbaaDoorKy
namespace Go.Proofs.YthedbjjncnddbaaDoor
open Go.RowKit

abbrev wordsV : Value := .agg marksV.toArray
theorem word_at (k : Nat) (hk : k < 14) : ∃ o, wordsT[k]? = some o ∧ ∀ W : World, (Instr.index 106 wordsV (.int .i64 k)).run Tryd.prog W = .ok (sV o) W := by
  match k, hk with
  | 0, _ => exact ⟨_, rfl, fun W => by kernel_rfl⟩
  | 1, _ => exact ⟨_, rfl, fun W => by kernel_rfl⟩
  | 2, _ => exact ⟨_, rfl, fun W => by kernel_rfl⟩
  | 3, _ => exact ⟨_, rfl, fun W => by kernel_rfl⟩
  | 4, _ => exact ⟨_, rfl, fun W => by kernel_rfl⟩
  | 5, _ => exact ⟨_, rfl, fun W => by kernel_rfl⟩
  | 6, _ => exact ⟨_, rfl, fun W => by kernel_rfl⟩
  | 7, _ => exact ⟨_, rfl, fun W => by kernel_rfl⟩
  | 8, _ => exact ⟨_, rfl, fun W => by kernel_rfl⟩
  | 9, _ => exact ⟨_, rfl, fun W => by kernel_rfl⟩
  | 10, _ => exact ⟨_, rfl, fun W => by kernel_rfl⟩
  | 11, _ => exact ⟨_, rfl, fun W => by kernel_rfl⟩
  | 12, _ => exact ⟨_, rfl, fun W => by kernel_rfl⟩
  | 13, _ => exact ⟨_, rfl, fun W => by kernel_rfl⟩

set_option maxRecDepth 8000 in
set_option maxHeartbeats 2000000 in
theorem wordI (l : BL) (w : World) (T : TabK w) : Calls Tryd.prog 62 #[sV l] w fun e w' => e = .returned (sV (wordF l)) ∧ w' = w := by
  have HF : Hid (∀ (k : Nat) o, wordsT[k]? = some o → Lib.hasPrefix l o = true → (∀ (j : Nat) o, j < k → wordsT[j]? = some o → Lib.hasPrefix l o = false) → wordF l = o) := fun k o h1 h2 h3 => wordF_at h1 h2 h3
  have HX : Hid ((∀ (j : Nat) o, wordsT[j]? = some o → Lib.hasPrefix l o = false) → wordF l = []) := fun h => wordF_none h
  obtain ⟨R, hR⟩ : ∃ R, wordF l = R := ⟨_, rfl⟩
  rw [hR] at HF HX ⊢
  clear hR
  have hr' : w.rangeAt 1 0 marksV := T.2.2
  clear T
  go_enter Tryd.func62, Tryd.ntmps62
  go_wp2_with (refine wpList_load_mid rfl _ _ rfl 1 0 rfl marksV _ hr' Tryd.underlying106 rfl (by kernel_rfl) ?_)
  clear hr'
  go_loopw [6] (fun i wr => ∃ k : Nat, k ≤ 14 ∧ i = .int .i64 k ∧ Hid (∀ (j : Nat) o, j < k → wordsT[j]? = some o → Lib.hasPrefix l o = false) ∧ wr = w) (fun i _ => 14 - (intOf i).toNat)
  case atStart => exact ⟨0, by omega, rfl, (fun j o hj => by omega), rfl⟩
  case round =>
    obtain ⟨k, hk, rfl, HA, rfl⟩ := hrel
    by_cases hlt : k < 14
    · obtain ⟨t, ho, hix⟩ := word_at k hlt
      have i2 : (k : Int) < 14 := by omega
      have P := fun w => hasPrefI l t w
      obtain ⟨p, hp⟩ : ∃ p, Lib.hasPrefix l t = p := ⟨_, rfl⟩
      rw [hp] at P
      cases p
      · have HA2 : Hid (∀ (j : Nat) o, j < k + 1 → wordsT[j]? = some o → Lib.hasPrefix l o = false) := fun j o hj h => by
          rcases Nat.lt_or_ge j k with hjk | hjk
          · exact HA.out j o hjk h
          · obtain rfl : j = k := by omega
            rw [ho] at h
            cases h
            exact hp
        clear HA ho hp
        go_wp2_with fail
        refine (P _).mono ?_
        rintro e w2 ⟨rfl, h2⟩
        rw [h2]
        clear h2
        go_wp2_with fail
        go_roundw
        case rel => exact ⟨k + 1, by omega, by go_num, HA2, trivial⟩
        case measure => simp [intOf]; omega
      · have hr := HF.out k t ho hp HA.out
        subst hr
        clear HA ho hp HF HX
        go_wp2_with fail
        refine (P _).mono ?_
        rintro e w2 ⟨rfl, h2⟩
        rw [h2]
        clear h2
        go_wp2_with fail
        go_ret
        exact ⟨rfl, rfl⟩
    · obtain rfl : k = 14 := by omega
      have hr := HX.out (fun j o h => HA.out j o (by have := (List.getElem?_eq_some_iff.1 h).1; simpa [wordsT] using this) h)
      subst hr
      clear HA HF HX
      go_wp2_with fail
      go_ret
      exact ⟨rfl, rfl⟩

theorem wordF_nil : wordF [] = [] := by decide
theorem dateN_le : ∀ (k : Nat) (l : BL), dateN k l ≤ l.length := by
  intro k
  induction k with
  | zero => intro l; simp [dateN]
  | succ k ih =>
    intro l
    have h1 := wordF_le l
    have h2 := ih (l.drop (wordF l).length)
    rw [List.length_drop] at h2
    simp only [dateN]
    omega

set_option maxRecDepth 8000 in
set_option maxHeartbeats 2000000 in
theorem dateLenI (l : BL) (hl : l.length ≤ 1000) (w : World) (T : TabK w) :
    Calls Tryd.prog 46 #[sV l] w fun e w' => e = .returned (.int .i64 (dateLen l : Nat)) ∧ w' = w := by
  cases l with
  | nil =>
    clear T
    go_enter Tryd.func46, Tryd.ntmps46
    go_wp2_with fail
    go_ret
    exact ⟨rfl, rfl⟩
  | cons c r =>
    have he : (c :: r == ([] : BL)) = false := rfl
    obtain ⟨l, hL⟩ : ∃ l, c :: r = l := ⟨_, rfl⟩
    have hd0 : dateLen (c :: r) = if letF c then dateN 12 (c :: r) else 0 := rfl
    have hc0 : l.getD 0 0 = c := by rw [← hL]; rfl
    have hn0 : 0 < l.length := by rw [← hL]; simp
    rw [hL] at he hd0 hl ⊢
    clear hL
    obtain ⟨s, hs⟩ : ∃ s : ByteArray, (⟨l.toArray⟩ : ByteArray) = s := ⟨_, rfl⟩
    have hsl : s.data.toList = l := by rw [← hs]
    have hsz := size_ofL' hsl
    have hk0 : 0 < s.size := by omega
    have hb0 := byte_atA hsl hk0
    rw [hc0] at hb0
    have hb : ((s[0]'hk0).toNat : Int) = (c.toNat : Int) := by rw [hb0]
    have EX : ∀ q, s.extract q s.size = ⟨(l.drop q).toArray⟩ := fun q => by
      rw [← hs, ext_sub]
      congr 2
      rw [List.take_of_length_le]
      rw [List.length_drop]
      exact Nat.le_refl _
    have LC := fun W => letterI c W
    obtain ⟨N, hN⟩ : ∃ N : Int, (c.toNat : Int) = N := ⟨_, rfl⟩
    rw [hN] at hb
    simp only [hN] at LC
    have hse : (s.toList == []) = false := by
      rw [ByteArray.toList_eq, hsl]; exact he
    show Calls Tryd.prog 46 #[.string ⟨l.toArray⟩] w _
    rw [hs]
    obtain ⟨n, hn⟩ : ∃ n, l.length = n := ⟨_, rfl⟩
    have HN : Hid (l.length = n) := hn
    rw [hn] at hl hsz hn0
    obtain ⟨R, hR⟩ : ∃ R, dateLen l = R := ⟨_, rfl⟩
    have HD : Hid (R = if letF c then dateN 12 l else 0) := by show _ = _; rw [← hR]; exact hd0
    rw [hR]
    clear hR hd0 hN hb0 hs hn hc0 he
    obtain ⟨lb, hlb⟩ : ∃ b, letF c = b := ⟨_, rfl⟩
    rw [hlb] at HD
    simp only [hlb] at LC
    clear hlb
    cases lb
    · have HE : Hid (R = 0) := HD.out
      clear HD EX hsl
      go_enter Tryd.func46, Tryd.ntmps46
      go_wp2_with fail
      refine (LC _).mono ?_
      rintro e w1 ⟨rfl, rfl⟩
      go_wp2_with fail
      go_ret
      exact ⟨ret_int (by rw [HE.out]; rfl), rfl⟩
    · have HE : Hid (0 + dateN (12 - 0) (l.drop 0) = R) := by show _ = _; rw [HD.out]; simp
      have HT : Hid (TabK w) := T
      have HX : Hid (∀ q, s.extract q s.size = ⟨(l.drop q).toArray⟩) := EX
      clear HD EX hsl T
      go_enter Tryd.func46, Tryd.ntmps46
      go_wp2_with fail
      refine (LC _).mono ?_
      rintro e w1 ⟨rfl, rfl⟩
      go_wp2_with fail
      go_loopw [13, 3] (fun i v wr => ∃ (k q : Nat), k ≤ 12 ∧ i = .int .i64 k ∧ q ≤ n ∧ v = .int .i64 q ∧ Hid (q + dateN (12 - k) (l.drop q) = R) ∧ wr = w1) (fun i _ _ => 12 - (intOf i).toNat)
      case atStart => exact ⟨0, 0, by omega, rfl, by omega, rfl, HE, rfl⟩
      case round =>
        obtain ⟨k, q, hk, rfl, hq, rfl, HQ, rfl⟩ := hrel
        by_cases hlt : k < 12
        · have i2 : (k : Int) < 12 := by omega
          have i3 : (q : Int) ≤ (n : Int) := by omega
          have WI : ∀ W, TabK W → Calls Tryd.prog 62 #[.string (s.extract q n)] W fun e w' => e = .returned (sV (wordF (l.drop q))) ∧ w' = W := fun W hW => by
            have := HX.out q
            rw [hsz] at this
            rw [this]; exact wordI (l.drop q) W hW
          have hle := wordF_le (l.drop q)
          rw [List.length_drop, HN.out] at hle
          have HQ2 : Hid ((q + (wordF (l.drop q)).length) + dateN (12 - (k + 1)) (l.drop (q + (wordF (l.drop q)).length)) = R) := by
            show _ = _
            have := HQ.out
            rw [show 12 - k = (12 - (k + 1)) + 1 by omega] at this
            simp only [dateN, List.drop_drop] at this
            omega
          obtain ⟨t, ht⟩ : ∃ t, wordF (l.drop q) = t := ⟨_, rfl⟩
          rw [ht] at HQ2 hle
          simp only [ht] at WI
          have zt : (⟨t.toArray⟩ : ByteArray).size = t.length := rfl
          obtain ⟨m, hm⟩ : ∃ m, t.length = m := ⟨_, rfl⟩
          rw [hm] at HQ2 hle zt
          clear HQ ht hm
          go_wp2_with fail
          refine (WI _ HT.out).mono ?_
          rintro e w2 ⟨rfl, h2⟩
          rw [h2]
          clear h2
          go_wp2_with fail
          go_roundw
          case rel => exact ⟨k + 1, q + m, by omega, by go_num, by omega, by go_num, HQ2, trivial⟩
          case measure => simp [intOf]; omega
        · obtain rfl : k = 12 := by omega
          have HE2 : Hid (q = R) := by show _ = _; have := HQ.out; simp [dateN] at this; exact this
          clear HQ
          go_wp2_with fail
          go_ret
          exact ⟨ret_int (by rw [HE2.out]), rfl⟩

theorem partLen_le (p : Nat) (l : BL) : partLen p l ≤ l.length := by
  have hq : quoLen l ≤ l.length := by
    by_cases h : Lib.hasPrefix l [34] = true
    · rw [quoLen_is h]
      split
      · rename_i hc
        have h1 := takeWhile_drop nq (l.drop 1)
        have h2 : 1 ≤ ((l.drop 1).dropWhile nq).length := by
          rcases Nat.eq_zero_or_pos ((l.drop 1).dropWhile nq).length with h0 | h0
          · exact absurd (List.length_eq_zero_iff.1 h0) hc.1
          · exact h0
        rw [List.length_drop] at h1
        omega
      · omega
    · rw [quoLen_no (by simpa using h)]; omega
  have hd : dateLen l ≤ l.length := by
    cases l with
    | nil => simp [dateLen]
    | cons c r =>
      show (if letF c then dateN 12 (c :: r) else 0) ≤ _
      split
      · exact dateN_le _ _
      · omega
  unfold partLen
  split
  · exact hq
  · split
    · rename_i h; rw [prefK_iff, Bool.and_eq_true] at h; exact of_decide_eq_true h.1
    · omega
  · exact run_len _ _ _
  · exact run_len _ _ _
  · exact run_len _ _ _
  · exact run_len _ _ _
  · exact run_len _ _ _
  · exact hd
  · exact hq
  · omega
theorem trimPre_len (l : BL) : l.length - (Lib.trimPrefix l [35, 44]).length = (if Lib.hasPrefix l [35, 44] then 2 else 0) ∧ (Lib.trimPrefix l [35, 44]).length ≤ l.length := by
  unfold Lib.trimPrefix
  cases h : Lib.hasPrefix l [35, 44] with
  | false => simp
  | true =>
    rw [prefK_iff, Bool.and_eq_true] at h
    have : 2 ≤ l.length := of_decide_eq_true h.1
    simp
    omega

set_option maxRecDepth 8000 in
set_option maxHeartbeats 1000000 in
theorem partLen1I (l : BL) (hl : l.length ≤ 1000) (w : World) (T : TabK w) : Calls Tryd.prog 29 #[.int .i64 1, sV l] w fun e w' => e = .returned (.int .i64 (partLen 1 l : Nat)) ∧ Ext w w' := by
  have C : Calls Tryd.prog 43 #[sV l] w fun e w' => e = .returned (.int .i64 (partLen 1 l : Nat)) ∧ Ext w w' := quoLenI l hl w T
  obtain ⟨R, hR⟩ : ∃ R, partLen 1 l = R := ⟨_, rfl⟩
  rw [hR] at C ⊢
  clear hR hl T
  go_enter Tryd.func29, Tryd.ntmps29
  go_wp2_with fail
  refine C.mono ?_
  rintro e w1 ⟨rfl, e1⟩
  go_wp2_with fail
  go_ret
  exact ⟨rfl, e1⟩
set_option maxRecDepth 8000 in
set_option maxHeartbeats 1000000 in
theorem partLen9I (l : BL) (hl : l.length ≤ 1000) (w : World) (T : TabK w) : Calls Tryd.prog 29 #[.int .i64 9, sV l] w fun e w' => e = .returned (.int .i64 (partLen 9 l : Nat)) ∧ Ext w w' := by
  have C : Calls Tryd.prog 43 #[sV l] w fun e w' => e = .returned (.int .i64 (partLen 9 l : Nat)) ∧ Ext w w' := quoLenI l hl w T
  obtain ⟨R, hR⟩ : ∃ R, partLen 9 l = R := ⟨_, rfl⟩
  rw [hR] at C ⊢
  clear hR hl T
  go_enter Tryd.func29, Tryd.ntmps29
  go_wp2_with fail
  refine C.mono ?_
  rintro e w1 ⟨rfl, e1⟩
  go_wp2_with fail
  go_ret
  exact ⟨rfl, e1⟩
set_option maxRecDepth 8000 in
set_option maxHeartbeats 1000000 in
theorem partLen3I (l : BL) (hl : l.length ≤ 1000) (w : World) : Calls Tryd.prog 29 #[.int .i64 3, sV l] w fun e w' => e = .returned (.int .i64 (partLen 3 l : Nat)) ∧ Ext w w' := by
  have C : Calls Tryd.prog 45 #[sV l, sV [48], .int .i64 9] w fun e w' => e = .returned (.int .i64 (partLen 3 l : Nat)) ∧ Ext w w' := runI l 48 9 (by decide) hl w
  obtain ⟨R, hR⟩ : ∃ R, partLen 3 l = R := ⟨_, rfl⟩
  rw [hR] at C ⊢
  clear hR hl
  go_enter Tryd.func29, Tryd.ntmps29
  go_wp2_with fail
  refine C.mono ?_
  rintro e w1 ⟨rfl, e1⟩
  go_wp2_with fail
  go_ret
  exact ⟨rfl, e1⟩
set_option maxRecDepth 8000 in
set_option maxHeartbeats 1000000 in
theorem partLen4I (l : BL) (hl : l.length ≤ 1000) (w : World) : Calls Tryd.prog 29 #[.int .i64 4, sV l] w fun e w' => e = .returned (.int .i64 (partLen 4 l : Nat)) ∧ Ext w w' := by
  have C : Calls Tryd.prog 45 #[sV l, sV [46], .int .i64 1] w fun e w' => e = .returned (.int .i64 (partLen 4 l : Nat)) ∧ Ext w w' := runI l 46 1 (by decide) hl w
  obtain ⟨R, hR⟩ : ∃ R, partLen 4 l = R := ⟨_, rfl⟩
  rw [hR] at C ⊢
  clear hR hl
  go_enter Tryd.func29, Tryd.ntmps29
  go_wp2_with fail
  refine C.mono ?_
  rintro e w1 ⟨rfl, e1⟩
  go_wp2_with fail
  go_ret
  exact ⟨rfl, e1⟩
set_option maxRecDepth 8000 in
set_option maxHeartbeats 1000000 in
theorem partLen5I (l : BL) (hl : l.length ≤ 1000) (w : World) : Calls Tryd.prog 29 #[.int .i64 5, sV l] w fun e w' => e = .returned (.int .i64 (partLen 5 l : Nat)) ∧ Ext w w' := by
  have C : Calls Tryd.prog 45 #[sV l, sV [48], .int .i64 9] w fun e w' => e = .returned (.int .i64 (partLen 5 l : Nat)) ∧ Ext w w' := runI l 48 9 (by decide) hl w
  obtain ⟨R, hR⟩ : ∃ R, partLen 5 l = R := ⟨_, rfl⟩
  rw [hR] at C ⊢
  clear hR hl
  go_enter Tryd.func29, Tryd.ntmps29
  go_wp2_with fail
  refine C.mono ?_
  rintro e w1 ⟨rfl, e1⟩
  go_wp2_with fail
  go_ret
  exact ⟨rfl, e1⟩
set_option maxRecDepth 8000 in
set_option maxHeartbeats 1000000 in
theorem partLen6I (l : BL) (hl : l.length ≤ 1000) (w : World) : Calls Tryd.prog 29 #[.int .i64 6, sV l] w fun e w' => e = .returned (.int .i64 (partLen 6 l : Nat)) ∧ Ext w w' := by
  have C : Calls Tryd.prog 45 #[sV l, sV [35], .int .i64 9] w fun e w' => e = .returned (.int .i64 (partLen 6 l : Nat)) ∧ Ext w w' := runI l 35 9 (by decide) hl w
  obtain ⟨R, hR⟩ : ∃ R, partLen 6 l = R := ⟨_, rfl⟩
  rw [hR] at C ⊢
  clear hR hl
  go_enter Tryd.func29, Tryd.ntmps29
  go_wp2_with fail
  refine C.mono ?_
  rintro e w1 ⟨rfl, e1⟩
  go_wp2_with fail
  go_ret
  exact ⟨rfl, e1⟩
set_option maxRecDepth 8000 in
set_option maxHeartbeats 1000000 in
theorem partLen7I (l : BL) (hl : l.length ≤ 1000) (w : World) : Calls Tryd.prog 29 #[.int .i64 7, sV l] w fun e w' => e = .returned (.int .i64 (partLen 7 l : Nat)) ∧ Ext w w' := by
  have C : Calls Tryd.prog 45 #[sV l, sV [37], .int .i64 3] w fun e w' => e = .returned (.int .i64 (partLen 7 l : Nat)) ∧ Ext w w' := runI l 37 3 (by decide) hl w
  obtain ⟨R, hR⟩ : ∃ R, partLen 7 l = R := ⟨_, rfl⟩
  rw [hR] at C ⊢
  clear hR hl
  go_enter Tryd.func29, Tryd.ntmps29
  go_wp2_with fail
  refine C.mono ?_
  rintro e w1 ⟨rfl, e1⟩
  go_wp2_with fail
  go_ret
  exact ⟨rfl, e1⟩
set_option maxRecDepth 8000 in
set_option maxHeartbeats 1000000 in
theorem partLen8I (l : BL) (hl : l.length ≤ 1000) (w : World) (T : TabK w) : Calls Tryd.prog 29 #[.int .i64 8, sV l] w fun e w' => e = .returned (.int .i64 (partLen 8 l : Nat)) ∧ Ext w w' := by
  have C : Calls Tryd.prog 46 #[sV l] w fun e w' => e = .returned (.int .i64 (partLen 8 l : Nat)) ∧ Ext w w' := (dateLenI l hl w T).mono fun _ _ ⟨h1, h2⟩ => ⟨h1, by rw [h2]; exact xr _⟩
  obtain ⟨R, hR⟩ : ∃ R, partLen 8 l = R := ⟨_, rfl⟩
  rw [hR] at C ⊢
  clear hR hl T
  go_enter Tryd.func29, Tryd.ntmps29
  go_wp2_with fail
  refine C.mono ?_
  rintro e w1 ⟨rfl, e1⟩
  go_wp2_with fail
  go_ret
  exact ⟨rfl, e1⟩
set_option maxRecDepth 8000 in
set_option maxHeartbeats 1000000 in
theorem partLen2I (l : BL) (hl : l.length ≤ 1000) (w : World) : Calls Tryd.prog 29 #[.int .i64 2, sV l] w fun e w' => e = .returned (.int .i64 (partLen 2 l : Nat)) ∧ Ext w w' := by
  have C := trimPrefixK l w
  obtain ⟨h1, h2⟩ := trimPre_len l
  obtain ⟨R, hR⟩ : ∃ R, partLen 2 l = R := ⟨_, rfl⟩
  have HR : Hid (l.length - (Lib.trimPrefix l [35, 44]).length = R) := by show _ = _; rw [h1, ← hR]; rfl
  rw [hR]
  obtain ⟨t, ht⟩ : ∃ t, Lib.trimPrefix l [35, 44] = t := ⟨_, rfl⟩
  rw [ht] at C HR h2
  have z1 : (⟨l.toArray⟩ : ByteArray).size = l.length := rfl
  have z2 : (⟨t.toArray⟩ : ByteArray).size = t.length := rfl
  obtain ⟨n, hn⟩ : ∃ n, l.length = n := ⟨_, rfl⟩
  obtain ⟨q, hq⟩ : ∃ n, t.length = n := ⟨_, rfl⟩
  rw [hn] at z1 HR h2 hl
  rw [hq] at z2 HR h2
  clear hR ht hn hq h1
  go_enter Tryd.func29, Tryd.ntmps29
  go_wp2_with fail
  refine C.mono ?_
  rintro e w1 ⟨rfl, rfl⟩
  go_wp2_with fail
  go_ret
  exact ⟨ret_int (by have := HR.out; omega), xr _⟩
theorem partLenI (p : Nat) (hp : 1 ≤ p) (hp9 : p ≤ 9) (l : BL) (hl : l.length ≤ 1000) (w : World) (T : TabK w) : Calls Tryd.prog 29 #[.int .i64 (p : Int), sV l] w fun e w' => e = .returned (.int .i64 (partLen p l : Nat)) ∧ Ext w w' := by
  match p, hp, hp9 with
  | 1, _, _ => exact partLen1I l hl w T
  | 2, _, _ => exact partLen2I l hl w
  | 3, _, _ => exact partLen3I l hl w
  | 4, _, _ => exact partLen4I l hl w
  | 5, _, _ => exact partLen5I l hl w
  | 6, _, _ => exact partLen6I l hl w
  | 7, _, _ => exact partLen7I l hl w
  | 8, _, _ => exact partLen8I l hl w T
  | 9, _, _ => exact partLen9I l hl w T

end Go.Proofs.YthedbjjncnddbaaDoor
