/-
  Chapter 10: how long a part of a section is, by the program.
-/
import Derived.Test.YthedbjjncnddbaaDoorKx
namespace Go.Proofs.YthedbjjncnddbaaDoor
open Go.RowKit

theorem takeWhile_drop (P : UInt8 → Bool) (l : BL) : (l.takeWhile P).length + (l.dropWhile P).length = l.length := by
  have := congrArg List.length (List.takeWhile_append_dropWhile (p := P) (l := l))
  rw [List.length_append] at this
  exact this
theorem trimLeft_len (l : BL) (c : UInt8) : l.length - (Lib.trimLeftS l [c]).length = (l.takeWhile (· == c)).length := by
  have h := takeWhile_drop (· == c) l
  have e : Lib.trimLeftS l [c] = l.dropWhile (· == c) := by rw [Lib.trimLeftS_one]; rfl
  rw [e]
  omega
set_option maxHeartbeats 1000000 in
theorem runI (l : BL) (c : UInt8) (m : Nat) (hc : c = 48 ∨ c = 46 ∨ c = 35 ∨ c = 37) (hl : l.length ≤ 1000) (w : World) :
    Calls Tryd.prog 45 #[sV l, sV [c], .int .i64 (m : Int)] w fun e w' => e = .returned (.int .i64 (runF c m l : Nat)) ∧ Ext w w' := by
  have TL := trimLeftK l c hc w
  have hlen := trimLeft_len l c
  have hle : (Lib.trimLeftS l [c]).length ≤ l.length := by
    have h := takeWhile_drop (· == c) l
    have e : Lib.trimLeftS l [c] = l.dropWhile (· == c) := by rw [Lib.trimLeftS_one]; rfl
    rw [e]; omega
  obtain ⟨R, hR⟩ : ∃ R, runF c m l = R := ⟨_, rfl⟩
  have HR : Hid (min (l.length - (Lib.trimLeftS l [c]).length) m = R) := by show _ = _; rw [hlen, ← hR]; rfl
  rw [hR]
  obtain ⟨t, ht⟩ : ∃ t, Lib.trimLeftS l [c] = t := ⟨_, rfl⟩
  rw [ht] at TL HR hle
  have z1 : (⟨l.toArray⟩ : ByteArray).size = l.length := rfl
  have z2 : (⟨t.toArray⟩ : ByteArray).size = t.length := rfl
  obtain ⟨n, hn⟩ : ∃ n, l.length = n := ⟨_, rfl⟩
  obtain ⟨q, hq⟩ : ∃ n, t.length = n := ⟨_, rfl⟩
  rw [hn] at z1 HR hle hl
  rw [hq] at z2 HR hle
  clear hR ht hn hq hlen hc
  go_enter Tryd.func45, Tryd.ntmps45
  go_wp2_with fail
  refine TL.mono ?_
  rintro e w1 ⟨rfl, e1⟩
  go_wp2_with fail
  all_goals go_ret
  all_goals exact ⟨ret_int (by have := HR.out; omega), e1⟩

theorem index34 (r : BL) : Lib.index r [34] = if r.dropWhile nq = [] then -1 else ((r.takeWhile nq).length : Int) := by
  induction r with
  | nil => rfl
  | cons b l ih =>
    by_cases hb : b = 34
    · subst hb
      have h0 : ([34] : List UInt8).isPrefixOf (34 :: l) = true := by simp [List.isPrefixOf]
      unfold Lib.index
      rw [if_pos h0]
      simp [List.dropWhile, List.takeWhile, nq]
    · have hq : nq b = true := by simpa [nq] using hb
      have h0 : ([34] : List UInt8).isPrefixOf (b :: l) = false := by
        simp [List.isPrefixOf]
        exact fun e => hb e.symm
      unfold Lib.index
      rw [h0, ih]
      simp only [List.dropWhile, List.takeWhile, hq]
      by_cases hd : l.dropWhile nq = []
      · rw [if_pos hd, if_pos hd]; rfl
      · rw [if_neg hd, if_neg hd]
        have : (((l.takeWhile nq).length : Int) == -1) = false := by rw [beq_eq_false_iff_ne]; omega
        simp [this]
theorem take_while_len (P : UInt8 → Bool) (l : BL) : l.take (l.takeWhile P).length = l.takeWhile P := by
  conv => lhs; arg 2; rw [← List.takeWhile_append_dropWhile (p := P) (l := l)]
  exact List.take_left
theorem drop_while_len (P : UInt8 → Bool) (l : BL) : l.drop (l.takeWhile P).length = l.dropWhile P := by
  conv => lhs; arg 2; rw [← List.takeWhile_append_dropWhile (p := P) (l := l)]
  exact List.drop_left
theorem cut34 (r : BL) : (Lib.cut r [34]).2.2 = decide (r.dropWhile nq ≠ []) ∧ (r.dropWhile nq ≠ [] → (Lib.cut r [34]).1 = r.takeWhile nq) ∧ (Lib.cut r [34]).1.length ≤ r.length := by
  unfold Lib.cut
  rw [index34]
  by_cases h : r.dropWhile nq = []
  · rw [if_pos h]
    simp [h]
  · rw [if_neg h, if_pos (by omega)]
    refine ⟨by simp [h], fun _ => ?_, ?_⟩
    · show r.take _ = _
      rw [Int.toNat_natCast, take_while_len]
    · show (r.take _).length ≤ _
      rw [List.length_take]; omega
theorem quoLen_no {l : BL} (h : Lib.hasPrefix l [34] = false) : quoLen l = 0 := by
  unfold quoLen
  cases l with
  | nil => rfl
  | cons c r =>
    have : (c == 34) = false := by
      simp [Lib.hasPrefix, List.isPrefixOf] at h
      rw [beq_eq_false_iff_ne]
      exact fun e => h e.symm
    have e : qT (c :: r) = none := by
      show (if (c == 34) = true then _ else none) = none
      rw [this]
      rfl
    rw [e]
theorem quoLen_is {l : BL} (h : Lib.hasPrefix l [34] = true) : quoLen l = if ((l.drop 1).dropWhile nq ≠ []) ∧ ((l.drop 1).takeWhile nq ≠ []) ∧ ((l.drop 1).takeWhile nq).length ≤ 20 ∧ plainB ((l.drop 1).takeWhile nq) = true then ((l.drop 1).takeWhile nq).length + 2 else 0 := by
  have e := qT_eq h
  unfold quoS at e
  rw [if_pos h] at e
  unfold quoLen
  rw [e]
  split
  · rename_i x hx
    split at hx
    · cases hx; rename_i hc; rw [if_pos hc]
    · cases hx
  · rename_i hx
    split at hx
    · cases hx
    · rename_i hc; rw [if_neg hc]

set_option maxRecDepth 8000 in
set_option maxHeartbeats 2000000 in
theorem quoLenI (l : BL) (hl : l.length ≤ 1000) (w : World) (T : TabK w) :
    Calls Tryd.prog 43 #[sV l] w fun e w' => e = .returned (.int .i64 (quoLen l : Nat)) ∧ Ext w w' := by
  have CP := cutPrefixK l 34 w
  obtain ⟨rest, hrest⟩ : ∃ rest, Lib.trimPrefix l [34] = rest := ⟨_, rfl⟩
  have hrl : rest.length ≤ 1000 := by
    rw [← hrest]; unfold Lib.trimPrefix; split
    · rw [List.length_drop]; omega
    · exact hl
  have CU := cutK rest w hrl T
  obtain ⟨c1, c2, c3⟩ := cut34 rest
  obtain ⟨b1, hb1⟩ : ∃ b, Lib.hasPrefix l [34] = b := ⟨_, rfl⟩
  obtain ⟨t, ht⟩ : ∃ t, (Lib.cut rest [34]).1 = t := ⟨_, rfl⟩
  obtain ⟨t2, ht2⟩ : ∃ t, (Lib.cut rest [34]).2.1 = t := ⟨_, rfl⟩
  obtain ⟨b2, hb2⟩ : ∃ b, (Lib.cut rest [34]).2.2 = b := ⟨_, rfl⟩
  have PL := fun W => plainI t W (by rw [← ht]; omega)
  have HR : Hid (quoLen l = if b1 = true ∧ b2 = true ∧ t ≠ [] ∧ t.length ≤ 20 ∧ plainB t = true then t.length + 2 else 0) := by
    show _ = _
    cases b1 with
    | false => rw [quoLen_no hb1]; simp
    | true =>
      have hr : l.drop 1 = rest := by rw [← hrest]; unfold Lib.trimPrefix; rw [if_pos hb1]; rfl
      rw [quoLen_is hb1, hr]
      rw [hb2] at c1
      by_cases hD : rest.dropWhile nq = []
      · have : b2 = false := by rw [c1]; simp [hD]
        rw [this, if_neg (fun h => h.1 hD)]; simp
      · have : b2 = true := by rw [c1]; simp [hD]
        have hT : rest.takeWhile nq = t := by rw [← ht]; exact (c2 hD).symm
        rw [this, hT]
        by_cases hh : t ≠ [] ∧ t.length ≤ 20 ∧ plainB t = true
        · rw [if_pos ⟨hD, hh⟩, if_pos ⟨rfl, rfl, hh⟩]
        · rw [if_neg (fun h => hh h.2), if_neg (fun h => hh h.2.2)]
  rw [hrest, hb1] at CP
  rw [ht, ht2, hb2] at CU
  obtain ⟨R, hR⟩ : ∃ R, quoLen l = R := ⟨_, rfl⟩
  rw [hR] at HR ⊢
  have z2 : (⟨t.toArray⟩ : ByteArray).size = t.length := rfl
  have htl : t.length ≤ 1000 := by rw [← ht]; omega
  obtain ⟨q, hq⟩ : ∃ q, t.length = q := ⟨_, rfl⟩
  have HQ : Hid (t.length = q) := hq
  rw [hq] at HR z2 htl
  clear hrest hb1 ht ht2 hb2 hR c1 c2 c3 hq T
  cases b1
  · have HE : Hid (R = 0) := by show _ = _; rw [HR.out]; simp
    clear HR PL
    go_enter Tryd.func43, Tryd.ntmps43
    go_wp2_with fail
    refine CP.mono ?_
    rintro e w1 ⟨rfl, rfl⟩
    go_wp2_with fail
    refine CU.mono ?_
    rintro e w2 ⟨rfl, e2⟩
    go_wp2_with fail
    go_ret
    exact ⟨ret_int (by rw [HE.out]; rfl), e2⟩
  cases b2
  · have HE : Hid (R = 0) := by show _ = _; rw [HR.out]; simp
    clear HR PL
    go_enter Tryd.func43, Tryd.ntmps43
    go_wp2_with fail
    refine CP.mono ?_
    rintro e w1 ⟨rfl, rfl⟩
    go_wp2_with fail
    refine CU.mono ?_
    rintro e w2 ⟨rfl, e2⟩
    go_wp2_with fail
    go_ret
    exact ⟨ret_int (by rw [HE.out]; rfl), e2⟩
  by_cases hte : t = []
  · have HE : Hid (R = 0) := by show _ = _; rw [HR.out]; simp [hte]
    subst hte
    clear HR PL
    go_enter Tryd.func43, Tryd.ntmps43
    go_wp2_with fail
    refine CP.mono ?_
    rintro e w1 ⟨rfl, rfl⟩
    go_wp2_with fail
    refine CU.mono ?_
    rintro e w2 ⟨rfl, e2⟩
    go_wp2_with fail
    go_ret
    exact ⟨ret_int (by rw [HE.out]; rfl), e2⟩
  have he : (t == []) = false := by rw [beq_eq_false_iff_ne]; exact hte
  by_cases h20 : q ≤ 20
  · have i20 : (q : Int) ≤ 20 := by omega
    obtain ⟨pb, hpb⟩ : ∃ pb, plainB t = pb := ⟨_, rfl⟩
    rw [hpb] at HR
    simp only [hpb] at PL
    cases pb
    · have HE : Hid (R = 0) := by show _ = _; rw [HR.out]; simp
      clear HR hpb
      go_enter Tryd.func43, Tryd.ntmps43
      go_wp2_with fail
      refine CP.mono ?_
      rintro e w1 ⟨rfl, rfl⟩
      go_wp2_with fail
      refine CU.mono ?_
      rintro e w2 ⟨rfl, e2⟩
      go_wp2_with fail
      refine (PL _).mono ?_
      rintro e w3 ⟨rfl, rfl⟩
      go_wp2_with fail
      go_ret
      exact ⟨ret_int (by rw [HE.out]; rfl), e2⟩
    · have HE : Hid (R = q + 2) := by show _ = _; rw [HR.out, if_pos ⟨rfl, rfl, hte, h20, rfl⟩]
      clear HR hpb
      go_enter Tryd.func43, Tryd.ntmps43
      go_wp2_with fail
      refine CP.mono ?_
      rintro e w1 ⟨rfl, rfl⟩
      go_wp2_with fail
      refine CU.mono ?_
      rintro e w2 ⟨rfl, e2⟩
      go_wp2_with fail
      refine (PL _).mono ?_
      rintro e w3 ⟨rfl, rfl⟩
      go_wp2_with fail
      go_ret
      exact ⟨ret_int (by rw [HE.out]; omega), e2⟩
  · have i20 : 20 < (q : Int) := by omega
    have HE : Hid (R = 0) := by show _ = _; rw [HR.out, if_neg (fun h => h20 h.2.2.2.1)]
    clear HR PL
    go_enter Tryd.func43, Tryd.ntmps43
    go_wp2_with fail
    refine CP.mono ?_
    rintro e w1 ⟨rfl, rfl⟩
    go_wp2_with fail
    refine CU.mono ?_
    rintro e w2 ⟨rfl, e2⟩
    go_wp2_with fail
    go_ret
    exact ⟨ret_int (by rw [HE.out]; rfl), e2⟩

end Go.Proofs.YthedbjjncnddbaaDoor
