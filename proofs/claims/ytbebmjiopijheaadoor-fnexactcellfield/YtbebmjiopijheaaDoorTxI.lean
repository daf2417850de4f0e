/-
  The program's text of a decimal, over what strings.Repeat and strconv.Itoa give.
-/
import Derived.Test.YtbebmjiopijheaaDoorTxS
import Derived.Test.YtbebmjiopijheaaDoorLibD
namespace Go.Proofs.YtbebmjiopijheaaDoor
open Go.RowKit

theorem size_of {s : ByteArray} {l : List UInt8} (h : s.data.toList = l) : s.size = l.length := by
  rw [← h, Array.length_toList]
  rfl

set_option maxRecDepth 8000 in
set_option maxHeartbeats 1000000 in
theorem pointed_any (RP : RepC) (s : ByteArray) (D : List UInt8) (m : Int) (w : World) (hs : s.data.toList = D) (l1 : D.length ≤ 15) (m0 : -300 ≤ m) (m1 : m ≤ D.length) :
    Calls Tryd.prog 53 #[.string s, .int .i64 m] w fun e w' => ∃ t, e = .returned (.string t) ∧ t.data.toList = (if m ≤ 0 then 48 :: 46 :: (List.replicate (-m).toNat 48 ++ D) else D.take m.toNat ++ 46 :: D.drop m.toNat) ∧ Ext w w' := by
  have hsz := size_of hs
  obtain ⟨L, hL⟩ : ∃ L, D.length = L := ⟨_, rfl⟩
  have HL : Hid (D.length = L) := hL
  have HS : Hid (s.data.toList = D) := hs
  rw [hL] at hsz l1 m1
  clear hL hs
  by_cases hm : m ≤ 0
  · rw [if_pos hm]
    have R : Hid (∀ w : World, Calls Tryd.prog 13 #[.string ⟨#[48]⟩, .int .i64 (-m)] w fun e w' => ∃ s, e = .returned (.string s) ∧ s.data.toList = List.replicate (-m).toNat 48 ∧ Ext w w') := fun w => RP (-m) w (by omega) (by omega)
    go_enter Tryd.func53, Tryd.ntmps53
    go_wp2_with fail
    refine (R.out _).mono ?_
    rintro e w1 ⟨t, rfl, ht, e1⟩
    have htz := size_of ht
    rw [List.length_replicate] at htz
    have HT : Hid (t.data.toList = List.replicate (-m).toNat 48) := ht
    clear ht R
    go_wp2_with fail
    go_ret
    exact ⟨_, rfl, by simp [HS.out, HT.out], e1⟩
  · rw [if_neg hm]
    obtain ⟨k, rfl⟩ := Int.eq_ofNat_of_zero_le (show 0 ≤ m by omega)
    have hk0 : (0 : Int) ≤ (k : Int) := by omega
    have hks : (k : Int) ≤ (L : Int) := by omega
    have hkn : k ≤ L := by omega
    have A1 : ∀ w' : World, (Op.stringOp .add (s.extract 0 k) ⟨#[46]⟩).run Tryd.prog w' = .ok (.string (s.extract 0 k ++ ⟨#[46]⟩)) w' := fun w' => run_string_add_sum w' _ _ (by rw [ByteArray.size_extract, hsz]; show min k L - 0 + 1 ≤ _; omega)
    have A2 : ∀ w' : World, (Op.stringOp .add (s.extract 0 k ++ ⟨#[46]⟩) (s.extract k L)).run Tryd.prog w' = .ok (.string (s.extract 0 k ++ ⟨#[46]⟩ ++ s.extract k L)) w' := fun w' => run_string_add_sum w' _ _ (by rw [ByteArray.size_append, ByteArray.size_extract, ByteArray.size_extract, hsz]; show min k L - 0 + 1 + (min L L - k) ≤ _; omega)
    have HE : Hid ((s.extract 0 k ++ (⟨#[46]⟩ : ByteArray) ++ s.extract k L).data.toList = D.take (k : Int).toNat ++ 46 :: D.drop (k : Int).toNat) := by
      have e5 : List.take (L - k) (List.drop k D) = List.drop k D := List.take_of_length_le (by simp [HL.out])
      simp [HS.out, e5, Hid]
    clear m0 m1
    go_enter Tryd.func53, Tryd.ntmps53
    go_wp2_with fail
    go_region_held3 (fun _ => True) (trivial) (fail)
    go_wp2_with fail
    go_ret
    exact ⟨_, rfl, HE.out, xd (xr _)⟩

/-- What poweredText adds behind the digits. -/
def powT (f : Int) : List UInt8 := if f < 0 then 69 :: 45 :: Lib.decDigits (-f).toNat else 69 :: 43 :: Lib.decDigits f.toNat
theorem itoa_len {n : Int} (h1 : -1000000000000000 < n) (h2 : n < 1000000000000000) : (Lib.itoa n).length ≤ 16 := by
  unfold Lib.itoa
  have e : (10 : Nat) ^ (14 + 1) = 1000000000000000 := by decide
  split
  · have := (dec_len_le 14 n.natAbs (by omega)).2
    simp
    omega
  · have := (dec_len_le 14 n.toNat (by omega)).2
    omega

set_option maxRecDepth 8000 in
set_option maxHeartbeats 1000000 in
theorem powered_any (s : ByteArray) (D : List UInt8) (f : Int) (w0 w : World) (IT : ItoaC w0) (X0 : Ext w0 w) (hs : s.data.toList = D) (l0 : 1 ≤ D.length) (l1 : D.length ≤ 15) (f0 : -1000 ≤ f) (f1 : f ≤ 1000) :
    Calls Tryd.prog 54 #[.string s, .int .i64 f] w fun e w' => ∃ t, e = .returned (.string t) ∧ t.data.toList = D.take 1 ++ (if 1 < D.length then 46 :: D.drop 1 else []) ++ powT f ∧ Ext w w' := by
  have hsz := size_of hs
  obtain ⟨L, hL⟩ : ∃ L, D.length = L := ⟨_, rfl⟩
  have HL : Hid (D.length = L) := hL
  have HS : Hid (s.data.toList = D) := hs
  rw [hL] at hsz l1 l0
  have I : Hid (Calls Tryd.prog 48 #[.int .i64 f] w fun e w' => ∃ s, e = .returned (.string s) ∧ s.data.toList = Lib.itoa f ∧ Ext w w') := IT f w (by omega) (by omega) X0
  have IL : Hid ((Lib.itoa f).length ≤ 16) := itoa_len (by omega) (by omega)
  rw [hL]
  clear hL hs IT X0
  have hs1 : (1 : Int) ≤ (L : Int) := by omega
  by_cases h1 : 1 < L
  · have h1' : (1 : Int) < (L : Int) := by omega
    have HE : Hid ((s.extract 0 1 ++ ((⟨#[46]⟩ : ByteArray) ++ s.extract 1 L)).data.toList = D.take 1 ++ 46 :: D.drop 1) := by
      have e5 : List.take (L - 1) D.tail = D.tail := List.take_of_length_le (by simp [HL.out])
      simp [HS.out, e5, Hid]
    have esz : (s.extract 0 1 ++ ((⟨#[46]⟩ : ByteArray) ++ s.extract 1 L)).size ≤ 100 := by
      rw [ByteArray.size_append, ByteArray.size_append, ByteArray.size_extract, ByteArray.size_extract, hsz]
      show min 1 L - 0 + (1 + (min L L - 1)) ≤ _
      omega
    rw [if_pos h1]
    by_cases hf : 0 ≤ f
    · have HP : Hid (powT f = 69 :: 43 :: Lib.itoa f) := by unfold powT Lib.itoa; rw [if_neg (by omega), if_neg (by omega)]; rfl
      go_enter Tryd.func54, Tryd.ntmps54
      go_wp2_with fail
      refine (I.out).mono ?_
      rintro e w1 ⟨t, rfl, ht, e1⟩
      have htl : t.size ≤ 16 := by rw [size_of ht]; exact IL.out
      have HT : Hid (t.data.toList = Lib.itoa f) := ht
      obtain ⟨o, ho⟩ : ∃ o, s.extract 0 1 ++ ((⟨#[46]⟩ : ByteArray) ++ s.extract 1 L) = o := ⟨_, rfl⟩
      rw [ho] at HE esz
      rw [ho]
      clear ht I IL ho
      go_wp2_with fail
      go_ret
      exact ⟨_, rfl, by rw [HP.out]; simp [HE.out, HT.out], e1⟩
    · have HP : Hid (powT f = 69 :: Lib.itoa f) := by unfold powT Lib.itoa; rw [if_pos (by omega), if_pos (by omega)]; show _ = _; congr 4; omega
      go_enter Tryd.func54, Tryd.ntmps54
      go_wp2_with fail
      refine (I.out).mono ?_
      rintro e w1 ⟨t, rfl, ht, e1⟩
      have htl : t.size ≤ 16 := by rw [size_of ht]; exact IL.out
      have HT : Hid (t.data.toList = Lib.itoa f) := ht
      obtain ⟨o, ho⟩ : ∃ o, s.extract 0 1 ++ ((⟨#[46]⟩ : ByteArray) ++ s.extract 1 L) = o := ⟨_, rfl⟩
      rw [ho] at HE esz
      rw [ho]
      clear ht I IL ho
      go_wp2_with fail
      go_ret
      exact ⟨_, rfl, by rw [HP.out]; simp [HE.out, HT.out], e1⟩
  · have h1' : ¬ (1 : Int) < (L : Int) := by omega
    have HE : Hid ((s.extract 0 1).data.toList = D.take 1) := by simp [HS.out, Hid]
    have esz : (s.extract 0 1).size ≤ 100 := by
      rw [ByteArray.size_extract, hsz]
      omega
    rw [if_neg h1]
    by_cases hf : 0 ≤ f
    · have HP : Hid (powT f = 69 :: 43 :: Lib.itoa f) := by unfold powT Lib.itoa; rw [if_neg (by omega), if_neg (by omega)]; rfl
      go_enter Tryd.func54, Tryd.ntmps54
      go_wp2_with fail
      refine (I.out).mono ?_
      rintro e w1 ⟨t, rfl, ht, e1⟩
      have htl : t.size ≤ 16 := by rw [size_of ht]; exact IL.out
      have HT : Hid (t.data.toList = Lib.itoa f) := ht
      obtain ⟨o, ho⟩ : ∃ o, s.extract 0 1 = o := ⟨_, rfl⟩
      rw [ho] at HE esz
      rw [ho]
      clear ht I IL ho
      go_wp2_with fail
      go_ret
      exact ⟨_, rfl, by rw [HP.out]; simp [HE.out, HT.out], e1⟩
    · have HP : Hid (powT f = 69 :: Lib.itoa f) := by unfold powT Lib.itoa; rw [if_pos (by omega), if_pos (by omega)]; show _ = _; congr 4; omega
      go_enter Tryd.func54, Tryd.ntmps54
      go_wp2_with fail
      refine (I.out).mono ?_
      rintro e w1 ⟨t, rfl, ht, e1⟩
      have htl : t.size ≤ 16 := by rw [size_of ht]; exact IL.out
      have HT : Hid (t.data.toList = Lib.itoa f) := ht
      obtain ⟨o, ho⟩ : ∃ o, s.extract 0 1 = o := ⟨_, rfl⟩
      rw [ho] at HE esz
      rw [ho]
      clear ht I IL ho
      go_wp2_with fail
      go_ret
      exact ⟨_, rfl, by rw [HP.out]; simp [HE.out, HT.out], e1⟩

end Go.Proofs.YtbebmjiopijheaaDoor

