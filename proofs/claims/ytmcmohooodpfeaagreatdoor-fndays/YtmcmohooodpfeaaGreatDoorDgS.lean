/-
  A number in at least so many digits, on both sides.
-/
import Derived.Test.YtmcmohooodpfeaaGreatDoorNumT
import Derived.Test.YtmcmohooodpfeaaGreatDoorNought
import Derived.Test.YtmcmohooodpfeaaGreatDoorTxNum
import Derived.Test.YtmcmohooodpfeaaGreatDoorLibD
import Derived.Test.YtmcmohooodpfeaaGreatDoorDatN
namespace Go.Proofs.YtmcmohooodpfeaaGreatDoor
open Go.RowKit

theorem size_ofL {s : ByteArray} {l : List UInt8} (h : s.data.toList = l) : s.size = l.length := by
  rw [← h, Array.length_toList]
  rfl

set_option maxRecDepth 4000 in
set_option maxHeartbeats 1000000 in
theorem num_neg (n : Int) (w : World) (n0 : n < 0) (n1 : -1000000000000000 < n) :
    Calls Tryz.prog 76 #[.int .i64 n] w fun e w' => ∃ s : ByteArray, e = .returned (.string s) ∧ Ext w w' := by
  have hq : -1000000000000000 < n.tdiv 10 ∧ n.tdiv 10 ≤ 0 := by rw [tdiv_cases, if_neg (by omega)]; omega
  have hr : -10 < n.tmod 10 ∧ n.tmod 10 ≤ 0 := by rw [tmod_cases, if_neg (by omega)]; omega
  have he : n.tdiv 10 * 10 + n.tmod 10 = n := by have := Int.mul_tdiv_add_tmod n 10; omega
  obtain ⟨q, hQ⟩ : ∃ q, n.tdiv 10 = q := ⟨_, rfl⟩
  obtain ⟨r, hR⟩ : ∃ r, n.tmod 10 = r := ⟨_, rfl⟩
  rw [hQ] at hq he
  rw [hR] at hr he
  go_enter Tryz.func76, Tryz.ntmps76
  go_wp2_with fail
  refine (small_any q _ (by omega) (by omega)).mono ?_
  rintro e w1 ⟨v1, rfl, z1, e1⟩
  go_wp2_with fail
  refine (small_any 10 _ (by omega) (by omega)).mono ?_
  rintro e w2 ⟨v2, rfl, z2, e2⟩
  go_wp2_with fail
  refine (mul_any _ (z1.later e2) z2 2 (by decide) (by omega) (by omega)).mono ?_
  rintro e w3 ⟨v3, rfl, z3, e3⟩
  go_wp2_with fail
  refine (small_any r _ (by omega) (by omega)).mono ?_
  rintro e w4 ⟨v4, rfl, z4, e4⟩
  go_wp2_with fail
  refine (add_smallZ _ (z3.later e4) z4 (smallB_true (by omega) (by omega)) (smallB_true (by omega) (by omega))).mono ?_
  rintro e w5 ⟨v5, rfl, z5, e5⟩
  rw [he] at z5
  go_wp2_with fail
  refine (text_any _ z5 2 (by decide) (by omega)).mono ?_
  rintro e w6 ⟨l, rfl, ht, e6⟩
  go_wp2
  go_ret
  exact ⟨_, rfl, xt (xt (xt (xt (xt e1 e2) e3) e4) e5) e6⟩

/-- The number, with noughts ahead. -/
def padT (n : Int) (k : Nat) : List UInt8 := List.replicate (k - (Lib.decDigits n.toNat).length) 48 ++ Lib.decDigits n.toNat
theorem dec_len_leD : ∀ (k u : Nat), u < 10 ^ (k + 1) → 1 ≤ (Lib.decDigits u).length ∧ (Lib.decDigits u).length ≤ k + 1
  | 0, u, h => by rw [Lib.decDigits, dif_pos (by simpa using h)]; simp
  | k + 1, u, h => by
    rw [Lib.decDigits]
    split
    · simp
    · have := dec_len_leD k (u / 10) (by rw [Nat.pow_succ] at h; omega)
      simp
      omega
theorem dec_lenD {n : Int} (n0 : 0 ≤ n) (n1 : n ≤ 9999) : (Lib.decDigits n.toNat).length ≤ 15 := by
  have := (dec_len_leD 14 n.toNat (by
    have : (10 : Nat) ^ (14 + 1) = 1000000000000000 := by decide
    omega)).2
  omega

set_option maxRecDepth 4000 in
set_option maxHeartbeats 1000000 in
theorem digS (n : Int) (k : Nat) (w : World) (n0 : 0 ≤ n) (n1 : n ≤ 9999) (hk : k ≤ 4) :
    Calls Tryz.prog 64 #[.int .i64 n, .int .i64 k] w fun e w' => ∃ s, e = .returned (.string s) ∧ s.data.toList = padT n k ∧ Ext w w' := by
  have dl := dec_lenD n0 n1
  go_enter Tryz.func64, Tryz.ntmps64
  go_wp2_with fail
  refine (num_any n _ n0 (by omega)).mono ?_
  rintro e w1 ⟨l, rfl, ht, e1⟩
  have hl := ht.dec n0
  obtain ⟨t, et⟩ : ∃ t : ByteArray, (⟨l.toArray⟩ : ByteArray) = t := ⟨_, rfl⟩
  have hts : t.data.toList = Lib.decDigits n.toNat := by rw [← et, ← hl]
  rw [et]
  have hsz := size_ofL hts
  obtain ⟨L, hL⟩ : ∃ L, (Lib.decDigits n.toNat).length = L := ⟨_, rfl⟩
  have HS : Hid (t.data.toList = Lib.decDigits n.toNat) := hts
  have HL : Hid ((Lib.decDigits n.toNat).length = L) := hL
  rw [hL] at hsz dl
  clear hL hts hl ht et n0 n1
  by_cases hlt : L < k
  · have hlt' : (L : Int) < (k : Int) := by omega
    obtain ⟨j, hj⟩ : ∃ j : Nat, k = L + j := ⟨k - L, by omega⟩
    have hw : (j : Int) = (k : Int) - (L : Int) := by omega
    have NO : Hid (∀ w : World, Calls Tryz.prog 77 #[.int .i64 j] w fun e w' => e = .returned (.string ⟨(List.replicate j (48 : UInt8)).toArray⟩) ∧ Ext w w') := fun w => nought_any j w (by omega)
    obtain ⟨u, eu⟩ : ∃ u : ByteArray, (⟨(List.replicate j (48 : UInt8)).toArray⟩ : ByteArray) = u := ⟨_, rfl⟩
    have hus : u.data.toList = List.replicate j 48 := by rw [← eu]
    have usz := size_ofL hus
    rw [List.length_replicate] at usz
    rw [eu, hw] at NO
    have HU : Hid (u.data.toList = List.replicate j 48) := hus
    have HJ : Hid (k = L + j) := hj
    have jl : j ≤ 4 := by omega
    clear hus eu hj hw
    go_wp2_with fail
    refine (NO.out _).mono ?_
    rintro e w2 ⟨rfl, e2⟩
    clear NO
    go_wp2_with fail
    go_ret
    refine ⟨_, rfl, ?_, xt e1 e2⟩
    have e3 : k - L = j := by have := HJ.out; omega
    simp [padT, HS.out, HU.out, HL.out, e3]
  · have hlt' : ¬ (L : Int) < (k : Int) := by omega
    have e3 : k - L = 0 := by omega
    go_wp2_with fail
    go_ret
    exact ⟨_, rfl, by simp [padT, HS.out, HL.out, e3], e1⟩

set_option maxRecDepth 4000 in
set_option maxHeartbeats 1000000 in
theorem digS_neg (n : Int) (w : World) (n0 : n < 0) (n1 : -5000 ≤ n) :
    Calls Tryz.prog 64 #[.int .i64 n, .int .i64 4] w fun e w' => ∃ s, e = .returned (.string s) ∧ Ext w w' := by
  go_enter Tryz.func64, Tryz.ntmps64
  go_wp2_with fail
  refine (num_neg n _ n0 (by omega)).mono ?_
  rintro e w1 ⟨t, rfl, e1⟩
  obtain ⟨L, hL⟩ : ∃ L, t.size = L := ⟨_, rfl⟩
  by_cases hlt : L < 4
  · have hlt' : (L : Int) < 4 := by omega
    obtain ⟨j, hj⟩ : ∃ j : Nat, 4 = L + j := ⟨4 - L, by omega⟩
    have hw : (j : Int) = 4 - (L : Int) := by omega
    have NO : Hid (∀ w : World, Calls Tryz.prog 77 #[.int .i64 j] w fun e w' => e = .returned (.string ⟨(List.replicate j (48 : UInt8)).toArray⟩) ∧ Ext w w') := fun w => nought_any j w (by omega)
    obtain ⟨u, eu⟩ : ∃ u : ByteArray, (⟨(List.replicate j (48 : UInt8)).toArray⟩ : ByteArray) = u := ⟨_, rfl⟩
    have hus : u.data.toList = List.replicate j 48 := by rw [← eu]
    have usz := size_ofL hus
    rw [List.length_replicate] at usz
    rw [eu, hw] at NO
    have jl : j ≤ 4 := by omega
    clear hus eu hj hw
    go_wp2_with fail
    refine (NO.out _).mono ?_
    rintro e w2 ⟨rfl, e2⟩
    clear NO
    go_wp2_with fail
    go_ret
    exact ⟨_, rfl, xt e1 e2⟩
  · have hlt' : ¬ (L : Int) < 4 := by omega
    go_wp2_with fail
    go_ret
    exact ⟨_, rfl, e1⟩

end Go.Proofs.YtmcmohooodpfeaaGreatDoor
