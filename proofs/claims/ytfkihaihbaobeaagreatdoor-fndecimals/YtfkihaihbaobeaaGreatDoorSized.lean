/-
  l1Sized, and the specification's DecCmp.
-/
import Derived.Test.YtfkihaihbaobeaaGreatDoorCmp
import Derived.Test.YtfkihaihbaobeaaGreatDoorMg9
import Derived.Test.YtfkihaihbaobeaaGreatDoorMg0
namespace Go.Proofs.YtfkihaihbaobeaaGreatDoor
open Go.RowKit

theorem ten_int (n : Int) (w : World) (h0 : 0 ≤ n) (hn : n ≤ 1000000) :
    Calls Tryz.prog 41 #[.int .i64 n] w fun e w' => ∃ v', e = .returned v' ∧ ZV w' v' (10 ^ n.toNat) ∧ Ext w w' := by
  obtain ⟨m, rfl⟩ := Int.eq_ofNat_of_zero_le h0
  rw [Int.toNat_natCast]
  exact ten_any m w (by omega)

theorem fit_dec {neg : Bool} {d : Int} (k : Nat) (hk : 2 ≤ k) (h0 : 0 ≤ d) (h1 : d < 1000000000000000000) : ((sgn neg d).natAbs : Int) < 1000000000 ^ k := by
  have h2 : (1000000000 : Int) ^ 2 ≤ 1000000000 ^ k := pow_le_pow hk
  have e : (1000000000 : Int) ^ 2 = 1000000000000000000 := by decide
  cases neg <;> simp [sgn] <;> omega
theorem fit_ten {n : Int} (k : Nat) (hk : n.toNat + 1 ≤ k) : (((10 : Int) ^ n.toNat).natAbs : Int) < 1000000000 ^ k := by
  have := ten_fit n.toNat
  have := pow_le_pow hk
  omega

/-- A good decimal's bounds. -/
theorem good_bd {neg : Bool} {d x : Int} (h : goodB neg d x = true) : 0 ≤ d ∧ d < 1000000000000000 ∧ -300 ≤ x ∧ x ≤ 300 := by
  unfold goodB at h
  by_cases hd : d = 0
  · rw [if_pos hd] at h
    simp at h
    omega
  · rw [if_neg hd] at h
    simp at h
    omega

/-- What DecCmp answers. -/
def cmpDec (na : Bool) (da xa : Int) (nb : Bool) (db xb : Int) : Int :=
  if goodB na da xa && goodB nb db xb then cmpI (sgn na da * 10 ^ (xa - min xa xb).toNat) (sgn nb db * 10 ^ (xb - min xa xb).toNat) else -2

theorem good_is (c : Bool) (neg : Bool) (d x : Int) (w : World) (h : goodB neg d x = c) :
    Calls Tryz.prog 10 #[.agg #[.bool neg, .int .i64 d, .int .i64 x]] w fun e w' => e = .returned (.bool c) ∧ Ext w w' := by
  rw [← h]; exact goodS neg d x w
theorem goodI_is (c : Bool) (neg : Bool) (d x : Int) (w : World) (h1 : -9223372036854775808 ≤ d) (h2 : d ≤ 9223372036854775807) (hT : Tens w) (h : goodB neg d x = c) :
    Calls Tryz.prog 17 #[.agg #[.bool neg, .int .i64 d, .int .i64 x]] w fun e w' => e = .returned (.bool c) ∧ Ext w w' := by
  rw [← h]; exact goodI neg d x w h1 h2 hT

end Go.Proofs.YtfkihaihbaobeaaGreatDoor

