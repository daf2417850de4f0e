/-
  Chapter 10: codes told, plain; the specification's pieces of a code.
-/
import Derived.Test.YthedbjjncnddbaaDoorKw
namespace Go.Proofs.YthedbjjncnddbaaDoor
open Go.RowKit

def repF (s : BL) : Nat → BL
  | 0 => []
  | n + 1 => repF s n ++ s
theorem repF_len (s : BL) (n : Nat) : (repF s n).length = n * s.length := by
  induction n with
  | zero => simp [repF]
  | succ n ih => simp [repF, ih, Nat.add_mul]
def quoB (s : BL) : BL := if s = [] then [] else 34 :: (s ++ [34])
def minI (a b : Int) : Int := if a < b then a else b
def numC (gr : Bool) (wh pl mb tm : Nat) (some : Bool) : BL := (if gr then [35, 44] else []) ++ repF [48] wh ++ (if some then 46 :: (repF [48] pl ++ repF [35] mb) else []) ++ repF [37] tm
/-- A format's code, as the specification tells it. -/
def codeS (f : KT) : BL := quoB f.bf ++ (if f.dt = [] then numC f.gr (minI f.wh 20).toNat (minI f.pl 20).toNat (minI f.mb 20).toNat (minI f.tm 20).toNat (decide (0 < wrap64 (f.pl + f.mb))) else f.dt) ++ quoB f.af

theorem minI_le (a b : Int) : minI a b ≤ b := by unfold minI; split <;> omega
set_option maxHeartbeats 1000000 in
theorem minS (a b : Int) (w : World) : Calls Tryd.prog 33 #[.int .i64 a, .int .i64 b] w fun e w' => e = .returned (.int .i64 (minI a b)) ∧ w' = w := by
  unfold minI
  by_cases h : a < b
  · rw [if_pos h]
    go_enter Tryd.func33, Tryd.ntmps33
    go_wp2_with fail
    go_ret
    exact ⟨rfl, rfl⟩
  · rw [if_neg h]
    go_enter Tryd.func33, Tryd.ntmps33
    go_wp2_with fail
    go_ret
    exact ⟨rfl, rfl⟩
theorem app_str (a b : BL) : (⟨a.toArray⟩ ++ ⟨b.toArray⟩ : ByteArray) = ⟨(a ++ b).toArray⟩ := by
  apply ByteArray.ext
  rw [ByteArray.data_append]
  apply Array.ext'
  simp
set_option maxRecDepth 8000 in
set_option maxHeartbeats 1000000 in
theorem repS (s : BL) (n : Int) (hs : s.length ≤ 1000) (hn : n ≤ 1000) (w : World) : Calls Tryd.prog 32 #[sV s, .int .i64 n] w fun e w' => e = .returned (sV (repF s n.toNat)) ∧ w' = w := by
  obtain ⟨m, hm⟩ : ∃ m, n.toNat = m := ⟨_, rfl⟩
  have hmn : m ≤ 1000 := by omega
  have HM : Hid (n.toNat = m) := hm
  rw [hm]
  clear hm
  go_enter Tryd.func32, Tryd.ntmps32
  go_wp2_with fail
  go_loopw [5, 6] (fun o i wr => ∃ k : Nat, k ≤ m ∧ i = .int .i64 k ∧ o = sV (repF s k) ∧ wr = w) (fun _ i _ => m - (intOf i).toNat)
  case atStart => exact ⟨0, by omega, rfl, rfl, rfl⟩
  case round =>
    obtain ⟨k, hk, rfl, rfl, rfl⟩ := hrel
    by_cases hlt : k < m
    · have i2 : (k : Int) < n := by have := HM.out; omega
      have hl1 := repF_len s k
      have hb : k * s.length ≤ 1000 * 1000 := Nat.mul_le_mul (by omega) hs
      have hz1 : (⟨(repF s k).toArray⟩ : ByteArray).size = (repF s k).length := rfl
      have hz2 : (⟨s.toArray⟩ : ByteArray).size = s.length := rfl
      have HA : Hid ((⟨(repF s k).toArray⟩ ++ ⟨s.toArray⟩ : ByteArray) = ⟨(repF s (k + 1)).toArray⟩) := app_str _ _
      have hss : (⟨(repF s k).toArray⟩ : ByteArray).size + (⟨s.toArray⟩ : ByteArray).size ≤ 9223372036854775807 := by rw [hz1, hz2]; omega
      clear hl1 hb hz1 hz2
      go_wp2_with fail
      go_roundw
      case rel => exact ⟨k + 1, by omega, by go_num, by rw [HA.out], trivial⟩
      case measure => simp [intOf]; omega
    · obtain rfl : k = m := by omega
      have i2 : n ≤ (k : Int) := by have := HM.out; omega
      go_wp2_with fail
      go_ret
      exact ⟨rfl, rfl⟩

end Go.Proofs.YthedbjjncnddbaaDoor
