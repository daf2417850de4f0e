/-
  The program's numbers of two words: the calls on them.
-/
import Derived.Test.YtkadkfmidlhedaaGreatDoorMg3
import Derived.Shelf.Bits.Mul64
import Derived.Deep.QuietTactic
import Derived.BigQuiet
import Derived.Deep.RegionWith
namespace Go.Proofs.YtkadkfmidlhedaaGreatDoor
open Go.RowKit

set_option maxHeartbeats 1000000 in
theorem mul64_any (x y : Nat) (hx : x < 18446744073709551616) (hy : y < 18446744073709551616) (w : World) :
    Calls Tryz.prog 222 #[.int .u64 x, .int .u64 y] w fun e w' => ∃ h l : Nat, e = .returned (.tuple #[.int .u64 h, .int .u64 l]) ∧ w' = w ∧ h < 18446744073709551616 ∧ l < 18446744073709551616 ∧ h * 18446744073709551616 + l = x * y := by
  obtain ⟨bd, bt, bw, hhi⟩ := Lib.mul64_hi x y hx hy
  have ba := Lib.half_mul_le (a := x / 4294967296) (b := y / 4294967296) (by omega) (by omega)
  have bb := Lib.half_mul_le (a := x / 4294967296) (b := y % 4294967296) (by omega) (by omega)
  have bc := Lib.half_mul_le (a := x % 4294967296) (b := y / 4294967296) (by omega) (by omega)
  have ba' : x / 4294967296 * (y / 4294967296) < 18446744073709551616 := by omega
  have bb' : x / 4294967296 * (y % 4294967296) < 18446744073709551616 := by omega
  have bc' : x % 4294967296 * (y / 4294967296) < 18446744073709551616 := by omega
  have hlt : x * y < 18446744073709551616 * 18446744073709551616 := Nat.mul_lt_mul'' hx hy
  have hq : x * y / 18446744073709551616 < 18446744073709551616 := Nat.div_lt_of_lt_mul hlt
  have bh1 : x / 4294967296 * (y / 4294967296) + (x / 4294967296 * (y % 4294967296) + x % 4294967296 * (y % 4294967296) / 4294967296) / 4294967296 < 18446744073709551616 := by omega
  have bh : x / 4294967296 * (y / 4294967296) + (x / 4294967296 * (y % 4294967296) + x % 4294967296 * (y % 4294967296) / 4294967296) / 4294967296 + ((x / 4294967296 * (y % 4294967296) + x % 4294967296 * (y % 4294967296) / 4294967296) % 4294967296 + x % 4294967296 * (y / 4294967296)) / 4294967296 < 18446744073709551616 := by omega
  have hc : (x * y / 18446744073709551616) * 18446744073709551616 + x * y % 18446744073709551616 = x * y := Nat.div_add_mod' _ _
  have HC : Hid ((x * y / 18446744073709551616) * 18446744073709551616 + x * y % 18446744073709551616 = x * y) := hc
  have HQ : Hid (x * y / 18446744073709551616 < 18446744073709551616) := hq
  have HH := hhi
  have HHI : Hid (x / 4294967296 * (y / 4294967296) + (x / 4294967296 * (y % 4294967296) + x % 4294967296 * (y % 4294967296) / 4294967296) / 4294967296 + ((x / 4294967296 * (y % 4294967296) + x % 4294967296 * (y % 4294967296) / 4294967296) % 4294967296 + x % 4294967296 * (y / 4294967296)) / 4294967296 = x * y / 18446744073709551616) := hhi
  clear hc hq hlt hhi HH
  go_enter Tryz.func222, Tryz.ntmps222
  go_wp2
  simp only [Mul64.maskN x hx, Mul64.maskN y hy, Mul64.divN, Mul64.mulN, Mul64.addN, Mul64.wrapN _ bd, Mul64.wrapN _ bb', Mul64.wrapN _ bt, Mul64.maskN _ bt, Mul64.wrapN _ bc', Mul64.wrapN _ bw, Mul64.wrapN _ ba', Mul64.wrapN _ bh1, Mul64.wrapN _ bh, Mul64.wrapM (x * y)]
  rw [HHI.out]
  go_ret2
  exact ⟨_, _, rfl, rfl, HQ.out, Nat.mod_lt _ (by decide), HC.out⟩

/-- A number of two words as a value. -/
def WV (v : Value) (n : Nat) : Prop := ∃ h l : Nat, v = .agg #[.int .u64 h, .int .u64 l] ∧ h < 18446744073709551616 ∧ l < 18446744073709551616 ∧ h * 18446744073709551616 + l = n

set_option maxHeartbeats 1000000 in
theorem product_any (x y : Nat) (hx : x < 18446744073709551616) (hy : y < 18446744073709551616) (w : World) :
    Calls Tryz.prog 191 #[.int .u64 x, .int .u64 y] w fun e w' => ∃ v, e = .returned v ∧ WV v (x * y) ∧ Ext w w' := by
  go_enter Tryz.func191, Tryz.ntmps191
  go_wp2_with fail
  refine (mul64_any x y hx hy _).mono ?_
  rintro e w1 ⟨h, l, rfl, rfl, h1, h2, h3⟩
  have H3 : Hid (h * 18446744073709551616 + l = x * y) := h3
  clear h3
  go_wp2
  exact bodyPost_ret (v := .agg #[.int .u64 h, .int .u64 l]) (by simp [results, Tryz.results191, go_sem]) rfl ⟨_, rfl, ⟨h, l, rfl, h1, h2, H3.out⟩, x1 _ _⟩

theorem wv_lt {a b h l h' l' : Nat} (h2 : l < 18446744073709551616) (e : h * 18446744073709551616 + l = a) (h2' : l' < 18446744073709551616) (e' : h' * 18446744073709551616 + l' = b) : a < b ↔ h < h' ∨ h = h' ∧ l < l' := by omega

set_option maxHeartbeats 1000000 in
theorem less_any {v u : Value} {a b : Nat} (w : World) (hv : WV v a) (hu : WV u b) :
    Calls Tryz.prog 178 #[v, u] w fun e w' => e = .returned (.bool (decide (a < b))) ∧ Ext w w' := by
  obtain ⟨h, l, rfl, h1, h2, e1⟩ := hv
  obtain ⟨h', l', rfl, h1', h2', e2⟩ := hu
  have E := wv_lt h2 e1 h2' e2
  have HE : Hid (a < b ↔ h < h' ∨ h = h' ∧ l < l') := E
  clear E e1 e2
  go_enter Tryz.func178, Tryz.ntmps178
  go_wp2
  all_goals go_ret
  all_goals refine ⟨ret_bool ?_, xa (x1 _ _) _⟩
  all_goals rw [Bool.eq_iff_iff]
  all_goals simp [HE.out]
  all_goals omega

theorem Tens.at {w : World} (h : Tens w) {i : Nat} (hi : i < 20) : ∃ t : Nat, 10 ^ i = t ∧ t < 18446744073709551616 ∧ w.cell? ⟨2, i, none⟩ = some (.int .u64 t) := by
  refine ⟨10 ^ i, rfl, ?_, h i hi⟩
  have : 10 ^ i ≤ 10 ^ 19 := Nat.pow_le_pow_right (by decide) (by omega)
  have e : (10 : Nat) ^ 19 = 10000000000000000000 := by decide
  omega

set_option maxHeartbeats 1000000 in
theorem sizeOf_any (neg : Bool) (d : Nat) (x : Int) (w : World) (hd : d < 1000000000000000) :
    Calls Tryz.prog 130 #[.agg #[.bool neg, .int .i64 d, .int .i64 x]] w fun e w' => ∃ v, e = .returned v ∧ WV v d ∧ Ext w w' := by
  go_enter Tryz.func130, Tryz.ntmps130
  go_wp2
  exact bodyPost_ret (v := .agg #[.int .u64 (0 : Nat), .int .u64 d]) (by simp [results, Tryz.results130, go_sem]) rfl ⟨_, rfl, ⟨0, d, rfl, by omega, by omega, by omega⟩, xa (x1 _ _) _⟩

end Go.Proofs.YtkadkfmidlhedaaGreatDoor

