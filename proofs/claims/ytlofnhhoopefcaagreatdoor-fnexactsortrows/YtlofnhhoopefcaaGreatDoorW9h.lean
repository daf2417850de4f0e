/-
  The laws' marks: rows of values held against their marks; grids.
-/
import Derived.Test.YtlofnhhoopefcaaGreatDoorW9t
import Derived.Test.YtlofnhhoopefcaaGreatDoorMg25
namespace Go.Proofs.YtlofnhhoopefcaaGreatDoor
open Go.RowKit

theorem ext_grown {a b c : World} {r : Option Nat} (e : Ext a b) (h : b.grownBy c r) : a.grownBy c r :=
 ⟨h.os.trans e.os, h.tape.trans e.tape, h.output.trans e.output, Nat.le_trans e.size h.size, fun k hk hne => (h.block k (Nat.lt_of_lt_of_le hk e.size) hne).trans (e.block k hk)⟩
set_option maxRecDepth 8000 in
set_option maxHeartbeats 2000000 in
theorem markGridL (r c : Int) (v : Value) (n : Nat) (L : List Value) (k0 : Nat) (w : World) (h : RowAt w v n L) (hn : n ≤ 1048576) (k1 : 1 ≤ k0) (k2 : k0 ≤ 10000000) :
  Calls Tryz.prog 14 #[grV r c v, .int .i64 k0] w fun e w' => e = .returned (.int .i64 ((k0 + n * 5 : Nat) : Int)) ∧ (∃ M, RowAt w' v n M ∧ MarkedV M k0 n) ∧ w.grownBy w' (if n = 0 then none else v.ownBlock) := by
 have X := x1 w (.cells #[.int .i64 r, .int .i64 c, v] 32)
 have C := markVals v n L k0 _ (h.later X) hn k1 k2
 obtain ⟨m, hm⟩ : ∃ m : Nat, k0 + n * 5 = m := ⟨_, rfl⟩
 obtain ⟨row, hrow⟩ : ∃ q, (if n = 0 then none else v.ownBlock) = q := ⟨_, rfl⟩
 rw [hm, hrow] at C
 rw [hm, hrow]
 clear h hm hrow
 go_enter Tryz.func14, Tryz.ntmps14
 go_wp2_with fail
 refine C.mono ?_
 rintro e w1 ⟨rfl, hM, g1⟩
 have HM : Hid (∃ M, RowAt w1 v n M ∧ MarkedV M k0 n) := hM
 clear hM C
 go_wp2_with fail
 go_ret
 exact ⟨rfl, HM.out, ext_grown X g1⟩

end Go.Proofs.YtlofnhhoopefcaaGreatDoor

