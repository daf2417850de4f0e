/-
  Rows measured: Change.
-/
import Derived.Test.YtbpnamobifbgpaaH1b
import Derived.Deep.RegionHeld3
namespace Go.Proofs.Ytbpnamobifbgpaa
open Go.RowKit

set_option maxHeartbeats 1000000 in
theorem szChange (r : Int) (c : Int) (t : List UInt8) (m : Int) (w : World) (h0 : 0 ≤ m) (h1 : m ≤ 1048576) (hl : (t.length : Int) ≤ 9223372036854775807) :
    Calls Try.prog 8 #[changeV r c t, .int .i64 m] w fun e w' => e = .returned (.int .i64 (if m < t.length then -1 else m - t.length)) ∧ Ext w w' := by
  have X0 := x1 w (.cells #[.int .i64 r, .int .i64 c, sV t] 23)
  obtain ⟨L, hL⟩ : ∃ L, t.length = L := ⟨_, rfl⟩
  have hs : (⟨t.toArray⟩ : ByteArray).size = L := hL
  rw [hL] at hl ⊢
  clear hL
  by_cases hm : m < L
  · rw [if_pos hm]
    go_enter Try.func8, Try.ntmps8
    go_wp2_with fail
    go_ret
    exact ⟨rfl, X0⟩
  · rw [if_neg hm]
    go_enter Try.func8, Try.ntmps8
    go_wp2_with fail
    go_ret
    exact ⟨ret_int (by first | rfl | omega), X0⟩


end Go.Proofs.Ytbpnamobifbgpaa
