/-
  l1Nought.
-/
import Derived.Test.YtbebmjiopijheaaDoorText
import Derived.Test.YtbebmjiopijheaaDoorMul
namespace Go.Proofs.YtbebmjiopijheaaDoor
open Go.RowKit

set_option maxRecDepth 4000 in
set_option maxHeartbeats 1000000 in
theorem nought_any (n : Nat) (w : World) (hn : n ≤ 1000000) :
    Calls Tryd.prog 52 #[.int .i64 n] w fun e w' => e = .returned (.string ⟨(List.replicate n (48 : UInt8)).toArray⟩) ∧ Ext w w' := by
  have hmk := run_make_row' (P := Tryd.prog) 37 5 (.int .u8 0) 1 Tryd.underlying37 info8 rfl .i64 .i64 n (by omega) (by omega)
  go_enter Tryd.func52, Tryd.ntmps52
  go_wp2_with fail
  go_loopw [9] (fun i wr => ∃ m : Nat, m ≤ n ∧ i = .int .i64 m ∧ wr.rowIs w.heap.size 5 n (fun j => .int .u8 (if j < m then 48 else 0)) ∧ Ext w wr) (fun i _ => n - (intOf i).toNat)
  case atStart => exact ⟨0, Nat.zero_le _, rfl, (World.rowIs_made w (.int .u8 0) n 5).congr (fun i _ => by simp), x1 _ _⟩
  case round =>
    obtain ⟨m, hm, rfl, hR, X⟩ := hrel
    by_cases hlt : m < n
    · have hlt' : (m : Int) < (n : Int) := by omega
      have kz := World.rowIs.frozen hR m
      have kf := World.rowIs.cell hR (i := m) hlt
      have HR : Hid (wr.rowIs w.heap.size 5 n (fun j => .int .u8 (if j < m then 48 else 0))) := hR
      rw [if_neg (Nat.lt_irrefl _)] at kf
      clear hR hmk
      go_wp2_with fail
      go_roundw
      case rel =>
        refine ⟨m + 1, by omega, by go_num, (World.rowIs.set HR.out m (.int .u8 48)).congr (fun j _ => ?_), xset X (Nat.le_refl _) _⟩
        by_cases hj : j = m
        · subst hj; simp
        · simp only [hj, if_false]
          by_cases h2 : j < m
          · simp [h2, show j < m + 1 by omega]
          · simp [h2, show ¬ j < m + 1 by omega]
      case measure => simp [intOf]; omega
    · obtain rfl : m = n := by omega
      have hcv := run_convert_bytes_back (P := Tryd.prog) wr 37 9 5 ⟨w.heap.size, 0, none⟩ m (List.replicate m (48 : UInt8)) Tryd.underlying37 Tryd.underlying5 Tryd.underlying9 (fun j hj => by
        have hj' : j < m := by simpa using hj
        have := World.rowIs.cell hR (i := j) hj'
        rw [Addr.add_lit, Nat.zero_add, this, if_pos hj']
        simp)
      rw [List.length_replicate] at hcv
      clear hR hmk hlt
      go_wp2
      go_ret
      exact ⟨rfl, X⟩

end Go.Proofs.YtbebmjiopijheaaDoor

