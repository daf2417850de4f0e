/-
  FnDays at all bytes.
-/
import Derived.Test.YtmcmohooodpfeaaGreatDoorFdLaw
namespace Go.Proofs.YtmcmohooodpfeaaGreatDoor
open Go.RowKit

set_option maxRecDepth 8000 in
set_option maxHeartbeats 1000000 in
theorem lawDays_big (p : Option Addr) (n cap : Nat) (w : World) (hb : ¬ n ≤ 1048576) :
    Calls Tryz.prog 3 #[.slice p n cap] w fun e w' => e = .returned (.bool true) ∧ Ext w w' := by
  have fl : decide ((n : Int) > 1048576) = true := by simp; omega
  go_enter Tryz.func3, Tryz.ntmps3
  go_wp2_with fail
  go_ret
  exact ⟨rfl, xr _⟩
theorem lawDays (v : Value) (n : Nat) (w : World) (hc : CodeIn w w.heap.size v n) (LW : LibW w) (hM : Months w) (hC : Cals w) (IT : ItoaC w) :
    Calls Tryz.prog 3 #[v] w fun e w' => e = .returned (.bool true) ∧ Ext w w' := by
  have hv : ∃ p cap, v = .slice p n cap := by
    rcases hc with ⟨⟨p, cap, h⟩, rfl⟩ | ⟨pb, po, cap, _, h, _⟩
    · exact ⟨p, cap, h⟩
    · exact ⟨_, cap, h⟩
  obtain ⟨p, cap, rfl⟩ := hv
  by_cases hb : n ≤ 1048576
  · exact lawDays_p p n cap w hc hb LW hM hC IT
  · exact lawDays_big p n cap w hb

end Go.Proofs.YtmcmohooodpfeaaGreatDoor
