/-
  Chapter 14: which fault it is, by the program.
-/
import Derived.Test.YtkjbeciiecljgaaDoorRd8
import Derived.Deep.RegionWith
namespace Go.Proofs.YtkjbeciiecljgaaDoor
open Go.RowKit

/-- Three of the program's faults: their variables, and where they lie. -/
structure Sen (w : World) (a1 a2 a3 : Addr) : Prop where
  v1 : w.cell? ⟨1, 0, none⟩ = some (.iface 92 (.pointer (some a1)))
  v2 : w.cell? ⟨2, 0, none⟩ = some (.iface 92 (.pointer (some a2)))
  v3 : w.cell? ⟨0, 0, none⟩ = some (.iface 92 (.pointer (some a3)))
  n12 : a1 ≠ a2
  n13 : a1 ≠ a3
  n23 : a2 ≠ a3
  l1 : ∃ ca ta, w.heap[a1.block]? = some (.cells ca ta (0, 0))
  l2 : ∃ ca ta, w.heap[a2.block]? = some (.cells ca ta (0, 0))
  l3 : ∃ ca ta, w.heap[a3.block]? = some (.cells ca ta (0, 0))
theorem Sen.later {w w' : World} {a1 a2 a3 : Addr} (h : Sen w a1 a2 a3) (x : Ext w w') : Sen w' a1 a2 a3 := by
  obtain ⟨_, _, l1⟩ := h.l1
  obtain ⟨_, _, l2⟩ := h.l2
  obtain ⟨_, _, l3⟩ := h.l3
  exact ⟨cell_later x h.v1, cell_later x h.v2, cell_later x h.v3, h.n12, h.n13, h.n23, ⟨_, _, heap_later x l1⟩, ⟨_, _, heap_later x l2⟩, ⟨_, _, heap_later x l3⟩⟩
set_option maxRecDepth 8000 in
set_option maxHeartbeats 2000000 in
theorem errShort14 (a1 a2 a3 : Addr) (n : Int) (w : World) (h : Sen w a1 a2 a3) :
    Calls Tryd.prog 12 #[.iface 47 (.agg #[.iface 92 (.pointer (some a1)), .int .i64 n])] w fun e w' => e = .returned (.int .i64 1) ∧ Ext w w' := by
  have C1 := fun W => isWrap14 a1 n W
  have v1 := h.v1
  go_enter Tryd.func12, Tryd.ntmps12
  go_wp2_with fail
  refine (C1 _).mono ?_
  rintro _ w1 ⟨rfl, e1⟩
  go_wp2_with fail
  go_ret
  exact ⟨rfl, e1⟩
set_option maxRecDepth 8000 in
set_option maxHeartbeats 2000000 in
theorem errCode14 (a1 a2 a3 : Addr) (n : Int) (w : World) (h : Sen w a1 a2 a3) :
    Calls Tryd.prog 12 #[.iface 47 (.agg #[.iface 92 (.pointer (some a2)), .int .i64 n])] w fun e w' => e = .returned (.int .i64 2) ∧ Ext w w' := by
  have C1 : Calls Tryd.prog 20 #[.iface 47 (.agg #[.iface 92 (.pointer (some a2)), .int .i64 n]), .iface 92 (.pointer (some a1))] w fun e w' => e = .returned (.bool false) ∧ Ext w w' := by
    obtain ⟨_, _, l1⟩ := h.l1
    obtain ⟨_, _, l2⟩ := h.l2
    exact isWrapOther14 a2 a1 n _ _ _ _ w h.n12.symm l2 l1
  have C2 := fun W => isWrap14 a2 n W
  have v1 := h.v1
  have HS : Hid (Sen w a1 a2 a3) := h
  clear h
  go_enter Tryd.func12, Tryd.ntmps12
  go_wp2_with fail
  refine C1.mono ?_
  rintro _ w1 ⟨rfl, e1⟩
  have v2 := (HS.out.later e1).v2
  go_wp2_with fail
  refine (C2 _).mono ?_
  rintro _ w2 ⟨rfl, e2⟩
  go_wp2_with fail
  go_ret
  exact ⟨rfl, xt e1 e2⟩
set_option maxRecDepth 8000 in
set_option maxHeartbeats 2000000 in
theorem errRange14 (a1 a2 a3 : Addr) (w : World) (h : Sen w a1 a2 a3) :
    Calls Tryd.prog 12 #[.iface 92 (.pointer (some a3))] w fun e w' => e = .returned (.int .i64 3) ∧ Ext w w' := by
  have C1 : Calls Tryd.prog 20 #[.iface 92 (.pointer (some a3)), .iface 92 (.pointer (some a1))] w fun e w' => e = .returned (.bool false) ∧ w' = w := by
    obtain ⟨_, _, l1⟩ := h.l1
    obtain ⟨_, _, l3⟩ := h.l3
    exact isOther14 a3 a1 _ _ _ _ w h.n13.symm l3 l1
  have C2 : Calls Tryd.prog 20 #[.iface 92 (.pointer (some a3)), .iface 92 (.pointer (some a2))] w fun e w' => e = .returned (.bool false) ∧ w' = w := by
    obtain ⟨_, _, l2⟩ := h.l2
    obtain ⟨_, _, l3⟩ := h.l3
    exact isOther14 a3 a2 _ _ _ _ w h.n23.symm l3 l2
  have C3 := isSame14 a3 w
  have v1 := h.v1
  have v2 := h.v2
  have v3 := h.v3
  clear h
  go_enter Tryd.func12, Tryd.ntmps12
  go_wp2_with fail
  refine C1.mono ?_
  rintro _ w1 ⟨rfl, rfl⟩
  go_wp2_with fail
  refine C2.mono ?_
  rintro _ w2 ⟨rfl, rfl⟩
  go_wp2_with fail
  refine C3.mono ?_
  rintro _ w3 ⟨rfl, rfl⟩
  go_wp2_with fail
  go_ret
  exact ⟨rfl, xr _⟩
end Go.Proofs.YtkjbeciiecljgaaDoor
