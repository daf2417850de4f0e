/-
  The table of the powers of ten.
-/
import Derived.Test.YtbebmjiopijheaaDoorBase
namespace Go.Proofs.YtbebmjiopijheaaDoor
open Go.RowKit

/-- The table of the powers of ten lies as its initialiser lays it. -/
def Tens (w : World) : Prop := ∀ i : Nat, i < 20 → w.cell? ⟨0, i, none⟩ = some (.int .u64 ((10 ^ i : Nat) : Int))
theorem Tens.later {w w1 : World} (h : Tens w) (hb : Ext w w1) : Tens w1 := fun i hi => cell_later hb (h i hi)
theorem Tens.at15 {w : World} (h : Tens w) : w.cell? ⟨0, 15, none⟩ = some (.int .u64 1000000000000000) := h 15 (by decide)

end Go.Proofs.YtbebmjiopijheaaDoor

