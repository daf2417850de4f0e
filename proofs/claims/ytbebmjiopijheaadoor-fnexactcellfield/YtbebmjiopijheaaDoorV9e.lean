/-
  Chapter 6: boxes made and filled, said once.
-/
import Derived.Test.YtbebmjiopijheaaDoorV6d
import Derived.Test.YtbebmjiopijheaaDoorBx
namespace Go.Proofs.YtbebmjiopijheaaDoor
open Go.RowKit

/-- The last store into an answer's cells. -/
theorem fin5 {a w : World} {b : Nat} (V : Vec w b (valL 0 false 0 0 [])) (X : Ext a w) (hb : a.heap.size ≤ b) (k : Int) (n : Bool) (d x : Int) (t : List UInt8) :
    ∃ wy, (((((w.setCell ⟨b, 0, none⟩ (.int .i64 k)).setCell ⟨b, 1, none⟩ (.bool n)).setCell ⟨b, 2, none⟩ (.int .i64 d)).setCell ⟨b, 3, none⟩ (.int .i64 x)).setCell ⟨b, 4, none⟩ (sV t)) = wy ∧ Ext a wy ∧ (w.cell? ⟨b, 0, none⟩ = some (.int .i64 0) ∧ w.cell? ⟨b, 1, none⟩ = some (.bool false) ∧ w.cell? ⟨b, 2, none⟩ = some (.int .i64 0) ∧ w.cell? ⟨b, 3, none⟩ = some (.int .i64 0) ∧ w.cell? ⟨b, 4, none⟩ = some (sV [])) ∧ (w.frozen? ⟨b, 0, none⟩ = false ∧ w.frozen? ⟨b, 1, none⟩ = false ∧ w.frozen? ⟨b, 2, none⟩ = false ∧ w.frozen? ⟨b, 3, none⟩ = false ∧ w.frozen? ⟨b, 4, none⟩ = false) ∧ wy.cell? ⟨b, 0, none⟩ = some (.int .i64 k) ∧ wy.cell? ⟨b, 1, none⟩ = some (.bool n) ∧ wy.cell? ⟨b, 2, none⟩ = some (.int .i64 d) ∧ wy.cell? ⟨b, 3, none⟩ = some (.int .i64 x) ∧ wy.cell? ⟨b, 4, none⟩ = some (sV t) := by
  have FG := V.put5 (.int .i64 k) (.bool n) (.int .i64 d) (.int .i64 x) (sV t)
  have FX := Ext.setL (b := b) hb [.int .i64 k, .bool n, .int .i64 d, .int .i64 x, sV t] 0 X
  exact ⟨_, rfl, FX, V.five, V.fiveF, FG.five⟩
/-- A box of a value made and filled. -/
theorem newB (w : World) (k : Int) (n : Bool) (d x : Int) (t : List UInt8) :
    ∃ wz wy, w.alloc (.cells #[.int .i64 0, .bool false, .int .i64 0, .int .i64 0, sV []] 30) = wz ∧ (((((wz.setCell ⟨w.heap.size, 0, none⟩ (.int .i64 k)).setCell ⟨w.heap.size, 1, none⟩ (.bool n)).setCell ⟨w.heap.size, 2, none⟩ (.int .i64 d)).setCell ⟨w.heap.size, 3, none⟩ (.int .i64 x)).setCell ⟨w.heap.size, 4, none⟩ (sV t)) = wy ∧ Vec wy w.heap.size (valL k n d x t) ∧ Ext w wy ∧ (wz.cell? ⟨w.heap.size, 0, none⟩ = some (.int .i64 0) ∧ wz.cell? ⟨w.heap.size, 1, none⟩ = some (.bool false) ∧ wz.cell? ⟨w.heap.size, 2, none⟩ = some (.int .i64 0) ∧ wz.cell? ⟨w.heap.size, 3, none⟩ = some (.int .i64 0) ∧ wz.cell? ⟨w.heap.size, 4, none⟩ = some (sV [])) ∧ wz.frozen? ⟨w.heap.size, 0, none⟩ = false ∧ wz.frozen? ⟨w.heap.size, 1, none⟩ = false ∧ wz.frozen? ⟨w.heap.size, 2, none⟩ = false ∧ wz.frozen? ⟨w.heap.size, 3, none⟩ = false ∧ wz.frozen? ⟨w.heap.size, 4, none⟩ = false := by
  have Z := vec_made w (valL 0 false 0 0 []) 30
  exact ⟨_, _, rfl, rfl, Z.put5 (.int .i64 k) (.bool n) (.int .i64 d) (.int .i64 x) (sV t), Ext.setL (b := w.heap.size) (Nat.le_refl _) [.int .i64 k, .bool n, .int .i64 d, .int .i64 x, sV t] 0 (x1 w _), Z.five, Z.fiveF⟩

end Go.Proofs.YtbebmjiopijheaaDoor

