/-
  Chapter 14: where a fault was met, by the program.
-/
import Derived.Test.YtkjbeciiecljgaaDoorRd12
namespace Go.Proofs.YtkjbeciiecljgaaDoor
open Go.RowKit

/-- What errors.As asks of its own variable. -/
def ErrT (w : World) : Prop := w.cell? ⟨6, 0, none⟩ = some (.iface 72 (.agg #[.pointer (some ⟨8, 34, none⟩)]))
set_option maxRecDepth 8000 in
set_option maxHeartbeats 1000000 in
theorem placeHit (ty : TypeId) (pv : Value) (n : Int) (w : World) (hg : ErrT w) :
    Calls Tryd.prog 13 #[.iface 47 (.agg #[.iface ty pv, .int .i64 n])] w fun e w' => e = .returned (.int .i64 n) ∧ Ext w w' := by
  have A0 := vec_made w [.nilIface, .int .i64 0] 47
  have X0 := x1 w (.cells #[.nilIface, .int .i64 0] 47)
  change Vec (w.alloc (.cells #[.nilIface, .int .i64 0] 47)) _ _ at A0
  have CA := asHit14 w.heap.size ty pv .nilIface (.int .i64 0) n (w.alloc (.cells #[.nilIface, .int .i64 0] 47)) (cell_later X0 hg) ⟨⟨(A0 0 _ rfl).1, (A0 1 _ rfl).1⟩, (A0 0 _ rfl).2, (A0 1 _ rfl).2⟩
  have HX : Hid (Ext w (w.alloc (.cells #[.nilIface, .int .i64 0] 47))) := X0
  clear A0 X0 hg
  go_enter Tryd.func13, Tryd.ntmps13
  go_wp2_with fail
  refine CA.mono ?_
  rintro _ w1 ⟨rfl, B1, S1⟩
  obtain ⟨⟨b0, b1⟩, f0, f1⟩ := B1
  have XF : Hid (Ext w w1) := Sole.ext HX.out S1 (Nat.le_refl _)
  clear CA S1
  go_wp2_with fail
  go_ret
  exact ⟨rfl, XF.out⟩
set_option maxRecDepth 8000 in
set_option maxHeartbeats 1000000 in
theorem placeMiss (pv : Value) (w : World) (hg : ErrT w) :
    Calls Tryd.prog 13 #[.iface 92 pv] w fun e w' => e = .returned (.int .i64 0) ∧ Ext w w' := by
  have A0 := vec_made w [.nilIface, .int .i64 0] 47
  have X0 := x1 w (.cells #[.nilIface, .int .i64 0] 47)
  change Vec (w.alloc (.cells #[.nilIface, .int .i64 0] 47)) _ _ at A0
  have CA := asMiss14 w.heap.size pv (w.alloc (.cells #[.nilIface, .int .i64 0] 47)) (cell_later X0 hg)
  have HX : Hid (Ext w (w.alloc (.cells #[.nilIface, .int .i64 0] 47))) := X0
  have HA : Hid (Vec (w.alloc (.cells #[.nilIface, .int .i64 0] 47)) w.heap.size [.nilIface, .int .i64 0]) := A0
  clear A0 X0 hg
  go_enter Tryd.func13, Tryd.ntmps13
  go_wp2_with fail
  refine CA.mono ?_
  rintro _ w1 ⟨rfl, e1⟩
  have b1 := (HA.out.later e1 1 _ rfl).1
  have XF : Hid (Ext w w1) := xt HX.out e1
  clear CA e1
  go_wp2_with fail
  go_ret
  exact ⟨rfl, XF.out⟩
end Go.Proofs.YtkjbeciiecljgaaDoor
