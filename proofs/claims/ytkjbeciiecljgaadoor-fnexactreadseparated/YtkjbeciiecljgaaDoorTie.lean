/-
  DERIVED. GIVEN WITH THE SEED: THE PROGRAM's TIES (one call each: nine closed facts by the kernel) AND EACH ROW's TIE, after the 31st guide's Derived/Test/Toyas{Tie, Card}.lean. No idea stands in it: it is a product of the set-up. Laid BY PROGRAM, IN A SANDBOX (cutbox-door.mjs). By AI agents, Wed Nov 11 2026. No macro, syntax, notation, axiom, sorry.
-/
import Derived.Test.YtkjbeciiecljgaaDoorRows
import Derived.LaidByTextLater
import Derived.SevenTiedAt
import Derived.LaidSub
import Derived.LaidOnce
namespace Go.Proofs.YtkjbeciiecljgaaDoor
open Go
set_option maxRecDepth 100000
theorem seatTie1 : Tryd.prog.laidByTextLater [("errors.errorType", Rows.laid_errors_errorType), ("loop.example/g00025/impl.errFileShort", Rows.laid_loop_example_g00025_impl_errFileShort), ("loop.example/g00025/impl.errFileCode", Rows.laid_loop_example_g00025_impl_errFileCode), ("loop.example/g00025/impl.errFileRange", Rows.laid_loop_example_g00025_impl_errFileRange), ("loop.example/g00025/impl.errFileOrder", Rows.laid_loop_example_g00025_impl_errFileOrder), ("loop.example/g00025/impl.errFileSum", Rows.laid_loop_example_g00025_impl_errFileSum), ("loop.example/g00025/impl.errFileMore", Rows.laid_loop_example_g00025_impl_errFileMore)] [.handle, .sentinel, .sentinel, .sentinel, .sentinel, .sentinel, .sentinel] true :=
  Program.laidByTextLater_by_one 130 8 2 (by kernel_rfl) (by kernel_rfl) (by kernel_rfl) (by kernel_rfl) (by kernel_rfl) (by kernel_rfl) (fun _ _ => by kernel_rfl)
theorem noOwnUnsafe : Tryd.pinned.checked.prog.headLifts.contains "ownunsafe" = false := by kernel_rfl
theorem tie : Tryd.prog.laidByTextLater [("errors.errorType", Rows.laid_errors_errorType), ("loop.example/g00025/impl.errFileShort", Rows.laid_loop_example_g00025_impl_errFileShort), ("loop.example/g00025/impl.errFileCode", Rows.laid_loop_example_g00025_impl_errFileCode), ("loop.example/g00025/impl.errFileRange", Rows.laid_loop_example_g00025_impl_errFileRange), ("loop.example/g00025/impl.errFileOrder", Rows.laid_loop_example_g00025_impl_errFileOrder), ("loop.example/g00025/impl.errFileSum", Rows.laid_loop_example_g00025_impl_errFileSum), ("loop.example/g00025/impl.errFileMore", Rows.laid_loop_example_g00025_impl_errFileMore)] [.handle, .sentinel, .sentinel, .sentinel, .sentinel, .sentinel, .sentinel] true :=
  Program.laidByTextLater.sub seatTie1 ["errors.errorType", "loop.example/g00025/impl.errFileShort", "loop.example/g00025/impl.errFileCode", "loop.example/g00025/impl.errFileRange", "loop.example/g00025/impl.errFileOrder", "loop.example/g00025/impl.errFileSum", "loop.example/g00025/impl.errFileMore"] (by kernel_rfl) (by kernel_rfl)
theorem fnExactReadSeparated_row_tie : Rows.fnExactReadSeparatedRow.laidByTextAt .later Tryd.pinned [.handle, .sentinel, .sentinel, .sentinel, .sentinel, .sentinel, .sentinel] true :=
  OpenClaim.laidByTextAt_later rfl rfl tie noOwnUnsafe
theorem fnExactReadSeparatedUpto_row_tie : Rows.fnExactReadSeparatedUptoRow.laidByTextAt .later Tryd.pinned [.handle, .sentinel, .sentinel, .sentinel, .sentinel, .sentinel, .sentinel] true :=
  OpenClaim.laidByTextAt_later rfl rfl tie noOwnUnsafe
end Go.Proofs.YtkjbeciiecljgaaDoor
