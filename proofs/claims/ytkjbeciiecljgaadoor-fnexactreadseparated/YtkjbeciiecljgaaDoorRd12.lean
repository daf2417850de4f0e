/-
  Chapter 14: errors.As at an error that is no fault of a place.
-/
import Derived.Test.YtkjbeciiecljgaaDoorRd11
namespace Go.Proofs.YtkjbeciiecljgaaDoor
open Go.RowKit Go.Extern.Stop Go.Stop Go.Extern

theorem aNoAs (v : Value) (xT : TypeId) (w : World) : (Instr.typeAssert (.iface 92 v) xT 84 true).run Tryd.prog w = .ok (.tuple #[.nilIface, .bool false]) w := run_typeAssert_lacksB Tryd.underlying84 (by kernel_rfl) (by kernel_rfl) v xT w
set_option maxRecDepth 8000 in
set_option maxHeartbeats 4000000 in
theorem asMiss14 (tb : Nat) (pv : Value) (w : World) (hg : w.cell? ⟨6, 0, none⟩ = some (.iface 72 (.agg #[.pointer (some ⟨8, 34, none⟩)]))) :
    Calls Tryd.prog 21 #[.iface 92 pv, .iface 49 (.pointer (some ⟨tb, 0, none⟩))] w fun e w' => e = .returned (.bool false) ∧ Ext w w' := by
  have h6 := @run_callFunc_extern Tryd.prog 29 _ (fun args => ReflectliteValue.unpack (args.getD 0 (.tuple #[]))) Tryd.func29 (by kernel_rfl) (by kernel_rfl) (by kernel_rfl) (by kernel_rfl)
  have h7 := @run_callFunc_extern Tryd.prog 30 _ (ReflectliteValue.methodAny (ReflectliteValue.valueError "reflectlite.Value.Type" 0) (fun t _ _ _ => ReflectliteType.toType t)) Tryd.func30 (by kernel_rfl) (by kernel_rfl) (by kernel_rfl) (by kernel_rfl)
  have h8 := @run_callFunc_extern Tryd.prog 31 _ (ReflectliteValue.method (ReflectliteValue.valueError "reflectlite.Value.IsNil" 0) ReflectliteValue.isNil) Tryd.func31 (by kernel_rfl) (by kernel_rfl) (by kernel_rfl) (by kernel_rfl)
  have h27 := @run_callFunc_extern Tryd.prog 61 _ (ReflectliteType.abiMethod fun t => do pure (.int .u8 (← Rtype.kind t))) Tryd.func61 (by kernel_rfl) (by kernel_rfl) (by kernel_rfl) (by kernel_rfl)
  have h37 := @run_callFunc_extern Tryd.prog 71 _ (ReflectliteType.method ReflectliteType.elem) Tryd.func71 (by kernel_rfl) (by kernel_rfl) (by kernel_rfl) (by kernel_rfl)
  have h38 := @run_callFunc_extern Tryd.prog 72 _ (ReflectliteType.relation "Implements" ReflectliteType.implements_) Tryd.func72 (by kernel_rfl) (by kernel_rfl) (by kernel_rfl) (by kernel_rfl)
  have h10 := @run_callFunc_extern Tryd.prog 27 _ ReflectliteType.typeOf Tryd.func27 (by kernel_rfl) (by kernel_rfl) (by kernel_rfl) (by kernel_rfl)
  have h35 := @run_callFunc_extern Tryd.prog 69 _ (ReflectliteType.relation "AssignableTo" ReflectliteType.assignableTo) Tryd.func69 (by kernel_rfl) (by kernel_rfl) (by kernel_rfl) (by kernel_rfl)
  have q1 := rIsTypeOf
  have q2 := aMethodAssign
  have q3 := aAssignE
  have q4 := aNoAs
  have uE := rNoUnE
  have vE := rNoUnsE
  have q5 := aValueOfP
  have q6 := aTypeP
  have q7 := aMethodKind
  have q8 := aMethodElem
  have q9 := aMethodImpl
  have q10 := aKindP
  have q11 := aKindS
  have q12 := aElemP
  have q13 := aImplS
  have E1 := x1 w (.cells #[.pointer (some ⟨tb, 0, none⟩)] 49)
  have C1 : (w.alloc (.cells #[.pointer (some ⟨tb, 0, none⟩)] 49)).cell? ⟨w.heap.size, 0, none⟩ = some (.pointer (some ⟨tb, 0, none⟩)) := by simp
  obtain ⟨W1, hW1⟩ : ∃ W, w.alloc (.cells #[.pointer (some ⟨tb, 0, none⟩)] 49) = W := ⟨_, rfl⟩
  have Z1 : W1.heap.size = w.heap.size + 1 := by rw [← hW1]; simp
  have q5 := q5 ⟨tb, 0, none⟩ w
  rw [hW1] at E1 C1 q5
  have E2 := x1 W1 (.cells #[.pointer (some ⟨8, 49, none⟩), .pointer (some ⟨w.heap.size, 0, none⟩), .int .u64 150] 63)
  have hg2 := cell_later (xt E1 E2) hg
  have n8 := aIsNil ⟨w.heap.size, 0, none⟩ ⟨tb, 0, none⟩ _ (cell_later E2 C1)
  have E3 := x1 (W1.alloc (.cells #[.pointer (some ⟨8, 49, none⟩), .pointer (some ⟨w.heap.size, 0, none⟩), .int .u64 150] 63)) (.cells #[.pointer (some ⟨8, 49, none⟩), .pointer (some ⟨w.heap.size, 0, none⟩), .int .u64 150] 63)
  have XX := xt (xt E1 E2) E3
  go_enter Tryd.func21, Tryd.ntmps21
  go_wp2
  refine wp_loop_rounds 1 ?_
  rw [rounds_succ]
  go_wp2
  go_ret
  exact ⟨rfl, XX⟩
end Go.Proofs.YtkjbeciiecljgaaDoor
