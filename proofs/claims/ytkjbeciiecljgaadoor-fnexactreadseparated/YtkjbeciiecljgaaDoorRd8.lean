/-
  Chapter 14: errors.Is, over this program's faults.
-/
import Derived.Test.YtkjbeciiecljgaaDoorRd7
import Derived.WalkKit
import Derived.LaidEql
import Derived.Stop.Asserts
import Derived.RowKitTokens
namespace Go.Proofs.YtkjbeciiecljgaaDoor
open Go.RowKit Go.Extern.Stop Go.Stop Go.Extern

theorem rIsTypeOf (v : Value) (w : World) : (Extern.ReflectliteType.typeOf #[.iface 92 v]).run Tryd.prog w = .ok (.iface 72 (.agg #[.pointer (some ⟨8, 92, none⟩)])) w := by kernel_rfl
theorem rComparable (w : World) : (Extern.ReflectliteType.method (fun t => do Extern.Rtype.noPackHeld "Comparable" t; pure (.bool (← typeInfo t).comparable)) #[.agg #[.pointer (some ⟨8, 92, none⟩)]]).run Tryd.prog w = .ok (.bool true) w := by kernel_rfl
theorem rCallC (w : World) : (callFunc 70 #[.agg #[.pointer (some ⟨8, 92, none⟩)]]).run Tryd.prog w = .ok (.value (.bool true)) w := by
  rw [@run_callFunc_extern Tryd.prog 70 _ (Extern.ReflectliteType.method (fun t => do Extern.Rtype.noPackHeld "Comparable" t; pure (.bool (← typeInfo t).comparable))) Tryd.func70 (by kernel_rfl) (by kernel_rfl) (by kernel_rfl) (by kernel_rfl), rComparable]
  rfl
theorem rIsMethodC (v : Value) (w : World) : (Go.method 231 72 v "Comparable").run Tryd.prog w = .ok (70, v) w := by kernel_rfl
theorem rIsComp : (Tryd.prog.info? 92).map (·.comparable) = some true := by kernel_rfl
theorem rIsSize : (Tryd.prog.info? 115).map (·.size) = some 1 := by kernel_rfl
theorem rNoIsE (v : Value) (xT : TypeId) (w : World) : (Instr.typeAssert (.iface 92 v) xT 74 true).run Tryd.prog w = .ok (.tuple #[.nilIface, .bool false]) w := run_typeAssert_lacksB Tryd.underlying74 (by kernel_rfl) (by kernel_rfl) v xT w
theorem rNoUnE (v : Value) (xT : TypeId) (w : World) : (Instr.typeAssert (.iface 92 v) xT 77 true).run Tryd.prog w = .ok (.tuple #[.nilIface, .bool false]) w := run_typeAssert_lacksB Tryd.underlying77 (by kernel_rfl) (by kernel_rfl) v xT w
theorem rNoUnsE (v : Value) (xT : TypeId) (w : World) : (Instr.typeAssert (.iface 92 v) xT 79 true).run Tryd.prog w = .ok (.tuple #[.nilIface, .bool false]) w := run_typeAssert_lacksB Tryd.underlying79 (by kernel_rfl) (by kernel_rfl) v xT w
theorem rNoIsW (v : Value) (xT : TypeId) (w : World) : (Instr.typeAssert (.iface 47 v) xT 74 true).run Tryd.prog w = .ok (.tuple #[.nilIface, .bool false]) w := run_typeAssert_lacksB Tryd.underlying74 (by kernel_rfl) (by kernel_rfl) v xT w
theorem rHasUnW (v : Value) (xT : TypeId) (w : World) : (Instr.typeAssert (.iface 47 v) xT 77 true).run Tryd.prog w = .ok (.tuple #[.iface 47 v, .bool true]) w := run_typeAssert_hasB Tryd.underlying77 (by kernel_rfl) v xT w
theorem rMethodU (v : Value) (w : World) : (Go.method 231 47 v "Unwrap").run Tryd.prog w = .ok (64, v) w := by kernel_rfl

set_option maxRecDepth 8000 in
set_option maxHeartbeats 4000000 in
/-- errors.Is of a sentinel and itself. -/
theorem isSame14 (a : Addr) (w : World) :
    Calls Tryd.prog 20 #[.iface 92 (.pointer (some a)), .iface 92 (.pointer (some a))] w fun e w' => e = .returned (.bool true) ∧ w' = w := by
  obtain ⟨i, hi, hcmp⟩ := Option.map_eq_some_iff.1 rIsComp
  obtain ⟨j, hj, hjs⟩ := Option.map_eq_some_iff.1 rIsSize
  have h8 := @run_callFunc_extern Tryd.prog 27 _ Extern.ReflectliteType.typeOf Tryd.func27 (by kernel_rfl) (by kernel_rfl) (by kernel_rfl) (by kernel_rfl)
  have tT := rIsTypeOf
  have cT := rCallC
  have mR := rIsMethodC
  have nE := rNoIsE
  have uE := rNoUnE
  have vE := rNoUnsE
  have nW := rNoIsW
  have uW := rHasUnW
  have mU := rMethodU
  have heq := run_eql_iface_ptr_same (P := Tryd.prog) w a Tryd.underlying34 Tryd.underlying92 hi hcmp hj
  go_enter Tryd.func20, Tryd.ntmps20
  go_wp2
  refine wp_loop_rounds 1 ?_
  rw [rounds_succ]
  go_wp2
  go_ret
  exact ⟨rfl, rfl⟩
set_option maxRecDepth 8000 in
set_option maxHeartbeats 4000000 in
/-- Of a sentinel and another. -/
theorem isOther14 (a b : Addr) (ca cb : Array Value) (ta tb : TypeId) (w : World) (hne : a ≠ b) (ha : w.heap[a.block]? = some (.cells ca ta (0, 0))) (hb : w.heap[b.block]? = some (.cells cb tb (0, 0))) :
    Calls Tryd.prog 20 #[.iface 92 (.pointer (some a)), .iface 92 (.pointer (some b))] w fun e w' => e = .returned (.bool false) ∧ w' = w := by
  obtain ⟨i, hi, hcmp⟩ := Option.map_eq_some_iff.1 rIsComp
  obtain ⟨j, hj, hjs⟩ := Option.map_eq_some_iff.1 rIsSize
  have h8 := @run_callFunc_extern Tryd.prog 27 _ Extern.ReflectliteType.typeOf Tryd.func27 (by kernel_rfl) (by kernel_rfl) (by kernel_rfl) (by kernel_rfl)
  have tT := rIsTypeOf
  have cT := rCallC
  have mR := rIsMethodC
  have nE := rNoIsE
  have uE := rNoUnE
  have vE := rNoUnsE
  have nW := rNoIsW
  have uW := rHasUnW
  have mU := rMethodU
  have heq := run_eql_iface_ptr_other (P := Tryd.prog) w Tryd.underlying34 Tryd.underlying92 hi hcmp hj (by rw [hjs]; decide) hne ha hb
  go_enter Tryd.func20, Tryd.ntmps20
  go_wp2
  refine wp_loop_rounds 1 ?_
  rw [rounds_succ]
  go_wp2
  go_ret
  exact ⟨rfl, rfl⟩
set_option maxHeartbeats 1000000 in
/-- What a fault bears. -/
theorem unwrapI (ev : Value) (n : Int) (w : World) : Calls Tryd.prog 64 #[.agg #[ev, .int .i64 n]] w fun e w' => e = .returned ev ∧ Ext w w' := by
  have X0 := x1 w (.cells #[ev, .int .i64 n] 47)
  go_enter Tryd.func64, Tryd.ntmps64
  go_wp2_with fail
  go_ret
  exact ⟨rfl, X0⟩
theorem heap_later {w w' : World} (x : Ext w w') {k : Nat} {o : Obj} (h : w.heap[k]? = some o) : w'.heap[k]? = some o := by
  rcases Nat.lt_or_ge k w.heap.size with h' | h'
  · rw [x.block k h']; exact h
  · rw [Array.getElem?_eq_none h'] at h; cases h
set_option maxRecDepth 8000 in
set_option maxHeartbeats 4000000 in
/-- Of a fault that bears the sentinel. -/
theorem isWrap14 (b : Addr) (n : Int) (w : World) :
    Calls Tryd.prog 20 #[.iface 47 (.agg #[.iface 92 (.pointer (some b)), .int .i64 n]), .iface 92 (.pointer (some b))] w fun e w' => e = .returned (.bool true) ∧ Ext w w' := by
  obtain ⟨i, hi, hcmp⟩ := Option.map_eq_some_iff.1 rIsComp
  obtain ⟨j, hj, hjs⟩ := Option.map_eq_some_iff.1 rIsSize
  have h8 := @run_callFunc_extern Tryd.prog 27 _ Extern.ReflectliteType.typeOf Tryd.func27 (by kernel_rfl) (by kernel_rfl) (by kernel_rfl) (by kernel_rfl)
  have tT := rIsTypeOf
  have cT := rCallC
  have mR := rIsMethodC
  have nE := rNoIsE
  have uE := rNoUnE
  have vE := rNoUnsE
  have nW := rNoIsW
  have uW := rHasUnW
  have mU := rMethodU
  have CU := unwrapI (.iface 92 (.pointer (some b))) n
  have HEQ := fun (w2 : World) (_ : Ext w w2) => run_eql_iface_ptr_same (P := Tryd.prog) w2 b Tryd.underlying34 Tryd.underlying92 hi hcmp hj
  have hty := run_eql_iface_types (P := Tryd.prog) 47 92 (.agg #[.iface 92 (.pointer (some b)), .int .i64 n]) (.pointer (some b)) Tryd.underlying34 (by decide) w
  go_enter Tryd.func20, Tryd.ntmps20
  go_wp2
  refine wp_loop_rounds 2 ?_
  rw [rounds_succ]
  go_wp2_with (go_at_call 64; refine (CU _).mono ?_; rintro _ w2 ⟨rfl, e2⟩)
  have heq := HEQ w2 e2
  rw [rounds_succ]
  go_wp2
  go_ret
  exact ⟨rfl, e2⟩
set_option maxRecDepth 8000 in
set_option maxHeartbeats 4000000 in
/-- Of a fault that bears another. -/
theorem isWrapOther14 (a b : Addr) (n : Int) (ca cb : Array Value) (ta tb : TypeId) (w : World) (hne : a ≠ b) (ha : w.heap[a.block]? = some (.cells ca ta (0, 0))) (hb : w.heap[b.block]? = some (.cells cb tb (0, 0))) :
    Calls Tryd.prog 20 #[.iface 47 (.agg #[.iface 92 (.pointer (some a)), .int .i64 n]), .iface 92 (.pointer (some b))] w fun e w' => e = .returned (.bool false) ∧ Ext w w' := by
  obtain ⟨i, hi, hcmp⟩ := Option.map_eq_some_iff.1 rIsComp
  obtain ⟨j, hj, hjs⟩ := Option.map_eq_some_iff.1 rIsSize
  have h8 := @run_callFunc_extern Tryd.prog 27 _ Extern.ReflectliteType.typeOf Tryd.func27 (by kernel_rfl) (by kernel_rfl) (by kernel_rfl) (by kernel_rfl)
  have tT := rIsTypeOf
  have cT := rCallC
  have mR := rIsMethodC
  have nE := rNoIsE
  have uE := rNoUnE
  have vE := rNoUnsE
  have nW := rNoIsW
  have uW := rHasUnW
  have mU := rMethodU
  have CU := unwrapI (.iface 92 (.pointer (some a))) n
  have HEQ := fun (w2 : World) (x : Ext w w2) => run_eql_iface_ptr_other (P := Tryd.prog) w2 Tryd.underlying34 Tryd.underlying92 hi hcmp hj (by rw [hjs]; decide) hne (heap_later x ha) (heap_later x hb)
  have hty := run_eql_iface_types (P := Tryd.prog) 47 92 (.agg #[.iface 92 (.pointer (some a)), .int .i64 n]) (.pointer (some b)) Tryd.underlying34 (by decide) w
  go_enter Tryd.func20, Tryd.ntmps20
  go_wp2
  refine wp_loop_rounds 2 ?_
  rw [rounds_succ]
  go_wp2_with (go_at_call 64; refine (CU _).mono ?_; rintro _ w2 ⟨rfl, e2⟩)
  have heq := HEQ w2 e2
  rw [rounds_succ]
  go_wp2
  go_ret
  exact ⟨rfl, e2⟩
end Go.Proofs.YtkjbeciiecljgaaDoor
