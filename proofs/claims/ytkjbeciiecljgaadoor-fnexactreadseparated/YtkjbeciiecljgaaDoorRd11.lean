/-
  Chapter 14: errors.As, walked.
-/
import Derived.Test.YtkjbeciiecljgaaDoorRd10
import Derived.Deep.MidRow
namespace Go.Proofs.YtkjbeciiecljgaaDoor
open Go.RowKit Go.Extern.Stop Go.Stop Go.Extern

theorem mM2 {motive : Array Value → Sort _} (v : Value) (h1 : (v : Value) → motive #[v]) (h2 : (x : Array Value) → motive x) : ReflectliteValue.method.match_2 motive #[v] h1 h2 = h1 v := rfl
theorem mS3 {motive : Array Value → Sort _} (v x : Value) (h1 : (v x : Value) → motive #[v, x]) (h2 : (x : Array Value) → motive x) : ReflectliteValue.set.match_3 motive #[v, x] h1 h2 = h1 v x := rfl
theorem aIsNil (a p : Addr) (W : World) (ha : W.cell? a = some (.pointer (some p))) :
    (ReflectliteValue.method (ReflectliteValue.valueError "reflectlite.Value.IsNil" 0) ReflectliteValue.isNil #[.agg #[.pointer (some ⟨8, 49, none⟩), .pointer (some a), .int .u64 150]]).run Tryd.prog W = .ok (.bool false) W := by
  delta ReflectliteValue.method
  rw [mM2]
  simp only [Sem.run_bind, aPartsP, Result.andThen]
  simp [ReflectliteValue.isNil, loadVar, isAgg, underlying, Tryd.underlying49, ha, Result.andThen]
theorem aElemV (a p : Addr) (W : World) (ha : W.cell? a = some (.pointer (some p))) :
    (ReflectliteValue.method (ReflectliteValue.valueError "reflectlite.Value.Elem" 0) ReflectliteValue.elem #[.agg #[.pointer (some ⟨8, 49, none⟩), .pointer (some a), .int .u64 150]]).run Tryd.prog W
      = .ok (.agg #[.pointer (some ⟨8, 47, none⟩), .pointer (some p), .int .u64 409]) W := by
  delta ReflectliteValue.method
  rw [mM2]
  simp only [Sem.run_bind, aPartsP, Result.andThen]
  simp [ReflectliteValue.elem, loadVar, isAgg, underlying, Tryd.underlying49, ha, Result.andThen, aElemOf, aMk]
theorem aSize (w : World) : (sizeOf 47).run Tryd.prog w = .ok 2 w := by kernel_rfl
theorem aSet (tb bb : Nat) (ty : TypeId) (pv o0 o1 : Value) (n : Int) (W : World) (hb0 : W.cell? ⟨bb, 0, none⟩ = some (.iface ty pv)) (hb1 : W.cell? ⟨bb, 1, none⟩ = some (.int .i64 n)) (ht0 : W.cell? ⟨tb, 0, none⟩ = some o0) (ht1 : W.cell? ⟨tb, 1, none⟩ = some o1) (hf0 : W.frozen? ⟨tb, 0, none⟩ = false) (hf1 : W.frozen? ⟨tb, 1, none⟩ = false) :
    (ReflectliteValue.set #[.agg #[.pointer (some ⟨8, 47, none⟩), .pointer (some ⟨tb, 0, none⟩), .int .u64 409], .agg #[.pointer (some ⟨8, 47, none⟩), .pointer (some ⟨bb, 0, none⟩), .int .u64 153]]).run Tryd.prog W
      = .ok (.tuple #[]) ((W.setCell ⟨tb, 0, none⟩ (.iface ty pv)).setCell ⟨tb, 1, none⟩ (.int .i64 n)) := by
  delta ReflectliteValue.set
  rw [mS3]
  simp only [Sem.run_bind, aPartsA, aPartsS, Result.andThen]
  simp [ReflectliteValue.flagAddr, loadVar, isAgg, underlying, Tryd.underlying47, loadCells, Result.andThen, aDirect, storeVar, Value.cells, storeCells, Addr.add]
  have hL : (loadCellsFrom ⟨bb, 0, none⟩ 0 2 #[]).run Tryd.prog W = .ok #[.iface ty pv, .int .i64 n] W := by
    simp [loadCellsFrom, Addr.add, hb0, hb1, Result.andThen]
  rw [hL]
  have hS : (storeCells ⟨tb, 0, none⟩ [.iface ty pv, .int .i64 n]).run Tryd.prog W = .ok () ((W.setCell ⟨tb, 0, none⟩ (.iface ty pv)).setCell ⟨tb, 1, none⟩ (.int .i64 n)) := by
    have h2 : (W.setCell ⟨tb, 0, none⟩ (.iface ty pv)).cell? ⟨tb, 1, none⟩ = some o1 := by rw [World.cell?_setCell_other _ _ _ _ (fun e => by cases e)]; exact ht1
    have h3 : (W.setCell ⟨tb, 0, none⟩ (.iface ty pv)).frozen? ⟨tb, 1, none⟩ = false := by rw [World.frozen?_setCell]; exact hf1
    have s1 : (store ⟨tb, 0, none⟩ (.iface ty pv)).run Tryd.prog W = .ok () (W.setCell ⟨tb, 0, none⟩ (.iface ty pv)) := by rw [run_store _ _ _ _ _ rfl]; simp [ht0, hf0]
    have s2 : (store ⟨tb, 1, none⟩ (.int .i64 n)).run Tryd.prog (W.setCell ⟨tb, 0, none⟩ (.iface ty pv)) = .ok () ((W.setCell ⟨tb, 0, none⟩ (.iface ty pv)).setCell ⟨tb, 1, none⟩ (.int .i64 n)) := by rw [run_store _ _ _ _ _ rfl]; simp [h2, h3]
    simp [storeCells, Addr.add, s1, s2, Result.andThen]
  simp [hS]
set_option maxRecDepth 8000 in
set_option maxHeartbeats 4000000 in
theorem asHit14 (tb : Nat) (ty : TypeId) (pv o0 o1 : Value) (n : Int) (w : World) (hg : w.cell? ⟨6, 0, none⟩ = some (.iface 72 (.agg #[.pointer (some ⟨8, 34, none⟩)]))) (ht : Box2 w tb o0 o1) :
    Calls Tryd.prog 21 #[.iface 47 (.agg #[.iface ty pv, .int .i64 n]), .iface 49 (.pointer (some ⟨tb, 0, none⟩))] w fun e w' => e = .returned (.bool true) ∧ Box2 w' tb (.iface ty pv) (.int .i64 n) ∧ Sole tb w w' := by
  have h6 := @run_callFunc_extern Tryd.prog 29 _ (fun args => ReflectliteValue.unpack (args.getD 0 (.tuple #[]))) Tryd.func29 (by kernel_rfl) (by kernel_rfl) (by kernel_rfl) (by kernel_rfl)
  have h7 := @run_callFunc_extern Tryd.prog 30 _ (ReflectliteValue.methodAny (ReflectliteValue.valueError "reflectlite.Value.Type" 0) (fun t _ _ _ => ReflectliteType.toType t)) Tryd.func30 (by kernel_rfl) (by kernel_rfl) (by kernel_rfl) (by kernel_rfl)
  have h8 := @run_callFunc_extern Tryd.prog 31 _ (ReflectliteValue.method (ReflectliteValue.valueError "reflectlite.Value.IsNil" 0) ReflectliteValue.isNil) Tryd.func31 (by kernel_rfl) (by kernel_rfl) (by kernel_rfl) (by kernel_rfl)
  have h27 := @run_callFunc_extern Tryd.prog 61 _ (ReflectliteType.abiMethod fun t => do pure (.int .u8 (← Rtype.kind t))) Tryd.func61 (by kernel_rfl) (by kernel_rfl) (by kernel_rfl) (by kernel_rfl)
  have h37 := @run_callFunc_extern Tryd.prog 71 _ (ReflectliteType.method ReflectliteType.elem) Tryd.func71 (by kernel_rfl) (by kernel_rfl) (by kernel_rfl) (by kernel_rfl)
  have h38 := @run_callFunc_extern Tryd.prog 72 _ (ReflectliteType.relation "Implements" ReflectliteType.implements_) Tryd.func72 (by kernel_rfl) (by kernel_rfl) (by kernel_rfl) (by kernel_rfl)
  have h10 := @run_callFunc_extern Tryd.prog 27 _ ReflectliteType.typeOf Tryd.func27 (by kernel_rfl) (by kernel_rfl) (by kernel_rfl) (by kernel_rfl)
  have h35 := @run_callFunc_extern Tryd.prog 69 _ (ReflectliteType.relation "AssignableTo" ReflectliteType.assignableTo) Tryd.func69 (by kernel_rfl) (by kernel_rfl) (by kernel_rfl) (by kernel_rfl)
  have h11 := @run_callFunc_extern Tryd.prog 37 _ (ReflectliteValue.method (ReflectliteValue.valueError "reflectlite.Value.Elem" 0) ReflectliteValue.elem) Tryd.func37 (by kernel_rfl) (by kernel_rfl) (by kernel_rfl) (by kernel_rfl)
  have h12 := @run_callFunc_extern Tryd.prog 38 _ ReflectliteValue.set Tryd.func38 (by kernel_rfl) (by kernel_rfl) (by kernel_rfl) (by kernel_rfl)
  have q1 := aTypeOfS
  have q2 := aMethodAssign
  have q3 := aAssignS
  have q4 := aValueOfS
  have q5 := aValueOfP
  have q6 := aTypeP
  have q7 := aMethodKind
  have q8 := aMethodElem
  have q9 := aMethodImpl
  have q10 := aKindP
  have q11 := aKindS
  have q12 := aElemP
  have q13 := aImplS
  have E1 := x1 w (.cells #[.pointer (some ⟨tb, 0, none⟩)] 49)
  have C1 : (w.alloc (.cells #[.pointer (some ⟨tb, 0, none⟩)] 49)).cell? ⟨w.heap.size, 0, none⟩ = some (.pointer (some ⟨tb, 0, none⟩)) := by simp
  obtain ⟨W1, hW1⟩ : ∃ W, w.alloc (.cells #[.pointer (some ⟨tb, 0, none⟩)] 49) = W := ⟨_, rfl⟩
  have Z1 : W1.heap.size = w.heap.size + 1 := by rw [← hW1]; simp
  have q5 := q5 ⟨tb, 0, none⟩ w
  rw [hW1] at E1 C1 q5
  have E2 := x1 W1 (.cells #[.pointer (some ⟨8, 49, none⟩), .pointer (some ⟨w.heap.size, 0, none⟩), .int .u64 150] 63)
  have hg2 := cell_later (xt E1 E2) hg
  have n8 := aIsNil ⟨w.heap.size, 0, none⟩ ⟨tb, 0, none⟩ _ (cell_later E2 C1)
  have E3 := x1 (W1.alloc (.cells #[.pointer (some ⟨8, 49, none⟩), .pointer (some ⟨w.heap.size, 0, none⟩), .int .u64 150] 63)) (.cells #[.pointer (some ⟨8, 49, none⟩), .pointer (some ⟨w.heap.size, 0, none⟩), .int .u64 150] 63)
  have el := aElemV ⟨w.heap.size, 0, none⟩ ⟨tb, 0, none⟩ _ (cell_later (xt E2 E3) C1)
  have XX := xt (xt E1 E2) E3
  have A4 := vec_made ((W1.alloc (.cells #[.pointer (some ⟨8, 49, none⟩), .pointer (some ⟨w.heap.size, 0, none⟩), .int .u64 150] 63)).alloc (.cells #[.pointer (some ⟨8, 49, none⟩), .pointer (some ⟨w.heap.size, 0, none⟩), .int .u64 150] 63)) [.iface ty pv, .int .i64 n] 47
  have E4 := x1 ((W1.alloc (.cells #[.pointer (some ⟨8, 49, none⟩), .pointer (some ⟨w.heap.size, 0, none⟩), .int .u64 150] 63)).alloc (.cells #[.pointer (some ⟨8, 49, none⟩), .pointer (some ⟨w.heap.size, 0, none⟩), .int .u64 150] 63)) (.cells #[.iface ty pv, .int .i64 n] 47)
  have XE := xt XX E4
  have B4 := ht.later XE
  change Vec (((W1.alloc (.cells #[.pointer (some ⟨8, 49, none⟩), .pointer (some ⟨w.heap.size, 0, none⟩), .int .u64 150] 63)).alloc (.cells #[.pointer (some ⟨8, 49, none⟩), .pointer (some ⟨w.heap.size, 0, none⟩), .int .u64 150] 63)).alloc (.cells #[.iface ty pv, .int .i64 n] 47)) _ _ at A4
  rw [show ((W1.alloc (.cells #[.pointer (some ⟨8, 49, none⟩), .pointer (some ⟨w.heap.size, 0, none⟩), .int .u64 150] 63)).alloc (.cells #[.pointer (some ⟨8, 49, none⟩), .pointer (some ⟨w.heap.size, 0, none⟩), .int .u64 150] 63)).heap.size = w.heap.size + 1 + 1 + 1 by simp [Z1]] at A4
  have st := aSet tb (w.heap.size + 1 + 1 + 1) ty pv o0 o1 n _ (A4 0 _ rfl).1 (A4 1 _ rfl).1 B4.1.1 B4.1.2 B4.2.1 B4.2.2
  have HFN : Hid (Box2 (((((W1.alloc (.cells #[.pointer (some ⟨8, 49, none⟩), .pointer (some ⟨w.heap.size, 0, none⟩), .int .u64 150] 63)).alloc (.cells #[.pointer (some ⟨8, 49, none⟩), .pointer (some ⟨w.heap.size, 0, none⟩), .int .u64 150] 63)).alloc (.cells #[.iface ty pv, .int .i64 n] 47)).setCell ⟨tb, 0, none⟩ (.iface ty pv)).setCell ⟨tb, 1, none⟩ (.int .i64 n)) tb (.iface ty pv) (.int .i64 n) ∧ Sole tb w (((((W1.alloc (.cells #[.pointer (some ⟨8, 49, none⟩), .pointer (some ⟨w.heap.size, 0, none⟩), .int .u64 150] 63)).alloc (.cells #[.pointer (some ⟨8, 49, none⟩), .pointer (some ⟨w.heap.size, 0, none⟩), .int .u64 150] 63)).alloc (.cells #[.iface ty pv, .int .i64 n] 47)).setCell ⟨tb, 0, none⟩ (.iface ty pv)).setCell ⟨tb, 1, none⟩ (.int .i64 n))) := by
    obtain ⟨⟨b0, b1⟩, f0, f1⟩ := B4
    refine ⟨⟨⟨?_, ?_⟩, ?_, ?_⟩, (((Sole.refl tb w).step XE).put 0 _).put 1 _⟩
    · rw [World.cell?_setCell_other _ _ _ _ (fun e => by cases e)]
      exact World.cell?_setCell_same _ _ _ b0
    · exact World.cell?_setCell_same _ _ _ (by rw [World.cell?_setCell_other _ _ _ _ (fun e => by cases e)]; exact b1)
    · rw [World.frozen?_setCell, World.frozen?_setCell]; exact f0
    · rw [World.frozen?_setCell, World.frozen?_setCell]; exact f1
  clear ht A4 E4 XE B4 XX E3 E2 E1 C1
  go_enter Tryd.func21, Tryd.ntmps21
  go_wp2
  refine wp_loop_rounds 1 ?_
  rw [rounds_succ]
  go_wp2
  go_ret
  exact ⟨rfl, HFN.out.1, HFN.out.2⟩
end Go.Proofs.YtkjbeciiecljgaaDoor
