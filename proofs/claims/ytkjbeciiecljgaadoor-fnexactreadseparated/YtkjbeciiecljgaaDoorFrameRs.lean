/-
  What the row of ReadSeparated shares with none: three sentinels and a type's handle out of what the row lists; so many blocks has every world of the program's shape.
-/
import Derived.Test.YtkjbeciiecljgaaDoorFrameB
import Derived.Test.YtkjbeciiecljgaaDoorRd13
import Derived.Stop.LaidErr
import Derived.LaidHandle
import Derived.LaidSub
namespace Go.Proofs.YtkjbeciiecljgaaDoor
open Go.ChangeShapes Go.WideShapes Go.ChangeAt Go.RowKit

theorem maxLen_eq : maxLen = 9223372036854775807 := by simp [maxLen]
theorem starErr : "*" ++ "errors.errorString" = "*errors.errorString" := by decide
/-- The one row of that name. -/
theorem rowErr (u : TypeId) (h : Tryd.prog.typeName? 3 u = some "*errors.errorString") : u = 92 :=
  typeName_ptr_named (nm := "errors.errorString") (by rw [starErr]; kernel_rfl) (by kernel_rfl) (by decide) u (by rw [starErr]; exact h)

theorem gShort : Tryd.prog.globalNamed "loop.example/g00025/impl.errFileShort" = some 1 := by kernel_rfl
theorem gCode : Tryd.prog.globalNamed "loop.example/g00025/impl.errFileCode" = some 2 := by kernel_rfl
theorem gRangeF : Tryd.prog.globalNamed "loop.example/g00025/impl.errFileRange" = some 0 := by kernel_rfl
theorem gOrder : Tryd.prog.globalNamed "loop.example/g00025/impl.errFileOrder" = some 3 := by kernel_rfl
theorem gSum : Tryd.prog.globalNamed "loop.example/g00025/impl.errFileSum" = some 4 := by kernel_rfl
theorem gMore : Tryd.prog.globalNamed "loop.example/g00025/impl.errFileMore" = some 5 := by kernel_rfl
theorem tShort : (Tryd.prog.globals[1]?).map (·.type) = some 34 := by kernel_rfl
theorem tCode : (Tryd.prog.globals[2]?).map (·.type) = some 34 := by kernel_rfl
theorem tRangeF : (Tryd.prog.globals[0]?).map (·.type) = some 34 := by kernel_rfl
theorem tOrder : (Tryd.prog.globals[3]?).map (·.type) = some 34 := by kernel_rfl
theorem tSum : (Tryd.prog.globals[4]?).map (·.type) = some 34 := by kernel_rfl
theorem tMore : (Tryd.prog.globals[5]?).map (·.type) = some 34 := by kernel_rfl

/-- A variable that holds an error reads. -/
theorem rdErr {n : String} {g0 : Nat} (h1 : Tryd.prog.globalNamed n = some g0) (h2 : (Tryd.prog.globals[g0]?).map (·.type) = some 34) :
    ∀ g t, Tryd.prog.globalNamed n = some g → (Tryd.prog.globals[g]?).map (·.type) = some t → Tryd.prog.readableRec t = true ∧ t < Tryd.prog.types.size := by
  intro g t hg ht
  obtain rfl := Option.some.inj (h1.symm.trans hg)
  obtain rfl := Option.some.inj (h2.symm.trans ht)
  exact ⟨by kernel_rfl, of_decide_eq_true (by kernel_rfl)⟩

/-- Three sentinels out of the row's list. -/
theorem laid_sentinels3 {P : Program} {n0 n1 n2 nm : String} {text0 text1 text2 : List UInt8} {r : List (String × DataW Unit)} {W : World} {g0 g1 g2 : Nat} {ti tp te ts : TypeId} {ms : Array (String × TypeId)} {f : Field}
    (h : laidMet P ((n0, .iface nm (.ptr (.agg [.lit (.string text0)]))) :: (n1, .iface nm (.ptr (.agg [.lit (.string text1)]))) :: (n2, .iface nm (.ptr (.agg [.lit (.string text2)]))) :: r) W)
    (hg0 : P.globalNamed n0 = some g0) (ht0 : (P.globals[g0]?).map (·.type) = some ti) (hg1 : P.globalNamed n1 = some g1) (ht1 : (P.globals[g1]?).map (·.type) = some ti) (hg2 : P.globalNamed n2 = some g2) (ht2 : (P.globals[g2]?).map (·.type) = some ti)
    (hi : P.underlying ti = some (.interface ms)) (hrow : ∀ u, P.typeName? 3 u = some nm → u = tp)
    (hp : P.underlying tp = some (.pointer te)) (he : P.underlying te = some (.struct #[f])) (hft : f.type = ts) (hfo : f.offset = 0) (hs : P.underlying ts = some .string) (hc : P.cellsOf te = 1) (hcs : P.cellsOf ts = 1) :
    ∃ (a0 a1 a2 : Addr),
      W.cell? ⟨g0, 0, none⟩ = some (.iface tp (.pointer (some a0))) ∧ W.cell? ⟨g1, 0, none⟩ = some (.iface tp (.pointer (some a1))) ∧ W.cell? ⟨g2, 0, none⟩ = some (.iface tp (.pointer (some a2))) ∧
      a0 ≠ a1 ∧ a0 ≠ a2 ∧ a1 ≠ a2 ∧ (∃ c t, W.heap[a0.block]? = some (.cells c t (0, 0))) ∧ (∃ c t, W.heap[a1.block]? = some (.cells c t (0, 0))) ∧ (∃ c t, W.heap[a2.block]? = some (.cells c t (0, 0))) := by
  obtain ⟨ps, ⟨g0', t0', cs0, f0, p0, q0, hg0', ht0', hv0, hd0, ⟨g1', t1', cs1, f1, p1, q1, hg1', ht1', hv1, hd1, ⟨g2', t2', cs2, f2, p2, q2, hg2', ht2', hv2, hd2, _, e2⟩, e1⟩, e0⟩, hnd, hrows⟩ := h
  obtain rfl := Option.some.inj (hg0.symm.trans hg0')
  obtain rfl := Option.some.inj (hg1.symm.trans hg1')
  obtain rfl := Option.some.inj (hg2.symm.trans hg2')
  obtain rfl := Option.some.inj (ht0.symm.trans ht0')
  obtain rfl := Option.some.inj (ht1.symm.trans ht1')
  obtain rfl := Option.some.inj (ht2.symm.trans ht2')
  subst e2
  subst e1
  subst e0
  obtain ⟨l0⟩ := cs0
  obtain ⟨l1⟩ := cs1
  obtain ⟨l2⟩ := cs2
  have ok0 : ∀ u v, l0 = [.iface u v] → Value.okWide P W .any 0 u v := fun u v e => by
    subst e
    exact (hrows g0 0 (by simp [MemPlace.row])).2 u v (by simpa using World.var?_cell hg0' hv0 0)
  have ok1 : ∀ u v, l1 = [.iface u v] → Value.okWide P W .any 0 u v := fun u v e => by
    subst e
    exact (hrows g1 0 (by simp [MemPlace.row])).2 u v (by simpa using World.var?_cell hg1' hv1 0)
  have ok2 : ∀ u v, l2 = [.iface u v] → Value.okWide P W .any 0 u v := fun u v e => by
    subst e
    exact (hrows g2 0 (by simp [MemPlace.row])).2 u v (by simpa using World.var?_cell hg2' hv2 0)
  obtain ⟨a0, s0, rfl, hc0, hs0, hz0, rfl⟩ := errorString_of_trod hi hrow hp he hft hfo hs hc hcs hd0 ok0
  obtain ⟨a1, s1, rfl, hc1, hs1, hz1, rfl⟩ := errorString_of_trod hi hrow hp he hft hfo hs hc hcs hd1 ok1
  obtain ⟨a2, s2, rfl, hc2, hs2, hz2, rfl⟩ := errorString_of_trod hi hrow hp he hft hfo hs hc hcs hd2 ok2
  refine ⟨a0, a1, a2, by simpa using World.var?_cell hg0' hv0 0, by simpa using World.var?_cell hg1' hv1 0, by simpa using World.var?_cell hg2' hv2 0, ?_, ?_, ?_, (hrows a0.block a0.off (by simp [MemPlace.row])).1, (hrows a1.block a1.off (by simp [MemPlace.row])).1, (hrows a2.block a2.off (by simp [MemPlace.row])).1⟩
  · rintro rfl
    simp [MemPlace.row] at hnd
  · rintro rfl
    simp [MemPlace.row] at hnd
  · rintro rfl
    simp [MemPlace.row] at hnd

/-- The three that are looked into, out of the row's list without the handle. -/
theorem sen_of {rest : List (String × DataW Unit)} {W : World} (h : laidMet Tryd.prog (("loop.example/g00025/impl.errFileShort", Rows.laid_loop_example_g00025_impl_errFileShort) :: ("loop.example/g00025/impl.errFileCode", Rows.laid_loop_example_g00025_impl_errFileCode) :: ("loop.example/g00025/impl.errFileRange", Rows.laid_loop_example_g00025_impl_errFileRange) :: rest) W) : ∃ a1 a2 a3, Sen W a1 a2 a3 := by
  obtain ⟨a1, a2, a3, v1, v2, v3, n12, n13, n23, l1, l2, l3⟩ := laid_sentinels3 h gShort tShort gCode tCode gRangeF tRangeF Tryd.underlying34 rowErr Tryd.underlying92 Tryd.underlying115 rfl rfl Tryd.underlying9 (by kernel_rfl) (by kernel_rfl)
  exact ⟨a1, a2, a3, v1, v2, v3, n12, n13, n23, l1, l2, l3⟩

theorem gErrT : Tryd.prog.globalNamed "errors.errorType" = some 6 := by kernel_rfl
theorem rtRow : (Tryd.prog.cutTypes.find? (·.1 == "internal/reflectlite.rtype")).map (·.2) = some 72 := by kernel_rfl
theorem oneErr : ((List.range Tryd.prog.types.size).filter fun t => Tryd.prog.rowNamed t [101, 114, 114, 111, 114]) = [34] := by kernel_rfl
theorem errH : typeHandle Tryd.prog 34 = .pointer (some ⟨8, 34, none⟩) := by kernel_rfl
/-- What errors.As asks of its own variable, out of the row's list. -/
theorem errT_of {W : World} (h : handlesMet Tryd.prog [("errors.errorType", Rows.laid_errors_errorType)] W) : ErrT W := by
  obtain ⟨name, u, ty, e1, e2, e3, e4, e5⟩ := h _ (List.mem_singleton.2 rfl)
  have en : name = [101, 114, 114, 111, 114] := (Option.some.inj e1).symm
  subst en
  obtain rfl := Option.some.inj (rtRow.symm.trans e2)
  have hm : ty ∈ (List.range Tryd.prog.types.size).filter fun t => Tryd.prog.rowNamed t [101, 114, 114, 111, 114] := List.mem_filter.2 ⟨List.mem_range.2 e3, e4⟩
  rw [oneErr] at hm
  obtain rfl := List.mem_singleton.1 hm
  rw [errH] at e5
  show W.cell? ⟨6, 0, none⟩ = some (.iface 72 (.agg #[.pointer (some ⟨8, 34, none⟩)]))
  simpa using World.var?_cell gErrT e5 0

theorem beginBig : decide (8 < (begin Tryd.prog (fun _ _ => 0) default).world.heap.size) = true := by kernel_rfl
/-- So many blocks has every world of the program's shape. -/
theorem big_of {W : World} (h : W.ShapedOpen Tryd.prog) : 9 ≤ W.heap.size := by
  obtain ⟨o, _, ho, _⟩ := h.2 8 (of_decide_eq_true (by kernel_rfl)) (of_decide_eq_true beginBig)
  have := (Array.getElem?_eq_some_iff.1 ho).1
  omega

end Go.Proofs.YtkjbeciiecljgaaDoor
