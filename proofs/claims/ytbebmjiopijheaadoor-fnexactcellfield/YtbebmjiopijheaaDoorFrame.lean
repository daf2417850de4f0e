/-
  What the rows of the chapter of decimals share: the table's cells out of the row's list, a struct of a bool and two ints opened.
-/
import Derived.Test.YtbebmjiopijheaaDoorFrameB
import Derived.Test.YtbebmjiopijheaaDoorBaseT
namespace Go.Proofs.YtbebmjiopijheaaDoor
open Go.ChangeShapes Go.WideShapes Go.ChangeAt Go.RowKit

set_option maxRecDepth 100000 in
/-- A struct of a bool and two ints that came in. -/
theorem open_dec {H : Type} {enc : TypeId × Value → H} {W : World} {base : Nat} {v : Value} {d : DataW H} {p : List MemPlace}
    (hv : Value.okWide Tryd.prog W .any base 23 v) (h : DataW.Trod enc Tryd.prog W 0 (fun _ => true) true 23 v d p) :
    ∃ (neg : Bool) (m x : Int), v = .agg #[.bool neg, .int .i64 m, .int .i64 x] ∧ (Lit.int .i64 m).wf = true ∧ (Lit.int .i64 x).wf = true := by
  obtain ⟨c0, c1, c2, y0, y1, y2, m, rfl, rfl, rfl, hy0, hy1, hy2⟩ := Joins.open_agg3 Tryd.underlying23 (by kernel_rfl) (by kernel_rfl) hv h
  obtain ⟨b, e0, _⟩ := DataW.trod_bool Tryd.underlying4 hy0
  obtain ⟨a1, e1, _, w1⟩ := DataW.trod_int Tryd.underlying3 hy1
  obtain ⟨a2, e2, _, w2⟩ := DataW.trod_int Tryd.underlying3 hy2
  simp at e0 e1 e2
  subst e0 e1 e2
  exact ⟨b, a1, a2, rfl, w1, w2⟩

theorem gTens : Tryd.prog.globalNamed "loop.example/g00025/impl.tens" = some 0 := by kernel_rfl
theorem gTensType : (Tryd.prog.globals[0]?).map (·.type) = some 63 := by kernel_rfl

/-- The table's cells, out of a row that lists it first. -/
theorem tens_of {rest : List (String × DataW Unit)} {W : World} (h : laidMet Tryd.prog (("loop.example/g00025/impl.tens", Rows.laid_loop_example_g00025_impl_tens) :: rest) W) : Tens W := by
  have t : Lib.TabIs Tryd.prog W "loop.example/g00025/impl.tens" .u64 [1, 10, 100, 1000, 10000, 100000, 1000000, 10000000, 100000000, 1000000000, 10000000000, 100000000000, 1000000000000, 10000000000000, 100000000000000, 1000000000000000, 10000000000000000, 100000000000000000, 1000000000000000000, 10000000000000000000] :=
    Lib.tabIs_of_head (rest := rest) gTens gTensType Tryd.underlying63 Tryd.underlying62 (by kernel_rfl) (by kernel_rfl) h
  intro i hi
  have e : ∀ i : Nat, i < 20 → ([1, 10, 100, 1000, 10000, 100000, 1000000, 10000000, 100000000, 1000000000, 10000000000, 100000000000, 1000000000000, 10000000000000, 100000000000000, 1000000000000000, 10000000000000000, 100000000000000000, 1000000000000000000, 10000000000000000000] : List Int).getD i 0 = ((10 ^ i : Nat) : Int) := by decide +kernel
  rw [← e i hi]
  exact t.cell gTens i hi

theorem tens_readable1 : ∀ g t, Tryd.prog.globalNamed "loop.example/g00025/impl.tens" = some g → (Tryd.prog.globals[g]?).map (·.type) = some t → Tryd.prog.readableRec t = true ∧ t < Tryd.prog.types.size := by
  intro g t hg ht
  obtain rfl := Option.some.inj (gTens.symm.trans hg)
  obtain rfl := Option.some.inj (gTensType.symm.trans ht)
  exact ⟨by kernel_rfl, of_decide_eq_true (by kernel_rfl)⟩
theorem tens_readable : ∀ n ∈ ["loop.example/g00025/impl.tens"], ∀ g t, Tryd.prog.globalNamed n = some g → (Tryd.prog.globals[g]?).map (·.type) = some t → Tryd.prog.readableRec t = true ∧ t < Tryd.prog.types.size := by
  intro n hn g t hg ht
  simp only [List.mem_singleton] at hn
  subst hn
  obtain rfl := Option.some.inj (gTens.symm.trans hg)
  obtain rfl := Option.some.inj (gTensType.symm.trans ht)
  exact ⟨by kernel_rfl, of_decide_eq_true (by kernel_rfl)⟩

end Go.Proofs.YtbebmjiopijheaaDoor

