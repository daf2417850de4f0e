/-
  The sides out of a row that lists them first.
-/
import Derived.Test.YthdjlhhedkfibaaDoorFrameR
import Derived.Test.YthdjlhhedkfibaaDoorWq
import Derived.Stop.LaidErr
namespace Go.Proofs.YthdjlhhedkfibaaDoor
open Go.ChangeShapes Go.WideShapes Go.ChangeAt Go.RowKit

theorem gSides : Tryd.prog.globalNamed "loop.example/g00025/impl.sides" = some 0 := by kernel_rfl
theorem gSidesType : (Tryd.prog.globals[0]?).map (·.type) = some 56 := by kernel_rfl
theorem sideCells : Tryd.prog.cellsOf 55 = 2 := by kernel_rfl
theorem intCellsA : Tryd.prog.cellsOf 3 = 1 := by kernel_rfl
theorem side_fields : ∃ fs : Array Field, Tryd.prog.underlying 55 = some (.struct fs) ∧ ∃ f0 f1, fs.toList[0]? = some f0 ∧ fs.toList[1]? = some f1 ∧ (f0.type = 3 ∧ f0.offset = 0) ∧ (f1.type = 3 ∧ f1.offset = 1) :=
  ⟨_, Tryd.underlying55, _, _, rfl, rfl, ⟨rfl, rfl⟩, ⟨rfl, rfl⟩⟩
theorem int_cellA {H : Type} {enc : TypeId × Value → H} {w : World} {base : Nat} {sp : Nat → Bool} {held : Bool} {fuel : Nat} {cs : List Value} {z : Int} {p : List MemPlace} (o : Nat)
    (h : DataW.trod enc Tryd.prog w base sp held fuel 3 ((cs.drop o).take 1) = some (.lit (.int .i64 z), p)) : cs[o]? = some (.int .i64 z) := by
  obtain ⟨n, hc, hx, _⟩ := DataW.trod_int Tryd.underlying3 h
  simp only [Prod.mk.injEq, DataW.lit.injEq, Lit.int.injEq, true_and] at hx
  have := congrArg (·[0]?) hc
  simp only [List.getElem?_take, List.getElem?_drop, List.getElem?_cons_zero] at this
  simpa [hx.1] using this
theorem side_cells {H : Type} {enc : TypeId × Value → H} {w : World} {base : Nat} {sp : Nat → Bool} {held : Bool} {fuel : Nat} {cs : List Value} {a b : Int} {p : List MemPlace}
    (h : DataW.trod enc Tryd.prog w base sp held fuel 55 cs = some (.agg [.lit (.int .i64 a), .lit (.int .i64 b)], p)) : cs[0]? = some (.int .i64 a) ∧ cs[1]? = some (.int .i64 b) := by
  obtain ⟨fs, ht, f0, f1, e0, e1, ⟨t0, o0⟩, ⟨t1, o1⟩⟩ := side_fields
  obtain ⟨_, _, k0⟩ := trod_field ht h 0 f0 e0 _ rfl
  obtain ⟨_, _, k1⟩ := trod_field ht h 1 f1 e1 _ rfl
  rw [t0, o0, intCellsA] at k0
  rw [t1, o1, intCellsA] at k1
  exact ⟨int_cellA 0 k0, int_cellA 1 k1⟩
set_option maxRecDepth 100000 in
theorem sides_of {rest : List (String × DataW Unit)} {W : World} (h : laidMet Tryd.prog (("loop.example/g00025/impl.sides", Rows.laid_loop_example_g00025_impl_sides) :: rest) W) : Sides W := by
  obtain ⟨ps, ⟨g', t', cs, fuel, p, q, hg', ht', hvar, hd, _, _⟩, _⟩ := h
  obtain rfl := Option.some.inj (gSides.symm.trans hg')
  obtain rfl := Option.some.inj (gSidesType.symm.trans ht')
  obtain ⟨_, _, k0⟩ := trod_elem Tryd.underlying56 hd 0 (by decide) _ rfl
  obtain ⟨_, _, k1⟩ := trod_elem Tryd.underlying56 hd 1 (by decide) _ rfl
  obtain ⟨_, _, k2⟩ := trod_elem Tryd.underlying56 hd 2 (by decide) _ rfl
  obtain ⟨_, _, k3⟩ := trod_elem Tryd.underlying56 hd 3 (by decide) _ rfl
  rw [sideCells] at k0 k1 k2 k3
  obtain ⟨a0, a1⟩ := side_cells k0
  obtain ⟨b0, b1⟩ := side_cells k1
  obtain ⟨c0, c1⟩ := side_cells k2
  obtain ⟨d0, d1⟩ := side_cells k3
  simp only [List.getElem?_take, List.getElem?_drop] at a0 a1 b0 b1 c0 c1 d0 d1
  have C := fun i v (h : cs[i]? = some v) => (World.var?_cell gSides hvar i).trans (by simpa using h)
  intro i z hz
  match i, hz with
  | 0, hz => cases hz; exact C 0 _ (by simpa using a0)
  | 1, hz => cases hz; exact C 1 _ (by simpa using a1)
  | 2, hz => cases hz; exact C 2 _ (by simpa using b0)
  | 3, hz => cases hz; exact C 3 _ (by simpa using b1)
  | 4, hz => cases hz; exact C 4 _ (by simpa using c0)
  | 5, hz => cases hz; exact C 5 _ (by simpa using c1)
  | 6, hz => cases hz; exact C 6 _ (by simpa using d0)
  | 7, hz => cases hz; exact C 7 _ (by simpa using d1)
theorem sides_readable : ∀ g t, Tryd.prog.globalNamed "loop.example/g00025/impl.sides" = some g → (Tryd.prog.globals[g]?).map (·.type) = some t → Tryd.prog.readableRec t = true ∧ t < Tryd.prog.types.size := by
  intro g t hg ht
  obtain rfl := Option.some.inj (gSides.symm.trans hg)
  obtain rfl := Option.some.inj (gSidesType.symm.trans ht)
  exact ⟨by kernel_rfl, of_decide_eq_true (by kernel_rfl)⟩

end Go.Proofs.YthdjlhhedkfibaaDoor
