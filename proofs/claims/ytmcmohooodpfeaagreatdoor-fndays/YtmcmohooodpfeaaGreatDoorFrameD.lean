/-
  What the rows of the chapter of dates share: the two tables' cells out of the row's list, a date opened.
-/
import Derived.Test.YtmcmohooodpfeaaGreatDoorFrameB
import Derived.Test.YtmcmohooodpfeaaGreatDoorDatA
import Derived.Stop.LaidErr
namespace Go.Proofs.YtmcmohooodpfeaaGreatDoor
open Go.ChangeShapes Go.WideShapes Go.ChangeAt Go.RowKit

theorem gMonths : Tryz.prog.globalNamed "loop.example/g00025/impl.monthLengths" = some 1 := by kernel_rfl
theorem gMonthsType : (Tryz.prog.globals[1]?).map (·.type) = some 62 := by kernel_rfl
/-- The lengths of the months, out of a row that lists them first. -/
theorem months_of {rest : List (String × DataW Unit)} {W : World} (h : laidMet Tryz.prog (("loop.example/g00025/impl.monthLengths", Rows.laid_loop_example_g00025_impl_monthLengths) :: rest) W) : Months W := by
  have t : Lib.TabIs Tryz.prog W "loop.example/g00025/impl.monthLengths" .i64 [0, 31, 28, 31, 30, 31, 30, 31, 31, 30, 31, 30, 31] :=
    Lib.tabIs_of_head (rest := rest) gMonths gMonthsType Tryz.underlying62 Tryz.underlying3 (by kernel_rfl) (by kernel_rfl) h
  intro i h0 hi
  have e : ∀ i : Nat, i < 13 → 1 ≤ i → ([0, 31, 28, 31, 30, 31, 30, 31, 31, 30, 31, 30, 31] : List Int).getD i 0 = mtab (i : Int) := by decide +kernel
  rw [← e i (by omega) h0]
  exact t.cell gMonths i (by show i < 13; omega)
theorem months_readable : ∀ g t, Tryz.prog.globalNamed "loop.example/g00025/impl.monthLengths" = some g → (Tryz.prog.globals[g]?).map (·.type) = some t → Tryz.prog.readableRec t = true ∧ t < Tryz.prog.types.size := by
  intro g t hg ht
  obtain rfl := Option.some.inj (gMonths.symm.trans hg)
  obtain rfl := Option.some.inj (gMonthsType.symm.trans ht)
  exact ⟨by kernel_rfl, of_decide_eq_true (by kernel_rfl)⟩

theorem gCals : Tryz.prog.globalNamed "loop.example/g00025/impl.calendars" = some 0 := by kernel_rfl
theorem gCalsType : (Tryz.prog.globals[0]?).map (·.type) = some 61 := by kernel_rfl
theorem calCells : Tryz.prog.cellsOf 60 = 5 := by kernel_rfl
theorem dateCells : Tryz.prog.cellsOf 26 = 3 := by kernel_rfl
theorem intCells : Tryz.prog.cellsOf 3 = 1 := by kernel_rfl
theorem cal_fields : ∃ fs : Array Field, Tryz.prog.underlying 60 = some (.struct fs) ∧ ∃ f0 f1 f2, fs.toList[0]? = some f0 ∧ fs.toList[1]? = some f1 ∧ fs.toList[2]? = some f2 ∧ (f0.type = 3 ∧ f0.offset = 0) ∧ (f1.type = 3 ∧ f1.offset = 1) ∧ (f2.type = 26 ∧ f2.offset = 2) :=
  ⟨_, Tryz.underlying60, _, _, _, rfl, rfl, rfl, ⟨rfl, rfl⟩, ⟨rfl, rfl⟩, ⟨rfl, rfl⟩⟩
theorem date_fields : ∃ fs : Array Field, Tryz.prog.underlying 26 = some (.struct fs) ∧ ∃ f0 f1 f2, fs.toList[0]? = some f0 ∧ fs.toList[1]? = some f1 ∧ fs.toList[2]? = some f2 ∧ (f0.type = 3 ∧ f0.offset = 0) ∧ (f1.type = 3 ∧ f1.offset = 1) ∧ (f2.type = 3 ∧ f2.offset = 2) :=
  ⟨_, Tryz.underlying26, _, _, _, rfl, rfl, rfl, ⟨rfl, rfl⟩, ⟨rfl, rfl⟩, ⟨rfl, rfl⟩⟩

theorem int_cell {H : Type} {enc : TypeId × Value → H} {w : World} {base : Nat} {sp : Nat → Bool} {held : Bool} {fuel : Nat} {cs : List Value} {z : Int} {p : List MemPlace} (o : Nat)
    (h : DataW.trod enc Tryz.prog w base sp held fuel 3 ((cs.drop o).take 1) = some (.lit (.int .i64 z), p)) : cs[o]? = some (.int .i64 z) := by
  obtain ⟨n, hc, hx, _⟩ := DataW.trod_int Tryz.underlying3 h
  simp only [Prod.mk.injEq, DataW.lit.injEq, Lit.int.injEq, true_and] at hx
  have := congrArg (·[0]?) hc
  simp only [List.getElem?_take, List.getElem?_drop, List.getElem?_cons_zero] at this
  simpa [hx.1] using this
theorem date_cells {H : Type} {enc : TypeId × Value → H} {w : World} {base : Nat} {sp : Nat → Bool} {held : Bool} {fuel : Nat} {cs : List Value} {a b c : Int} {p : List MemPlace}
    (h : DataW.trod enc Tryz.prog w base sp held fuel 26 cs = some (.agg [.lit (.int .i64 a), .lit (.int .i64 b), .lit (.int .i64 c)], p)) : cs[0]? = some (.int .i64 a) ∧ cs[1]? = some (.int .i64 b) ∧ cs[2]? = some (.int .i64 c) := by
  obtain ⟨fs, ht, f0, f1, f2, e0, e1, e2, ⟨t0, o0⟩, ⟨t1, o1⟩, ⟨t2, o2⟩⟩ := date_fields
  obtain ⟨_, _, k0⟩ := trod_field ht h 0 f0 e0 _ rfl
  obtain ⟨_, _, k1⟩ := trod_field ht h 1 f1 e1 _ rfl
  obtain ⟨_, _, k2⟩ := trod_field ht h 2 f2 e2 _ rfl
  rw [t0, o0, intCells] at k0
  rw [t1, o1, intCells] at k1
  rw [t2, o2, intCells] at k2
  exact ⟨int_cell 0 k0, int_cell 1 k1, int_cell 2 k2⟩
theorem cal_cells {H : Type} {enc : TypeId × Value → H} {w : World} {base : Nat} {sp : Nat → Bool} {held : Bool} {fuel : Nat} {cs : List Value} {y z a b c : Int} {p : List MemPlace}
    (h : DataW.trod enc Tryz.prog w base sp held fuel 60 cs = some (.agg [.lit (.int .i64 y), .lit (.int .i64 z), .agg [.lit (.int .i64 a), .lit (.int .i64 b), .lit (.int .i64 c)]], p)) :
    cs[0]? = some (.int .i64 y) ∧ cs[1]? = some (.int .i64 z) ∧ cs[2]? = some (.int .i64 a) ∧ cs[3]? = some (.int .i64 b) ∧ cs[4]? = some (.int .i64 c) := by
  obtain ⟨fs, ht, f0, f1, f2, e0, e1, e2, ⟨t0, o0⟩, ⟨t1, o1⟩, ⟨t2, o2⟩⟩ := cal_fields
  obtain ⟨_, _, k0⟩ := trod_field ht h 0 f0 e0 _ rfl
  obtain ⟨_, _, k1⟩ := trod_field ht h 1 f1 e1 _ rfl
  obtain ⟨_, _, k2⟩ := trod_field ht h 2 f2 e2 _ rfl
  rw [t0, o0, intCells] at k0
  rw [t1, o1, intCells] at k1
  rw [t2, o2, dateCells] at k2
  obtain ⟨d0, d1, d2⟩ := date_cells k2
  simp only [List.getElem?_take, List.getElem?_drop] at d0 d1 d2
  exact ⟨int_cell 0 k0, int_cell 1 k1, by simpa using d0, by simpa using d1, by simpa using d2⟩
set_option maxRecDepth 100000 in
/-- The calendars, out of a row that lists them first. -/
theorem cals_of {rest : List (String × DataW Unit)} {W : World} (h : laidMet Tryz.prog (("loop.example/g00025/impl.calendars", Rows.laid_loop_example_g00025_impl_calendars) :: rest) W) : Cals W := by
  obtain ⟨ps, ⟨g', t', cs, fuel, p, q, hg', ht', hvar, hd, _, _⟩, _⟩ := h
  obtain rfl := Option.some.inj (gCals.symm.trans hg')
  obtain rfl := Option.some.inj (gCalsType.symm.trans ht')
  obtain ⟨_, _, k1⟩ := trod_elem Tryz.underlying61 hd 1 (by decide) _ rfl
  obtain ⟨_, _, k2⟩ := trod_elem Tryz.underlying61 hd 2 (by decide) _ rfl
  rw [calCells] at k1 k2
  obtain ⟨a0, a1, a2, a3, a4⟩ := cal_cells k1
  obtain ⟨b0, b1, b2, b3, b4⟩ := cal_cells k2
  simp only [List.getElem?_take, List.getElem?_drop] at a0 a1 a2 a3 a4 b0 b1 b2 b3 b4
  have C := fun i v (h : cs[i]? = some v) => (World.var?_cell gCals hvar i).trans (by simpa using h)
  exact ⟨⟨C 5 _ (by simpa using a0), C 6 _ (by simpa using a1), C 7 _ (by simpa using a2), C 8 _ (by simpa using a3), C 9 _ (by simpa using a4)⟩, C 10 _ (by simpa using b0), C 11 _ (by simpa using b1), C 12 _ (by simpa using b2), C 13 _ (by simpa using b3), C 14 _ (by simpa using b4)⟩
theorem cals_readable : ∀ g t, Tryz.prog.globalNamed "loop.example/g00025/impl.calendars" = some g → (Tryz.prog.globals[g]?).map (·.type) = some t → Tryz.prog.readableRec t = true ∧ t < Tryz.prog.types.size := by
  intro g t hg ht
  obtain rfl := Option.some.inj (gCals.symm.trans hg)
  obtain rfl := Option.some.inj (gCalsType.symm.trans ht)
  exact ⟨by kernel_rfl, of_decide_eq_true (by kernel_rfl)⟩

end Go.Proofs.YtmcmohooodpfeaaGreatDoor
