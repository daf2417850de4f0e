/-
  The tables of the readers of codes, and the library's length, out of a row that lists them.
-/
import Derived.Test.YthedbjjncnddbaaDoorFrameB
import Derived.Test.YthedbjjncnddbaaDoorKx
import Derived.Stop.LaidErr
namespace Go.Proofs.YthedbjjncnddbaaDoor
open Go.ChangeShapes Go.WideShapes Go.ChangeAt Go.RowKit

/-- A variable of an int type holds SOME int. -/
theorem int_of_shapeK {P : Program} {w : World} {g : Nat} {t : TypeId} {zero : Array Value} (h : w.ShapedOpen P) (hg : g < P.globals.size)
    (h0 : ((begin P (fun _ _ => 0) default).world.heap[g]?).bind Obj.row? = some (zero, t)) (hz : zero.size = 1)
    (hb : P.buildable t = true) (hc : P.cellTypes P.depth t = some [t]) (hu : P.underlying t = some (.int .i64)) : ∃ m, w.cell? ⟨g, 0, none⟩ = some (.int .i64 m) := by
  obtain ⟨cs, hh, hs, hr⟩ := h.1 g zero t hg h0
  obtain ⟨ts, hts, _, hall⟩ := hr hb
  rw [hc] at hts
  cases hts
  have h1 : 0 < cs.size := by omega
  obtain ⟨u, hu', hok⟩ := hall 0 cs[0] (by simp [h1])
  have : u = t := by simpa using hu'.symm
  subst this
  have hcell : w.cell? ⟨g, 0, none⟩ = some cs[0] := by simp [World.cell?, hh, h1]
  rw [hcell]
  unfold Cell.ok at hok
  rw [hu] at hok
  cases hv : cs[0] <;> rw [hv] at hok <;> first | exact ⟨_, by rw [hok.1]⟩ | simp at hok
theorem maxLen_ofK {W : World} (h : W.ShapedOpen Tryd.prog) : ∃ m, W.cell? ⟨2, 0, none⟩ = some (.int .i64 m) :=
  int_of_shapeK (t := 3) (zero := #[.int .i64 0]) h (of_decide_eq_true (by kernel_rfl)) (by kernel_rfl) rfl (by kernel_rfl) (by kernel_rfl) Tryd.underlying3
theorem gAhead : Tryd.prog.globalNamed "loop.example/g00025/impl.mayBeAhead" = some 0 := by kernel_rfl
theorem gAheadType : (Tryd.prog.globals[0]?).map (·.type) = some 55 := by kernel_rfl
theorem gWords : Tryd.prog.globalNamed "loop.example/g00025/impl.dateWords" = some 1 := by kernel_rfl
theorem gWordsType : (Tryd.prog.globals[1]?).map (·.type) = some 106 := by kernel_rfl
theorem partCells : Tryd.prog.cellsOf 54 = 1 := by kernel_rfl
theorem strCellsK : Tryd.prog.cellsOf 9 = 1 := by kernel_rfl
theorem u16_cell {H : Type} {enc : TypeId × Value → H} {w : World} {base : Nat} {sp : Nat → Bool} {held : Bool} {fuel : Nat} {cs : List Value} {z : Int} {p : List MemPlace} (o : Nat)
    (h : DataW.trod enc Tryd.prog w base sp held fuel 54 ((cs.drop o).take 1) = some (.lit (.int .u16 z), p)) : cs[o]? = some (.int .u16 z) := by
  obtain ⟨n, hc, hx, _⟩ := DataW.trod_int Tryd.underlying54 h
  simp only [Prod.mk.injEq, DataW.lit.injEq, Lit.int.injEq, true_and] at hx
  have := congrArg (·[0]?) hc
  simp only [List.getElem?_take, List.getElem?_drop, List.getElem?_cons_zero] at this
  simpa [hx.1] using this
theorem str_cellK {H : Type} {enc : TypeId × Value → H} {w : World} {base : Nat} {sp : Nat → Bool} {held : Bool} {fuel : Nat} {cs : List Value} {l : List UInt8} {p : List MemPlace} (o : Nat)
    (h : DataW.trod enc Tryd.prog w base sp held fuel 9 ((cs.drop o).take 1) = some (.lit (.string l), p)) : cs[o]? = some (sV l) := by
  obtain ⟨s, hc, hx, _⟩ := DataW.trod_string Tryd.underlying9 h
  simp only [Prod.mk.injEq, DataW.lit.injEq, Lit.string.injEq] at hx
  have := congrArg (·[0]?) hc
  simp only [List.getElem?_take, List.getElem?_drop, List.getElem?_cons_zero] at this
  have hs : s = ⟨l.toArray⟩ := by
    cases s
    rw [hx.1]
  rw [hs] at this
  simpa using this
set_option maxRecDepth 100000 in
theorem ahead_of {rest : List (String × DataW Unit)} {W : World} (h : laidMet Tryd.prog (("loop.example/g00025/impl.mayBeAhead", Rows.laid_loop_example_g00025_impl_mayBeAhead) :: rest) W) : W.rangeAt 0 0 aheadV := by
  obtain ⟨ps, ⟨g', t', cs, fuel, p, q, hg', ht', hvar, hd, _, _⟩, _⟩ := h
  obtain rfl := Option.some.inj (gAhead.symm.trans hg')
  obtain rfl := Option.some.inj (gAheadType.symm.trans ht')
  have C := fun i v (h : cs[i]? = some v) => (World.var?_cell gAhead hvar i).trans (by simpa using h)
  obtain ⟨_, _, k0⟩ := trod_elem Tryd.underlying55 hd 0 (by decide) _ rfl
  obtain ⟨_, _, k1⟩ := trod_elem Tryd.underlying55 hd 1 (by decide) _ rfl
  obtain ⟨_, _, k2⟩ := trod_elem Tryd.underlying55 hd 2 (by decide) _ rfl
  obtain ⟨_, _, k3⟩ := trod_elem Tryd.underlying55 hd 3 (by decide) _ rfl
  obtain ⟨_, _, k4⟩ := trod_elem Tryd.underlying55 hd 4 (by decide) _ rfl
  obtain ⟨_, _, k5⟩ := trod_elem Tryd.underlying55 hd 5 (by decide) _ rfl
  obtain ⟨_, _, k6⟩ := trod_elem Tryd.underlying55 hd 6 (by decide) _ rfl
  obtain ⟨_, _, k7⟩ := trod_elem Tryd.underlying55 hd 7 (by decide) _ rfl
  obtain ⟨_, _, k8⟩ := trod_elem Tryd.underlying55 hd 8 (by decide) _ rfl
  obtain ⟨_, _, k9⟩ := trod_elem Tryd.underlying55 hd 9 (by decide) _ rfl
  obtain ⟨_, _, k10⟩ := trod_elem Tryd.underlying55 hd 10 (by decide) _ rfl
  rw [partCells] at k0 k1 k2 k3 k4 k5 k6 k7 k8 k9 k10
  have a0 := u16_cell (0 * 1) k0
  have a1 := u16_cell (1 * 1) k1
  have a2 := u16_cell (2 * 1) k2
  have a3 := u16_cell (3 * 1) k3
  have a4 := u16_cell (4 * 1) k4
  have a5 := u16_cell (5 * 1) k5
  have a6 := u16_cell (6 * 1) k6
  have a7 := u16_cell (7 * 1) k7
  have a8 := u16_cell (8 * 1) k8
  have a9 := u16_cell (9 * 1) k9
  have a10 := u16_cell (10 * 1) k10
  intro i z hz
  match i, hz with
  | 0, hz => cases hz; exact C 0 _ (by simpa using a0)
  | 1, hz => cases hz; exact C 1 _ (by simpa using a1)
  | 2, hz => cases hz; exact C 2 _ (by simpa using a2)
  | 3, hz => cases hz; exact C 3 _ (by simpa using a3)
  | 4, hz => cases hz; exact C 4 _ (by simpa using a4)
  | 5, hz => cases hz; exact C 5 _ (by simpa using a5)
  | 6, hz => cases hz; exact C 6 _ (by simpa using a6)
  | 7, hz => cases hz; exact C 7 _ (by simpa using a7)
  | 8, hz => cases hz; exact C 8 _ (by simpa using a8)
  | 9, hz => cases hz; exact C 9 _ (by simpa using a9)
  | 10, hz => cases hz; exact C 10 _ (by simpa using a10)
theorem ahead_readable : ∀ g t, Tryd.prog.globalNamed "loop.example/g00025/impl.mayBeAhead" = some g → (Tryd.prog.globals[g]?).map (·.type) = some t → Tryd.prog.readableRec t = true ∧ t < Tryd.prog.types.size := by
  intro g t hg ht
  obtain rfl := Option.some.inj (gAhead.symm.trans hg)
  obtain rfl := Option.some.inj (gAheadType.symm.trans ht)
  exact ⟨by kernel_rfl, of_decide_eq_true (by kernel_rfl)⟩
set_option maxRecDepth 100000 in
theorem words_of {rest : List (String × DataW Unit)} {W : World} (h : laidMet Tryd.prog (("loop.example/g00025/impl.dateWords", Rows.laid_loop_example_g00025_impl_dateWords) :: rest) W) : W.rangeAt 1 0 marksV := by
  obtain ⟨ps, ⟨g', t', cs, fuel, p, q, hg', ht', hvar, hd, _, _⟩, _⟩ := h
  obtain rfl := Option.some.inj (gWords.symm.trans hg')
  obtain rfl := Option.some.inj (gWordsType.symm.trans ht')
  have C := fun i v (h : cs[i]? = some v) => (World.var?_cell gWords hvar i).trans (by simpa using h)
  obtain ⟨_, _, k0⟩ := trod_elem Tryd.underlying106 hd 0 (by decide) _ rfl
  obtain ⟨_, _, k1⟩ := trod_elem Tryd.underlying106 hd 1 (by decide) _ rfl
  obtain ⟨_, _, k2⟩ := trod_elem Tryd.underlying106 hd 2 (by decide) _ rfl
  obtain ⟨_, _, k3⟩ := trod_elem Tryd.underlying106 hd 3 (by decide) _ rfl
  obtain ⟨_, _, k4⟩ := trod_elem Tryd.underlying106 hd 4 (by decide) _ rfl
  obtain ⟨_, _, k5⟩ := trod_elem Tryd.underlying106 hd 5 (by decide) _ rfl
  obtain ⟨_, _, k6⟩ := trod_elem Tryd.underlying106 hd 6 (by decide) _ rfl
  obtain ⟨_, _, k7⟩ := trod_elem Tryd.underlying106 hd 7 (by decide) _ rfl
  obtain ⟨_, _, k8⟩ := trod_elem Tryd.underlying106 hd 8 (by decide) _ rfl
  obtain ⟨_, _, k9⟩ := trod_elem Tryd.underlying106 hd 9 (by decide) _ rfl
  obtain ⟨_, _, k10⟩ := trod_elem Tryd.underlying106 hd 10 (by decide) _ rfl
  obtain ⟨_, _, k11⟩ := trod_elem Tryd.underlying106 hd 11 (by decide) _ rfl
  obtain ⟨_, _, k12⟩ := trod_elem Tryd.underlying106 hd 12 (by decide) _ rfl
  obtain ⟨_, _, k13⟩ := trod_elem Tryd.underlying106 hd 13 (by decide) _ rfl
  rw [strCellsK] at k0 k1 k2 k3 k4 k5 k6 k7 k8 k9 k10 k11 k12 k13
  have a0 := str_cellK (0 * 1) k0
  have a1 := str_cellK (1 * 1) k1
  have a2 := str_cellK (2 * 1) k2
  have a3 := str_cellK (3 * 1) k3
  have a4 := str_cellK (4 * 1) k4
  have a5 := str_cellK (5 * 1) k5
  have a6 := str_cellK (6 * 1) k6
  have a7 := str_cellK (7 * 1) k7
  have a8 := str_cellK (8 * 1) k8
  have a9 := str_cellK (9 * 1) k9
  have a10 := str_cellK (10 * 1) k10
  have a11 := str_cellK (11 * 1) k11
  have a12 := str_cellK (12 * 1) k12
  have a13 := str_cellK (13 * 1) k13
  intro i z hz
  match i, hz with
  | 0, hz => cases hz; exact C 0 _ (by simpa using a0)
  | 1, hz => cases hz; exact C 1 _ (by simpa using a1)
  | 2, hz => cases hz; exact C 2 _ (by simpa using a2)
  | 3, hz => cases hz; exact C 3 _ (by simpa using a3)
  | 4, hz => cases hz; exact C 4 _ (by simpa using a4)
  | 5, hz => cases hz; exact C 5 _ (by simpa using a5)
  | 6, hz => cases hz; exact C 6 _ (by simpa using a6)
  | 7, hz => cases hz; exact C 7 _ (by simpa using a7)
  | 8, hz => cases hz; exact C 8 _ (by simpa using a8)
  | 9, hz => cases hz; exact C 9 _ (by simpa using a9)
  | 10, hz => cases hz; exact C 10 _ (by simpa using a10)
  | 11, hz => cases hz; exact C 11 _ (by simpa using a11)
  | 12, hz => cases hz; exact C 12 _ (by simpa using a12)
  | 13, hz => cases hz; exact C 13 _ (by simpa using a13)
theorem words_readable : ∀ g t, Tryd.prog.globalNamed "loop.example/g00025/impl.dateWords" = some g → (Tryd.prog.globals[g]?).map (·.type) = some t → Tryd.prog.readableRec t = true ∧ t < Tryd.prog.types.size := by
  intro g t hg ht
  obtain rfl := Option.some.inj (gWords.symm.trans hg)
  obtain rfl := Option.some.inj (gWordsType.symm.trans ht)
  exact ⟨by kernel_rfl, of_decide_eq_true (by kernel_rfl)⟩

end Go.Proofs.YthedbjjncnddbaaDoor
