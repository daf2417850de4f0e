/-
  Values that came in, opened; the errors out of a row that lists them first.
-/
import Derived.Test.YtbebmjiopijheaaDoorFrame
import Derived.Test.YtbebmjiopijheaaDoorFk
import Derived.Deep.Strs
import Derived.Stop.LaidErr
namespace Go.Proofs.YtbebmjiopijheaaDoor
open Go.ChangeShapes Go.WideShapes Go.ChangeAt Go.RowKit

set_option maxRecDepth 100000 in
/-- A value that came in. -/
theorem open_value {H : Type} {enc : TypeId × Value → H} {W : World} {base : Nat} {v : Value} {d : DataW H} {p : List MemPlace}
    (hv : Value.okWide Tryd.prog W .any base 25 v) (h : DataW.Trod enc Tryd.prog W 0 (fun _ => true) true 25 v d p) :
    ∃ (k : Int) (n : Bool) (m x : Int) (s : ByteArray), v = .agg #[.int .i64 k, .bool n, .int .i64 m, .int .i64 x, .string s] ∧ (Lit.int .i64 k).wf = true ∧ (Lit.int .i64 m).wf = true ∧ (Lit.int .i64 x).wf = true ∧ s.size ≤ maxLen := by
  obtain ⟨cs, rfl, hsz⟩ := okWide_struct Tryd.underlying25 hv
  have h5 : cs.size = 5 := hsz.trans (show Tryd.prog.cellsOf 25 = 5 by kernel_rfl)
  obtain ⟨c0, c1, c2, c3, c4, rfl⟩ : ∃ c0 c1 c2 c3 c4, cs = #[c0, c1, c2, c3, c4] := by
    obtain ⟨l⟩ := cs
    match l, h5 with
    | [c0, c1, c2, c3, c4], _ => exact ⟨c0, c1, c2, c3, c4, rfl⟩
  obtain ⟨fuel, hf⟩ := h
  obtain ⟨y0, y1, y2, n, _, _, h0, h1, h2⟩ := Deep.trod_struct3 Tryd.underlying25 hf
  have k3 : Tryd.prog.cellsOf 3 = 1 := by kernel_rfl
  have k4 : Tryd.prog.cellsOf 4 = 1 := by kernel_rfl
  have k9 : Tryd.prog.cellsOf 9 = 1 := by kernel_rfl
  have kd : Tryd.prog.cellsOf 23 = 3 := by kernel_rfl
  obtain ⟨z0, z1, z2, n', _, _, g0, g1, g2⟩ := Deep.trod_struct3 Tryd.underlying23 h1
  obtain ⟨a0, e0, _, w0⟩ := DataW.trod_int Tryd.underlying3 h0
  obtain ⟨b1, e1, _⟩ := DataW.trod_bool Tryd.underlying4 g0
  obtain ⟨a2, e2, _, w2⟩ := DataW.trod_int Tryd.underlying3 g1
  obtain ⟨a3, e3, _, w3⟩ := DataW.trod_int Tryd.underlying3 g2
  obtain ⟨s, e4, _, w4⟩ := DataW.trod_string Tryd.underlying9 h2
  simp [Value.cells, k3, k4, k9, kd] at e0 e1 e2 e3 e4
  subst e0 e1 e2 e3 e4
  exact ⟨a0, b1, a2, a3, s, rfl, w0, w2, w3, w4⟩

theorem gErrs : Tryd.prog.globalNamed "loop.example/g00025/impl.errorTexts" = some 1 := by kernel_rfl
theorem gErrsType : (Tryd.prog.globals[1]?).map (·.type) = some 66 := by kernel_rfl
theorem strCellsX : Tryd.prog.cellsOf 9 = 1 := by kernel_rfl
theorem str_cellX {H : Type} {enc : TypeId × Value → H} {w : World} {base : Nat} {sp : Nat → Bool} {held : Bool} {fuel : Nat} {cs : List Value} {l : List UInt8} {p : List MemPlace} (o : Nat)
    (h : DataW.trod enc Tryd.prog w base sp held fuel 9 ((cs.drop (o * Tryd.prog.cellsOf 9)).take (Tryd.prog.cellsOf 9)) = some (.lit (.string l), p)) : cs[o]? = some (sV l) := by
  rw [strCellsX, Nat.mul_one] at h
  obtain ⟨s, hc, hx, _⟩ := DataW.trod_string Tryd.underlying9 h
  simp only [Prod.mk.injEq, DataW.lit.injEq, Lit.string.injEq] at hx
  have := congrArg (·[0]?) hc
  simp only [List.getElem?_take, List.getElem?_drop, List.getElem?_cons_zero] at this
  have hs : s = ⟨l.toArray⟩ := by
    cases s
    rw [hx.1]
  rw [hs] at this
  simpa using this
set_option maxRecDepth 100000 in
theorem errs_of {rest : List (String × DataW Unit)} {W : World} (h : laidMet Tryd.prog (("loop.example/g00025/impl.errorTexts", Rows.laid_loop_example_g00025_impl_errorTexts) :: rest) W) : ErrTab W := by
  obtain ⟨ps, ⟨g', t', cs, fuel, p, q, hg', ht', hvar, hd, _, _⟩, _⟩ := h
  obtain rfl := Option.some.inj (gErrs.symm.trans hg')
  obtain rfl := Option.some.inj (gErrsType.symm.trans ht')
  have C := fun i v (h : cs.toList[i]? = some v) => (World.var?_cell gErrs hvar i).trans (by simpa using h)
  intro i t hi
  have h9 : i < 9 := (List.getElem?_eq_some_iff.1 hi).1
  match i, h9, hi with
  | 0, h9, hi => cases hi; obtain ⟨_, _, k⟩ := trod_elem Tryd.underlying66 hd 0 h9 _ rfl; exact C 0 _ (str_cellX 0 k)
  | 1, h9, hi => cases hi; obtain ⟨_, _, k⟩ := trod_elem Tryd.underlying66 hd 1 h9 _ rfl; exact C 1 _ (str_cellX 1 k)
  | 2, h9, hi => cases hi; obtain ⟨_, _, k⟩ := trod_elem Tryd.underlying66 hd 2 h9 _ rfl; exact C 2 _ (str_cellX 2 k)
  | 3, h9, hi => cases hi; obtain ⟨_, _, k⟩ := trod_elem Tryd.underlying66 hd 3 h9 _ rfl; exact C 3 _ (str_cellX 3 k)
  | 4, h9, hi => cases hi; obtain ⟨_, _, k⟩ := trod_elem Tryd.underlying66 hd 4 h9 _ rfl; exact C 4 _ (str_cellX 4 k)
  | 5, h9, hi => cases hi; obtain ⟨_, _, k⟩ := trod_elem Tryd.underlying66 hd 5 h9 _ rfl; exact C 5 _ (str_cellX 5 k)
  | 6, h9, hi => cases hi; obtain ⟨_, _, k⟩ := trod_elem Tryd.underlying66 hd 6 h9 _ rfl; exact C 6 _ (str_cellX 6 k)
  | 7, h9, hi => cases hi; obtain ⟨_, _, k⟩ := trod_elem Tryd.underlying66 hd 7 h9 _ rfl; exact C 7 _ (str_cellX 7 k)
  | 8, h9, hi => cases hi; obtain ⟨_, _, k⟩ := trod_elem Tryd.underlying66 hd 8 h9 _ rfl; exact C 8 _ (str_cellX 8 k)
theorem errs_readable : ∀ g t, Tryd.prog.globalNamed "loop.example/g00025/impl.errorTexts" = some g → (Tryd.prog.globals[g]?).map (·.type) = some t → Tryd.prog.readableRec t = true ∧ t < Tryd.prog.types.size := by
  intro g t hg ht
  obtain rfl := Option.some.inj (gErrs.symm.trans hg)
  obtain rfl := Option.some.inj (gErrsType.symm.trans ht)
  exact ⟨by kernel_rfl, of_decide_eq_true (by kernel_rfl)⟩

end Go.Proofs.YtbebmjiopijheaaDoor

