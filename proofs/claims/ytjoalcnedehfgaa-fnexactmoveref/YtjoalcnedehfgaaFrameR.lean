/-
  Refs and areas that came in, opened.
-/
import Derived.Test.YtjoalcnedehfgaaFrameB
import Derived.Test.YtjoalcnedehfgaaRef
namespace Go.Proofs.Ytjoalcnedehfgaa
open Go.ChangeShapes Go.WideShapes Go.ChangeAt Go.RowKit

abbrev areaV (r c : Int) (rf cf : Bool) (r' c' : Int) (rf' cf' : Bool) : Value := .agg #[.int .i64 r, .int .i64 c, .bool rf, .bool cf, .int .i64 r', .int .i64 c', .bool rf', .bool cf']

theorem ref_parts {H : Type} {enc : TypeId × Value → H} {W : World} {fuel : Nat} {cs : List Value} {y : DataW H × List MemPlace} (h : DataW.trod enc Try.prog W 0 (fun _ => true) true fuel 29 cs = some y) (c0 c1 c2 c3 : Value) (hc : cs = [c0, c1, c2, c3]) :
    ∃ (r c : Int) (rf cf : Bool), cs = [.int .i64 r, .int .i64 c, .bool rf, .bool cf] ∧ (Lit.int .i64 r).wf = true ∧ (Lit.int .i64 c).wf = true := by
  obtain ⟨y0, y1, y2, y3, n, _, _, h0, h1, h2, h3⟩ := Joins.trod_struct4 Try.underlying29 h
  obtain ⟨a0, e0, _, w0⟩ := DataW.trod_int Try.underlying3 h0
  obtain ⟨a1, e1, _, w1⟩ := DataW.trod_int Try.underlying3 h1
  obtain ⟨b2, e2, _⟩ := DataW.trod_bool Try.underlying4 h2
  obtain ⟨b3, e3, _⟩ := DataW.trod_bool Try.underlying4 h3
  subst hc
  have k3 : Try.prog.cellsOf 3 = 1 := by kernel_rfl
  have k4 : Try.prog.cellsOf 4 = 1 := by kernel_rfl
  simp [k3, k4] at e0 e1 e2 e3
  subst e0 e1 e2 e3
  exact ⟨a0, a1, b2, b3, rfl, w0, w1⟩
set_option maxRecDepth 100000 in
/-- A ref that came in. -/
theorem open_ref {H : Type} {enc : TypeId × Value → H} {W : World} {base : Nat} {v : Value} {d : DataW H} {p : List MemPlace}
    (hv : Value.okWide Try.prog W .any base 29 v) (h : DataW.Trod enc Try.prog W 0 (fun _ => true) true 29 v d p) :
    ∃ (r c : Int) (rf cf : Bool), v = refV r c rf cf ∧ (Lit.int .i64 r).wf = true ∧ (Lit.int .i64 c).wf = true := by
  obtain ⟨cs, rfl, hsz⟩ := okWide_struct Try.underlying29 hv
  obtain ⟨c0, c1, c2, c3, rfl⟩ := Joins.array4 (hsz.trans (show Try.prog.cellsOf 29 = 4 by kernel_rfl))
  obtain ⟨fuel, hf⟩ := h
  obtain ⟨r, c, rf, cf, e, w0, w1⟩ := ref_parts hf c0 c1 c2 c3 (by simp [Value.cells])
  simp [Value.cells] at e
  obtain ⟨rfl, rfl, rfl, rfl⟩ := e
  exact ⟨r, c, rf, cf, rfl, w0, w1⟩
set_option maxRecDepth 100000 in
/-- An area that came in. -/
theorem open_area {H : Type} {enc : TypeId × Value → H} {W : World} {base : Nat} {v : Value} {d : DataW H} {p : List MemPlace}
    (hv : Value.okWide Try.prog W .any base 37 v) (h : DataW.Trod enc Try.prog W 0 (fun _ => true) true 37 v d p) :
    ∃ (r c : Int) (rf cf : Bool) (r' c' : Int) (rf' cf' : Bool), v = areaV r c rf cf r' c' rf' cf' ∧ ((Lit.int .i64 r).wf = true ∧ (Lit.int .i64 c).wf = true) ∧ (Lit.int .i64 r').wf = true ∧ (Lit.int .i64 c').wf = true := by
  obtain ⟨cs, rfl, hsz⟩ := okWide_struct Try.underlying37 hv
  have h8 : cs.size = 8 := hsz.trans (show Try.prog.cellsOf 37 = 8 by kernel_rfl)
  obtain ⟨c0, c1, c2, c3, c4, c5, c6, c7, rfl⟩ : ∃ c0 c1 c2 c3 c4 c5 c6 c7, cs = #[c0, c1, c2, c3, c4, c5, c6, c7] := by
    obtain ⟨l⟩ := cs
    match l, h8 with
    | [c0, c1, c2, c3, c4, c5, c6, c7], _ => exact ⟨c0, c1, c2, c3, c4, c5, c6, c7, rfl⟩
  obtain ⟨fuel, hf⟩ := h
  obtain ⟨y0, y1, n, _, _, h0, h1⟩ := trod_struct2 Try.underlying37 hf
  have k : Try.prog.cellsOf 29 = 4 := by kernel_rfl
  obtain ⟨r, c, rf, cf, e, w0, w1⟩ := ref_parts h0 c0 c1 c2 c3 (by simp [Value.cells, k])
  obtain ⟨r', c', rf', cf', e', w0', w1'⟩ := ref_parts h1 c4 c5 c6 c7 (by simp [Value.cells, k])
  simp [Value.cells, k] at e e'
  obtain ⟨rfl, rfl, rfl, rfl⟩ := e
  obtain ⟨rfl, rfl, rfl, rfl⟩ := e'
  exact ⟨r, c, rf, cf, r', c', rf', cf', rfl, ⟨w0, w1⟩, w0', w1'⟩

end Go.Proofs.Ytjoalcnedehfgaa
