/-
  Turns and moves that came in, opened.
-/
import Derived.Test.YtjoalcnedehfgaaFrameR
import Derived.Test.YtjoalcnedehfgaaTn
import Derived.Deep.Strs
namespace Go.Proofs.Ytjoalcnedehfgaa
open Go.ChangeShapes Go.WideShapes Go.ChangeAt Go.RowKit

set_option maxRecDepth 100000 in
/-- A turn that came in. -/
theorem open_turn {H : Type} {enc : TypeId × Value → H} {W : World} {base : Nat} {v : Value} {d : DataW H} {p : List MemPlace}
    (hv : Value.okWide Try.prog W .any base 23 v) (h : DataW.Trod enc Try.prog W 0 (fun _ => true) true 23 v d p) :
    ∃ (k a m : Int) (x : Bool), v = tuV k a m x ∧ (Lit.int .i64 k).wf = true ∧ (Lit.int .i64 a).wf = true ∧ (Lit.int .i64 m).wf = true := by
  obtain ⟨cs, rfl, hsz⟩ := okWide_struct Try.underlying23 hv
  obtain ⟨c0, c1, c2, c3, rfl⟩ := Joins.array4 (hsz.trans (show Try.prog.cellsOf 23 = 4 by kernel_rfl))
  obtain ⟨fuel, hf⟩ := h
  obtain ⟨y0, y1, y2, y3, n, _, _, h0, h1, h2, h3⟩ := Joins.trod_struct4 Try.underlying23 hf
  obtain ⟨a0, e0, _, w0⟩ := DataW.trod_int Try.underlying3 h0
  obtain ⟨a1, e1, _, w1⟩ := DataW.trod_int Try.underlying3 h1
  obtain ⟨a2, e2, _, w2⟩ := DataW.trod_int Try.underlying3 h2
  obtain ⟨b3, e3, _⟩ := DataW.trod_bool Try.underlying4 h3
  have k3 : Try.prog.cellsOf 3 = 1 := by kernel_rfl
  have k4 : Try.prog.cellsOf 4 = 1 := by kernel_rfl
  simp [k3, k4, Value.cells] at e0 e1 e2 e3
  subst e0 e1 e2 e3
  exact ⟨a0, a1, a2, b3, rfl, w0, w1, w2⟩
set_option maxRecDepth 100000 in
/-- A move that came in. -/
theorem open_move {H : Type} {enc : TypeId × Value → H} {W : World} {base : Nat} {v : Value} {d : DataW H} {p : List MemPlace}
    (hv : Value.okWide Try.prog W .any base 46 v) (h : DataW.Trod enc Try.prog W 0 (fun _ => true) true 46 v d p) :
    ∃ (r c : Int) (f g : Bool) (r' c' : Int) (f' g' : Bool) (x y : Int), v = .agg #[.int .i64 r, .int .i64 c, .bool f, .bool g, .int .i64 r', .int .i64 c', .bool f', .bool g', .int .i64 x, .int .i64 y] ∧ (Lit.int .i64 x).wf = true ∧ (Lit.int .i64 y).wf = true := by
  obtain ⟨cs, rfl, hsz⟩ := okWide_struct Try.underlying46 hv
  have h10 : cs.size = 10 := hsz.trans (show Try.prog.cellsOf 46 = 10 by kernel_rfl)
  obtain ⟨c0, c1, c2, c3, c4, c5, c6, c7, c8, c9, rfl⟩ : ∃ c0 c1 c2 c3 c4 c5 c6 c7 c8 c9, cs = #[c0, c1, c2, c3, c4, c5, c6, c7, c8, c9] := by
    obtain ⟨l⟩ := cs
    match l, h10 with
    | [c0, c1, c2, c3, c4, c5, c6, c7, c8, c9], _ => exact ⟨c0, c1, c2, c3, c4, c5, c6, c7, c8, c9, rfl⟩
  obtain ⟨fuel, hf⟩ := h
  obtain ⟨y0, y1, y2, n, _, _, h0, h1, h2⟩ := Deep.trod_struct3 Try.underlying46 hf
  have k : Try.prog.cellsOf 29 = 4 := by kernel_rfl
  have k8 : Try.prog.cellsOf 37 = 8 := by kernel_rfl
  have k3 : Try.prog.cellsOf 3 = 1 := by kernel_rfl
  obtain ⟨z0, z1, n', _, _, g0, g1⟩ := trod_struct2 Try.underlying37 h0
  obtain ⟨r, c, rf, cf, e, w0, w1⟩ := ref_parts g0 c0 c1 c2 c3 (by simp [Value.cells, k, k8])
  obtain ⟨r', c', rf', cf', e', w0', w1'⟩ := ref_parts g1 c4 c5 c6 c7 (by simp [Value.cells, k, k8])
  obtain ⟨a1, e1, _, v1⟩ := DataW.trod_int Try.underlying3 h1
  obtain ⟨a2, e2, _, v2⟩ := DataW.trod_int Try.underlying3 h2
  simp [Value.cells, k, k8, k3] at e e' e1 e2
  obtain ⟨rfl, rfl, rfl, rfl⟩ := e
  obtain ⟨rfl, rfl, rfl, rfl⟩ := e'
  subst e1 e2
  exact ⟨r, c, rf, cf, r', c', rf', cf', a1, a2, rfl, v1, v2⟩

end Go.Proofs.Ytjoalcnedehfgaa
