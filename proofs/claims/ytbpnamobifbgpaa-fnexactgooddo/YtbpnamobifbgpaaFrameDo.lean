/-
  An operation that came in, opened.
-/
import Derived.Test.YtbpnamobifbgpaaFrameB
import Derived.Test.YtbpnamobifbgpaaDg1
import Derived.Deep.Strs
import Derived.Lib.SmallJoins
namespace Go.Proofs.Ytbpnamobifbgpaa
open Go.ChangeShapes Go.WideShapes Go.ChangeAt Go.RowKit

set_option maxRecDepth 100000 in
theorem open_do {H : Type} {enc : TypeId × Value → H} {W : World} {base : Nat} {v : Value} {d : DataW H} {p : List MemPlace}
    (hv : Value.okWide Try.prog W .any base 27 v) (h : DataW.Trod enc Try.prog W 0 (fun _ => true) true 27 v d p) :
    ∃ (k o r c : Int) (t : List UInt8) (a b m : Int) (x : Bool), v = doV k o r c t a b m x ∧ t.length ≤ 9223372036854775807 := by
  obtain ⟨cs, rfl, hsz⟩ := okWide_struct Try.underlying27 hv
  have h9 : cs.size = 9 := hsz.trans (show Try.prog.cellsOf 27 = 9 by kernel_rfl)
  obtain ⟨c0, c1, c2, c3, c4, c5, c6, c7, c8, rfl⟩ : ∃ c0 c1 c2 c3 c4 c5 c6 c7 c8, cs = #[c0, c1, c2, c3, c4, c5, c6, c7, c8] := by
    obtain ⟨l⟩ := cs
    match l, h9 with
    | [c0, c1, c2, c3, c4, c5, c6, c7, c8], _ => exact ⟨c0, c1, c2, c3, c4, c5, c6, c7, c8, rfl⟩
  obtain ⟨fuel, hf⟩ := h
  have k3 : Try.prog.cellsOf 3 = 1 := by kernel_rfl
  have k4 : Try.prog.cellsOf 4 = 1 := by kernel_rfl
  have k9 : Try.prog.cellsOf 9 = 1 := by kernel_rfl
  have kc : Try.prog.cellsOf 23 = 3 := by kernel_rfl
  have kt : Try.prog.cellsOf 25 = 4 := by kernel_rfl
  obtain ⟨y0, y1, y2, y3, n, _, _, h0, h1, h2, h3⟩ := Joins.trod_struct4 Try.underlying27 hf
  obtain ⟨a0, e0, _, w0⟩ := DataW.trod_int Try.underlying3 h0
  obtain ⟨a1, e1, _, w1⟩ := DataW.trod_int Try.underlying3 h1
  obtain ⟨z0, z1, z2, n', _, _, g0, g1, g2⟩ := Deep.trod_struct3 Try.underlying23 h2
  obtain ⟨x0, f0, _, v0⟩ := DataW.trod_int Try.underlying3 g0
  obtain ⟨x1, f1, _, v1⟩ := DataW.trod_int Try.underlying3 g1
  obtain ⟨s, f2, _, v2⟩ := DataW.trod_string Try.underlying9 g2
  obtain ⟨u0, u1, u2, u3, n'', _, _, i0, i1, i2, i3⟩ := Joins.trod_struct4 Try.underlying25 h3
  obtain ⟨t0, j0, _, p0⟩ := DataW.trod_int Try.underlying3 i0
  obtain ⟨t1, j1, _, p1⟩ := DataW.trod_int Try.underlying3 i1
  obtain ⟨t2, j2, _, p2⟩ := DataW.trod_int Try.underlying3 i2
  obtain ⟨b3, j3, _⟩ := DataW.trod_bool Try.underlying4 i3
  simp [k3, k4, k9, kc, kt, Value.cells] at e0 e1 f0 f1 f2 j0 j1 j2 j3
  subst e0 e1 f0 f1 f2 j0 j1 j2 j3
  have w2' : s.data.toList.length ≤ 9223372036854775807 := by have := v2; unfold maxLen at this; simpa using this
  exact ⟨a0, a1, x0, x1, s.data.toList, t0, t1, t2, b3, rfl, w2'⟩

end Go.Proofs.Ytbpnamobifbgpaa
