/-
  Rows of what is shown that came in, opened; their places are numbers of the machine.
-/
import Derived.Test.YtbipmeldmgpknaaFrameB
import Derived.Test.YtbipmeldmgpknaaD9d
import Derived.Deep.Strs
import Derived.Deep.Slices
import Derived.ChangeSlices
namespace Go.Proofs.Ytbipmeldmgpknaa
open Go.ChangeShapes Go.WideShapes Go.ChangeAt Go.RowKit

set_option maxRecDepth 100000 in
theorem shown_partsB {H : Type} {enc : TypeId × Value → H} {W : World} {base : Nat} {sp : Nat → Bool} {held : Bool} {fuel : Nat} {cs : List Value} {y : DataW H × List MemPlace} (hlen : cs.length = 8)
    (h : DataW.trod enc Try.prog W base sp held fuel 36 cs = some y) : ∃ e : ST, cs = e.cells ∧ e.t.length ≤ maxLen ∧ InS e := by
  obtain ⟨c0, c1, c2, c3, c4, c5, c6, c7, rfl⟩ : ∃ c0 c1 c2 c3 c4 c5 c6 c7, cs = [c0, c1, c2, c3, c4, c5, c6, c7] := by
    match cs, hlen with
    | [c0, c1, c2, c3, c4, c5, c6, c7], _ => exact ⟨c0, c1, c2, c3, c4, c5, c6, c7, rfl⟩
  have k3 : Try.prog.cellsOf 3 = 1 := by kernel_rfl
  have k4 : Try.prog.cellsOf 4 = 1 := by kernel_rfl
  have k9 : Try.prog.cellsOf 9 = 1 := by kernel_rfl
  have kd : Try.prog.cellsOf 32 = 3 := by kernel_rfl
  have kv : Try.prog.cellsOf 34 = 5 := by kernel_rfl
  obtain ⟨y0, y1, y2, y3, n0, _, _, g0, g1, g2, g3⟩ := Joins.trod_struct4 Try.underlying36 h
  obtain ⟨u0, u1, u2, n1, _, _, h0, h1, h2⟩ := Deep.trod_struct3 Try.underlying34 g2
  obtain ⟨z0, z1, z2, n', _, _, j0, j1, j2⟩ := Deep.trod_struct3 Try.underlying32 h1
  obtain ⟨a0, e0, _, w0⟩ := DataW.trod_int Try.underlying3 g0
  obtain ⟨a1, e1, _, w1⟩ := DataW.trod_int Try.underlying3 g1
  obtain ⟨a2, e2, _, w2⟩ := DataW.trod_int Try.underlying3 h0
  obtain ⟨b3, e3, _⟩ := DataW.trod_bool Try.underlying4 j0
  obtain ⟨a4, e4, _, w4⟩ := DataW.trod_int Try.underlying3 j1
  obtain ⟨a5, e5, _, w5⟩ := DataW.trod_int Try.underlying3 j2
  obtain ⟨s, e6, _, w6⟩ := DataW.trod_string Try.underlying9 h2
  obtain ⟨b7, e7, _⟩ := DataW.trod_bool Try.underlying4 g3
  simp [k3, k4, k9, kd, kv] at e0 e1 e2 e3 e4 e5 e6 e7
  subst e0 e1 e2 e3 e4 e5 e6 e7
  exact ⟨⟨a0, a1, a2, b3, a4, a5, s.data.toList, b7⟩, rfl, w6, bounds_i64 w0, bounds_i64 w1⟩
set_option maxRecDepth 100000 in
/-- A row of what is shown that came in. -/
theorem open_shownB {H : Type} {enc : TypeId × Value → H} {W : World} {base : Nat} {v : Value} {d : DataW H} {p : List MemPlace}
    (hv : Value.okWide Try.prog W .any base 22 v) (h : DataW.Trod enc Try.prog W 0 (fun _ => true) true 22 v d p) :
    ∃ l : List ST, ShownsIn W v l ∧ l.length ≤ maxLen ∧ (∀ e ∈ l, e.t.length ≤ maxLen) ∧ ∀ e ∈ l, InS e := by
  obtain ⟨a0, len0, cap0, rfl⟩ := okWide_slice Try.underlying22 hv
  obtain ⟨fuel, hf⟩ := h
  have kv : Try.prog.cellsOf 36 = 8 := by kernel_rfl
  rcases Deep.open_slice Try.underlying22 hf with ⟨hcs, hx⟩ | ⟨a, len, cap, m, n', D, Pl, hcs, _, hl, hm, hmm, _, hx⟩
  · simp [Value.cells] at hcs
    obtain ⟨rfl, rfl, rfl⟩ := hcs
    exact ⟨[], ⟨none, 0, rfl, Nat.le_refl _, fun h => by simp at h⟩, by simp, by simp, by simp⟩
  · simp [Value.cells] at hcs
    obtain ⟨rfl, rfl, rfl⟩ := hcs
    simp only [if_true] at hmm
    subst hmm
    have each : ∀ i, i < len0 → ∃ e : ST, (∀ (c : Nat) (u : Value), e.cells[c]? = some u → W.cell? ((a.add (i * 8)).add c) = some u) ∧ e.t.length ≤ maxLen ∧ InS e := by
      intro i hi
      obtain ⟨cs', q1, q2⟩ := hx i (by omega)
      rw [kv] at q1
      obtain ⟨_, hlen, hcell⟩ := World.cells?_some q1
      obtain ⟨e, rfl, b1⟩ := shown_partsB hlen q2
      refine ⟨e, fun c u hc => ?_, b1⟩
      have := hcell c (ST.cells_lt hc)
      rw [this, hc]
    obtain ⟨q, hq⟩ := @Deep.choose_lt ST ⟨zeroST⟩ _ _ each
    refine ⟨(List.range len0).map q, ⟨some a, m, by simp, by simpa using hl, fun h0 => ?_⟩, by simp; omega, ?_, ?_⟩
    · have h0' : 0 < len0 := by simpa using h0
      obtain ⟨pb, po, spt⟩ := a
      have hc0 := (hq 0 h0').1 0 _ rfl
      have hsp : spt = none := by simpa [Addr.add] using World.cell?_spot hc0
      subst hsp
      refine ⟨pb, po, rfl, fun i e hi c u hc => ?_⟩
      rw [List.getElem?_map] at hi
      obtain ⟨j, hj, rfl⟩ := Option.map_eq_some_iff.1 hi
      have hji : j = i ∧ i < len0 := by
        rw [List.getElem?_eq_some_iff] at hj
        obtain ⟨hlt, hj⟩ := hj
        simp at hlt hj
        exact ⟨hj.symm, hlt⟩
      obtain ⟨rfl, hlt⟩ := hji
      have := (hq j hlt).1 c u hc
      rw [Addr.add_lit, Addr.add_lit] at this
      exact this
    · intro e he
      obtain ⟨i, hi, rfl⟩ := List.mem_map.1 he
      exact (hq i (List.mem_range.1 hi)).2.1
    · intro e he
      obtain ⟨i, hi, rfl⟩ := List.mem_map.1 he
      exact (hq i (List.mem_range.1 hi)).2.2

end Go.Proofs.Ytbipmeldmgpknaa
