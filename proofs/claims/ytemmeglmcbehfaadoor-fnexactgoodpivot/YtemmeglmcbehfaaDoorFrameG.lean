/-
  Grids that came in, opened.
-/
import Derived.Test.YtemmeglmcbehfaaDoorFrameX
import Derived.Test.YtemmeglmcbehfaaDoorV7d
import Derived.Deep.Slices
import Derived.ChangeSlices
namespace Go.Proofs.YtemmeglmcbehfaaDoor
open Go.ChangeShapes Go.WideShapes Go.ChangeAt Go.RowKit

set_option maxRecDepth 100000 in
theorem value_parts {H : Type} {enc : TypeId × Value → H} {W : World} {base : Nat} {sp : Nat → Bool} {held : Bool} {fuel : Nat} {cs : List Value} {y : DataW H × List MemPlace} (hlen : cs.length = 5)
    (h : DataW.trod enc Tryd.prog W base sp held fuel 65 cs = some y) : ∃ e : VT, cs = e.cells ∧ (-9223372036854775808 ≤ e.d ∧ e.d ≤ 9223372036854775807) ∧ e.t.length ≤ maxLen := by
  obtain ⟨c0, c1, c2, c3, c4, rfl⟩ : ∃ c0 c1 c2 c3 c4, cs = [c0, c1, c2, c3, c4] := by
    match cs, hlen with
    | [c0, c1, c2, c3, c4], _ => exact ⟨c0, c1, c2, c3, c4, rfl⟩
  obtain ⟨y0, y1, y2, n, _, _, h0, h1, h2⟩ := Deep.trod_struct3 Tryd.underlying65 h
  have k3 : Tryd.prog.cellsOf 3 = 1 := by kernel_rfl
  have k4 : Tryd.prog.cellsOf 4 = 1 := by kernel_rfl
  have k9 : Tryd.prog.cellsOf 9 = 1 := by kernel_rfl
  have kd : Tryd.prog.cellsOf 63 = 3 := by kernel_rfl
  obtain ⟨z0, z1, z2, n', _, _, g0, g1, g2⟩ := Deep.trod_struct3 Tryd.underlying63 h1
  obtain ⟨a0, e0, _, w0⟩ := DataW.trod_int Tryd.underlying3 h0
  obtain ⟨b1, e1, _⟩ := DataW.trod_bool Tryd.underlying4 g0
  obtain ⟨a2, e2, _, w2⟩ := DataW.trod_int Tryd.underlying3 g1
  obtain ⟨a3, e3, _, w3⟩ := DataW.trod_int Tryd.underlying3 g2
  obtain ⟨s, e4, _, w4⟩ := DataW.trod_string Tryd.underlying9 h2
  simp [k3, k4, k9, kd] at e0 e1 e2 e3 e4
  subst e0 e1 e2 e3 e4
  exact ⟨⟨a0, b1, a2, a3, s.data.toList⟩, rfl, bounds_i64 w2, w4⟩
set_option maxRecDepth 100000 in
/-- A grid that came in. -/
theorem open_grid {H : Type} {enc : TypeId × Value → H} {W : World} {base : Nat} {v : Value} {d : DataW H} {p : List MemPlace}
    (hv : Value.okWide Tryd.prog W .any base 24 v) (h : DataW.Trod enc Tryd.prog W 0 (fun _ => true) true 24 v d p) :
    ∃ (r c : Int) (sv : Value) (l : List VT), v = grV r c sv ∧ ValsIn W sv l ∧ l.length ≤ maxLen ∧ (∀ e ∈ l, e.t.length ≤ maxLen) ∧ ∀ e ∈ l, -9223372036854775808 ≤ e.d ∧ e.d ≤ 9223372036854775807 := by
  obtain ⟨cs, rfl, hsz⟩ := okWide_struct Tryd.underlying24 hv
  have h3 : cs.size = 3 := hsz.trans (show Tryd.prog.cellsOf 24 = 3 by kernel_rfl)
  obtain ⟨c0, c1, c2, rfl⟩ : ∃ c0 c1 c2, cs = #[c0, c1, c2] := by
    obtain ⟨l⟩ := cs
    match l, h3 with
    | [c0, c1, c2], _ => exact ⟨c0, c1, c2, rfl⟩
  obtain ⟨fuel, hf⟩ := h
  obtain ⟨y0, y1, y2, n, _, _, g0, g1, g2⟩ := Deep.trod_struct3 Tryd.underlying24 hf
  have k3 : Tryd.prog.cellsOf 3 = 1 := by kernel_rfl
  have ks : Tryd.prog.cellsOf 22 = 1 := by kernel_rfl
  have kv : Tryd.prog.cellsOf 65 = 5 := by kernel_rfl
  obtain ⟨a0, e0, _, w0⟩ := DataW.trod_int Tryd.underlying3 g0
  obtain ⟨a1, e1, _, w1⟩ := DataW.trod_int Tryd.underlying3 g1
  simp [Value.cells, k3] at e0 e1
  subst e0 e1
  rcases Deep.open_slice Tryd.underlying22 g2 with ⟨hcs, hx⟩ | ⟨a, len, cap, m, n', D, Pl, hcs, _, hl, hm, hmm, _, hx⟩
  · simp [Value.cells, ks] at hcs
    subst hcs
    exact ⟨a0, a1, _, [], rfl, ⟨none, 0, rfl, Nat.le_refl _, fun h => by simp at h⟩, by simp, by simp, by simp⟩
  · simp [Value.cells, ks] at hcs
    subst hcs
    simp only [if_true] at hmm
    subst hmm
    have each : ∀ i, i < len → ∃ e : VT, (∀ (c : Nat) (u : Value), e.cells[c]? = some u → W.cell? ((a.add (i * 5)).add c) = some u) ∧ (-9223372036854775808 ≤ e.d ∧ e.d ≤ 9223372036854775807) ∧ e.t.length ≤ maxLen := by
      intro i hi
      obtain ⟨cs', q1, q2⟩ := hx i (by omega)
      rw [kv] at q1
      obtain ⟨_, hlen, hcell⟩ := World.cells?_some q1
      obtain ⟨e, rfl, b1, b2⟩ := value_parts hlen q2
      refine ⟨e, fun c u hc => ?_, b1, b2⟩
      have := hcell c (cells_lt hc)
      rw [this, hc]
    obtain ⟨q, hq⟩ := @Deep.choose_lt VT ⟨zeroVT⟩ _ _ each
    refine ⟨a0, a1, _, (List.range len).map q, rfl, ⟨some a, m, by simp, by simpa using hl, fun h0 => ?_⟩, by simp; omega, ?_, ?_⟩
    · have h0' : 0 < len := by simpa using h0
      obtain ⟨pb, po, spt⟩ := a
      have hc0 := (hq 0 h0').1 0 _ rfl
      have hsp : spt = none := by simpa [Addr.add] using World.cell?_spot hc0
      subst hsp
      refine ⟨pb, po, rfl, fun i e hi c u hc => ?_⟩
      rw [List.getElem?_map] at hi
      obtain ⟨j, hj, rfl⟩ := Option.map_eq_some_iff.1 hi
      have hji : j = i ∧ i < len := by
        rw [List.getElem?_eq_some_iff] at hj
        obtain ⟨hlt, hj⟩ := hj
        simp at hlt hj
        exact ⟨hj.symm, hlt⟩
      obtain ⟨rfl, hlt⟩ := hji
      have := (hq j hlt).1 c u hc
      rw [Addr.add_lit, Addr.add_lit] at this
      exact this
    · intro e he
      obtain ⟨i, hi, rfl⟩ := List.mem_map.1 he
      exact (hq i (List.mem_range.1 hi)).2.2
    · intro e he
      obtain ⟨i, hi, rfl⟩ := List.mem_map.1 he
      exact (hq i (List.mem_range.1 hi)).2.1

end Go.Proofs.YtemmeglmcbehfaaDoor
