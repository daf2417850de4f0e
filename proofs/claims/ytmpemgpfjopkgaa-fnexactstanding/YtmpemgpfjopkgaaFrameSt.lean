/-
  An argument of type []Step, opened.
-/
import Derived.Test.YtmpemgpfjopkgaaFrameB
import Derived.Test.YtmpemgpfjopkgaaHs1
import Derived.Deep.Strs
import Derived.Deep.Slices
import Derived.ChangeSlices
namespace Go.Proofs.Ytmpemgpfjopkgaa
open Go.ChangeShapes Go.WideShapes Go.ChangeAt Go.RowKit

set_option maxRecDepth 100000 in
theorem change_parts {H : Type} {enc : TypeId × Value → H} {W : World} {base : Nat} {sp : Nat → Bool} {held : Bool} {fuel : Nat} {cs : List Value} {y : DataW H × List MemPlace} (hlen : cs.length = 3)
    (h : DataW.trod enc Try.prog W base sp held fuel 66 cs = some y) : ∃ e : CH, cs = e.cells ∧ e.t.length ≤ 9223372036854775807 := by
  obtain ⟨c0, c1, c2, rfl⟩ : ∃ c0 c1 c2, cs = [c0, c1, c2] := by
    match cs, hlen with
    | [c0, c1, c2], _ => exact ⟨c0, c1, c2, rfl⟩
  have k3 : Try.prog.cellsOf 3 = 1 := by kernel_rfl
  have k9 : Try.prog.cellsOf 9 = 1 := by kernel_rfl
  obtain ⟨z0, z1, z2, n', _, _, g0, g1, g2⟩ := Deep.trod_struct3 Try.underlying66 h
  obtain ⟨a0, e0, _, _⟩ := DataW.trod_int Try.underlying3 g0
  obtain ⟨a1, e1, _, _⟩ := DataW.trod_int Try.underlying3 g1
  obtain ⟨s, e2, _, w2⟩ := DataW.trod_string Try.underlying9 g2
  simp [k3, k9] at e0 e1 e2
  subst e0 e1 e2
  have w2' : s.data.toList.length ≤ 9223372036854775807 := by have := w2; unfold maxLen at this; simpa using this
  exact ⟨⟨a0, a1, s.data.toList⟩, rfl, w2'⟩
theorem range_atS {α : Type} {len : Nat} {q : Nat → α} {i : Nat} {e : α} (hi : ((List.range len).map q)[i]? = some e) : i < len ∧ e = q i := by
  rw [List.getElem?_map] at hi
  obtain ⟨j, hj, rfl⟩ := Option.map_eq_some_iff.1 hi
  rw [List.getElem?_eq_some_iff] at hj
  obtain ⟨hlt, hj⟩ := hj
  simp at hlt hj
  exact ⟨hlt, by rw [hj]⟩
set_option maxRecDepth 100000 in
/-- Changes that came in. -/
theorem changes_of {H : Type} {enc : TypeId × Value → H} {W : World} {v : Value} {fuel : Nat} {y : DataW H × List MemPlace}
    (hf : DataW.trod enc Try.prog W 0 (fun _ => true) true fuel 35 [v] = some y) :
    ∃ l : List CH, ChangesIn W v l ∧ l.length ≤ 9223372036854775807 ∧ ∀ e ∈ l, e.t.length ≤ 9223372036854775807 := by
  have kv : Try.prog.cellsOf 66 = 3 := by kernel_rfl
  rcases Deep.open_slice Try.underlying35 hf with ⟨hcs, hx⟩ | ⟨a, len, cap, m, n', D, Pl, hcs, _, hl, hm, hmm, _, hx⟩
  · simp at hcs
    subst hcs
    exact ⟨[], ⟨none, 0, rfl, Nat.le_refl _, fun h => by simp at h⟩, by simp, by simp⟩
  · simp at hcs
    subst hcs
    simp only [if_true] at hmm
    subst hmm
    unfold maxLen at hm
    have each : ∀ i, i < len → ∃ e : CH, (∀ (c : Nat) (u : Value), e.cells[c]? = some u → W.cell? ((a.add (i * 3)).add c) = some u) ∧ e.t.length ≤ 9223372036854775807 := by
      intro i hi
      obtain ⟨cs', q1, q2⟩ := hx i (by omega)
      rw [kv] at q1
      obtain ⟨_, hlen, hcell⟩ := World.cells?_some q1
      obtain ⟨e, rfl, b1⟩ := change_parts hlen q2
      refine ⟨e, fun c u hc => ?_, b1⟩
      have := hcell c (CH.cells_lt hc)
      rw [this, hc]
    obtain ⟨q, hq⟩ := @Deep.choose_lt CH ⟨zeroCH⟩ _ _ each
    refine ⟨(List.range len).map q, ⟨some a, m, by simp, by simpa using hl, fun h0 => ?_⟩, by simp; omega, ?_⟩
    · have h0' : 0 < len := by simpa using h0
      obtain ⟨pb, po, spt⟩ := a
      have hc0 := (hq 0 h0').1 0 _ rfl
      have hsp : spt = none := by simpa [Addr.add] using World.cell?_spot hc0
      subst hsp
      refine ⟨pb, po, rfl, fun i e hi c u hc => ?_⟩
      obtain ⟨hlt, rfl⟩ := range_atS hi
      have := (hq i hlt).1 c u hc
      rw [Addr.add_lit, Addr.add_lit] at this
      exact this
    · intro e he
      obtain ⟨i, hi, rfl⟩ := List.mem_map.1 he
      exact (hq i (List.mem_range.1 hi)).2
theorem trodS_any {H : Type} {enc : TypeId × Value → H} {P : Program} {w : World} {base : Nat} {sp : Nat → Bool} {held : Bool} {fuel : Nat} {t : TypeId} {fs : Array Field} {cs : List Value} {y : DataW H × List MemPlace}
    (ht : P.underlying t = some (.struct fs)) (h : DataW.trod enc P w base sp held fuel t cs = some y) (i : Nat) (f : Field) (hf : fs.toList[i]? = some f) :
    ∃ fuel' y', DataW.trod enc P w base sp held fuel' f.type ((cs.drop f.offset).take (P.cellsOf f.type)) = some y' := by
  cases fuel with
  | zero => simp [DataW.trod] at h
  | succ fuel =>
    simp only [DataW.trod, ht] at h
    split at h
    · obtain ⟨xs, hm, hx⟩ := Option.map_eq_some_iff.1 h
      obtain ⟨b, hb, hf'⟩ := Lib.mapM_at hm i f hf
      exact ⟨fuel, b, hf'⟩
    · cases h
theorem step_fields : ∃ fs : Array Field, Try.prog.underlying 37 = some (.struct fs) ∧ ∃ f0 f1, fs.toList[0]? = some f0 ∧ fs.toList[1]? = some f1 ∧ (f0.type = 3 ∧ f0.offset = 0) ∧ (f1.type = 35 ∧ f1.offset = 1) :=
  ⟨_, Try.underlying37, _, _, rfl, rfl, ⟨rfl, rfl⟩, ⟨rfl, rfl⟩⟩
set_option maxRecDepth 100000 in
theorem step_parts {H : Type} {enc : TypeId × Value → H} {W : World} {fuel : Nat} {cs : List Value} {y : DataW H × List MemPlace} (hlen : cs.length = 2)
    (h : DataW.trod enc Try.prog W 0 (fun _ => true) true fuel 37 cs = some y) : ∃ (e : STP) (cv : Value), cs = [.int .i64 e.u, cv] ∧ ChangesIn W cv e.ch ∧ e.fits := by
  obtain ⟨c0, c1, rfl⟩ : ∃ c0 c1, cs = [c0, c1] := by
    match cs, hlen with
    | [c0, c1], _ => exact ⟨c0, c1, rfl⟩
  have k3 : Try.prog.cellsOf 3 = 1 := by kernel_rfl
  have ks : Try.prog.cellsOf 35 = 1 := by kernel_rfl
  obtain ⟨fs, ht, f0, f1, q0, q1, ⟨t0, o0⟩, ⟨t1, o1⟩⟩ := step_fields
  obtain ⟨n0, y0, g0⟩ := trodS_any ht h 0 f0 q0
  rw [t0, o0, k3] at g0
  obtain ⟨n1, y1, g1⟩ := trodS_any ht h 1 f1 q1
  rw [t1, o1, ks] at g1
  simp at g0 g1
  obtain ⟨a0, e0, _, _⟩ := DataW.trod_int Try.underlying3 g0
  obtain ⟨l, hd, hl, hr⟩ := changes_of g1
  simp at e0
  subst e0
  exact ⟨⟨a0, l⟩, c1, rfl, hd, hl, hr⟩
set_option maxRecDepth 100000 in
/-- Steps that came in. -/
theorem open_steps {H : Type} {enc : TypeId × Value → H} {W : World} {base : Nat} {v : Value} {d : DataW H} {p : List MemPlace}
    (hv : Value.okWide Try.prog W .any base 22 v) (h : DataW.Trod enc Try.prog W 0 (fun _ => true) true 22 v d p) :
    ∃ l : List STP, StpsIn W v l ∧ l.length ≤ 9223372036854775807 ∧ ∀ e ∈ l, e.fits := by
  obtain ⟨a0, len0, cap0, rfl⟩ := okWide_slice Try.underlying22 hv
  obtain ⟨fuel, hf⟩ := h
  have kv : Try.prog.cellsOf 37 = 2 := by kernel_rfl
  rcases Deep.open_slice Try.underlying22 hf with ⟨hcs, hx⟩ | ⟨a, len, cap, m, n', D, Pl, hcs, _, hl, hm, hmm, _, hx⟩
  · simp [Value.cells] at hcs
    obtain ⟨rfl, rfl, rfl⟩ := hcs
    exact ⟨[], ⟨none, 0, rfl, Nat.le_refl _, fun h => by simp at h⟩, by simp, by simp⟩
  · simp [Value.cells] at hcs
    obtain ⟨rfl, rfl, rfl⟩ := hcs
    simp only [if_true] at hmm
    subst hmm
    unfold maxLen at hm
    have each : ∀ i, i < len0 → ∃ e : STP, (∃ cv, ChangesIn W cv e.ch ∧ ∀ (c : Nat) (u : Value), [Value.int .i64 e.u, cv][c]? = some u → W.cell? ((a.add (i * 2)).add c) = some u) ∧ e.fits := by
      intro i hi
      obtain ⟨cs', q1, q2⟩ := hx i (by omega)
      rw [kv] at q1
      obtain ⟨_, hlen, hcell⟩ := World.cells?_some q1
      obtain ⟨e, cv, rfl, hd, b1⟩ := step_parts hlen q2
      refine ⟨e, ⟨cv, hd, fun c u hc => ?_⟩, b1⟩
      have h5 : c < 2 := (List.getElem?_eq_some_iff.1 hc).1
      have := hcell c h5
      rw [this, hc]
    obtain ⟨q, hq⟩ := @Deep.choose_lt STP ⟨⟨0, []⟩⟩ _ _ each
    refine ⟨(List.range len0).map q, ⟨some a, m, by simp, by simpa using hl, fun h0 => ?_⟩, by simp; omega, ?_⟩
    · have h0' : 0 < len0 := by simpa using h0
      obtain ⟨pb, po, spt⟩ := a
      obtain ⟨cv0, _, hc00⟩ := (hq 0 h0').1
      have hc0 := hc00 0 _ rfl
      have hsp : spt = none := by simpa [Addr.add] using World.cell?_spot hc0
      subst hsp
      refine ⟨pb, po, rfl, fun i e hi => ?_⟩
      obtain ⟨hlt, rfl⟩ := range_atS hi
      obtain ⟨cv, hd, hc⟩ := (hq i hlt).1
      have G : ∀ (c : Nat) (u : Value), [Value.int .i64 (q i).u, cv][c]? = some u → W.cell? ⟨pb, po + i * 2 + c, none⟩ = some u := fun c u h => by
        have := hc c u h
        rw [Addr.add_lit, Addr.add_lit] at this
        exact this
      exact ⟨cv, hd, G 0 _ rfl, G 1 _ rfl⟩
    · intro e he
      obtain ⟨i, hi, rfl⟩ := List.mem_map.1 he
      exact (hq i (List.mem_range.1 hi)).2

end Go.Proofs.Ytmpemgpfjopkgaa
