/-
  Pivots that came in, opened.
-/
import Derived.Test.YtemmeglmcbehfaaDoorFrameG
import Derived.Test.YtemmeglmcbehfaaDoorPv2
import Derived.Deep.Strs
import Derived.Deep.Slices
import Derived.ChangeSlices
namespace Go.Proofs.YtemmeglmcbehfaaDoor
open Go.ChangeShapes Go.WideShapes Go.ChangeAt Go.RowKit

theorem trodF_any {H : Type} {enc : TypeId × Value → H} {P : Program} {w : World} {base : Nat} {sp : Nat → Bool} {held : Bool} {fuel : Nat} {t : TypeId} {fs : Array Field} {cs : List Value} {y : DataW H × List MemPlace}
    (ht : P.underlying t = some (.struct fs)) (h : DataW.trod enc P w base sp held fuel t cs = some y) (i : Nat) (f : Field) (hf : fs.toList[i]? = some f) :
    ∃ fuel' y', DataW.trod enc P w base sp held fuel' f.type ((cs.drop f.offset).take (P.cellsOf f.type)) = some y' := by
  cases fuel with
  | zero => simp [DataW.trod] at h
  | succ fuel =>
    simp only [DataW.trod, ht] at h
    split at h
    · obtain ⟨xs, hm, hx⟩ := Option.map_eq_some_iff.1 h
      obtain ⟨b, hb, hf'⟩ := Lib.mapM_at hm i f hf
      exact ⟨fuel, b, hf'⟩
    · cases h
theorem measure_fields : ∃ fs : Array Field, Tryd.prog.underlying 72 = some (.struct fs) ∧ ∃ f0 f1, fs.toList[0]? = some f0 ∧ fs.toList[1]? = some f1 ∧ (f0.type = 3 ∧ f0.offset = 0) ∧ (f1.type = 3 ∧ f1.offset = 1) :=
  ⟨_, Tryd.underlying72, _, _, rfl, rfl, ⟨rfl, rfl⟩, ⟨rfl, rfl⟩⟩
set_option maxRecDepth 100000 in
theorem measure_parts {H : Type} {enc : TypeId × Value → H} {W : World} {base : Nat} {sp : Nat → Bool} {held : Bool} {fuel : Nat} {cs : List Value} {y : DataW H × List MemPlace} (hlen : cs.length = 2)
    (h : DataW.trod enc Tryd.prog W base sp held fuel 72 cs = some y) : ∃ e : MT, cs = e.cells := by
  obtain ⟨c0, c1, rfl⟩ : ∃ c0 c1, cs = [c0, c1] := by
    match cs, hlen with
    | [c0, c1], _ => exact ⟨c0, c1, rfl⟩
  have k3 : Tryd.prog.cellsOf 3 = 1 := by kernel_rfl
  obtain ⟨fs, ht, f0, f1, q0, q1, ⟨t0, o0⟩, ⟨t1, o1⟩⟩ := measure_fields
  obtain ⟨n0, y0, g0⟩ := trodF_any ht h 0 f0 q0
  rw [t0, o0, k3] at g0
  obtain ⟨n1, y1, g1⟩ := trodF_any ht h 1 f1 q1
  rw [t1, o1, k3] at g1
  obtain ⟨a0, e0, _, _⟩ := DataW.trod_int Tryd.underlying3 g0
  obtain ⟨a1, e1, _, _⟩ := DataW.trod_int Tryd.underlying3 g1
  simp at e0 e1
  subst e0 e1
  exact ⟨⟨a0, a1⟩, rfl⟩
set_option maxRecDepth 100000 in
/-- Measures that came in. -/
theorem measures_of {H : Type} {enc : TypeId × Value → H} {W : World} {v : Value} {fuel : Nat} {y : DataW H × List MemPlace}
    (hf : DataW.trod enc Tryd.prog W 0 (fun _ => true) true fuel 26 [v] = some y) :
    ∃ l : List MT, MeasuresIn W v l ∧ l.length ≤ maxLen := by
  have kv : Tryd.prog.cellsOf 72 = 2 := by kernel_rfl
  rcases Deep.open_slice Tryd.underlying26 hf with ⟨hcs, hx⟩ | ⟨a, len, cap, m, n', D, Pl, hcs, _, hl, hm, hmm, _, hx⟩
  · simp at hcs
    subst hcs
    exact ⟨[], ⟨none, 0, rfl, Nat.le_refl _, fun h => by simp at h⟩, by simp⟩
  · simp at hcs
    subst hcs
    simp only [if_true] at hmm
    subst hmm
    have each : ∀ i, i < len → ∃ e : MT, (∀ (c : Nat) (u : Value), e.cells[c]? = some u → W.cell? ((a.add (i * 2)).add c) = some u) := by
      intro i hi
      obtain ⟨cs', q1, q2⟩ := hx i (by omega)
      rw [kv] at q1
      obtain ⟨_, hlen, hcell⟩ := World.cells?_some q1
      obtain ⟨e, rfl⟩ := measure_parts hlen q2
      refine ⟨e, fun c u hc => ?_⟩
      have := hcell c (MT.cells_lt hc)
      rw [this, hc]
    obtain ⟨q, hq⟩ := @Deep.choose_lt MT ⟨zeroMT⟩ _ _ each
    refine ⟨(List.range len).map q, ⟨some a, m, by simp, by simpa using hl, fun h0 => ?_⟩, by simp; omega⟩
    · have h0' : 0 < len := by simpa using h0
      obtain ⟨pb, po, spt⟩ := a
      have hc0 := (hq 0 h0') 0 _ rfl
      have hsp : spt = none := by simpa [Addr.add] using World.cell?_spot hc0
      subst hsp
      refine ⟨pb, po, rfl, fun i e hi c u hc => ?_⟩
      rw [List.getElem?_map] at hi
      obtain ⟨j, hj, rfl⟩ := Option.map_eq_some_iff.1 hi
      have hji : j = i ∧ i < len := by
        rw [List.getElem?_eq_some_iff] at hj
        obtain ⟨hlt, hj⟩ := hj
        simp at hlt hj
        exact ⟨hj.symm, hlt⟩
      obtain ⟨rfl, hlt⟩ := hji
      have := (hq j hlt) c u hc
      rw [Addr.add_lit, Addr.add_lit] at this
      exact this

theorem ints_of {H : Type} {enc : TypeId × Value → H} {W : World} {v : Value} {fuel : Nat} {y : DataW H × List MemPlace}
    (hf : DataW.trod enc Tryd.prog W 0 (fun _ => true) true fuel 25 [v] = some y) : ∃ l, IntsIn W v l ∧ l.length ≤ maxLen := by
  rcases open_ints Tryd.underlying25 Tryd.underlying3 (by kernel_rfl) hf with ⟨hcs, hx⟩ | ⟨a, len', cap', zs, hcs, _, hl, hm, hz, hx, hcell, hwz⟩
  · simp at hcs
    subst hcs
    exact ⟨[], ⟨none, 0, rfl, Nat.le_refl _, fun h => by simp at h⟩, by simp⟩
  · simp at hcs
    subst hcs
    simp only [if_true] at hz
    have hlen : (zs.take len').length = len' := by rw [List.length_take]; omega
    refine ⟨zs.take len', ⟨some a, cap', by rw [hlen], by rw [hlen]; exact hl, fun h0 => ?_⟩, by rw [hlen]; omega⟩
    rw [hlen] at h0
    obtain ⟨pb, po, sp⟩ := a
    have hc0 := hcell 0 (by omega)
    have hsp : sp = none := by simpa [Addr.add] using World.cell?_spot hc0
    subst hsp
    refine ⟨pb, po, rfl, fun i hi => ?_⟩
    rw [hlen] at hi
    have hci := hcell i (by omega)
    rw [Addr.add_lit] at hci
    rw [hci]
    simp [hi]
theorem pivot_fields : ∃ fs : Array Field, Tryd.prog.underlying 28 = some (.struct fs) ∧ ∃ f0 f1 f2 f3, fs.toList[0]? = some f0 ∧ fs.toList[1]? = some f1 ∧ fs.toList[2]? = some f2 ∧ fs.toList[3]? = some f3 ∧ (f0.type = 25 ∧ f0.offset = 0) ∧ (f1.type = 25 ∧ f1.offset = 1) ∧ (f2.type = 26 ∧ f2.offset = 2) ∧ (f3.type = 4 ∧ f3.offset = 3) :=
  ⟨_, Tryd.underlying28, _, _, _, _, rfl, rfl, rfl, rfl, ⟨rfl, rfl⟩, ⟨rfl, rfl⟩, ⟨rfl, rfl⟩, ⟨rfl, rfl⟩⟩
set_option maxRecDepth 100000 in
/-- A pivot that came in. -/
theorem open_pivot {H : Type} {enc : TypeId × Value → H} {W : World} {base : Nat} {v : Value} {d : DataW H} {p : List MemPlace}
    (hv : Value.okWide Tryd.prog W .any base 28 v) (h : DataW.Trod enc Tryd.prog W 0 (fun _ => true) true 28 v d p) :
    ∃ (rv cv mv : Value) (t : Bool) (rl cl : List Int) (ml : List MT), v = pivV rv cv mv t ∧ IntsIn W rv rl ∧ IntsIn W cv cl ∧ MeasuresIn W mv ml ∧ rl.length ≤ maxLen ∧ cl.length ≤ maxLen ∧ ml.length ≤ maxLen := by
  obtain ⟨cs, rfl, hsz⟩ := okWide_struct Tryd.underlying28 hv
  have h4 : cs.size = 4 := hsz.trans (show Tryd.prog.cellsOf 28 = 4 by kernel_rfl)
  obtain ⟨c0, c1, c2, c3, rfl⟩ : ∃ c0 c1 c2 c3, cs = #[c0, c1, c2, c3] := by
    obtain ⟨l⟩ := cs
    match l, h4 with
    | [c0, c1, c2, c3], _ => exact ⟨c0, c1, c2, c3, rfl⟩
  obtain ⟨fuel, hf⟩ := h
  have ki : Tryd.prog.cellsOf 25 = 1 := by kernel_rfl
  have km : Tryd.prog.cellsOf 26 = 1 := by kernel_rfl
  have k4 : Tryd.prog.cellsOf 4 = 1 := by kernel_rfl
  obtain ⟨fs, ht, f0, f1, f2, f3, q0, q1, q2, q3, ⟨t0, o0⟩, ⟨t1, o1⟩, ⟨t2, o2⟩, ⟨t3, o3⟩⟩ := pivot_fields
  obtain ⟨n0, y0, g0⟩ := trodF_any ht hf 0 f0 q0
  rw [t0, o0, ki] at g0
  obtain ⟨n1, y1, g1⟩ := trodF_any ht hf 1 f1 q1
  rw [t1, o1, ki] at g1
  obtain ⟨n2, y2, g2⟩ := trodF_any ht hf 2 f2 q2
  rw [t2, o2, km] at g2
  obtain ⟨n3, y3, g3⟩ := trodF_any ht hf 3 f3 q3
  rw [t3, o3, k4] at g3
  simp [Value.cells] at g0 g1 g2 g3
  obtain ⟨rl, hr, lr⟩ := ints_of g0
  obtain ⟨cl, hc, lc⟩ := ints_of g1
  obtain ⟨ml, hm, lm⟩ := measures_of g2
  obtain ⟨b, e3, _⟩ := DataW.trod_bool Tryd.underlying4 g3
  simp at e3
  subst e3
  exact ⟨c0, c1, c2, b, rl, cl, ml, rfl, hr, hc, hm, lr, lc, lm⟩

end Go.Proofs.YtemmeglmcbehfaaDoor
