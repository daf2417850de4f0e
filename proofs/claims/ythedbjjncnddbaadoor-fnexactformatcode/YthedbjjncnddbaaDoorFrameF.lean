/-
  Rows of formats that came in, opened.
-/
import Derived.Test.YthedbjjncnddbaaDoorFrameQ
import Derived.Test.YthedbjjncnddbaaDoorKa
import Derived.Deep.Strs
import Derived.Deep.Slices
import Derived.ChangeSlices
namespace Go.Proofs.YthedbjjncnddbaaDoor
open Go.ChangeShapes Go.WideShapes Go.ChangeAt Go.RowKit

theorem trod_any {H : Type} {enc : TypeId × Value → H} {P : Program} {w : World} {base : Nat} {sp : Nat → Bool} {held : Bool} {fuel : Nat} {t : TypeId} {fs : Array Field} {cs : List Value} {y : DataW H × List MemPlace}
    (ht : P.underlying t = some (.struct fs)) (h : DataW.trod enc P w base sp held fuel t cs = some y) (i : Nat) (f : Field) (hf : fs.toList[i]? = some f) :
    ∃ fuel' y', DataW.trod enc P w base sp held fuel' f.type ((cs.drop f.offset).take (P.cellsOf f.type)) = some y' := by
  cases fuel with
  | zero => simp [DataW.trod] at h
  | succ fuel =>
    simp only [DataW.trod, ht] at h
    split at h
    · obtain ⟨xs, hm, hx⟩ := Option.map_eq_some_iff.1 h
      obtain ⟨b, hb, hf'⟩ := Lib.mapM_at hm i f hf
      exact ⟨fuel, b, hf'⟩
    · cases h
theorem format_fields : ∃ fs : Array Field, Tryd.prog.underlying 41 = some (.struct fs) ∧ ∃ f0 f1 f2 f3 f4 f5 f6 f7 f8, fs.toList[0]? = some f0 ∧ fs.toList[1]? = some f1 ∧ fs.toList[2]? = some f2 ∧ fs.toList[3]? = some f3 ∧ fs.toList[4]? = some f4 ∧ fs.toList[5]? = some f5 ∧ fs.toList[6]? = some f6 ∧ fs.toList[7]? = some f7 ∧ fs.toList[8]? = some f8 ∧ (f0.type = 4 ∧ f0.offset = 0) ∧ (f1.type = 9 ∧ f1.offset = 1) ∧ (f2.type = 9 ∧ f2.offset = 2) ∧ (f3.type = 3 ∧ f3.offset = 3) ∧ (f4.type = 3 ∧ f4.offset = 4) ∧ (f5.type = 3 ∧ f5.offset = 5) ∧ (f6.type = 4 ∧ f6.offset = 6) ∧ (f7.type = 3 ∧ f7.offset = 7) ∧ (f8.type = 9 ∧ f8.offset = 8) :=
  ⟨_, Tryd.underlying41, _, _, _, _, _, _, _, _, _, rfl, rfl, rfl, rfl, rfl, rfl, rfl, rfl, rfl, ⟨rfl, rfl⟩, ⟨rfl, rfl⟩, ⟨rfl, rfl⟩, ⟨rfl, rfl⟩, ⟨rfl, rfl⟩, ⟨rfl, rfl⟩, ⟨rfl, rfl⟩, ⟨rfl, rfl⟩, ⟨rfl, rfl⟩⟩
set_option maxRecDepth 100000 in
theorem format_parts {H : Type} {enc : TypeId × Value → H} {W : World} {base : Nat} {sp : Nat → Bool} {held : Bool} {fuel : Nat} {cs : List Value} {y : DataW H × List MemPlace} (hlen : cs.length = 9)
    (h : DataW.trod enc Tryd.prog W base sp held fuel 41 cs = some y) : ∃ e : KT, cs = e.cells ∧ e.bf.length ≤ maxLen ∧ e.af.length ≤ maxLen ∧ e.dt.length ≤ maxLen := by
  obtain ⟨c0, c1, c2, c3, c4, c5, c6, c7, c8, rfl⟩ : ∃ c0 c1 c2 c3 c4 c5 c6 c7 c8, cs = [c0, c1, c2, c3, c4, c5, c6, c7, c8] := by
    match cs, hlen with
    | [c0, c1, c2, c3, c4, c5, c6, c7, c8], _ => exact ⟨c0, c1, c2, c3, c4, c5, c6, c7, c8, rfl⟩
  have k3 : Tryd.prog.cellsOf 3 = 1 := by kernel_rfl
  have k4 : Tryd.prog.cellsOf 4 = 1 := by kernel_rfl
  have k9 : Tryd.prog.cellsOf 9 = 1 := by kernel_rfl
  obtain ⟨fs, ht, f0, f1, f2, f3, f4, f5, f6, f7, f8, q0, q1, q2, q3, q4, q5, q6, q7, q8, ⟨t0, o0⟩, ⟨t1, o1⟩, ⟨t2, o2⟩, ⟨t3, o3⟩, ⟨t4, o4⟩, ⟨t5, o5⟩, ⟨t6, o6⟩, ⟨t7, o7⟩, ⟨t8, o8⟩⟩ := format_fields
  obtain ⟨n0, y0, g0⟩ := trod_any ht h 0 f0 q0
  rw [t0, o0, k4] at g0
  obtain ⟨n1, y1, g1⟩ := trod_any ht h 1 f1 q1
  rw [t1, o1, k9] at g1
  obtain ⟨n2, y2, g2⟩ := trod_any ht h 2 f2 q2
  rw [t2, o2, k9] at g2
  obtain ⟨n3, y3, g3⟩ := trod_any ht h 3 f3 q3
  rw [t3, o3, k3] at g3
  obtain ⟨n4, y4, g4⟩ := trod_any ht h 4 f4 q4
  rw [t4, o4, k3] at g4
  obtain ⟨n5, y5, g5⟩ := trod_any ht h 5 f5 q5
  rw [t5, o5, k3] at g5
  obtain ⟨n6, y6, g6⟩ := trod_any ht h 6 f6 q6
  rw [t6, o6, k4] at g6
  obtain ⟨n7, y7, g7⟩ := trod_any ht h 7 f7 q7
  rw [t7, o7, k3] at g7
  obtain ⟨n8, y8, g8⟩ := trod_any ht h 8 f8 q8
  rw [t8, o8, k9] at g8
  obtain ⟨a0, e0, _⟩ := DataW.trod_bool Tryd.underlying4 g0
  obtain ⟨a1, e1, _, w1⟩ := DataW.trod_string Tryd.underlying9 g1
  obtain ⟨a2, e2, _, w2⟩ := DataW.trod_string Tryd.underlying9 g2
  obtain ⟨a3, e3, _, _⟩ := DataW.trod_int Tryd.underlying3 g3
  obtain ⟨a4, e4, _, _⟩ := DataW.trod_int Tryd.underlying3 g4
  obtain ⟨a5, e5, _, _⟩ := DataW.trod_int Tryd.underlying3 g5
  obtain ⟨a6, e6, _⟩ := DataW.trod_bool Tryd.underlying4 g6
  obtain ⟨a7, e7, _, _⟩ := DataW.trod_int Tryd.underlying3 g7
  obtain ⟨a8, e8, _, w8⟩ := DataW.trod_string Tryd.underlying9 g8
  simp at e0 e1 e2 e3 e4 e5 e6 e7 e8
  subst e0 e1 e2 e3 e4 e5 e6 e7 e8
  exact ⟨⟨a0, a1.data.toList, a2.data.toList, a3, a4, a5, a6, a7, a8.data.toList⟩, rfl, w1, w2, w8⟩
set_option maxRecDepth 100000 in
/-- A row of what is shown that came in. -/
theorem open_formats {H : Type} {enc : TypeId × Value → H} {W : World} {base : Nat} {v : Value} {d : DataW H} {p : List MemPlace}
    (hv : Value.okWide Tryd.prog W .any base 27 v) (h : DataW.Trod enc Tryd.prog W 0 (fun _ => true) true 27 v d p) :
    ∃ l : List KT, FormatsIn W v l ∧ l.length ≤ maxLen ∧ ∀ e ∈ l, e.bf.length ≤ maxLen ∧ e.af.length ≤ maxLen ∧ e.dt.length ≤ maxLen := by
  obtain ⟨a0, len0, cap0, rfl⟩ := okWide_slice Tryd.underlying27 hv
  obtain ⟨fuel, hf⟩ := h
  have kv : Tryd.prog.cellsOf 41 = 9 := by kernel_rfl
  rcases Deep.open_slice Tryd.underlying27 hf with ⟨hcs, hx⟩ | ⟨a, len, cap, m, n', D, Pl, hcs, _, hl, hm, hmm, _, hx⟩
  · simp [Value.cells] at hcs
    obtain ⟨rfl, rfl, rfl⟩ := hcs
    exact ⟨[], ⟨none, 0, rfl, Nat.le_refl _, fun h => by simp at h⟩, by simp, by simp⟩
  · simp [Value.cells] at hcs
    obtain ⟨rfl, rfl, rfl⟩ := hcs
    simp only [if_true] at hmm
    subst hmm
    have each : ∀ i, i < len0 → ∃ e : KT, (∀ (c : Nat) (u : Value), e.cells[c]? = some u → W.cell? ((a.add (i * 9)).add c) = some u) ∧ (e.bf.length ≤ maxLen ∧ e.af.length ≤ maxLen ∧ e.dt.length ≤ maxLen) := by
      intro i hi
      obtain ⟨cs', q1, q2⟩ := hx i (by omega)
      rw [kv] at q1
      obtain ⟨_, hlen, hcell⟩ := World.cells?_some q1
      obtain ⟨e, rfl, b1⟩ := format_parts hlen q2
      refine ⟨e, fun c u hc => ?_, b1⟩
      have := hcell c (KT.cells_lt hc)
      rw [this, hc]
    obtain ⟨q, hq⟩ := @Deep.choose_lt KT ⟨zeroKT⟩ _ _ each
    refine ⟨(List.range len0).map q, ⟨some a, m, by simp, by simpa using hl, fun h0 => ?_⟩, by simp; omega, ?_⟩
    · have h0' : 0 < len0 := by simpa using h0
      obtain ⟨pb, po, spt⟩ := a
      have hc0 := (hq 0 h0').1 0 _ rfl
      have hsp : spt = none := by simpa [Addr.add] using World.cell?_spot hc0
      subst hsp
      refine ⟨pb, po, rfl, fun i e hi c u hc => ?_⟩
      rw [List.getElem?_map] at hi
      obtain ⟨j, hj, rfl⟩ := Option.map_eq_some_iff.1 hi
      have hji : j = i ∧ i < len0 := by
        rw [List.getElem?_eq_some_iff] at hj
        obtain ⟨hlt, hj⟩ := hj
        simp at hlt hj
        exact ⟨hj.symm, hlt⟩
      obtain ⟨rfl, hlt⟩ := hji
      have := (hq j hlt).1 c u hc
      rw [Addr.add_lit, Addr.add_lit] at this
      exact this
    · intro e he
      obtain ⟨i, hi, rfl⟩ := List.mem_map.1 he
      exact (hq i (List.mem_range.1 hi)).2

end Go.Proofs.YthedbjjncnddbaaDoor
