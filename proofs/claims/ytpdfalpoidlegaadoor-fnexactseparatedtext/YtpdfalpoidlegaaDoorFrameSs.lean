/-
  An argument of type [][]string, opened.
-/
import Derived.Test.YtpdfalpoidlegaaDoorFrameB
import Derived.Test.YtpdfalpoidlegaaDoorSs1
import Derived.Deep.Strs
import Derived.Deep.Slices
import Derived.ChangeSlices
namespace Go.Proofs.YtpdfalpoidlegaaDoor
open Go.ChangeShapes Go.WideShapes Go.ChangeAt Go.RowKit

theorem maxLen_eq : maxLen = 9223372036854775807 := by simp [maxLen]
theorem range_at {α : Type} {len : Nat} {q : Nat → α} {i : Nat} {e : α} (hi : ((List.range len).map q)[i]? = some e) : i < len ∧ e = q i := by
  rw [List.getElem?_map] at hi
  obtain ⟨j, hj, rfl⟩ := Option.map_eq_some_iff.1 hi
  rw [List.getElem?_eq_some_iff] at hj
  obtain ⟨hlt, hj⟩ := hj
  simp at hlt hj
  exact ⟨hlt, by rw [hj]⟩
set_option maxRecDepth 100000 in
/-- A slice of texts, as it is read. -/
theorem open_txts {H : Type} {enc : TypeId × Value → H} {W : World} {fuel : Nat} {u : Value} {y : DataW H × List MemPlace}
    (h : DataW.trod enc Tryd.prog W 0 (fun _ => true) true fuel 29 [u] = some y) :
    ∃ l : List (List UInt8), TxtsIn W u l ∧ FitT l := by
  rcases Deep.open_slice1 Tryd.underlying29 (by kernel_rfl) h with ⟨hcs, hx⟩ | ⟨a, len, cap, m, n', V, D, Pl, hcs, _, hl, hm, hmm, _, hx⟩
  · simp at hcs
    subst hcs
    exact ⟨[], ⟨none, 0, rfl, Nat.le_refl _, fun h => by simp at h⟩, by simp, by simp⟩
  · simp at hcs
    subst hcs
    simp only [if_true] at hmm
    subst hmm
    rw [maxLen_eq] at hm
    have each : ∀ i, i < len → ∃ e : List UInt8, W.cell? (a.add i) = some (sV e) ∧ e.length ≤ 9223372036854775807 := by
      intro i hi
      obtain ⟨q1, q2⟩ := hx i (by omega)
      obtain ⟨s, e1, _, w1⟩ := DataW.trod_string Tryd.underlying9 q2
      rw [maxLen_eq] at w1
      refine ⟨s.data.toList, ?_, w1⟩
      rw [q1]
      simp at e1
      rw [e1]
    obtain ⟨q, hq⟩ := @Deep.choose_lt (List UInt8) ⟨[]⟩ _ _ each
    refine ⟨(List.range len).map q, ⟨some a, m, by simp, by simpa using hl, fun h0 => ?_⟩, by simp; omega, ?_⟩
    · have h0' : 0 < len := by simpa using h0
      obtain ⟨pb, po, spt⟩ := a
      have hc0 := (hq 0 h0').1
      have hsp : spt = none := by simpa [Addr.add] using World.cell?_spot hc0
      subst hsp
      refine ⟨pb, po, rfl, fun i e hi => ?_⟩
      obtain ⟨hlt, rfl⟩ := range_at hi
      have := (hq i hlt).1
      rw [Addr.add_lit] at this
      exact this
    · intro e he
      obtain ⟨i, hi, rfl⟩ := List.mem_map.1 he
      exact (hq i (List.mem_range.1 hi)).2
set_option maxRecDepth 100000 in
/-- A slice of slices of texts that came in. -/
theorem open_ss {H : Type} {enc : TypeId × Value → H} {W : World} {base : Nat} {v : Value} {d : DataW H} {p : List MemPlace}
    (hv : Value.okWide Tryd.prog W .any base 22 v) (h : DataW.Trod enc Tryd.prog W 0 (fun _ => true) true 22 v d p) :
    ∃ L : List (List (List UInt8)), SsIn W v L ∧ FitTT L := by
  obtain ⟨a0, len0, cap0, rfl⟩ := okWide_slice Tryd.underlying22 hv
  obtain ⟨fuel, hf⟩ := h
  rcases Deep.open_slice1 Tryd.underlying22 (by kernel_rfl) hf with ⟨hcs, hx⟩ | ⟨a, len, cap, m, n', V, D, Pl, hcs, _, hl, hm, hmm, _, hx⟩
  · simp [Value.cells] at hcs
    obtain ⟨rfl, rfl, rfl⟩ := hcs
    exact ⟨[], ⟨none, 0, [], rfl, Nat.le_refl _, rfl, fun h => by simp at h, fun i u l hi => by simp at hi⟩, by simp, by simp⟩
  · simp [Value.cells] at hcs
    obtain ⟨rfl, rfl, rfl⟩ := hcs
    simp only [if_true] at hmm
    subst hmm
    rw [maxLen_eq] at hm
    have each : ∀ i, i < len0 → ∃ l : List (List UInt8), TxtsIn W (V i) l ∧ FitT l := by
      intro i hi
      exact open_txts (hx i (by omega)).2
    obtain ⟨q, hq⟩ := @Deep.choose_lt (List (List UInt8)) ⟨[]⟩ _ _ each
    refine ⟨(List.range len0).map q, ⟨some a, m, (List.range len0).map V, by simp, by simpa using hl, by simp, fun h0 => ?_, fun i u l hu hi => ?_⟩, by simp; omega, ?_⟩
    · have h0' : 0 < len0 := by simpa using h0
      obtain ⟨pb, po, spt⟩ := a
      have hc0 := (hx 0 (by omega)).1
      have hsp : spt = none := by simpa [Addr.add] using World.cell?_spot hc0
      subst hsp
      refine ⟨pb, po, rfl, fun i e hi => ?_⟩
      obtain ⟨hlt, rfl⟩ := range_at hi
      have := (hx i (by omega)).1
      rw [Addr.add_lit] at this
      exact this
    · obtain ⟨hlt, rfl⟩ := range_at hi
      obtain ⟨_, rfl⟩ := range_at hu
      exact (hq i hlt).1
    · intro e he
      obtain ⟨i, hi, rfl⟩ := List.mem_map.1 he
      exact (hq i (List.mem_range.1 hi)).2

end Go.Proofs.YtpdfalpoidlegaaDoor
