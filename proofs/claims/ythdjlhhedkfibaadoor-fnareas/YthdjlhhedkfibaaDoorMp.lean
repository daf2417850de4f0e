/-
  A map from sides to blocks: what it holds, put in and looked up.
-/
import Derived.Test.YthdjlhhedkfibaaDoorHul
import Derived.DeepKeys4
import Derived.MapKept
namespace Go.Proofs.YthdjlhhedkfibaaDoor
open Go.RowKit

abbrev siV (a b : Int) : Value := .agg #[.int .i64 a, .int .i64 b]
/-- The four sides, in the order in which pieces are told. -/
def sideK : Nat → Value
  | 0 => siV (-1) 0
  | 1 => siV 1 0
  | 2 => siV 0 (-1)
  | _ => siV 0 1
theorem sideK_inj {i j : Nat} (hi : i < 4) (hj : j < 4) (h : sideK i = sideK j) : i = j := by
  match i, j, hi, hj with
  | 0, 0, _, _ => rfl
  | 1, 1, _, _ => rfl
  | 2, 2, _, _ => rfl
  | 3, 3, _, _ => rfl
  | 0, 1, _, _ | 0, 2, _, _ | 0, 3, _, _ | 1, 0, _, _ | 1, 2, _, _ | 1, 3, _, _ | 2, 0, _, _ | 2, 1, _, _ | 2, 3, _, _ | 3, 0, _, _ | 3, 1, _, _ | 3, 2, _, _ => exact absurd h (by simp [sideK])

theorem side_law : WideMaps.KeyLaw Tryd.prog 55 :=
  deep_law (m := 2) (by decide) (by kernel_rfl) (by kernel_rfl) (by kernel_rfl)
theorem side_key (i : Nat) : ∃ l, keyOf Tryd.prog 55 (sideK i) = some l := by
  have h : ∀ v, (keyOf Tryd.prog 55 v).isSome = true → ∃ l, keyOf Tryd.prog 55 v = some l := fun v h => Option.isSome_iff_exists.1 h
  match i with
  | 0 => exact h _ (by kernel_rfl)
  | 1 => exact h _ (by kernel_rfl)
  | 2 => exact h _ (by kernel_rfl)
  | _ + 3 => exact h _ (by kernel_rfl)
theorem map_type : Tryd.prog.underlying 52 = some (.map 55 47) := by kernel_rfl

/-- The map at m holds the pieces of these sides. -/
def Pieces (w : World) (m : Nat) (p : Nat → Value) (L : List Nat) : Prop :=
  ∃ es clock, w.heap[m]? = some (.map es clock) ∧ es.toList.map (fun e => (e.key, e.val)) = L.map (fun k => (sideK k, p k))
theorem Pieces.lt {w : World} {m : Nat} {p : Nat → Value} {L : List Nat} (h : Pieces w m p L) : m < w.heap.size := by
  obtain ⟨es, c, hb, _⟩ := h
  rcases Nat.lt_or_ge m w.heap.size with h' | h'
  · exact h'
  · rw [Array.getElem?_eq_none h'] at hb; cases hb
theorem Pieces.later {w w' : World} {m : Nat} {p : Nat → Value} {L : List Nat} (h : Pieces w m p L) (e : Ext w w') : Pieces w' m p L := by
  have hlt := h.lt
  obtain ⟨es, c, hb, he⟩ := h
  exact ⟨es, c, by rw [e.block m hlt]; exact hb, he⟩
theorem Pieces.far {w : World} {m : Nat} {p : Nat → Value} {L : List Nat} (h : Pieces w m p L) {q : Addr} (hq : q.block ≠ m) (u : Value) : Pieces (w.setCell q u) m p L := by
  obtain ⟨es, c, hb, he⟩ := h
  exact ⟨es, c, by rw [Below.heap_setCell _ _ _ _ (Ne.symm hq)]; exact hb, he⟩
theorem Pieces.keyed {p : Nat → Value} {L : List Nat} {es : Array MapEntry} (he : es.toList.map (fun e => (e.key, e.val)) = L.map (fun k => (sideK k, p k))) :
    ∀ e ∈ es.toList, ∃ k ∈ L, e.key = sideK k ∧ e.val = p k := fun e hm => by
  have : (e.key, e.val) ∈ es.toList.map (fun e => (e.key, e.val)) := List.mem_map.2 ⟨e, hm, rfl⟩
  rw [he] at this
  obtain ⟨k, hk, hkk⟩ := List.mem_map.1 this
  exact ⟨k, hk, (congrArg Prod.fst hkk).symm, (congrArg Prod.snd hkk).symm⟩

theorem Ext.setBlock {a w : World} (h : Ext a w) {m : Nat} (hm : a.heap.size ≤ m) (o : Obj) : Ext a { w with heap := w.heap.setIfInBounds m o } :=
  ⟨h.os, h.tape, h.output, by simpa using h.size, fun k hk => by
    show (w.heap.setIfInBounds m o)[k]? = _
    rw [Array.getElem?_setIfInBounds_ne (by omega)]
    exact h.block k hk⟩

/-- One more. -/
theorem Pieces.insert {w : World} {m : Nat} {p : Nat → Value} {L : List Nat} (h : Pieces w m p L) (hL : ∀ j ∈ L, j < 4) {k : Nat} (hk : k < 4) (hn : k ∉ L) :
    ∃ o, (Instr.mapUpdate 52 (.map (some m)) (sideK k) (p k)).run Tryd.prog w = .ok () { w with heap := w.heap.setIfInBounds m o } ∧
      Pieces { w with heap := w.heap.setIfInBounds m o } m p (L ++ [k]) := by
  have hlt := h.lt
  obtain ⟨es, clock, hb, he⟩ := h
  obtain ⟨l, hl⟩ := side_key k
  have hkeys : ∀ e ∈ es.toList, ∃ l, keyOf Tryd.prog 55 e.key = some l := fun e hm => by
    obtain ⟨j, _, hj, _⟩ := Pieces.keyed he e hm
    rw [hj]; exact side_key j
  rcases side_law.find w hl es.toList hkeys with ⟨h1, h2⟩ | ⟨j, e0, h1, h2, h3⟩
  · refine ⟨.map (es.push ⟨sideK k, p k, clock⟩) (clock + 1), ?_, es.push ⟨sideK k, p k, clock⟩, clock + 1, ?_, ?_⟩
    · simp [Instr.mapUpdate, run_underlying map_type, MapKept.run_getObj_map hb, side_law.check w false hl, h1, MapKept.run_setObj_map _ hb, Result.andThen]
    · show (w.heap.setIfInBounds m _)[m]? = _
      rw [Array.getElem?_setIfInBounds_self_of_lt hlt]
    · rw [Array.toList_push, List.map_append, he, List.map_append]; rfl
  · exfalso
    obtain ⟨i, hi, hik, _⟩ := Pieces.keyed he e0 (List.mem_of_getElem? h2)
    rw [h3] at hik
    exact hn (sideK_inj hk (hL i hi) hik ▸ hi)

/-- Looked up. -/
theorem Pieces.lookup {w : World} {m : Nat} {p : Nat → Value} {L : List Nat} (h : Pieces w m p L) (hL : ∀ j ∈ L, j < 4) {k : Nat} (hk : k < 4) (hn : k ∈ L) :
    (Instr.lookup 52 (.map (some m)) (sideK k) false).run Tryd.prog w = .ok (p k) w := by
  obtain ⟨es, clock, hb, he⟩ := h
  obtain ⟨l, hl⟩ := side_key k
  have hkeys : ∀ e ∈ es.toList, ∃ l, keyOf Tryd.prog 55 e.key = some l := fun e hm => by
    obtain ⟨j, _, hj, _⟩ := Pieces.keyed he e hm
    rw [hj]; exact side_key j
  rcases side_law.find w hl es.toList hkeys with ⟨h1, h2⟩ | ⟨j, e0, h1, h2, h3⟩
  · exfalso
    have : (sideK k, p k) ∈ L.map (fun k => (sideK k, p k)) := List.mem_map.2 ⟨k, hn, rfl⟩
    rw [← he] at this
    obtain ⟨e, hm, hee⟩ := List.mem_map.1 this
    exact h2 e hm (congrArg Prod.fst hee)
  · obtain ⟨i, hi, hik, hv⟩ := Pieces.keyed he e0 (List.mem_of_getElem? h2)
    rw [h3] at hik
    have : k = i := sideK_inj hk (hL i hi) hik
    subst this
    simp [Instr.lookup, run_underlying map_type, MapKept.run_getObj_map hb, side_law.check w _ hl, h1, Result.andThen, hv]

end Go.Proofs.YthdjlhhedkfibaaDoor
