/-
  Rows of structs: Change.
-/
import Derived.Test.YtbpnamobifbgpaaSv1
import Derived.Laws.MakeOwn
namespace Go.Proofs.Ytbpnamobifbgpaa
open Go.RowKit

structure CH where
  r : Int
  c : Int
  t : List UInt8
abbrev CH.cells (e : CH) : List Value := [.int .i64 e.r, .int .i64 e.c, sV e.t]
abbrev changeV (r : Int) (c : Int) (t : List UInt8) : Value := .agg #[.int .i64 r, .int .i64 c, sV t]
/-- A row of them from a place on. -/
def RowCh (w : World) (b o : Nat) (l : List CH) : Prop := ∀ (i : Nat) (e : CH), l[i]? = some e → ∀ (c : Nat) (u : Value), e.cells[c]? = some u → w.cell? ⟨b, o + i * 3 + c, none⟩ = some u
theorem RowCh.later {w w' : World} {b o : Nat} {l : List CH} (h : RowCh w b o l) (x : Ext w w') : RowCh w' b o l := fun i e hi c u hc => cell_later x (h i e hi c u hc)
theorem RowCh.all {w : World} {b o : Nat} {l : List CH} (h : RowCh w b o l) {k : Nat} {e : CH} (he : l[k]? = some e) :
    w.cell? ⟨b, o + k * 3, none⟩ = some (.int .i64 e.r) ∧ w.cell? ⟨b, o + k * 3 + 1, none⟩ = some (.int .i64 e.c) ∧ w.cell? ⟨b, o + k * 3 + 2, none⟩ = some (sV e.t) :=
  ⟨h k e he 0 _ rfl, h k e he 1 _ rfl, h k e he 2 _ rfl⟩
/-- A slice of them that lies somewhere. -/
def ChangesIn (w : World) (v : Value) (l : List CH) : Prop :=
  ∃ p cap, v = .slice p l.length cap ∧ l.length ≤ cap ∧ (0 < l.length → ∃ b o, p = some ⟨b, o, none⟩ ∧ RowCh w b o l)
theorem ChangesIn.later {w w' : World} {v : Value} {l : List CH} (h : ChangesIn w v l) (x : Ext w w') : ChangesIn w' v l := by
  obtain ⟨p, cap, h1, h2, h3⟩ := h
  refine ⟨p, cap, h1, h2, fun h0 => ?_⟩
  obtain ⟨b, o, h4, h5⟩ := h3 h0
  exact ⟨b, o, h4, h5.later x⟩
/-- A row of them of one's own. -/
def OwnCh (w : World) (g : Nat) (l : List CH) : Prop := ∀ (i : Nat) (e : CH), l[i]? = some e → ∀ (c : Nat) (u : Value), e.cells[c]? = some u → w.cell? ⟨g, i * 3 + c, none⟩ = some u ∧ w.frozen? ⟨g, i * 3 + c, none⟩ = false
theorem OwnCh.later {w w' : World} {g : Nat} {l : List CH} (h : OwnCh w g l) (x : Ext w w') : OwnCh w' g l := fun i e hi c u hc => ⟨cell_later x (h i e hi c u hc).1, frozen_later x (h i e hi c u hc).1 (h i e hi c u hc).2⟩
theorem OwnCh.row {w : World} {g : Nat} {l : List CH} (h : OwnCh w g l) : RowCh w g 0 l := fun i e hi c u hc => by rw [Nat.zero_add]; exact (h i e hi c u hc).1
theorem OwnCh.slice {w : World} {g : Nat} {l : List CH} (h : OwnCh w g l) : ChangesIn w (.slice (some ⟨g, 0, none⟩) l.length l.length) l :=
  ⟨_, _, rfl, Nat.le_refl _, fun _ => ⟨g, 0, rfl, h.row⟩⟩
theorem OwnCh.far {w : World} {g : Nat} {l : List CH} (h : OwnCh w g l) {p : Addr} (hp : p.block ≠ g) (u : Value) : OwnCh (w.setCell p u) g l := fun i e hi c v hc => by
  refine ⟨?_, by rw [World.frozen?_setCell]; exact (h i e hi c v hc).2⟩
  rw [World.cell?_setCell_other _ _ _ _ (fun e => hp (congrArg Addr.block e))]
  exact (h i e hi c v hc).1
def zeroCH : CH := ⟨0, 0, []⟩
theorem CH.cells_lt {e : CH} {c : Nat} {u : Value} (h : e.cells[c]? = some u) : c < 3 := (List.getElem?_eq_some_iff.1 h).1
theorem OwnCh.made (w : World) (n : Nat) (t : TypeId) : OwnCh (w.alloc (.cells (madeCells #[.int .i64 0, .int .i64 0, sV []] (n * 3)) t)) w.heap.size (List.replicate n zeroCH) := by
  intro i e hi c u hc
  have hb := heap_alloc_new w (.cells (madeCells #[.int .i64 0, .int .i64 0, sV []] (n * 3)) t)
  obtain ⟨hin, rfl⟩ : i < n ∧ e = zeroCH := by
    rw [List.getElem?_replicate] at hi
    split at hi
    · cases hi; exact ⟨by assumption, rfl⟩
    · cases hi
  have h5 := CH.cells_lt hc
  have hlt : i * 3 + c < n * 3 := by omega
  refine ⟨?_, ?_⟩
  · unfold World.cell?
    simp only [hb]
    have e1 : (madeCells #[.int .i64 0, .int .i64 0, sV []] (n * 3))[i * 3 + c]? = some u := by
      unfold madeCells
      have hm : (i * 3 + c) % 3 = c := by omega
      rw [Array.getElem?_map, Array.getElem?_eq_getElem (by simpa using hlt)]
      simp only [Array.getElem_range, Option.map_some]
      have hs : (#[.int .i64 0, .int .i64 0, sV []] : Array Value).size = 3 := rfl
      rw [hs, hm, ← hc]
      match c, h5 with
      | 0, _ => rfl
      | 1, _ => rfl
      | 2, _ => rfl
    simpa using e1
  · unfold World.frozen?
    simp only [hb]
    simp
set_option maxHeartbeats 4000000 in
theorem OwnCh.put {w : World} {g k : Nat} {l : List CH} (h : OwnCh w g l) (hk : k < l.length) (e : CH) :
    OwnCh (((w.setCell ⟨g, k * 3, none⟩ (.int .i64 e.r)).setCell ⟨g, k * 3 + 1, none⟩ (.int .i64 e.c)).setCell ⟨g, k * 3 + 2, none⟩ (sV e.t)) g (l.set k e) := by
  intro i q hi c u hc
  have h5 := CH.cells_lt hc
  obtain ⟨q0, hq0⟩ : ∃ q0, l[i]? = some q0 := by
    have : i < l.length := by have := (List.getElem?_eq_some_iff.1 hi).1; simpa using this
    exact ⟨_, List.getElem?_eq_getElem this⟩
  obtain ⟨u0, hu0⟩ : ∃ u0, q0.cells[c]? = some u0 := ⟨_, List.getElem?_eq_getElem (show c < q0.cells.length from h5)⟩
  have old := h i q0 hq0 c u0 hu0
  refine ⟨?_, by simp only [World.frozen?_setCell]; exact old.2⟩
  by_cases hik : i = k
  · subst hik
    rw [List.getElem?_set_self (by simpa using hk)] at hi
    cases hi
    have S : ∀ (c : Nat), c < 3 → ∀ W : World, (∀ c, c < 3 → (W.cell? ⟨g, i * 3 + c, none⟩).isSome = true) → ∀ v, (W.setCell ⟨g, i * 3 + c, none⟩ v).cell? ⟨g, i * 3 + c, none⟩ = some v := fun c hc W hW v => World.cell?_setCell_same' _ _ _ (by have := hW c hc; exact this)
    have sm : ∀ c, c < 3 → (w.cell? ⟨g, i * 3 + c, none⟩).isSome = true := fun c hc => by
      obtain ⟨v, hv⟩ : ∃ v, q0.cells[c]? = some v := ⟨_, List.getElem?_eq_getElem (show c < q0.cells.length from hc)⟩
      rw [(h i q0 hq0 c v hv).1]; rfl
    have keep : ∀ (c0 : Nat) (v : Value) (W : World), (∀ c, c < 3 → (W.cell? ⟨g, i * 3 + c, none⟩).isSome = true) → ∀ c, c < 3 → ((W.setCell ⟨g, i * 3 + c0, none⟩ v).cell? ⟨g, i * 3 + c, none⟩).isSome = true := fun c0 v W hW c hc => by
      by_cases e : c = c0
      · subst e; rw [S c hc W hW v]; rfl
      · rw [World.cell?_setCell_other _ _ _ _ (fun q => e (by have := congrArg Addr.off q; simp at this; omega))]; exact hW c hc
    have O : ∀ (c0 c : Nat) (v : Value) (W : World), c ≠ c0 → (W.setCell ⟨g, i * 3 + c0, none⟩ v).cell? ⟨g, i * 3 + c, none⟩ = W.cell? ⟨g, i * 3 + c, none⟩ := fun c0 c v W hne => World.cell?_setCell_other _ _ _ _ (fun q => hne (by have := congrArg Addr.off q; simp at this; omega))
    have s0 := sm
    have s1 := keep 0 (.int .i64 e.r) _ s0
    have s2 := keep 1 (.int .i64 e.c) _ s1
    match c, h5, hc with
    | 0, _, hc => cases hc; exact (O 2 0 _ _ (by decide)).trans ((O 1 0 _ _ (by decide)).trans (S 0 (by decide) _ s0 _))
    | 1, _, hc => cases hc; exact (O 2 1 _ _ (by decide)).trans (S 1 (by decide) _ s1 _)
    | 2, _, hc => cases hc; exact S 2 (by decide) _ s2 _
  · rw [List.getElem?_set_ne (fun q => hik q.symm)] at hi
    have O : ∀ (c0 : Nat) (v : Value) (W : World), c0 < 3 → (W.setCell ⟨g, k * 3 + c0, none⟩ v).cell? ⟨g, i * 3 + c, none⟩ = W.cell? ⟨g, i * 3 + c, none⟩ := fun c0 v W h0 => World.cell?_setCell_other _ _ _ _ (fun q => hik (by have := congrArg Addr.off q; simp at this; omega))
    exact (O 2 _ _ (by decide)).trans ((O 1 _ _ (by decide)).trans ((O 0 _ _ (by decide)).trans ((h i q hi c u hc).1)))
theorem OwnCh.all {w : World} {g : Nat} {l : List CH} (h : OwnCh w g l) {k : Nat} {e : CH} (he : l[k]? = some e) :
    (w.cell? ⟨g, k * 3, none⟩ = some (.int .i64 e.r) ∧ w.cell? ⟨g, k * 3 + 1, none⟩ = some (.int .i64 e.c) ∧ w.cell? ⟨g, k * 3 + 2, none⟩ = some (sV e.t)) ∧ w.frozen? ⟨g, k * 3, none⟩ = false ∧ w.frozen? ⟨g, k * 3 + 1, none⟩ = false ∧ w.frozen? ⟨g, k * 3 + 2, none⟩ = false :=
  ⟨⟨(h k e he 0 _ rfl).1, (h k e he 1 _ rfl).1, (h k e he 2 _ rfl).1⟩, (h k e he 0 _ rfl).2, (h k e he 1 _ rfl).2, (h k e he 2 _ rfl).2⟩

end Go.Proofs.Ytbpnamobifbgpaa
