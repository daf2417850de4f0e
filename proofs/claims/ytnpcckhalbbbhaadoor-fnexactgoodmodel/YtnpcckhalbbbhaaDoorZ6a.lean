/-
  Rows of structs: Limit.
-/
import Derived.Test.YtnpcckhalbbbhaaDoorZ4
import Derived.Laws.MakeOwn
namespace Go.Proofs.YtnpcckhalbbbhaaDoor
open Go.RowKit

structure LC where
  cv : Value
  op : List UInt8
  ng : Bool
  dg : Int
  ex : Int
abbrev LC.cells (e : LC) : List Value := [e.cv, sV e.op, .bool e.ng, .int .i64 e.dg, .int .i64 e.ex]
abbrev limitV (cv : Value) (op : List UInt8) (ng : Bool) (dg : Int) (ex : Int) : Value := .agg #[cv, sV op, .bool ng, .int .i64 dg, .int .i64 ex]
/-- A row of them from a place on. -/
def RowLc (w : World) (b o : Nat) (l : List LC) : Prop := ∀ (i : Nat) (e : LC), l[i]? = some e → ∀ (c : Nat) (u : Value), e.cells[c]? = some u → w.cell? ⟨b, o + i * 5 + c, none⟩ = some u
theorem RowLc.later {w w' : World} {b o : Nat} {l : List LC} (h : RowLc w b o l) (x : Ext w w') : RowLc w' b o l := fun i e hi c u hc => cell_later x (h i e hi c u hc)
theorem RowLc.all {w : World} {b o : Nat} {l : List LC} (h : RowLc w b o l) {k : Nat} {e : LC} (he : l[k]? = some e) :
    w.cell? ⟨b, o + k * 5, none⟩ = some (e.cv) ∧ w.cell? ⟨b, o + k * 5 + 1, none⟩ = some (sV e.op) ∧ w.cell? ⟨b, o + k * 5 + 2, none⟩ = some (.bool e.ng) ∧ w.cell? ⟨b, o + k * 5 + 3, none⟩ = some (.int .i64 e.dg) ∧ w.cell? ⟨b, o + k * 5 + 4, none⟩ = some (.int .i64 e.ex) :=
  ⟨h k e he 0 _ rfl, h k e he 1 _ rfl, h k e he 2 _ rfl, h k e he 3 _ rfl, h k e he 4 _ rfl⟩
/-- A slice of them that lies somewhere. -/
def LimCsIn (w : World) (v : Value) (l : List LC) : Prop :=
  ∃ p cap, v = .slice p l.length cap ∧ l.length ≤ cap ∧ (0 < l.length → ∃ b o, p = some ⟨b, o, none⟩ ∧ RowLc w b o l)
theorem LimCsIn.later {w w' : World} {v : Value} {l : List LC} (h : LimCsIn w v l) (x : Ext w w') : LimCsIn w' v l := by
  obtain ⟨p, cap, h1, h2, h3⟩ := h
  refine ⟨p, cap, h1, h2, fun h0 => ?_⟩
  obtain ⟨b, o, h4, h5⟩ := h3 h0
  exact ⟨b, o, h4, h5.later x⟩
/-- A row of them of one's own. -/
def OwnLc (w : World) (g : Nat) (l : List LC) : Prop := ∀ (i : Nat) (e : LC), l[i]? = some e → ∀ (c : Nat) (u : Value), e.cells[c]? = some u → w.cell? ⟨g, i * 5 + c, none⟩ = some u ∧ w.frozen? ⟨g, i * 5 + c, none⟩ = false
theorem OwnLc.later {w w' : World} {g : Nat} {l : List LC} (h : OwnLc w g l) (x : Ext w w') : OwnLc w' g l := fun i e hi c u hc => ⟨cell_later x (h i e hi c u hc).1, frozen_later x (h i e hi c u hc).1 (h i e hi c u hc).2⟩
theorem OwnLc.row {w : World} {g : Nat} {l : List LC} (h : OwnLc w g l) : RowLc w g 0 l := fun i e hi c u hc => by rw [Nat.zero_add]; exact (h i e hi c u hc).1
theorem OwnLc.slice {w : World} {g : Nat} {l : List LC} (h : OwnLc w g l) : LimCsIn w (.slice (some ⟨g, 0, none⟩) l.length l.length) l :=
  ⟨_, _, rfl, Nat.le_refl _, fun _ => ⟨g, 0, rfl, h.row⟩⟩
theorem OwnLc.far {w : World} {g : Nat} {l : List LC} (h : OwnLc w g l) {p : Addr} (hp : p.block ≠ g) (u : Value) : OwnLc (w.setCell p u) g l := fun i e hi c v hc => by
  refine ⟨?_, by rw [World.frozen?_setCell]; exact (h i e hi c v hc).2⟩
  rw [World.cell?_setCell_other _ _ _ _ (fun e => hp (congrArg Addr.block e))]
  exact (h i e hi c v hc).1
def zeroLC : LC := ⟨.slice none 0 0, [], false, 0, 0⟩
theorem LC.cells_lt {e : LC} {c : Nat} {u : Value} (h : e.cells[c]? = some u) : c < 5 := (List.getElem?_eq_some_iff.1 h).1
theorem OwnLc.made (w : World) (n : Nat) (t : TypeId) : OwnLc (w.alloc (.cells (madeCells #[.slice none 0 0, sV [], .bool false, .int .i64 0, .int .i64 0] (n * 5)) t)) w.heap.size (List.replicate n zeroLC) := by
  intro i e hi c u hc
  have hb := heap_alloc_new w (.cells (madeCells #[.slice none 0 0, sV [], .bool false, .int .i64 0, .int .i64 0] (n * 5)) t)
  obtain ⟨hin, rfl⟩ : i < n ∧ e = zeroLC := by
    rw [List.getElem?_replicate] at hi
    split at hi
    · cases hi; exact ⟨by assumption, rfl⟩
    · cases hi
  have h5 := LC.cells_lt hc
  have hlt : i * 5 + c < n * 5 := by omega
  refine ⟨?_, ?_⟩
  · unfold World.cell?
    simp only [hb]
    have e1 : (madeCells #[.slice none 0 0, sV [], .bool false, .int .i64 0, .int .i64 0] (n * 5))[i * 5 + c]? = some u := by
      unfold madeCells
      have hm : (i * 5 + c) % 5 = c := by omega
      rw [Array.getElem?_map, Array.getElem?_eq_getElem (by simpa using hlt)]
      simp only [Array.getElem_range, Option.map_some]
      have hs : (#[.slice none 0 0, sV [], .bool false, .int .i64 0, .int .i64 0] : Array Value).size = 5 := rfl
      rw [hs, hm, ← hc]
      match c, h5 with
      | 0, _ => rfl
      | 1, _ => rfl
      | 2, _ => rfl
      | 3, _ => rfl
      | 4, _ => rfl
    simpa using e1
  · unfold World.frozen?
    simp only [hb]
    simp
set_option maxHeartbeats 4000000 in
theorem OwnLc.put {w : World} {g k : Nat} {l : List LC} (h : OwnLc w g l) (hk : k < l.length) (e : LC) :
    OwnLc (((((w.setCell ⟨g, k * 5, none⟩ (e.cv)).setCell ⟨g, k * 5 + 1, none⟩ (sV e.op)).setCell ⟨g, k * 5 + 2, none⟩ (.bool e.ng)).setCell ⟨g, k * 5 + 3, none⟩ (.int .i64 e.dg)).setCell ⟨g, k * 5 + 4, none⟩ (.int .i64 e.ex)) g (l.set k e) := by
  intro i q hi c u hc
  have h5 := LC.cells_lt hc
  obtain ⟨q0, hq0⟩ : ∃ q0, l[i]? = some q0 := by
    have : i < l.length := by have := (List.getElem?_eq_some_iff.1 hi).1; simpa using this
    exact ⟨_, List.getElem?_eq_getElem this⟩
  obtain ⟨u0, hu0⟩ : ∃ u0, q0.cells[c]? = some u0 := ⟨_, List.getElem?_eq_getElem (show c < q0.cells.length from h5)⟩
  have old := h i q0 hq0 c u0 hu0
  refine ⟨?_, by simp only [World.frozen?_setCell]; exact old.2⟩
  by_cases hik : i = k
  · subst hik
    rw [List.getElem?_set_self (by simpa using hk)] at hi
    cases hi
    have S : ∀ (c : Nat), c < 5 → ∀ W : World, (∀ c, c < 5 → (W.cell? ⟨g, i * 5 + c, none⟩).isSome = true) → ∀ v, (W.setCell ⟨g, i * 5 + c, none⟩ v).cell? ⟨g, i * 5 + c, none⟩ = some v := fun c hc W hW v => World.cell?_setCell_same' _ _ _ (by have := hW c hc; exact this)
    have sm : ∀ c, c < 5 → (w.cell? ⟨g, i * 5 + c, none⟩).isSome = true := fun c hc => by
      obtain ⟨v, hv⟩ : ∃ v, q0.cells[c]? = some v := ⟨_, List.getElem?_eq_getElem (show c < q0.cells.length from hc)⟩
      rw [(h i q0 hq0 c v hv).1]; rfl
    have keep : ∀ (c0 : Nat) (v : Value) (W : World), (∀ c, c < 5 → (W.cell? ⟨g, i * 5 + c, none⟩).isSome = true) → ∀ c, c < 5 → ((W.setCell ⟨g, i * 5 + c0, none⟩ v).cell? ⟨g, i * 5 + c, none⟩).isSome = true := fun c0 v W hW c hc => by
      by_cases e : c = c0
      · subst e; rw [S c hc W hW v]; rfl
      · rw [World.cell?_setCell_other _ _ _ _ (fun q => e (by have := congrArg Addr.off q; simp at this; omega))]; exact hW c hc
    have O : ∀ (c0 c : Nat) (v : Value) (W : World), c ≠ c0 → (W.setCell ⟨g, i * 5 + c0, none⟩ v).cell? ⟨g, i * 5 + c, none⟩ = W.cell? ⟨g, i * 5 + c, none⟩ := fun c0 c v W hne => World.cell?_setCell_other _ _ _ _ (fun q => hne (by have := congrArg Addr.off q; simp at this; omega))
    have s0 := sm
    have s1 := keep 0 (e.cv) _ s0
    have s2 := keep 1 (sV e.op) _ s1
    have s3 := keep 2 (.bool e.ng) _ s2
    have s4 := keep 3 (.int .i64 e.dg) _ s3
    match c, h5, hc with
    | 0, _, hc => cases hc; exact (O 4 0 _ _ (by decide)).trans ((O 3 0 _ _ (by decide)).trans ((O 2 0 _ _ (by decide)).trans ((O 1 0 _ _ (by decide)).trans (S 0 (by decide) _ s0 _))))
    | 1, _, hc => cases hc; exact (O 4 1 _ _ (by decide)).trans ((O 3 1 _ _ (by decide)).trans ((O 2 1 _ _ (by decide)).trans (S 1 (by decide) _ s1 _)))
    | 2, _, hc => cases hc; exact (O 4 2 _ _ (by decide)).trans ((O 3 2 _ _ (by decide)).trans (S 2 (by decide) _ s2 _))
    | 3, _, hc => cases hc; exact (O 4 3 _ _ (by decide)).trans (S 3 (by decide) _ s3 _)
    | 4, _, hc => cases hc; exact S 4 (by decide) _ s4 _
  · rw [List.getElem?_set_ne (fun q => hik q.symm)] at hi
    have O : ∀ (c0 : Nat) (v : Value) (W : World), c0 < 5 → (W.setCell ⟨g, k * 5 + c0, none⟩ v).cell? ⟨g, i * 5 + c, none⟩ = W.cell? ⟨g, i * 5 + c, none⟩ := fun c0 v W h0 => World.cell?_setCell_other _ _ _ _ (fun q => hik (by have := congrArg Addr.off q; simp at this; omega))
    exact (O 4 _ _ (by decide)).trans ((O 3 _ _ (by decide)).trans ((O 2 _ _ (by decide)).trans ((O 1 _ _ (by decide)).trans ((O 0 _ _ (by decide)).trans ((h i q hi c u hc).1)))))
theorem OwnLc.all {w : World} {g : Nat} {l : List LC} (h : OwnLc w g l) {k : Nat} {e : LC} (he : l[k]? = some e) :
    (w.cell? ⟨g, k * 5, none⟩ = some (e.cv) ∧ w.cell? ⟨g, k * 5 + 1, none⟩ = some (sV e.op) ∧ w.cell? ⟨g, k * 5 + 2, none⟩ = some (.bool e.ng) ∧ w.cell? ⟨g, k * 5 + 3, none⟩ = some (.int .i64 e.dg) ∧ w.cell? ⟨g, k * 5 + 4, none⟩ = some (.int .i64 e.ex)) ∧ w.frozen? ⟨g, k * 5, none⟩ = false ∧ w.frozen? ⟨g, k * 5 + 1, none⟩ = false ∧ w.frozen? ⟨g, k * 5 + 2, none⟩ = false ∧ w.frozen? ⟨g, k * 5 + 3, none⟩ = false ∧ w.frozen? ⟨g, k * 5 + 4, none⟩ = false :=
  ⟨⟨(h k e he 0 _ rfl).1, (h k e he 1 _ rfl).1, (h k e he 2 _ rfl).1, (h k e he 3 _ rfl).1, (h k e he 4 _ rfl).1⟩, (h k e he 0 _ rfl).2, (h k e he 1 _ rfl).2, (h k e he 2 _ rfl).2, (h k e he 3 _ rfl).2, (h k e he 4 _ rfl).2⟩

end Go.Proofs.YtnpcckhalbbbhaaDoor
