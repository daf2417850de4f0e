/-
  Rows of structs: Shown.
-/
import Derived.Test.YtbipmeldmgpknaaS80
import Derived.Laws.MakeOwn
namespace Go.Proofs.Ytbipmeldmgpknaa
open Go.RowKit

structure ST where
  r : Int
  c : Int
  k : Int
  n : Bool
  d : Int
  x : Int
  t : List UInt8
  q : Bool
abbrev ST.cells (e : ST) : List Value := [.int .i64 e.r, .int .i64 e.c, .int .i64 e.k, .bool e.n, .int .i64 e.d, .int .i64 e.x, sV e.t, .bool e.q]
abbrev shownV (r : Int) (c : Int) (k : Int) (n : Bool) (d : Int) (x : Int) (t : List UInt8) (q : Bool) : Value := .agg #[.int .i64 r, .int .i64 c, .int .i64 k, .bool n, .int .i64 d, .int .i64 x, sV t, .bool q]
/-- A row of them from a place on. -/
def RowS (w : World) (b o : Nat) (l : List ST) : Prop := ∀ (i : Nat) (e : ST), l[i]? = some e → ∀ (c : Nat) (u : Value), e.cells[c]? = some u → w.cell? ⟨b, o + i * 8 + c, none⟩ = some u
theorem RowS.later {w w' : World} {b o : Nat} {l : List ST} (h : RowS w b o l) (x : Ext w w') : RowS w' b o l := fun i e hi c u hc => cell_later x (h i e hi c u hc)
theorem RowS.all {w : World} {b o : Nat} {l : List ST} (h : RowS w b o l) {k : Nat} {e : ST} (he : l[k]? = some e) :
    w.cell? ⟨b, o + k * 8, none⟩ = some (.int .i64 e.r) ∧ w.cell? ⟨b, o + k * 8 + 1, none⟩ = some (.int .i64 e.c) ∧ w.cell? ⟨b, o + k * 8 + 2, none⟩ = some (.int .i64 e.k) ∧ w.cell? ⟨b, o + k * 8 + 3, none⟩ = some (.bool e.n) ∧ w.cell? ⟨b, o + k * 8 + 4, none⟩ = some (.int .i64 e.d) ∧ w.cell? ⟨b, o + k * 8 + 5, none⟩ = some (.int .i64 e.x) ∧ w.cell? ⟨b, o + k * 8 + 6, none⟩ = some (sV e.t) ∧ w.cell? ⟨b, o + k * 8 + 7, none⟩ = some (.bool e.q) :=
  ⟨h k e he 0 _ rfl, h k e he 1 _ rfl, h k e he 2 _ rfl, h k e he 3 _ rfl, h k e he 4 _ rfl, h k e he 5 _ rfl, h k e he 6 _ rfl, h k e he 7 _ rfl⟩
/-- A slice of them that lies somewhere. -/
def ShownsIn (w : World) (v : Value) (l : List ST) : Prop :=
  ∃ p cap, v = .slice p l.length cap ∧ l.length ≤ cap ∧ (0 < l.length → ∃ b o, p = some ⟨b, o, none⟩ ∧ RowS w b o l)
theorem ShownsIn.later {w w' : World} {v : Value} {l : List ST} (h : ShownsIn w v l) (x : Ext w w') : ShownsIn w' v l := by
  obtain ⟨p, cap, h1, h2, h3⟩ := h
  refine ⟨p, cap, h1, h2, fun h0 => ?_⟩
  obtain ⟨b, o, h4, h5⟩ := h3 h0
  exact ⟨b, o, h4, h5.later x⟩
/-- A row of them of one's own. -/
def OwnS (w : World) (g : Nat) (l : List ST) : Prop := ∀ (i : Nat) (e : ST), l[i]? = some e → ∀ (c : Nat) (u : Value), e.cells[c]? = some u → w.cell? ⟨g, i * 8 + c, none⟩ = some u ∧ w.frozen? ⟨g, i * 8 + c, none⟩ = false
theorem OwnS.later {w w' : World} {g : Nat} {l : List ST} (h : OwnS w g l) (x : Ext w w') : OwnS w' g l := fun i e hi c u hc => ⟨cell_later x (h i e hi c u hc).1, frozen_later x (h i e hi c u hc).1 (h i e hi c u hc).2⟩
theorem OwnS.row {w : World} {g : Nat} {l : List ST} (h : OwnS w g l) : RowS w g 0 l := fun i e hi c u hc => by rw [Nat.zero_add]; exact (h i e hi c u hc).1
theorem OwnS.slice {w : World} {g : Nat} {l : List ST} (h : OwnS w g l) : ShownsIn w (.slice (some ⟨g, 0, none⟩) l.length l.length) l :=
  ⟨_, _, rfl, Nat.le_refl _, fun _ => ⟨g, 0, rfl, h.row⟩⟩
theorem OwnS.far {w : World} {g : Nat} {l : List ST} (h : OwnS w g l) {p : Addr} (hp : p.block ≠ g) (u : Value) : OwnS (w.setCell p u) g l := fun i e hi c v hc => by
  refine ⟨?_, by rw [World.frozen?_setCell]; exact (h i e hi c v hc).2⟩
  rw [World.cell?_setCell_other _ _ _ _ (fun e => hp (congrArg Addr.block e))]
  exact (h i e hi c v hc).1
def zeroST : ST := ⟨0, 0, 0, false, 0, 0, [], false⟩
theorem ST.cells_lt {e : ST} {c : Nat} {u : Value} (h : e.cells[c]? = some u) : c < 8 := (List.getElem?_eq_some_iff.1 h).1
theorem OwnS.made (w : World) (n : Nat) (t : TypeId) : OwnS (w.alloc (.cells (madeCells #[.int .i64 0, .int .i64 0, .int .i64 0, .bool false, .int .i64 0, .int .i64 0, sV [], .bool false] (n * 8)) t)) w.heap.size (List.replicate n zeroST) := by
  intro i e hi c u hc
  have hb := heap_alloc_new w (.cells (madeCells #[.int .i64 0, .int .i64 0, .int .i64 0, .bool false, .int .i64 0, .int .i64 0, sV [], .bool false] (n * 8)) t)
  obtain ⟨hin, rfl⟩ : i < n ∧ e = zeroST := by
    rw [List.getElem?_replicate] at hi
    split at hi
    · cases hi; exact ⟨by assumption, rfl⟩
    · cases hi
  have h5 := ST.cells_lt hc
  have hlt : i * 8 + c < n * 8 := by omega
  refine ⟨?_, ?_⟩
  · unfold World.cell?
    simp only [hb]
    have e1 : (madeCells #[.int .i64 0, .int .i64 0, .int .i64 0, .bool false, .int .i64 0, .int .i64 0, sV [], .bool false] (n * 8))[i * 8 + c]? = some u := by
      unfold madeCells
      have hm : (i * 8 + c) % 8 = c := by omega
      rw [Array.getElem?_map, Array.getElem?_eq_getElem (by simpa using hlt)]
      simp only [Array.getElem_range, Option.map_some]
      have hs : (#[.int .i64 0, .int .i64 0, .int .i64 0, .bool false, .int .i64 0, .int .i64 0, sV [], .bool false] : Array Value).size = 8 := rfl
      rw [hs, hm, ← hc]
      match c, h5 with
      | 0, _ => rfl
      | 1, _ => rfl
      | 2, _ => rfl
      | 3, _ => rfl
      | 4, _ => rfl
      | 5, _ => rfl
      | 6, _ => rfl
      | 7, _ => rfl
    simpa using e1
  · unfold World.frozen?
    simp only [hb]
    simp
set_option maxHeartbeats 4000000 in
theorem OwnS.put {w : World} {g k : Nat} {l : List ST} (h : OwnS w g l) (hk : k < l.length) (e : ST) :
    OwnS ((((((((w.setCell ⟨g, k * 8, none⟩ (.int .i64 e.r)).setCell ⟨g, k * 8 + 1, none⟩ (.int .i64 e.c)).setCell ⟨g, k * 8 + 2, none⟩ (.int .i64 e.k)).setCell ⟨g, k * 8 + 3, none⟩ (.bool e.n)).setCell ⟨g, k * 8 + 4, none⟩ (.int .i64 e.d)).setCell ⟨g, k * 8 + 5, none⟩ (.int .i64 e.x)).setCell ⟨g, k * 8 + 6, none⟩ (sV e.t)).setCell ⟨g, k * 8 + 7, none⟩ (.bool e.q)) g (l.set k e) := by
  intro i q hi c u hc
  have h5 := ST.cells_lt hc
  obtain ⟨q0, hq0⟩ : ∃ q0, l[i]? = some q0 := by
    have : i < l.length := by have := (List.getElem?_eq_some_iff.1 hi).1; simpa using this
    exact ⟨_, List.getElem?_eq_getElem this⟩
  obtain ⟨u0, hu0⟩ : ∃ u0, q0.cells[c]? = some u0 := ⟨_, List.getElem?_eq_getElem (show c < q0.cells.length from h5)⟩
  have old := h i q0 hq0 c u0 hu0
  refine ⟨?_, by simp only [World.frozen?_setCell]; exact old.2⟩
  by_cases hik : i = k
  · subst hik
    rw [List.getElem?_set_self (by simpa using hk)] at hi
    cases hi
    have S : ∀ (c : Nat), c < 8 → ∀ W : World, (∀ c, c < 8 → (W.cell? ⟨g, i * 8 + c, none⟩).isSome = true) → ∀ v, (W.setCell ⟨g, i * 8 + c, none⟩ v).cell? ⟨g, i * 8 + c, none⟩ = some v := fun c hc W hW v => World.cell?_setCell_same' _ _ _ (by have := hW c hc; exact this)
    have sm : ∀ c, c < 8 → (w.cell? ⟨g, i * 8 + c, none⟩).isSome = true := fun c hc => by
      obtain ⟨v, hv⟩ : ∃ v, q0.cells[c]? = some v := ⟨_, List.getElem?_eq_getElem (show c < q0.cells.length from hc)⟩
      rw [(h i q0 hq0 c v hv).1]; rfl
    have keep : ∀ (c0 : Nat) (v : Value) (W : World), (∀ c, c < 8 → (W.cell? ⟨g, i * 8 + c, none⟩).isSome = true) → ∀ c, c < 8 → ((W.setCell ⟨g, i * 8 + c0, none⟩ v).cell? ⟨g, i * 8 + c, none⟩).isSome = true := fun c0 v W hW c hc => by
      by_cases e : c = c0
      · subst e; rw [S c hc W hW v]; rfl
      · rw [World.cell?_setCell_other _ _ _ _ (fun q => e (by have := congrArg Addr.off q; simp at this; omega))]; exact hW c hc
    have O : ∀ (c0 c : Nat) (v : Value) (W : World), c ≠ c0 → (W.setCell ⟨g, i * 8 + c0, none⟩ v).cell? ⟨g, i * 8 + c, none⟩ = W.cell? ⟨g, i * 8 + c, none⟩ := fun c0 c v W hne => World.cell?_setCell_other _ _ _ _ (fun q => hne (by have := congrArg Addr.off q; simp at this; omega))
    have s0 := sm
    have s1 := keep 0 (.int .i64 e.r) _ s0
    have s2 := keep 1 (.int .i64 e.c) _ s1
    have s3 := keep 2 (.int .i64 e.k) _ s2
    have s4 := keep 3 (.bool e.n) _ s3
    have s5 := keep 4 (.int .i64 e.d) _ s4
    have s6 := keep 5 (.int .i64 e.x) _ s5
    have s7 := keep 6 (sV e.t) _ s6
    match c, h5, hc with
    | 0, _, hc => cases hc; exact (O 7 0 _ _ (by decide)).trans ((O 6 0 _ _ (by decide)).trans ((O 5 0 _ _ (by decide)).trans ((O 4 0 _ _ (by decide)).trans ((O 3 0 _ _ (by decide)).trans ((O 2 0 _ _ (by decide)).trans ((O 1 0 _ _ (by decide)).trans (S 0 (by decide) _ s0 _)))))))
    | 1, _, hc => cases hc; exact (O 7 1 _ _ (by decide)).trans ((O 6 1 _ _ (by decide)).trans ((O 5 1 _ _ (by decide)).trans ((O 4 1 _ _ (by decide)).trans ((O 3 1 _ _ (by decide)).trans ((O 2 1 _ _ (by decide)).trans (S 1 (by decide) _ s1 _))))))
    | 2, _, hc => cases hc; exact (O 7 2 _ _ (by decide)).trans ((O 6 2 _ _ (by decide)).trans ((O 5 2 _ _ (by decide)).trans ((O 4 2 _ _ (by decide)).trans ((O 3 2 _ _ (by decide)).trans (S 2 (by decide) _ s2 _)))))
    | 3, _, hc => cases hc; exact (O 7 3 _ _ (by decide)).trans ((O 6 3 _ _ (by decide)).trans ((O 5 3 _ _ (by decide)).trans ((O 4 3 _ _ (by decide)).trans (S 3 (by decide) _ s3 _))))
    | 4, _, hc => cases hc; exact (O 7 4 _ _ (by decide)).trans ((O 6 4 _ _ (by decide)).trans ((O 5 4 _ _ (by decide)).trans (S 4 (by decide) _ s4 _)))
    | 5, _, hc => cases hc; exact (O 7 5 _ _ (by decide)).trans ((O 6 5 _ _ (by decide)).trans (S 5 (by decide) _ s5 _))
    | 6, _, hc => cases hc; exact (O 7 6 _ _ (by decide)).trans (S 6 (by decide) _ s6 _)
    | 7, _, hc => cases hc; exact S 7 (by decide) _ s7 _
  · rw [List.getElem?_set_ne (fun q => hik q.symm)] at hi
    have O : ∀ (c0 : Nat) (v : Value) (W : World), c0 < 8 → (W.setCell ⟨g, k * 8 + c0, none⟩ v).cell? ⟨g, i * 8 + c, none⟩ = W.cell? ⟨g, i * 8 + c, none⟩ := fun c0 v W h0 => World.cell?_setCell_other _ _ _ _ (fun q => hik (by have := congrArg Addr.off q; simp at this; omega))
    exact (O 7 _ _ (by decide)).trans ((O 6 _ _ (by decide)).trans ((O 5 _ _ (by decide)).trans ((O 4 _ _ (by decide)).trans ((O 3 _ _ (by decide)).trans ((O 2 _ _ (by decide)).trans ((O 1 _ _ (by decide)).trans ((O 0 _ _ (by decide)).trans ((h i q hi c u hc).1))))))))
theorem OwnS.all {w : World} {g : Nat} {l : List ST} (h : OwnS w g l) {k : Nat} {e : ST} (he : l[k]? = some e) :
    (w.cell? ⟨g, k * 8, none⟩ = some (.int .i64 e.r) ∧ w.cell? ⟨g, k * 8 + 1, none⟩ = some (.int .i64 e.c) ∧ w.cell? ⟨g, k * 8 + 2, none⟩ = some (.int .i64 e.k) ∧ w.cell? ⟨g, k * 8 + 3, none⟩ = some (.bool e.n) ∧ w.cell? ⟨g, k * 8 + 4, none⟩ = some (.int .i64 e.d) ∧ w.cell? ⟨g, k * 8 + 5, none⟩ = some (.int .i64 e.x) ∧ w.cell? ⟨g, k * 8 + 6, none⟩ = some (sV e.t) ∧ w.cell? ⟨g, k * 8 + 7, none⟩ = some (.bool e.q)) ∧ w.frozen? ⟨g, k * 8, none⟩ = false ∧ w.frozen? ⟨g, k * 8 + 1, none⟩ = false ∧ w.frozen? ⟨g, k * 8 + 2, none⟩ = false ∧ w.frozen? ⟨g, k * 8 + 3, none⟩ = false ∧ w.frozen? ⟨g, k * 8 + 4, none⟩ = false ∧ w.frozen? ⟨g, k * 8 + 5, none⟩ = false ∧ w.frozen? ⟨g, k * 8 + 6, none⟩ = false ∧ w.frozen? ⟨g, k * 8 + 7, none⟩ = false :=
  ⟨⟨(h k e he 0 _ rfl).1, (h k e he 1 _ rfl).1, (h k e he 2 _ rfl).1, (h k e he 3 _ rfl).1, (h k e he 4 _ rfl).1, (h k e he 5 _ rfl).1, (h k e he 6 _ rfl).1, (h k e he 7 _ rfl).1⟩, (h k e he 0 _ rfl).2, (h k e he 1 _ rfl).2, (h k e he 2 _ rfl).2, (h k e he 3 _ rfl).2, (h k e he 4 _ rfl).2, (h k e he 5 _ rfl).2, (h k e he 6 _ rfl).2, (h k e he 7 _ rfl).2⟩

end Go.Proofs.Ytbipmeldmgpknaa
