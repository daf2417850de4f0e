/-
  Several texts in one: Z1a, Z1d.
-/
import Derived.Test.YtfgohahfppabbaaGreatDoorMg6
import Derived.Test.YtfgohahfppabbaaGreatDoorMg0
import Derived.Laws.MakeOwn
import Derived.Deep.RegionHeld3
namespace Go.Proofs.YtfgohahfppabbaaGreatDoor
open Go.RowKit

structure DT where
 ng : Bool
 dg : Int
 ex : Int
abbrev DT.cells (e : DT) : List Value := [.bool e.ng, .int .i64 e.dg, .int .i64 e.ex]
/-- A row of them from a place on. -/
def RowDc (w : World) (b o : Nat) (l : List DT) : Prop := ∀ (i : Nat) (e : DT), l[i]? = some e → ∀ (c : Nat) (u : Value), e.cells[c]? = some u → w.cell? ⟨b, o + i * 3 + c, none⟩ = some u
theorem RowDc.later {w w' : World} {b o : Nat} {l : List DT} (h : RowDc w b o l) (x : Ext w w') : RowDc w' b o l := fun i e hi c u hc => cell_later x (h i e hi c u hc)
theorem RowDc.all {w : World} {b o : Nat} {l : List DT} (h : RowDc w b o l) {k : Nat} {e : DT} (he : l[k]? = some e) :
  w.cell? ⟨b, o + k * 3, none⟩ = some (.bool e.ng) ∧ w.cell? ⟨b, o + k * 3 + 1, none⟩ = some (.int .i64 e.dg) ∧ w.cell? ⟨b, o + k * 3 + 2, none⟩ = some (.int .i64 e.ex) :=
 ⟨h k e he 0 _ rfl, h k e he 1 _ rfl, h k e he 2 _ rfl⟩
/-- A slice of them that lies somewhere. -/
def DecsIn (w : World) (v : Value) (l : List DT) : Prop :=
 ∃ p cap, v = .slice p l.length cap ∧ l.length ≤ cap ∧ (0 < l.length → ∃ b o, p = some ⟨b, o, none⟩ ∧ RowDc w b o l)
theorem DecsIn.later {w w' : World} {v : Value} {l : List DT} (h : DecsIn w v l) (x : Ext w w') : DecsIn w' v l := by
 obtain ⟨p, cap, h1, h2, h3⟩ := h
 refine ⟨p, cap, h1, h2, fun h0 => ?_⟩
 obtain ⟨b, o, h4, h5⟩ := h3 h0
 exact ⟨b, o, h4, h5.later x⟩
/-- A row of them of one's own. -/
def OwnDc (w : World) (g : Nat) (l : List DT) : Prop := ∀ (i : Nat) (e : DT), l[i]? = some e → ∀ (c : Nat) (u : Value), e.cells[c]? = some u → w.cell? ⟨g, i * 3 + c, none⟩ = some u ∧ w.frozen? ⟨g, i * 3 + c, none⟩ = false
theorem OwnDc.later {w w' : World} {g : Nat} {l : List DT} (h : OwnDc w g l) (x : Ext w w') : OwnDc w' g l := fun i e hi c u hc => ⟨cell_later x (h i e hi c u hc).1, frozen_later x (h i e hi c u hc).1 (h i e hi c u hc).2⟩
theorem OwnDc.row {w : World} {g : Nat} {l : List DT} (h : OwnDc w g l) : RowDc w g 0 l := fun i e hi c u hc => by rw [Nat.zero_add]; exact (h i e hi c u hc).1
def zeroDT : DT := ⟨false, 0, 0⟩
theorem DT.cells_lt {e : DT} {c : Nat} {u : Value} (h : e.cells[c]? = some u) : c < 3 := (List.getElem?_eq_some_iff.1 h).1
set_option maxHeartbeats 4000000 in
theorem OwnDc.put {w : World} {g k : Nat} {l : List DT} (h : OwnDc w g l) (hk : k < l.length) (e : DT) :
  OwnDc (((w.setCell ⟨g, k * 3, none⟩ (.bool e.ng)).setCell ⟨g, k * 3 + 1, none⟩ (.int .i64 e.dg)).setCell ⟨g, k * 3 + 2, none⟩ (.int .i64 e.ex)) g (l.set k e) := by
 intro i q hi c u hc
 have h5 := DT.cells_lt hc
 obtain ⟨q0, hq0⟩ : ∃ q0, l[i]? = some q0 := by
  have : i < l.length := by have := (List.getElem?_eq_some_iff.1 hi).1; simpa using this
  exact ⟨_, List.getElem?_eq_getElem this⟩
 obtain ⟨u0, hu0⟩ : ∃ u0, q0.cells[c]? = some u0 := ⟨_, List.getElem?_eq_getElem (show c < q0.cells.length from h5)⟩
 have old := h i q0 hq0 c u0 hu0
 refine ⟨?_, by simp only [World.frozen?_setCell]; exact old.2⟩
 by_cases hik : i = k
 ·
  subst hik
  rw [List.getElem?_set_self (by simpa using hk)] at hi
  cases hi
  have S : ∀ (c : Nat), c < 3 → ∀ W : World, (∀ c, c < 3 → (W.cell? ⟨g, i * 3 + c, none⟩).isSome = true) → ∀ v, (W.setCell ⟨g, i * 3 + c, none⟩ v).cell? ⟨g, i * 3 + c, none⟩ = some v := fun c hc W hW v => World.cell?_setCell_same' _ _ _ (by have := hW c hc; exact this)
  have sm : ∀ c, c < 3 → (w.cell? ⟨g, i * 3 + c, none⟩).isSome = true := fun c hc => by
   obtain ⟨v, hv⟩ : ∃ v, q0.cells[c]? = some v := ⟨_, List.getElem?_eq_getElem (show c < q0.cells.length from hc)⟩
   rw [(h i q0 hq0 c v hv).1]; rfl
  have keep : ∀ (c0 : Nat) (v : Value) (W : World), (∀ c, c < 3 → (W.cell? ⟨g, i * 3 + c, none⟩).isSome = true) → ∀ c, c < 3 → ((W.setCell ⟨g, i * 3 + c0, none⟩ v).cell? ⟨g, i * 3 + c, none⟩).isSome = true := fun c0 v W hW c hc => by
   by_cases e : c = c0
   ·
    subst e; rw [S c hc W hW v]; rfl
   ·
    rw [World.cell?_setCell_other _ _ _ _ (fun q => e (by have := congrArg Addr.off q; simp at this; omega))]; exact hW c hc
  have O : ∀ (c0 c : Nat) (v : Value) (W : World), c ≠ c0 → (W.setCell ⟨g, i * 3 + c0, none⟩ v).cell? ⟨g, i * 3 + c, none⟩ = W.cell? ⟨g, i * 3 + c, none⟩ := fun c0 c v W hne => World.cell?_setCell_other _ _ _ _ (fun q => hne (by have := congrArg Addr.off q; simp at this; omega))
  have s0 := sm
  have s1 := keep 0 (.bool e.ng) _ s0
  have s2 := keep 1 (.int .i64 e.dg) _ s1
  match c, h5, hc with
  | 0, _, hc => cases hc; exact (O 2 0 _ _ (by decide)).trans ((O 1 0 _ _ (by decide)).trans (S 0 (by decide) _ s0 _))
  | 1, _, hc => cases hc; exact (O 2 1 _ _ (by decide)).trans (S 1 (by decide) _ s1 _)
  | 2, _, hc => cases hc; exact S 2 (by decide) _ s2 _
 ·
  rw [List.getElem?_set_ne (fun q => hik q.symm)] at hi
  have O : ∀ (c0 : Nat) (v : Value) (W : World), c0 < 3 → (W.setCell ⟨g, k * 3 + c0, none⟩ v).cell? ⟨g, i * 3 + c, none⟩ = W.cell? ⟨g, i * 3 + c, none⟩ := fun c0 v W h0 => World.cell?_setCell_other _ _ _ _ (fun q => hik (by have := congrArg Addr.off q; simp at this; omega))
  exact (O 2 _ _ (by decide)).trans ((O 1 _ _ (by decide)).trans ((O 0 _ _ (by decide)).trans ((h i q hi c u hc).1)))
theorem OwnDc.all {w : World} {g : Nat} {l : List DT} (h : OwnDc w g l) {k : Nat} {e : DT} (he : l[k]? = some e) :
  (w.cell? ⟨g, k * 3, none⟩ = some (.bool e.ng) ∧ w.cell? ⟨g, k * 3 + 1, none⟩ = some (.int .i64 e.dg) ∧ w.cell? ⟨g, k * 3 + 2, none⟩ = some (.int .i64 e.ex)) ∧ w.frozen? ⟨g, k * 3, none⟩ = false ∧ w.frozen? ⟨g, k * 3 + 1, none⟩ = false ∧ w.frozen? ⟨g, k * 3 + 2, none⟩ = false :=
 ⟨⟨(h k e he 0 _ rfl).1, (h k e he 1 _ rfl).1, (h k e he 2 _ rfl).1⟩, (h k e he 0 _ rfl).2, (h k e he 1 _ rfl).2, (h k e he 2 _ rfl).2⟩

end Go.Proofs.YtfgohahfppabbaaGreatDoor

