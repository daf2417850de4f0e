/-
  Rows of structs: Format.
-/
import Derived.Test.YthedbjjncnddbaaDoorSv1
import Derived.Laws.MakeOwn
namespace Go.Proofs.YthedbjjncnddbaaDoor
open Go.RowKit

structure KT where
  ng : Bool
  bf : List UInt8
  af : List UInt8
  wh : Int
  pl : Int
  mb : Int
  gr : Bool
  tm : Int
  dt : List UInt8
abbrev KT.cells (e : KT) : List Value := [.bool e.ng, sV e.bf, sV e.af, .int .i64 e.wh, .int .i64 e.pl, .int .i64 e.mb, .bool e.gr, .int .i64 e.tm, sV e.dt]
abbrev formatV (ng : Bool) (bf : List UInt8) (af : List UInt8) (wh : Int) (pl : Int) (mb : Int) (gr : Bool) (tm : Int) (dt : List UInt8) : Value := .agg #[.bool ng, sV bf, sV af, .int .i64 wh, .int .i64 pl, .int .i64 mb, .bool gr, .int .i64 tm, sV dt]
/-- A row of them from a place on. -/
def RowK (w : World) (b o : Nat) (l : List KT) : Prop := ∀ (i : Nat) (e : KT), l[i]? = some e → ∀ (c : Nat) (u : Value), e.cells[c]? = some u → w.cell? ⟨b, o + i * 9 + c, none⟩ = some u
theorem RowK.later {w w' : World} {b o : Nat} {l : List KT} (h : RowK w b o l) (x : Ext w w') : RowK w' b o l := fun i e hi c u hc => cell_later x (h i e hi c u hc)
theorem RowK.all {w : World} {b o : Nat} {l : List KT} (h : RowK w b o l) {k : Nat} {e : KT} (he : l[k]? = some e) :
    w.cell? ⟨b, o + k * 9, none⟩ = some (.bool e.ng) ∧ w.cell? ⟨b, o + k * 9 + 1, none⟩ = some (sV e.bf) ∧ w.cell? ⟨b, o + k * 9 + 2, none⟩ = some (sV e.af) ∧ w.cell? ⟨b, o + k * 9 + 3, none⟩ = some (.int .i64 e.wh) ∧ w.cell? ⟨b, o + k * 9 + 4, none⟩ = some (.int .i64 e.pl) ∧ w.cell? ⟨b, o + k * 9 + 5, none⟩ = some (.int .i64 e.mb) ∧ w.cell? ⟨b, o + k * 9 + 6, none⟩ = some (.bool e.gr) ∧ w.cell? ⟨b, o + k * 9 + 7, none⟩ = some (.int .i64 e.tm) ∧ w.cell? ⟨b, o + k * 9 + 8, none⟩ = some (sV e.dt) :=
  ⟨h k e he 0 _ rfl, h k e he 1 _ rfl, h k e he 2 _ rfl, h k e he 3 _ rfl, h k e he 4 _ rfl, h k e he 5 _ rfl, h k e he 6 _ rfl, h k e he 7 _ rfl, h k e he 8 _ rfl⟩
/-- A slice of them that lies somewhere. -/
def FormatsIn (w : World) (v : Value) (l : List KT) : Prop :=
  ∃ p cap, v = .slice p l.length cap ∧ l.length ≤ cap ∧ (0 < l.length → ∃ b o, p = some ⟨b, o, none⟩ ∧ RowK w b o l)
theorem FormatsIn.later {w w' : World} {v : Value} {l : List KT} (h : FormatsIn w v l) (x : Ext w w') : FormatsIn w' v l := by
  obtain ⟨p, cap, h1, h2, h3⟩ := h
  refine ⟨p, cap, h1, h2, fun h0 => ?_⟩
  obtain ⟨b, o, h4, h5⟩ := h3 h0
  exact ⟨b, o, h4, h5.later x⟩
/-- A row of them of one's own. -/
def OwnK (w : World) (g : Nat) (l : List KT) : Prop := ∀ (i : Nat) (e : KT), l[i]? = some e → ∀ (c : Nat) (u : Value), e.cells[c]? = some u → w.cell? ⟨g, i * 9 + c, none⟩ = some u ∧ w.frozen? ⟨g, i * 9 + c, none⟩ = false
theorem OwnK.later {w w' : World} {g : Nat} {l : List KT} (h : OwnK w g l) (x : Ext w w') : OwnK w' g l := fun i e hi c u hc => ⟨cell_later x (h i e hi c u hc).1, frozen_later x (h i e hi c u hc).1 (h i e hi c u hc).2⟩
theorem OwnK.row {w : World} {g : Nat} {l : List KT} (h : OwnK w g l) : RowK w g 0 l := fun i e hi c u hc => by rw [Nat.zero_add]; exact (h i e hi c u hc).1
theorem OwnK.slice {w : World} {g : Nat} {l : List KT} (h : OwnK w g l) : FormatsIn w (.slice (some ⟨g, 0, none⟩) l.length l.length) l :=
  ⟨_, _, rfl, Nat.le_refl _, fun _ => ⟨g, 0, rfl, h.row⟩⟩
theorem OwnK.far {w : World} {g : Nat} {l : List KT} (h : OwnK w g l) {p : Addr} (hp : p.block ≠ g) (u : Value) : OwnK (w.setCell p u) g l := fun i e hi c v hc => by
  refine ⟨?_, by rw [World.frozen?_setCell]; exact (h i e hi c v hc).2⟩
  rw [World.cell?_setCell_other _ _ _ _ (fun e => hp (congrArg Addr.block e))]
  exact (h i e hi c v hc).1
def zeroKT : KT := ⟨false, [], [], 0, 0, 0, false, 0, []⟩
theorem KT.cells_lt {e : KT} {c : Nat} {u : Value} (h : e.cells[c]? = some u) : c < 9 := (List.getElem?_eq_some_iff.1 h).1
theorem OwnK.made (w : World) (n : Nat) (t : TypeId) : OwnK (w.alloc (.cells (madeCells #[.bool false, sV [], sV [], .int .i64 0, .int .i64 0, .int .i64 0, .bool false, .int .i64 0, sV []] (n * 9)) t)) w.heap.size (List.replicate n zeroKT) := by
  intro i e hi c u hc
  have hb := heap_alloc_new w (.cells (madeCells #[.bool false, sV [], sV [], .int .i64 0, .int .i64 0, .int .i64 0, .bool false, .int .i64 0, sV []] (n * 9)) t)
  obtain ⟨hin, rfl⟩ : i < n ∧ e = zeroKT := by
    rw [List.getElem?_replicate] at hi
    split at hi
    · cases hi; exact ⟨by assumption, rfl⟩
    · cases hi
  have h5 := KT.cells_lt hc
  have hlt : i * 9 + c < n * 9 := by omega
  refine ⟨?_, ?_⟩
  · unfold World.cell?
    simp only [hb]
    have e1 : (madeCells #[.bool false, sV [], sV [], .int .i64 0, .int .i64 0, .int .i64 0, .bool false, .int .i64 0, sV []] (n * 9))[i * 9 + c]? = some u := by
      unfold madeCells
      have hm : (i * 9 + c) % 9 = c := by omega
      rw [Array.getElem?_map, Array.getElem?_eq_getElem (by simpa using hlt)]
      simp only [Array.getElem_range, Option.map_some]
      have hs : (#[.bool false, sV [], sV [], .int .i64 0, .int .i64 0, .int .i64 0, .bool false, .int .i64 0, sV []] : Array Value).size = 9 := rfl
      rw [hs, hm, ← hc]
      match c, h5 with
      | 0, _ => rfl
      | 1, _ => rfl
      | 2, _ => rfl
      | 3, _ => rfl
      | 4, _ => rfl
      | 5, _ => rfl
      | 6, _ => rfl
      | 7, _ => rfl
      | 8, _ => rfl
    simpa using e1
  · unfold World.frozen?
    simp only [hb]
    simp
set_option maxHeartbeats 4000000 in
theorem OwnK.put {w : World} {g k : Nat} {l : List KT} (h : OwnK w g l) (hk : k < l.length) (e : KT) :
    OwnK (((((((((w.setCell ⟨g, k * 9, none⟩ (.bool e.ng)).setCell ⟨g, k * 9 + 1, none⟩ (sV e.bf)).setCell ⟨g, k * 9 + 2, none⟩ (sV e.af)).setCell ⟨g, k * 9 + 3, none⟩ (.int .i64 e.wh)).setCell ⟨g, k * 9 + 4, none⟩ (.int .i64 e.pl)).setCell ⟨g, k * 9 + 5, none⟩ (.int .i64 e.mb)).setCell ⟨g, k * 9 + 6, none⟩ (.bool e.gr)).setCell ⟨g, k * 9 + 7, none⟩ (.int .i64 e.tm)).setCell ⟨g, k * 9 + 8, none⟩ (sV e.dt)) g (l.set k e) := by
  intro i q hi c u hc
  have h5 := KT.cells_lt hc
  obtain ⟨q0, hq0⟩ : ∃ q0, l[i]? = some q0 := by
    have : i < l.length := by have := (List.getElem?_eq_some_iff.1 hi).1; simpa using this
    exact ⟨_, List.getElem?_eq_getElem this⟩
  obtain ⟨u0, hu0⟩ : ∃ u0, q0.cells[c]? = some u0 := ⟨_, List.getElem?_eq_getElem (show c < q0.cells.length from h5)⟩
  have old := h i q0 hq0 c u0 hu0
  refine ⟨?_, by simp only [World.frozen?_setCell]; exact old.2⟩
  by_cases hik : i = k
  · subst hik
    rw [List.getElem?_set_self (by simpa using hk)] at hi
    cases hi
    have S : ∀ (c : Nat), c < 9 → ∀ W : World, (∀ c, c < 9 → (W.cell? ⟨g, i * 9 + c, none⟩).isSome = true) → ∀ v, (W.setCell ⟨g, i * 9 + c, none⟩ v).cell? ⟨g, i * 9 + c, none⟩ = some v := fun c hc W hW v => World.cell?_setCell_same' _ _ _ (by have := hW c hc; exact this)
    have sm : ∀ c, c < 9 → (w.cell? ⟨g, i * 9 + c, none⟩).isSome = true := fun c hc => by
      obtain ⟨v, hv⟩ : ∃ v, q0.cells[c]? = some v := ⟨_, List.getElem?_eq_getElem (show c < q0.cells.length from hc)⟩
      rw [(h i q0 hq0 c v hv).1]; rfl
    have keep : ∀ (c0 : Nat) (v : Value) (W : World), (∀ c, c < 9 → (W.cell? ⟨g, i * 9 + c, none⟩).isSome = true) → ∀ c, c < 9 → ((W.setCell ⟨g, i * 9 + c0, none⟩ v).cell? ⟨g, i * 9 + c, none⟩).isSome = true := fun c0 v W hW c hc => by
      by_cases e : c = c0
      · subst e; rw [S c hc W hW v]; rfl
      · rw [World.cell?_setCell_other _ _ _ _ (fun q => e (by have := congrArg Addr.off q; simp at this; omega))]; exact hW c hc
    have O : ∀ (c0 c : Nat) (v : Value) (W : World), c ≠ c0 → (W.setCell ⟨g, i * 9 + c0, none⟩ v).cell? ⟨g, i * 9 + c, none⟩ = W.cell? ⟨g, i * 9 + c, none⟩ := fun c0 c v W hne => World.cell?_setCell_other _ _ _ _ (fun q => hne (by have := congrArg Addr.off q; simp at this; omega))
    have s0 := sm
    have s1 := keep 0 (.bool e.ng) _ s0
    have s2 := keep 1 (sV e.bf) _ s1
    have s3 := keep 2 (sV e.af) _ s2
    have s4 := keep 3 (.int .i64 e.wh) _ s3
    have s5 := keep 4 (.int .i64 e.pl) _ s4
    have s6 := keep 5 (.int .i64 e.mb) _ s5
    have s7 := keep 6 (.bool e.gr) _ s6
    have s8 := keep 7 (.int .i64 e.tm) _ s7
    match c, h5, hc with
    | 0, _, hc => cases hc; exact (O 8 0 _ _ (by decide)).trans ((O 7 0 _ _ (by decide)).trans ((O 6 0 _ _ (by decide)).trans ((O 5 0 _ _ (by decide)).trans ((O 4 0 _ _ (by decide)).trans ((O 3 0 _ _ (by decide)).trans ((O 2 0 _ _ (by decide)).trans ((O 1 0 _ _ (by decide)).trans (S 0 (by decide) _ s0 _))))))))
    | 1, _, hc => cases hc; exact (O 8 1 _ _ (by decide)).trans ((O 7 1 _ _ (by decide)).trans ((O 6 1 _ _ (by decide)).trans ((O 5 1 _ _ (by decide)).trans ((O 4 1 _ _ (by decide)).trans ((O 3 1 _ _ (by decide)).trans ((O 2 1 _ _ (by decide)).trans (S 1 (by decide) _ s1 _)))))))
    | 2, _, hc => cases hc; exact (O 8 2 _ _ (by decide)).trans ((O 7 2 _ _ (by decide)).trans ((O 6 2 _ _ (by decide)).trans ((O 5 2 _ _ (by decide)).trans ((O 4 2 _ _ (by decide)).trans ((O 3 2 _ _ (by decide)).trans (S 2 (by decide) _ s2 _))))))
    | 3, _, hc => cases hc; exact (O 8 3 _ _ (by decide)).trans ((O 7 3 _ _ (by decide)).trans ((O 6 3 _ _ (by decide)).trans ((O 5 3 _ _ (by decide)).trans ((O 4 3 _ _ (by decide)).trans (S 3 (by decide) _ s3 _)))))
    | 4, _, hc => cases hc; exact (O 8 4 _ _ (by decide)).trans ((O 7 4 _ _ (by decide)).trans ((O 6 4 _ _ (by decide)).trans ((O 5 4 _ _ (by decide)).trans (S 4 (by decide) _ s4 _))))
    | 5, _, hc => cases hc; exact (O 8 5 _ _ (by decide)).trans ((O 7 5 _ _ (by decide)).trans ((O 6 5 _ _ (by decide)).trans (S 5 (by decide) _ s5 _)))
    | 6, _, hc => cases hc; exact (O 8 6 _ _ (by decide)).trans ((O 7 6 _ _ (by decide)).trans (S 6 (by decide) _ s6 _))
    | 7, _, hc => cases hc; exact (O 8 7 _ _ (by decide)).trans (S 7 (by decide) _ s7 _)
    | 8, _, hc => cases hc; exact S 8 (by decide) _ s8 _
  · rw [List.getElem?_set_ne (fun q => hik q.symm)] at hi
    have O : ∀ (c0 : Nat) (v : Value) (W : World), c0 < 9 → (W.setCell ⟨g, k * 9 + c0, none⟩ v).cell? ⟨g, i * 9 + c, none⟩ = W.cell? ⟨g, i * 9 + c, none⟩ := fun c0 v W h0 => World.cell?_setCell_other _ _ _ _ (fun q => hik (by have := congrArg Addr.off q; simp at this; omega))
    exact (O 8 _ _ (by decide)).trans ((O 7 _ _ (by decide)).trans ((O 6 _ _ (by decide)).trans ((O 5 _ _ (by decide)).trans ((O 4 _ _ (by decide)).trans ((O 3 _ _ (by decide)).trans ((O 2 _ _ (by decide)).trans ((O 1 _ _ (by decide)).trans ((O 0 _ _ (by decide)).trans ((h i q hi c u hc).1)))))))))
theorem OwnK.all {w : World} {g : Nat} {l : List KT} (h : OwnK w g l) {k : Nat} {e : KT} (he : l[k]? = some e) :
    (w.cell? ⟨g, k * 9, none⟩ = some (.bool e.ng) ∧ w.cell? ⟨g, k * 9 + 1, none⟩ = some (sV e.bf) ∧ w.cell? ⟨g, k * 9 + 2, none⟩ = some (sV e.af) ∧ w.cell? ⟨g, k * 9 + 3, none⟩ = some (.int .i64 e.wh) ∧ w.cell? ⟨g, k * 9 + 4, none⟩ = some (.int .i64 e.pl) ∧ w.cell? ⟨g, k * 9 + 5, none⟩ = some (.int .i64 e.mb) ∧ w.cell? ⟨g, k * 9 + 6, none⟩ = some (.bool e.gr) ∧ w.cell? ⟨g, k * 9 + 7, none⟩ = some (.int .i64 e.tm) ∧ w.cell? ⟨g, k * 9 + 8, none⟩ = some (sV e.dt)) ∧ w.frozen? ⟨g, k * 9, none⟩ = false ∧ w.frozen? ⟨g, k * 9 + 1, none⟩ = false ∧ w.frozen? ⟨g, k * 9 + 2, none⟩ = false ∧ w.frozen? ⟨g, k * 9 + 3, none⟩ = false ∧ w.frozen? ⟨g, k * 9 + 4, none⟩ = false ∧ w.frozen? ⟨g, k * 9 + 5, none⟩ = false ∧ w.frozen? ⟨g, k * 9 + 6, none⟩ = false ∧ w.frozen? ⟨g, k * 9 + 7, none⟩ = false ∧ w.frozen? ⟨g, k * 9 + 8, none⟩ = false :=
  ⟨⟨(h k e he 0 _ rfl).1, (h k e he 1 _ rfl).1, (h k e he 2 _ rfl).1, (h k e he 3 _ rfl).1, (h k e he 4 _ rfl).1, (h k e he 5 _ rfl).1, (h k e he 6 _ rfl).1, (h k e he 7 _ rfl).1, (h k e he 8 _ rfl).1⟩, (h k e he 0 _ rfl).2, (h k e he 1 _ rfl).2, (h k e he 2 _ rfl).2, (h k e he 3 _ rfl).2, (h k e he 4 _ rfl).2, (h k e he 5 _ rfl).2, (h k e he 6 _ rfl).2, (h k e he 7 _ rfl).2, (h k e he 8 _ rfl).2⟩

end Go.Proofs.YthedbjjncnddbaaDoor
