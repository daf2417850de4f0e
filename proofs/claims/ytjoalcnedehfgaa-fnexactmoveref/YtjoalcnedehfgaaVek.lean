/-
  Rows of cells: what is shared by the walks over structs and rows.
-/
import Derived.Test.YtjoalcnedehfgaaBase
namespace Go.Proofs.Ytjoalcnedehfgaa
open Go.RowKit

/-- Eight cells of one block, none frozen. -/
def Box8 (w : World) (b : Nat) (v0 v1 v2 v3 v4 v5 v6 v7 : Value) : Prop :=
  ((w.cell? ⟨b, 0, none⟩ = some v0 ∧ w.cell? ⟨b, 1, none⟩ = some v1 ∧ w.cell? ⟨b, 2, none⟩ = some v2 ∧ w.cell? ⟨b, 3, none⟩ = some v3) ∧ w.cell? ⟨b, 4, none⟩ = some v4 ∧ w.cell? ⟨b, 5, none⟩ = some v5 ∧ w.cell? ⟨b, 6, none⟩ = some v6 ∧ w.cell? ⟨b, 7, none⟩ = some v7) ∧
  (w.frozen? ⟨b, 0, none⟩ = false ∧ w.frozen? ⟨b, 1, none⟩ = false ∧ w.frozen? ⟨b, 2, none⟩ = false ∧ w.frozen? ⟨b, 3, none⟩ = false) ∧ w.frozen? ⟨b, 4, none⟩ = false ∧ w.frozen? ⟨b, 5, none⟩ = false ∧ w.frozen? ⟨b, 6, none⟩ = false ∧ w.frozen? ⟨b, 7, none⟩ = false
theorem Box8.made (w : World) (v0 v1 v2 v3 v4 v5 v6 v7 : Value) (t : TypeId) : Box8 (w.alloc (.cells #[v0, v1, v2, v3, v4, v5, v6, v7] t)) w.heap.size v0 v1 v2 v3 v4 v5 v6 v7 := by
  refine ⟨⟨⟨?_, ?_, ?_, ?_⟩, ?_, ?_, ?_, ?_⟩, ⟨?_, ?_, ?_, ?_⟩, ?_, ?_, ?_, ?_⟩ <;> simp [go_sem]
theorem Box8.later {w w1 : World} {b : Nat} {v0 v1 v2 v3 v4 v5 v6 v7 : Value} (h : Box8 w b v0 v1 v2 v3 v4 v5 v6 v7) (hb : Ext w w1) : Box8 w1 b v0 v1 v2 v3 v4 v5 v6 v7 := by
  obtain ⟨⟨⟨a0, a1, a2, a3⟩, a4, a5, a6, a7⟩, ⟨f0, f1, f2, f3⟩, f4, f5, f6, f7⟩ := h
  exact ⟨⟨⟨cell_later hb a0, cell_later hb a1, cell_later hb a2, cell_later hb a3⟩, cell_later hb a4, cell_later hb a5, cell_later hb a6, cell_later hb a7⟩,
    ⟨frozen_later hb a0 f0, frozen_later hb a1 f1, frozen_later hb a2 f2, frozen_later hb a3 f3⟩, frozen_later hb a4 f4, frozen_later hb a5 f5, frozen_later hb a6 f6, frozen_later hb a7 f7⟩

/-- A row of cells of one block, none frozen. -/
def Vec (w : World) (b : Nat) (l : List Value) : Prop := ∀ i v, l[i]? = some v → w.cell? ⟨b, i, none⟩ = some v ∧ w.frozen? ⟨b, i, none⟩ = false
theorem Vec.later {w w1 : World} {b : Nat} {l : List Value} (h : Vec w b l) (hb : Ext w w1) : Vec w1 b l := fun i v hi => ⟨cell_later hb (h i v hi).1, frozen_later hb (h i v hi).1 (h i v hi).2⟩
theorem Vec.far {w : World} {b : Nat} {l : List Value} (h : Vec w b l) {p : Addr} (hp : p.block ≠ b) (u : Value) : Vec (w.setCell p u) b l := fun i v hi => by
  refine ⟨?_, by rw [World.frozen?_setCell]; exact (h i v hi).2⟩
  rw [World.cell?_setCell_other _ _ _ _ (fun e => hp (congrArg Addr.block e))]
  exact (h i v hi).1
theorem Vec.put {w : World} {b : Nat} {l : List Value} (h : Vec w b l) (i : Nat) (hi : i < l.length) (u : Value) : Vec (w.setCell ⟨b, i, none⟩ u) b (l.set i u) := fun j v hj => by
  refine ⟨?_, ?_⟩
  · by_cases e : j = i
    · subst e
      rw [List.getElem?_set_self hi] at hj
      cases hj
      exact World.cell?_setCell_same' _ _ _ (by rw [(h j l[j] (List.getElem?_eq_getElem hi)).1]; rfl)
    · rw [List.getElem?_set_ne (fun q => e q.symm)] at hj
      rw [World.cell?_setCell_other _ _ _ _ (fun q => e (congrArg Addr.off q).symm)]
      exact (h j v hj).1
  · rw [World.frozen?_setCell]
    by_cases e : j = i
    · subst e
      exact (h j l[j] (List.getElem?_eq_getElem hi)).2
    · rw [List.getElem?_set_ne (fun q => e q.symm)] at hj
      exact (h j v hj).2
theorem Vec.made8 (w : World) (v0 v1 v2 v3 v4 v5 v6 v7 : Value) (t : TypeId) : Vec (w.alloc (.cells #[v0, v1, v2, v3, v4, v5, v6, v7] t)) w.heap.size [v0, v1, v2, v3, v4, v5, v6, v7] := by
  obtain ⟨⟨⟨a0, a1, a2, a3⟩, a4, a5, a6, a7⟩, ⟨f0, f1, f2, f3⟩, f4, f5, f6, f7⟩ := Box8.made w v0 v1 v2 v3 v4 v5 v6 v7 t
  intro i v hi
  match i, hi with
  | 0, hi => cases hi; exact ⟨a0, f0⟩
  | 1, hi => cases hi; exact ⟨a1, f1⟩
  | 2, hi => cases hi; exact ⟨a2, f2⟩
  | 3, hi => cases hi; exact ⟨a3, f3⟩
  | 4, hi => cases hi; exact ⟨a4, f4⟩
  | 5, hi => cases hi; exact ⟨a5, f5⟩
  | 6, hi => cases hi; exact ⟨a6, f6⟩
  | 7, hi => cases hi; exact ⟨a7, f7⟩
theorem Vec.made4 (w : World) (v0 v1 v2 v3 : Value) (t : TypeId) : Vec (w.alloc (.cells #[v0, v1, v2, v3] t)) w.heap.size [v0, v1, v2, v3] := by
  obtain ⟨⟨a0, a1, a2, a3⟩, f0, f1, f2, f3⟩ := Box4.made w v0 v1 v2 v3 t
  intro i v hi
  match i, hi with
  | 0, hi => cases hi; exact ⟨a0, f0⟩
  | 1, hi => cases hi; exact ⟨a1, f1⟩
  | 2, hi => cases hi; exact ⟨a2, f2⟩
  | 3, hi => cases hi; exact ⟨a3, f3⟩
theorem Vec.box8 {w : World} {b : Nat} {v0 v1 v2 v3 v4 v5 v6 v7 : Value} (h : Vec w b [v0, v1, v2, v3, v4, v5, v6, v7]) : Box8 w b v0 v1 v2 v3 v4 v5 v6 v7 :=
  ⟨⟨⟨(h 0 _ rfl).1, (h 1 _ rfl).1, (h 2 _ rfl).1, (h 3 _ rfl).1⟩, (h 4 _ rfl).1, (h 5 _ rfl).1, (h 6 _ rfl).1, (h 7 _ rfl).1⟩, ⟨(h 0 _ rfl).2, (h 1 _ rfl).2, (h 2 _ rfl).2, (h 3 _ rfl).2⟩, (h 4 _ rfl).2, (h 5 _ rfl).2, (h 6 _ rfl).2, (h 7 _ rfl).2⟩
theorem Vec.box4 {w : World} {b : Nat} {v0 v1 v2 v3 : Value} (h : Vec w b [v0, v1, v2, v3]) : Box4 w b v0 v1 v2 v3 :=
  ⟨⟨(h 0 _ rfl).1, (h 1 _ rfl).1, (h 2 _ rfl).1, (h 3 _ rfl).1⟩, (h 0 _ rfl).2, (h 1 _ rfl).2, (h 2 _ rfl).2, (h 3 _ rfl).2⟩

/-- Four stores in a row from an offset on; eight from the first on. -/
def set4 (w : World) (b o : Nat) (u0 u1 u2 u3 : Value) : World := (((w.setCell ⟨b, o, none⟩ u0).setCell ⟨b, o + 1, none⟩ u1).setCell ⟨b, o + 2, none⟩ u2).setCell ⟨b, o + 3, none⟩ u3
theorem Vec.far4 {w : World} {b k o : Nat} {l : List Value} (h : Vec w b l) (hk : k ≠ b) (u0 u1 u2 u3 : Value) : Vec (set4 w k o u0 u1 u2 u3) b l :=
  (((h.far hk u0).far hk u1).far hk u2).far hk u3
theorem Ext.set4 {a w : World} {b o : Nat} (h : Ext a w) (hb : a.heap.size ≤ b) (u0 u1 u2 u3 : Value) : Ext a (set4 w b o u0 u1 u2 u3) :=
  xset (xset (xset (xset h hb u0) hb u1) hb u2) hb u3
theorem Vec.put03 {w : World} {b : Nat} {v0 v1 v2 v3 v4 v5 v6 v7 : Value} (h : Vec w b [v0, v1, v2, v3, v4, v5, v6, v7]) (u0 u1 u2 u3 : Value) : Vec (set4 w b 0 u0 u1 u2 u3) b [u0, u1, u2, u3, v4, v5, v6, v7] :=
  (((h.put 0 (by simp) u0).put 1 (by simp) u1).put 2 (by simp) u2).put 3 (by simp) u3
theorem Vec.put47 {w : World} {b : Nat} {v0 v1 v2 v3 v4 v5 v6 v7 : Value} (h : Vec w b [v0, v1, v2, v3, v4, v5, v6, v7]) (u0 u1 u2 u3 : Value) : Vec (set4 w b 4 u0 u1 u2 u3) b [v0, v1, v2, v3, u0, u1, u2, u3] :=
  (((h.put 4 (by simp) u0).put 5 (by simp) u1).put 6 (by simp) u2).put 7 (by simp) u3
theorem Vec.put4 {w : World} {b : Nat} {v0 v1 v2 v3 : Value} (h : Vec w b [v0, v1, v2, v3]) (u0 u1 u2 u3 : Value) : Vec (set4 w b 0 u0 u1 u2 u3) b [u0, u1, u2, u3] :=
  (((h.put 0 (by simp) u0).put 1 (by simp) u1).put 2 (by simp) u2).put 3 (by simp) u3
def set8 (w : World) (b : Nat) (u0 u1 u2 u3 u4 u5 u6 u7 : Value) : World := set4 (set4 w b 0 u0 u1 u2 u3) b 4 u4 u5 u6 u7
theorem Vec.put8 {w : World} {b : Nat} {v0 v1 v2 v3 v4 v5 v6 v7 : Value} (h : Vec w b [v0, v1, v2, v3, v4, v5, v6, v7]) (u0 u1 u2 u3 u4 u5 u6 u7 : Value) : Vec (set8 w b u0 u1 u2 u3 u4 u5 u6 u7) b [u0, u1, u2, u3, u4, u5, u6, u7] :=
  (h.put03 u0 u1 u2 u3).put47 u4 u5 u6 u7
theorem Vec.far8 {w : World} {b k : Nat} {l : List Value} (h : Vec w b l) (hk : k ≠ b) (u0 u1 u2 u3 u4 u5 u6 u7 : Value) : Vec (set8 w k u0 u1 u2 u3 u4 u5 u6 u7) b l := (h.far4 hk _ _ _ _).far4 hk _ _ _ _
theorem Ext.set8 {a w : World} {b : Nat} (h : Ext a w) (hb : a.heap.size ≤ b) (u0 u1 u2 u3 u4 u5 u6 u7 : Value) : Ext a (set8 w b u0 u1 u2 u3 u4 u5 u6 u7) := Ext.set4 (Ext.set4 h hb _ _ _ _) hb _ _ _ _

theorem size_ofL' {s : ByteArray} {l : List UInt8} (h : s.data.toList = l) : s.size = l.length := by
  rw [← h, Array.length_toList]
  rfl
theorem drop_atA {l : List UInt8} {i : Nat} (h : i < l.length) : l.drop i = l.getD i 0 :: l.drop (i + 1) := by
  rw [List.drop_eq_getElem_cons h]
  simp [h]
theorem byte_atA {s : ByteArray} {l : List UInt8} (h : s.data.toList = l) {p : Nat} (hp : p < s.size) : (s[p]'hp) = l.getD p 0 := by
  subst h
  simp only [ByteArray.getElem_eq_getElem_data]
  have hp' : p < s.data.size := hp
  simp only [List.getD, Array.getElem?_toList]
  rw [Array.getElem?_eq_getElem hp']
  rfl
theorem take_at {l : List UInt8} {i : Nat} (h : i < l.length) : l.take (i + 1) = l.take i ++ [l.getD i 0] := by
  rw [List.take_add_one]
  simp [h]

end Go.Proofs.Ytjoalcnedehfgaa
