/-
  Normal on both sides.
-/
import Derived.Test.YtifangkifpnnpaaGreatDoorAre
import Derived.Deep.DeepCutAuto
import Derived.RegionTactic
import Derived.ChangeAlike
namespace Go.Proofs.YtifangkifpnnpaaGreatDoor
open Go.RowKit

def lo (a b : Int) : Int := if b < a then b else a
def hi (a b : Int) : Int := if b < a then a else b
def loF (a b : Int) (p q : Bool) : Bool := if b < a then q else p
def hiF (a b : Int) (p q : Bool) : Bool := if b < a then p else q
/-- An area told the right way round. -/
abbrev norV (r c : Int) (rf cf : Bool) (r' c' : Int) (rf' cf' : Bool) : Value := arV (lo r r') (lo c c') (loF r r' rf rf') (loF c c' cf cf') (hi r r') (hi c c') (hiF r r' rf rf') (hiF c c' cf cf')

theorem Vec.made4' (w : World) (o : Obj) (v0 v1 v2 v3 : Value) (t : TypeId) : Vec ((w.alloc o).alloc (.cells #[v0, v1, v2, v3] t)) (w.heap.size + 1) [v0, v1, v2, v3] := by
  have h := Vec.made4 (w.alloc o) v0 v1 v2 v3 t
  rwa [World.size_alloc] at h
/-- Two fields of two refs change places. -/
def swp (w : World) (b b' i : Nat) (x x' y y' : Value) : World := (((w.setCell ⟨b, i, none⟩ x').setCell ⟨b', i, none⟩ x).setCell ⟨b, i + 2, none⟩ y').setCell ⟨b', i + 2, none⟩ y
theorem Vec.swp_b {w : World} {b b' i : Nat} {l : List Value} (h : Vec w b l) (hb : b' ≠ b) (hi : i + 2 < l.length) (x x' y y' : Value) : Vec (swp w b b' i x x' y y') b ((l.set i x').set (i + 2) y') :=
  (((h.put i (by omega) x').far hb x).put (i + 2) (by rw [List.length_set]; omega) y').far hb y
theorem Vec.swp_b' {w : World} {b b' i : Nat} {l : List Value} (h : Vec w b' l) (hb : b ≠ b') (hi : i + 2 < l.length) (x x' y y' : Value) : Vec (swp w b b' i x x' y y') b' ((l.set i x).set (i + 2) y) :=
  (((h.far hb x').put i (by omega) x).far hb y').put (i + 2) (by rw [List.length_set]; omega) y
theorem Vec.swp_far {w : World} {b b' k i : Nat} {l : List Value} (h : Vec w k l) (hb : b ≠ k) (hb' : b' ≠ k) (x x' y y' : Value) : Vec (swp w b b' i x x' y y') k l :=
  (((h.far hb x').far hb' x).far hb y').far hb' y
theorem Ext.swp {a w : World} {b b' i : Nat} (h : Ext a w) (hb : a.heap.size ≤ b) (hb' : a.heap.size ≤ b') (x x' y y' : Value) : Ext a (swp w b b' i x x' y y') := xset (xset (xset (xset h hb x') hb' x) hb y') hb' y

/-- Two fields of the two ends change places, in one area. -/
def mir (w : World) (b i : Nat) (x y x' y' : Value) : World := (((w.setCell ⟨b, i, none⟩ x').setCell ⟨b, i + 2, none⟩ y').setCell ⟨b, i + 4, none⟩ x).setCell ⟨b, i + 6, none⟩ y
theorem Vec.mirr {w : World} {b i : Nat} {l : List Value} (h : Vec w b l) (hi : i + 6 < l.length) (x y x' y' : Value) : Vec (mir w b i x y x' y') b ((((l.set i x').set (i + 2) y').set (i + 4) x).set (i + 6) y) :=
  (((h.put i (by omega) x').put (i + 2) (by simp only [List.length_set]; omega) y').put (i + 4) (by simp only [List.length_set]; omega) x).put (i + 6) (by simp only [List.length_set]; omega) y
theorem Vec.mir_far {w : World} {b k i : Nat} {l : List Value} (h : Vec w k l) (hb : b ≠ k) (x y x' y' : Value) : Vec (mir w b i x y x' y') k l := (((h.far hb x').far hb y').far hb x).far hb y
theorem Ext.mirr {a w : World} {b i : Nat} (h : Ext a w) (hb : a.heap.size ≤ b) (x y x' y' : Value) : Ext a (mir w b i x y x' y') := xset (xset (xset (xset h hb x') hb y') hb x) hb y

/-- What Normal answers. -/
def norB (r c : Int) (rf cf : Bool) (r' c' : Int) (rf' cf' : Bool) : Value := if goodAB r c r' c' = true then norV r c rf cf r' c' rf' cf' else arV 0 0 false false 0 0 false false
theorem norB_shape (r c : Int) (rf cf : Bool) (r' c' : Int) (rf' cf' : Bool) : ∃ n1 n2 n3 n4 n5 n6 n7 n8, norB r c rf cf r' c' rf' cf' = arV n1 n2 n3 n4 n5 n6 n7 n8 := by
  unfold norB
  split
  · exact ⟨_, _, _, _, _, _, _, _, rfl⟩
  · exact ⟨_, _, _, _, _, _, _, _, rfl⟩

end Go.Proofs.YtifangkifpnnpaaGreatDoor
