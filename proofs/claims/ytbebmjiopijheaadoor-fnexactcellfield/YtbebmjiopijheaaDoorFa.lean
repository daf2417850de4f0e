/-
  Chapter 4: bytes and capitals.
-/
import Derived.Test.YtbebmjiopijheaaDoorSv1
import Derived.Laws.IdiomStrings
namespace Go.Proofs.YtbebmjiopijheaaDoor
open Go.RowKit

theorem sV_size (l : List UInt8) : (⟨l.toArray⟩ : ByteArray).size = l.length := rfl
/-- A small letter made great. -/
def upC (c : UInt8) : UInt8 := if 97 ≤ c.toNat ∧ c.toNat ≤ 122 then UInt8.ofNat (c.toNat - 32) else c
theorem upC_small {c : UInt8} (h : 97 ≤ c.toNat ∧ c.toNat ≤ 122) : ((upC c).toNat : Int) = (c.toNat : Int) - 32 := by
  unfold upC
  rw [if_pos h, UInt8.toNat_ofNat']
  omega
theorem upC_other {c : UInt8} (h : ¬ (97 ≤ c.toNat ∧ c.toNat ≤ 122)) : upC c = c := by unfold upC; rw [if_neg h]
def encB (l : List UInt8) : List Value := l.map fun c => Value.int .u8 (c.toNat : Int)
theorem encB_length (l : List UInt8) : (encB l).length = l.length := by simp [encB]
theorem encB_at {l : List UInt8} {i : Nat} {c : UInt8} (h : l[i]? = some c) : (encB l)[i]? = some (.int .u8 (c.toNat : Int)) := by simp [encB, h]
/-- The first k made great. -/
def upK (l : List UInt8) (k : Nat) : List UInt8 := (l.take k).map upC ++ l.drop k
theorem upK_length (l : List UInt8) (k : Nat) : (upK l k).length = l.length := by simp [upK]; omega
theorem upK_zero (l : List UInt8) : upK l 0 = l := by simp [upK]
theorem upK_all (l : List UInt8) : upK l l.length = l.map upC := by simp [upK]
theorem upK_at {l : List UInt8} {k : Nat} {c : UInt8} (h : l[k]? = some c) : (upK l k)[k]? = some c := by
  have hk : k < l.length := (List.getElem?_eq_some_iff.1 h).1
  unfold upK
  rw [List.getElem?_append_right (by simp; omega)]
  simp only [List.length_map, List.length_take, List.getElem?_drop]
  rw [show k + (k - min k l.length) = k by omega]
  exact h
theorem upK_succ {l : List UInt8} {k : Nat} {c : UInt8} (h : l[k]? = some c) : upK l (k + 1) = (upK l k).set k (upC c) := by
  have hk : k < l.length := (List.getElem?_eq_some_iff.1 h).1
  apply List.ext_getElem?
  intro i
  rw [List.getElem?_set]
  unfold upK
  by_cases e : k = i
  · subst e
    rw [if_pos rfl, List.getElem?_append_left (by simp; omega)]
    rw [if_pos (by simp; omega)]
    simp [h]
  · rw [if_neg e]
    rcases Nat.lt_or_ge i k with hi | hi
    · rw [List.getElem?_append_left (by simp; omega), List.getElem?_append_left (by simp; omega)]
      simp [hi, Nat.lt_succ_of_lt hi]
    · rw [List.getElem?_append_right (by simp; omega), List.getElem?_append_right (by simp; omega)]
      simp only [List.length_map, List.length_take, List.getElem?_drop]
      congr 1
      omega
/-- A text made a row of bytes. -/
theorem bytes_made (l : List UInt8) (w : World) : ∃ cap w', (convert 9 37 (sV l)).run Tryd.prog w = .ok (.slice (some ⟨w.heap.size, 0, none⟩) l.length cap) w' ∧ l.length ≤ cap ∧ Ext w w' ∧ Vec w' w.heap.size (encB l) := by
  have hcv := run_bytes_of_string (P := Tryd.prog) w 9 37 5 ⟨l.toArray⟩ Tryd.underlying9 Tryd.underlying37 Tryd.underlying5
  refine ⟨_, _, hcv, grownCap_ge _ _ _ _, xa (xd (xr _)) _, fun j u hj => ?_⟩
  have hjl : j < l.length := by
    have := (List.getElem?_eq_some_iff.1 hj).1
    simpa [encB] using this
  obtain ⟨C, hC⟩ : ∃ C, grownCap w (⟨l.toArray⟩ : ByteArray).size 0 5 = C := ⟨_, rfl⟩
  rw [hC]
  have hb : (w.drew.alloc (.cells (bytesRow ⟨l.toArray⟩ C) 5 ((bytesRow ⟨l.toArray⟩ C).size, (bytesRow ⟨l.toArray⟩ C).size + 1))).heap[w.heap.size]? = some (.cells (bytesRow ⟨l.toArray⟩ C) 5 ((bytesRow ⟨l.toArray⟩ C).size, (bytesRow ⟨l.toArray⟩ C).size + 1)) := heap_alloc_new w.drew _
  refine ⟨?_, ?_⟩
  · unfold World.cell?
    simp only [hb]
    rw [← hj]
    unfold bytesRow encB
    rw [Array.getElem?_append_left (by simp; exact hjl)]
    simp
  · unfold World.frozen?
    simp only [hb]
    have : j < (bytesRow ⟨l.toArray⟩ C).size := by unfold bytesRow; simp; omega
    simp
    omega
theorem bytes_back (l : List UInt8) (g cap : Nat) (w : World) (h : Vec w g (encB l)) : (convert 37 9 (.slice (some ⟨g, 0, none⟩) l.length cap)).run Tryd.prog w = .ok (sV l) w := by
  refine run_convert_bytes_back (P := Tryd.prog) w 37 9 5 ⟨g, 0, none⟩ cap l Tryd.underlying37 Tryd.underlying5 Tryd.underlying9 (fun j hj => ?_)
  have := (h j _ (encB_at (List.getElem?_eq_getElem hj))).1
  rw [show (⟨g, 0, none⟩ : Addr).add j = ⟨g, j, none⟩ by unfold Addr.add; split <;> simp_all]
  exact this

end Go.Proofs.YtbebmjiopijheaaDoor

