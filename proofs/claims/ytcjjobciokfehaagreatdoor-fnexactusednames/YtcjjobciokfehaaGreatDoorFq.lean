/-
  Chapter 4: a good node, of the program.
-/
import Derived.Test.YtcjjobciokfehaaGreatDoorMg23
import Derived.Test.YtcjjobciokfehaaGreatDoorMg19
import Derived.Deep.RegionHeld3
namespace Go.Proofs.YtcjjobciokfehaaGreatDoor
open Go.RowKit

set_option maxRecDepth 8000 in
set_option maxHeartbeats 2000000 in
theorem node_neq (k : Int) (t : List UInt8) (neg : Bool) (d : Int) (x : Int) (r : Int) (c : Int) (rf : Bool) (cf : Bool) (r2 : Int) (c2 : Int) (rf2 : Bool) (cf2 : Bool) (m : Int) (k' : Int) (t' : List UInt8) (neg' : Bool) (d' : Int) (x' : Int) (r' : Int) (c' : Int) (rf' : Bool) (cf' : Bool) (r2' : Int) (c2' : Int) (rf2' : Bool) (cf2' : Bool) (m' : Int) (W : World) :
  (binOp BinOp.neq 48 (ndV k t neg d x r c rf cf r2 c2 rf2 cf2 m) (ndV k' t' neg' d' x' r' c' rf' cf' r2' c2' rf2' cf2' m')).run Tryz.prog W = .ok (.bool (!(decide (k = k' ∧ t = t' ∧ neg = neg' ∧ d = d' ∧ x = x' ∧ r = r' ∧ c = c' ∧ rf = rf' ∧ cf = cf' ∧ r2 = r2' ∧ c2 = c2' ∧ rf2 = rf2' ∧ cf2 = cf2' ∧ m = m')))) W := by
 by_cases h : k = k' ∧ t = t' ∧ neg = neg' ∧ d = d' ∧ x = x' ∧ r = r' ∧ c = c' ∧ rf = rf' ∧ cf = cf' ∧ r2 = r2' ∧ c2 = c2' ∧ rf2 = rf2' ∧ cf2 = cf2' ∧ m = m'
 ·
  obtain ⟨rfl, rfl, rfl, rfl, rfl, rfl, rfl, rfl, rfl, rfl, rfl, rfl, rfl, rfl⟩ := h
  go_simp
 ·
  rw [decide_eq_false h]
  have H : Hid (¬ (k = k' ∧ t = t' ∧ neg = neg' ∧ d = d' ∧ x = x' ∧ r = r' ∧ c = c' ∧ rf = rf' ∧ cf = cf' ∧ r2 = r2' ∧ c2 = c2' ∧ rf2 = rf2' ∧ cf2 = cf2' ∧ m = m')) := h
  clear h
  go_simp
  intros
  have := H.out
  simp_all
/-- Whether a node is as told for its kind, its kids aside. -/
noncomputable def goodN (k : Int) (t : List UInt8) (neg : Bool) (d : Int) (x : Int) (r : Int) (c : Int) (rf : Bool) (cf : Bool) (r2 : Int) (c2 : Int) (rf2 : Bool) (cf2 : Bool) (m : Int) : Bool :=
 if k = 1 then decide (t = [] ∧ r = 0 ∧ c = 0 ∧ rf = false ∧ cf = false ∧ r2 = 0 ∧ c2 = 0 ∧ rf2 = false ∧ cf2 = false ∧ m = 0) && (goodB neg d x && !neg) else
 if k = 2 then decide (neg = false ∧ d = 0 ∧ x = 0 ∧ r = 0 ∧ c = 0 ∧ rf = false ∧ cf = false ∧ r2 = 0 ∧ c2 = 0 ∧ rf2 = false ∧ cf2 = false ∧ m = 0) && (printB t) else
 if k = 3 then decide (neg = false ∧ d = 0 ∧ x = 0 ∧ r = 0 ∧ c = 0 ∧ rf = false ∧ cf = false ∧ r2 = 0 ∧ c2 = 0 ∧ rf2 = false ∧ cf2 = false ∧ m = 0) && (boolB t) else
 if k = 4 then decide (neg = false ∧ d = 0 ∧ x = 0 ∧ r = 0 ∧ c = 0 ∧ rf = false ∧ cf = false ∧ r2 = 0 ∧ c2 = 0 ∧ rf2 = false ∧ cf2 = false ∧ m = 0) && (memB errL t) else
 if k = 7 then decide (neg = false ∧ d = 0 ∧ x = 0 ∧ r = 0 ∧ c = 0 ∧ rf = false ∧ cf = false ∧ r2 = 0 ∧ c2 = 0 ∧ rf2 = false ∧ cf2 = false ∧ m = 0) && (nameB t) else
 if k = 5 then decide (t = [] ∧ neg = false ∧ d = 0 ∧ x = 0 ∧ r2 = 0 ∧ c2 = 0 ∧ rf2 = false ∧ cf2 = false ∧ m = 0) && (goodRB r c) else
 if k = 6 then decide (t = [] ∧ neg = false ∧ d = 0 ∧ x = 0 ∧ m = 0) && (goodRB r c && goodRB r2 c2) else
 if k = 13 then decide (t = [] ∧ neg = false ∧ d = 0 ∧ x = 0 ∧ r = 0 ∧ c = 0 ∧ rf = false ∧ cf = false ∧ r2 = 0 ∧ c2 = 0 ∧ rf2 = false ∧ cf2 = false ∧ m = 0) && (true) else
 if k = 8 then decide (t = [] ∧ neg = false ∧ d = 0 ∧ x = 0 ∧ r = 0 ∧ c = 0 ∧ rf = false ∧ cf = false ∧ r2 = 0 ∧ c2 = 0 ∧ rf2 = false ∧ cf2 = false ∧ m = 1) && (true) else
 if k = 9 then decide (t = [] ∧ neg = false ∧ d = 0 ∧ x = 0 ∧ r = 0 ∧ c = 0 ∧ rf = false ∧ cf = false ∧ r2 = 0 ∧ c2 = 0 ∧ rf2 = false ∧ cf2 = false ∧ m = 1) && (true) else
 if k = 10 then decide (neg = false ∧ d = 0 ∧ x = 0 ∧ r = 0 ∧ c = 0 ∧ rf = false ∧ cf = false ∧ r2 = 0 ∧ c2 = 0 ∧ rf2 = false ∧ cf2 = false ∧ m = 2) && (memB opsL t) else
 if k = 11 then decide (neg = false ∧ d = 0 ∧ x = 0 ∧ r = 0 ∧ c = 0 ∧ rf = false ∧ cf = false ∧ r2 = 0 ∧ c2 = 0 ∧ rf2 = false ∧ cf2 = false) && (nameB t && (t == t.map upC) && (decide (0 ≤ m) && decide (m ≤ 30))) else
 if k = 12 then decide (neg = false ∧ d = 0 ∧ x = 0 ∧ r = 0 ∧ c = 0 ∧ rf = false ∧ cf = false ∧ r2 = 0 ∧ c2 = 0 ∧ rf2 = false ∧ cf2 = false) && (sidesB t m) else
 false

end Go.Proofs.YtcjjobciokfehaaGreatDoor

