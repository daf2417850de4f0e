/-
  Chapter 4: nodes; a node with the fields alone that are told for its kind.
-/
import Derived.Test.YtcjjobciokfehaaGreatDoorMg2
import Derived.Deep.MidRow
namespace Go.Proofs.YtcjjobciokfehaaGreatDoor
open Go.RowKit

theorem Ext.setCells {a : World} {b : Nat} (hb : a.heap.size ≤ b) : ∀ (vs : List Value) (o : Nat) (w : World), Ext a w → Ext a (w.setCells b o vs)
 | [], _, _, h => h
 | v :: vs, o, _, h => Ext.setCells hb vs (o + 1) _ (xset (p := ⟨b, o, none⟩) h hb v)
theorem Vec.there {w : World} {b : Nat} {l : List Value} (h : Vec w b l) : w.there b 0 l.length := fun j hj => by
 obtain ⟨h1, h2⟩ := h j _ (List.getElem?_eq_getElem hj)
 rw [Nat.zero_add]
 exact ⟨by rw [h1]; rfl, h2⟩
theorem rangeAt_cell {w : World} {b : Nat} {l : List Value} (h : w.rangeAt b 0 l) {i : Nat} {v : Value} (hi : l[i]? = some v) : w.cell? ⟨b, i, none⟩ = some v := by
 have := h i v hi
 rw [Nat.zero_add] at this
 exact this

abbrev ndV (k : Int) (t : List UInt8) (neg : Bool) (d x r c : Int) (rf cf : Bool) (r2 c2 : Int) (rf2 cf2 : Bool) (m : Int) : Value := .agg #[.int .i64 k, sV t, .bool neg, .int .i64 d, .int .i64 x, .int .i64 r, .int .i64 c, .bool rf, .bool cf, .int .i64 r2, .int .i64 c2, .bool rf2, .bool cf2, .int .i64 m]
/-- The node with its told fields alone, as a row of cells. -/
def toldL (k : Int) (t : List UInt8) (neg : Bool) (d x r c : Int) (rf cf : Bool) (r2 c2 : Int) (rf2 cf2 : Bool) (m : Int) : List Value :=
 if k = 1 then [.int .i64 1, .string ⟨#[]⟩, .bool neg, .int .i64 d, .int .i64 x, .int .i64 0, .int .i64 0, .bool false, .bool false, .int .i64 0, .int .i64 0, .bool false, .bool false, .int .i64 0] else
 if k = 2 then [.int .i64 2, sV t, .bool false, .int .i64 0, .int .i64 0, .int .i64 0, .int .i64 0, .bool false, .bool false, .int .i64 0, .int .i64 0, .bool false, .bool false, .int .i64 0] else
 if k = 3 then [.int .i64 3, sV t, .bool false, .int .i64 0, .int .i64 0, .int .i64 0, .int .i64 0, .bool false, .bool false, .int .i64 0, .int .i64 0, .bool false, .bool false, .int .i64 0] else
 if k = 4 then [.int .i64 4, sV t, .bool false, .int .i64 0, .int .i64 0, .int .i64 0, .int .i64 0, .bool false, .bool false, .int .i64 0, .int .i64 0, .bool false, .bool false, .int .i64 0] else
 if k = 7 then [.int .i64 7, sV t, .bool false, .int .i64 0, .int .i64 0, .int .i64 0, .int .i64 0, .bool false, .bool false, .int .i64 0, .int .i64 0, .bool false, .bool false, .int .i64 0] else
 if k = 5 then [.int .i64 5, .string ⟨#[]⟩, .bool false, .int .i64 0, .int .i64 0, .int .i64 r, .int .i64 c, .bool rf, .bool cf, .int .i64 0, .int .i64 0, .bool false, .bool false, .int .i64 0] else
 if k = 6 then [.int .i64 6, .string ⟨#[]⟩, .bool false, .int .i64 0, .int .i64 0, .int .i64 r, .int .i64 c, .bool rf, .bool cf, .int .i64 r2, .int .i64 c2, .bool rf2, .bool cf2, .int .i64 0] else
 if k = 13 then [.int .i64 13, .string ⟨#[]⟩, .bool false, .int .i64 0, .int .i64 0, .int .i64 0, .int .i64 0, .bool false, .bool false, .int .i64 0, .int .i64 0, .bool false, .bool false, .int .i64 0] else
 if k = 8 then [.int .i64 8, .string ⟨#[]⟩, .bool false, .int .i64 0, .int .i64 0, .int .i64 0, .int .i64 0, .bool false, .bool false, .int .i64 0, .int .i64 0, .bool false, .bool false, .int .i64 1] else
 if k = 9 then [.int .i64 9, .string ⟨#[]⟩, .bool false, .int .i64 0, .int .i64 0, .int .i64 0, .int .i64 0, .bool false, .bool false, .int .i64 0, .int .i64 0, .bool false, .bool false, .int .i64 1] else
 if k = 10 then [.int .i64 10, sV t, .bool false, .int .i64 0, .int .i64 0, .int .i64 0, .int .i64 0, .bool false, .bool false, .int .i64 0, .int .i64 0, .bool false, .bool false, .int .i64 2] else
 if k = 11 then [.int .i64 11, sV t, .bool false, .int .i64 0, .int .i64 0, .int .i64 0, .int .i64 0, .bool false, .bool false, .int .i64 0, .int .i64 0, .bool false, .bool false, .int .i64 m] else
 if k = 12 then [.int .i64 12, sV t, .bool false, .int .i64 0, .int .i64 0, .int .i64 0, .int .i64 0, .bool false, .bool false, .int .i64 0, .int .i64 0, .bool false, .bool false, .int .i64 m] else
 [.int .i64 0, .string ⟨#[]⟩, .bool false, .int .i64 0, .int .i64 0, .int .i64 0, .int .i64 0, .bool false, .bool false, .int .i64 0, .int .i64 0, .bool false, .bool false, .int .i64 0]
set_option maxRecDepth 8000 in
set_option maxHeartbeats 4000000 in
theorem toldI (k : Int) (t : List UInt8) (neg : Bool) (d x r c : Int) (rf cf : Bool) (r2 c2 : Int) (rf2 cf2 : Bool) (m : Int) (w : World) :
  Calls Tryz.prog 62 #[ndV k t neg d x r c rf cf r2 c2 rf2 cf2 m] w fun e w' => e = .returned (.agg (toldL k t neg d x r c rf cf r2 c2 rf2 cf2 m).toArray) ∧ Ext w w' := by
 have VN := vec_made w [.int .i64 k, sV t, .bool neg, .int .i64 d, .int .i64 x, .int .i64 r, .int .i64 c, .bool rf, .bool cf, .int .i64 r2, .int .i64 c2, .bool rf2, .bool cf2, .int .i64 m] 48
 have X1 := x1 w (.cells [.int .i64 k, sV t, .bool neg, .int .i64 d, .int .i64 x, .int .i64 r, .int .i64 c, .bool rf, .bool cf, .int .i64 r2, .int .i64 c2, .bool rf2, .bool cf2, .int .i64 m].toArray 48)
 obtain ⟨wa, ha⟩ : ∃ wa, w.alloc (.cells [.int .i64 k, sV t, .bool neg, .int .i64 d, .int .i64 x, .int .i64 r, .int .i64 c, .bool rf, .bool cf, .int .i64 r2, .int .i64 c2, .bool rf2, .bool cf2, .int .i64 m].toArray 48) = wa := ⟨_, rfl⟩
 have VZ := vec_made wa [.int .i64 0, .string ⟨#[]⟩, .bool false, .int .i64 0, .int .i64 0, .int .i64 0, .int .i64 0, .bool false, .bool false, .int .i64 0, .int .i64 0, .bool false, .bool false, .int .i64 0] 48
 have X2 := x1 wa (.cells [.int .i64 0, .string ⟨#[]⟩, .bool false, .int .i64 0, .int .i64 0, .int .i64 0, .int .i64 0, .bool false, .bool false, .int .i64 0, .int .i64 0, .bool false, .bool false, .int .i64 0].toArray 48)
 have sa : wa.heap.size = w.heap.size + 1 := by rw [← ha, World.size_alloc]
 obtain ⟨wb, hb⟩ : ∃ wb, wa.alloc (.cells [.int .i64 0, .string ⟨#[]⟩, .bool false, .int .i64 0, .int .i64 0, .int .i64 0, .int .i64 0, .bool false, .bool false, .int .i64 0, .int .i64 0, .bool false, .bool false, .int .i64 0].toArray 48) = wb := ⟨_, rfl⟩
 rw [ha] at VN X1
 rw [hb] at VZ X2
 rw [sa] at VZ
 have VN := VN.later X2
 have X := xt X1 X2
 have VT := VZ.there
 have hi14 : (Tryz.prog.info? 48).map (·.size) = some 14 := by kernel_rfl
 clear X1 X2 VZ
 have a0 := (VN 0 _ rfl).1
 have a1 := (VN 1 _ rfl).1
 have a2 := (VN 2 _ rfl).1
 have a3 := (VN 3 _ rfl).1
 have a4 := (VN 4 _ rfl).1
 have a5 := (VN 5 _ rfl).1
 have a6 := (VN 6 _ rfl).1
 have a7 := (VN 7 _ rfl).1
 have a8 := (VN 8 _ rfl).1
 have a9 := (VN 9 _ rfl).1
 have a10 := (VN 10 _ rfl).1
 have a11 := (VN 11 _ rfl).1
 have a12 := (VN 12 _ rfl).1
 have a13 := (VN 13 _ rfl).1
 by_cases h1 : k = 1
 ·
  subst h1
  go_enter Tryz.func62, Tryz.ntmps62
  have VR := World.rangeAt_setCells_same wb (w.heap.size + 1) 0 [.int .i64 1, .string ⟨#[]⟩, .bool neg, .int .i64 d, .int .i64 x, .int .i64 0, .int .i64 0, .bool false, .bool false, .int .i64 0, .int .i64 0, .bool false, .bool false, .int .i64 0] VT
  have XR := Ext.setCells (b := w.heap.size + 1) (by omega) [.int .i64 1, .string ⟨#[]⟩, .bool neg, .int .i64 d, .int .i64 x, .int .i64 0, .int .i64 0, .bool false, .bool false, .int .i64 0, .int .i64 0, .bool false, .bool false, .int .i64 0] 0 wb X
  obtain ⟨wq, hq⟩ : ∃ q, wb.setCells (w.heap.size + 1) 0 [.int .i64 1, .string ⟨#[]⟩, .bool neg, .int .i64 d, .int .i64 x, .int .i64 0, .int .i64 0, .bool false, .bool false, .int .i64 0, .int .i64 0, .bool false, .bool false, .int .i64 0] = q := ⟨_, rfl⟩
  rw [hq] at VR XR
  have e0 := rangeAt_cell VR (i := 0) rfl
  have e1 := rangeAt_cell VR (i := 1) rfl
  have e2 := rangeAt_cell VR (i := 2) rfl
  have e3 := rangeAt_cell VR (i := 3) rfl
  have e4 := rangeAt_cell VR (i := 4) rfl
  have e5 := rangeAt_cell VR (i := 5) rfl
  have e6 := rangeAt_cell VR (i := 6) rfl
  have e7 := rangeAt_cell VR (i := 7) rfl
  have e8 := rangeAt_cell VR (i := 8) rfl
  have e9 := rangeAt_cell VR (i := 9) rfl
  have e10 := rangeAt_cell VR (i := 10) rfl
  have e11 := rangeAt_cell VR (i := 11) rfl
  have e12 := rangeAt_cell VR (i := 12) rfl
  have e13 := rangeAt_cell VR (i := 13) rfl
  clear VR
  have one : (#[.int .i64 1, .string ⟨#[]⟩, .bool neg, .int .i64 d, .int .i64 x, .int .i64 0, .int .i64 0, .bool false, .bool false, .int .i64 0, .int .i64 0, .bool false, .bool false, .int .i64 0] : Array Value).all (·.oneCell') = true := by simp [Value.oneCell']
  go_wp2_with (refine wpList_store_mid rfl _ _ _ rfl (w.heap.size + 1) 0 #[.int .i64 1, .string ⟨#[]⟩, .bool neg, .int .i64 d, .int .i64 x, .int .i64 0, .int .i64 0, .bool false, .bool false, .int .i64 0, .int .i64 0, .bool false, .bool false, .int .i64 0] rfl rfl VT hi14 one ?_; show wpList _ _ _ _ _ (wb.setCells (w.heap.size + 1) 0 [.int .i64 1, .string ⟨#[]⟩, .bool neg, .int .i64 d, .int .i64 x, .int .i64 0, .int .i64 0, .bool false, .bool false, .int .i64 0, .int .i64 0, .bool false, .bool false, .int .i64 0]); rw [hq])
  exact bodyPost_ret (v := .agg #[.int .i64 1, .string ⟨#[]⟩, .bool neg, .int .i64 d, .int .i64 x, .int .i64 0, .int .i64 0, .bool false, .bool false, .int .i64 0, .int .i64 0, .bool false, .bool false, .int .i64 0]) (by simp [results, Tryz.results62, go_sem, e0, e1, e2, e3, e4, e5, e6, e7, e8, e9, e10, e11, e12, e13]) rfl ⟨by first | rfl | (simp [toldL]), XR⟩
 have g1 : (k == 1) = false := by rw [beq_eq_false_iff_ne]; exact h1
 by_cases h2 : k = 2
 ·
  subst h2
  go_enter Tryz.func62, Tryz.ntmps62
  have VR := World.rangeAt_setCells_same wb (w.heap.size + 1) 0 [.int .i64 2, sV t, .bool false, .int .i64 0, .int .i64 0, .int .i64 0, .int .i64 0, .bool false, .bool false, .int .i64 0, .int .i64 0, .bool false, .bool false, .int .i64 0] VT
  have XR := Ext.setCells (b := w.heap.size + 1) (by omega) [.int .i64 2, sV t, .bool false, .int .i64 0, .int .i64 0, .int .i64 0, .int .i64 0, .bool false, .bool false, .int .i64 0, .int .i64 0, .bool false, .bool false, .int .i64 0] 0 wb X
  obtain ⟨wq, hq⟩ : ∃ q, wb.setCells (w.heap.size + 1) 0 [.int .i64 2, sV t, .bool false, .int .i64 0, .int .i64 0, .int .i64 0, .int .i64 0, .bool false, .bool false, .int .i64 0, .int .i64 0, .bool false, .bool false, .int .i64 0] = q := ⟨_, rfl⟩
  rw [hq] at VR XR
  have e0 := rangeAt_cell VR (i := 0) rfl
  have e1 := rangeAt_cell VR (i := 1) rfl
  have e2 := rangeAt_cell VR (i := 2) rfl
  have e3 := rangeAt_cell VR (i := 3) rfl
  have e4 := rangeAt_cell VR (i := 4) rfl
  have e5 := rangeAt_cell VR (i := 5) rfl
  have e6 := rangeAt_cell VR (i := 6) rfl
  have e7 := rangeAt_cell VR (i := 7) rfl
  have e8 := rangeAt_cell VR (i := 8) rfl
  have e9 := rangeAt_cell VR (i := 9) rfl
  have e10 := rangeAt_cell VR (i := 10) rfl
  have e11 := rangeAt_cell VR (i := 11) rfl
  have e12 := rangeAt_cell VR (i := 12) rfl
  have e13 := rangeAt_cell VR (i := 13) rfl
  clear VR
  have one : (#[.int .i64 2, sV t, .bool false, .int .i64 0, .int .i64 0, .int .i64 0, .int .i64 0, .bool false, .bool false, .int .i64 0, .int .i64 0, .bool false, .bool false, .int .i64 0] : Array Value).all (·.oneCell') = true := by simp [Value.oneCell']
  go_wp2_with (refine wpList_store_mid rfl _ _ _ rfl (w.heap.size + 1) 0 #[.int .i64 2, sV t, .bool false, .int .i64 0, .int .i64 0, .int .i64 0, .int .i64 0, .bool false, .bool false, .int .i64 0, .int .i64 0, .bool false, .bool false, .int .i64 0] rfl rfl VT hi14 one ?_; show wpList _ _ _ _ _ (wb.setCells (w.heap.size + 1) 0 [.int .i64 2, sV t, .bool false, .int .i64 0, .int .i64 0, .int .i64 0, .int .i64 0, .bool false, .bool false, .int .i64 0, .int .i64 0, .bool false, .bool false, .int .i64 0]); rw [hq])
  exact bodyPost_ret (v := .agg #[.int .i64 2, sV t, .bool false, .int .i64 0, .int .i64 0, .int .i64 0, .int .i64 0, .bool false, .bool false, .int .i64 0, .int .i64 0, .bool false, .bool false, .int .i64 0]) (by simp [results, Tryz.results62, go_sem, e0, e1, e2, e3, e4, e5, e6, e7, e8, e9, e10, e11, e12, e13]) rfl ⟨by first | rfl | (simp [toldL]), XR⟩
 have g2 : (k == 2) = false := by rw [beq_eq_false_iff_ne]; exact h2
 by_cases h3 : k = 3
 ·
  subst h3
  go_enter Tryz.func62, Tryz.ntmps62
  have VR := World.rangeAt_setCells_same wb (w.heap.size + 1) 0 [.int .i64 3, sV t, .bool false, .int .i64 0, .int .i64 0, .int .i64 0, .int .i64 0, .bool false, .bool false, .int .i64 0, .int .i64 0, .bool false, .bool false, .int .i64 0] VT
  have XR := Ext.setCells (b := w.heap.size + 1) (by omega) [.int .i64 3, sV t, .bool false, .int .i64 0, .int .i64 0, .int .i64 0, .int .i64 0, .bool false, .bool false, .int .i64 0, .int .i64 0, .bool false, .bool false, .int .i64 0] 0 wb X
  obtain ⟨wq, hq⟩ : ∃ q, wb.setCells (w.heap.size + 1) 0 [.int .i64 3, sV t, .bool false, .int .i64 0, .int .i64 0, .int .i64 0, .int .i64 0, .bool false, .bool false, .int .i64 0, .int .i64 0, .bool false, .bool false, .int .i64 0] = q := ⟨_, rfl⟩
  rw [hq] at VR XR
  have e0 := rangeAt_cell VR (i := 0) rfl
  have e1 := rangeAt_cell VR (i := 1) rfl
  have e2 := rangeAt_cell VR (i := 2) rfl
  have e3 := rangeAt_cell VR (i := 3) rfl
  have e4 := rangeAt_cell VR (i := 4) rfl
  have e5 := rangeAt_cell VR (i := 5) rfl
  have e6 := rangeAt_cell VR (i := 6) rfl
  have e7 := rangeAt_cell VR (i := 7) rfl
  have e8 := rangeAt_cell VR (i := 8) rfl
  have e9 := rangeAt_cell VR (i := 9) rfl
  have e10 := rangeAt_cell VR (i := 10) rfl
  have e11 := rangeAt_cell VR (i := 11) rfl
  have e12 := rangeAt_cell VR (i := 12) rfl
  have e13 := rangeAt_cell VR (i := 13) rfl
  clear VR
  have one : (#[.int .i64 3, sV t, .bool false, .int .i64 0, .int .i64 0, .int .i64 0, .int .i64 0, .bool false, .bool false, .int .i64 0, .int .i64 0, .bool false, .bool false, .int .i64 0] : Array Value).all (·.oneCell') = true := by simp [Value.oneCell']
  go_wp2_with (refine wpList_store_mid rfl _ _ _ rfl (w.heap.size + 1) 0 #[.int .i64 3, sV t, .bool false, .int .i64 0, .int .i64 0, .int .i64 0, .int .i64 0, .bool false, .bool false, .int .i64 0, .int .i64 0, .bool false, .bool false, .int .i64 0] rfl rfl VT hi14 one ?_; show wpList _ _ _ _ _ (wb.setCells (w.heap.size + 1) 0 [.int .i64 3, sV t, .bool false, .int .i64 0, .int .i64 0, .int .i64 0, .int .i64 0, .bool false, .bool false, .int .i64 0, .int .i64 0, .bool false, .bool false, .int .i64 0]); rw [hq])
  exact bodyPost_ret (v := .agg #[.int .i64 3, sV t, .bool false, .int .i64 0, .int .i64 0, .int .i64 0, .int .i64 0, .bool false, .bool false, .int .i64 0, .int .i64 0, .bool false, .bool false, .int .i64 0]) (by simp [results, Tryz.results62, go_sem, e0, e1, e2, e3, e4, e5, e6, e7, e8, e9, e10, e11, e12, e13]) rfl ⟨by first | rfl | (simp [toldL]), XR⟩
 have g3 : (k == 3) = false := by rw [beq_eq_false_iff_ne]; exact h3
 by_cases h4 : k = 4
 ·
  subst h4
  go_enter Tryz.func62, Tryz.ntmps62
  have VR := World.rangeAt_setCells_same wb (w.heap.size + 1) 0 [.int .i64 4, sV t, .bool false, .int .i64 0, .int .i64 0, .int .i64 0, .int .i64 0, .bool false, .bool false, .int .i64 0, .int .i64 0, .bool false, .bool false, .int .i64 0] VT
  have XR := Ext.setCells (b := w.heap.size + 1) (by omega) [.int .i64 4, sV t, .bool false, .int .i64 0, .int .i64 0, .int .i64 0, .int .i64 0, .bool false, .bool false, .int .i64 0, .int .i64 0, .bool false, .bool false, .int .i64 0] 0 wb X
  obtain ⟨wq, hq⟩ : ∃ q, wb.setCells (w.heap.size + 1) 0 [.int .i64 4, sV t, .bool false, .int .i64 0, .int .i64 0, .int .i64 0, .int .i64 0, .bool false, .bool false, .int .i64 0, .int .i64 0, .bool false, .bool false, .int .i64 0] = q := ⟨_, rfl⟩
  rw [hq] at VR XR
  have e0 := rangeAt_cell VR (i := 0) rfl
  have e1 := rangeAt_cell VR (i := 1) rfl
  have e2 := rangeAt_cell VR (i := 2) rfl
  have e3 := rangeAt_cell VR (i := 3) rfl
  have e4 := rangeAt_cell VR (i := 4) rfl
  have e5 := rangeAt_cell VR (i := 5) rfl
  have e6 := rangeAt_cell VR (i := 6) rfl
  have e7 := rangeAt_cell VR (i := 7) rfl
  have e8 := rangeAt_cell VR (i := 8) rfl
  have e9 := rangeAt_cell VR (i := 9) rfl
  have e10 := rangeAt_cell VR (i := 10) rfl
  have e11 := rangeAt_cell VR (i := 11) rfl
  have e12 := rangeAt_cell VR (i := 12) rfl
  have e13 := rangeAt_cell VR (i := 13) rfl
  clear VR
  have one : (#[.int .i64 4, sV t, .bool false, .int .i64 0, .int .i64 0, .int .i64 0, .int .i64 0, .bool false, .bool false, .int .i64 0, .int .i64 0, .bool false, .bool false, .int .i64 0] : Array Value).all (·.oneCell') = true := by simp [Value.oneCell']
  go_wp2_with (refine wpList_store_mid rfl _ _ _ rfl (w.heap.size + 1) 0 #[.int .i64 4, sV t, .bool false, .int .i64 0, .int .i64 0, .int .i64 0, .int .i64 0, .bool false, .bool false, .int .i64 0, .int .i64 0, .bool false, .bool false, .int .i64 0] rfl rfl VT hi14 one ?_; show wpList _ _ _ _ _ (wb.setCells (w.heap.size + 1) 0 [.int .i64 4, sV t, .bool false, .int .i64 0, .int .i64 0, .int .i64 0, .int .i64 0, .bool false, .bool false, .int .i64 0, .int .i64 0, .bool false, .bool false, .int .i64 0]); rw [hq])
  exact bodyPost_ret (v := .agg #[.int .i64 4, sV t, .bool false, .int .i64 0, .int .i64 0, .int .i64 0, .int .i64 0, .bool false, .bool false, .int .i64 0, .int .i64 0, .bool false, .bool false, .int .i64 0]) (by simp [results, Tryz.results62, go_sem, e0, e1, e2, e3, e4, e5, e6, e7, e8, e9, e10, e11, e12, e13]) rfl ⟨by first | rfl | (simp [toldL]), XR⟩
 have g4 : (k == 4) = false := by rw [beq_eq_false_iff_ne]; exact h4
 by_cases h7 : k = 7
 ·
  subst h7
  go_enter Tryz.func62, Tryz.ntmps62
  have VR := World.rangeAt_setCells_same wb (w.heap.size + 1) 0 [.int .i64 7, sV t, .bool false, .int .i64 0, .int .i64 0, .int .i64 0, .int .i64 0, .bool false, .bool false, .int .i64 0, .int .i64 0, .bool false, .bool false, .int .i64 0] VT
  have XR := Ext.setCells (b := w.heap.size + 1) (by omega) [.int .i64 7, sV t, .bool false, .int .i64 0, .int .i64 0, .int .i64 0, .int .i64 0, .bool false, .bool false, .int .i64 0, .int .i64 0, .bool false, .bool false, .int .i64 0] 0 wb X
  obtain ⟨wq, hq⟩ : ∃ q, wb.setCells (w.heap.size + 1) 0 [.int .i64 7, sV t, .bool false, .int .i64 0, .int .i64 0, .int .i64 0, .int .i64 0, .bool false, .bool false, .int .i64 0, .int .i64 0, .bool false, .bool false, .int .i64 0] = q := ⟨_, rfl⟩
  rw [hq] at VR XR
  have e0 := rangeAt_cell VR (i := 0) rfl
  have e1 := rangeAt_cell VR (i := 1) rfl
  have e2 := rangeAt_cell VR (i := 2) rfl
  have e3 := rangeAt_cell VR (i := 3) rfl
  have e4 := rangeAt_cell VR (i := 4) rfl
  have e5 := rangeAt_cell VR (i := 5) rfl
  have e6 := rangeAt_cell VR (i := 6) rfl
  have e7 := rangeAt_cell VR (i := 7) rfl
  have e8 := rangeAt_cell VR (i := 8) rfl
  have e9 := rangeAt_cell VR (i := 9) rfl
  have e10 := rangeAt_cell VR (i := 10) rfl
  have e11 := rangeAt_cell VR (i := 11) rfl
  have e12 := rangeAt_cell VR (i := 12) rfl
  have e13 := rangeAt_cell VR (i := 13) rfl
  clear VR
  have one : (#[.int .i64 7, sV t, .bool false, .int .i64 0, .int .i64 0, .int .i64 0, .int .i64 0, .bool false, .bool false, .int .i64 0, .int .i64 0, .bool false, .bool false, .int .i64 0] : Array Value).all (·.oneCell') = true := by simp [Value.oneCell']
  go_wp2_with (refine wpList_store_mid rfl _ _ _ rfl (w.heap.size + 1) 0 #[.int .i64 7, sV t, .bool false, .int .i64 0, .int .i64 0, .int .i64 0, .int .i64 0, .bool false, .bool false, .int .i64 0, .int .i64 0, .bool false, .bool false, .int .i64 0] rfl rfl VT hi14 one ?_; show wpList _ _ _ _ _ (wb.setCells (w.heap.size + 1) 0 [.int .i64 7, sV t, .bool false, .int .i64 0, .int .i64 0, .int .i64 0, .int .i64 0, .bool false, .bool false, .int .i64 0, .int .i64 0, .bool false, .bool false, .int .i64 0]); rw [hq])
  exact bodyPost_ret (v := .agg #[.int .i64 7, sV t, .bool false, .int .i64 0, .int .i64 0, .int .i64 0, .int .i64 0, .bool false, .bool false, .int .i64 0, .int .i64 0, .bool false, .bool false, .int .i64 0]) (by simp [results, Tryz.results62, go_sem, e0, e1, e2, e3, e4, e5, e6, e7, e8, e9, e10, e11, e12, e13]) rfl ⟨by first | rfl | (simp [toldL]), XR⟩
 have g7 : (k == 7) = false := by rw [beq_eq_false_iff_ne]; exact h7
 by_cases h5 : k = 5
 ·
  subst h5
  go_enter Tryz.func62, Tryz.ntmps62
  have VR := World.rangeAt_setCells_same wb (w.heap.size + 1) 0 [.int .i64 5, .string ⟨#[]⟩, .bool false, .int .i64 0, .int .i64 0, .int .i64 r, .int .i64 c, .bool rf, .bool cf, .int .i64 0, .int .i64 0, .bool false, .bool false, .int .i64 0] VT
  have XR := Ext.setCells (b := w.heap.size + 1) (by omega) [.int .i64 5, .string ⟨#[]⟩, .bool false, .int .i64 0, .int .i64 0, .int .i64 r, .int .i64 c, .bool rf, .bool cf, .int .i64 0, .int .i64 0, .bool false, .bool false, .int .i64 0] 0 wb X
  obtain ⟨wq, hq⟩ : ∃ q, wb.setCells (w.heap.size + 1) 0 [.int .i64 5, .string ⟨#[]⟩, .bool false, .int .i64 0, .int .i64 0, .int .i64 r, .int .i64 c, .bool rf, .bool cf, .int .i64 0, .int .i64 0, .bool false, .bool false, .int .i64 0] = q := ⟨_, rfl⟩
  rw [hq] at VR XR
  have e0 := rangeAt_cell VR (i := 0) rfl
  have e1 := rangeAt_cell VR (i := 1) rfl
  have e2 := rangeAt_cell VR (i := 2) rfl
  have e3 := rangeAt_cell VR (i := 3) rfl
  have e4 := rangeAt_cell VR (i := 4) rfl
  have e5 := rangeAt_cell VR (i := 5) rfl
  have e6 := rangeAt_cell VR (i := 6) rfl
  have e7 := rangeAt_cell VR (i := 7) rfl
  have e8 := rangeAt_cell VR (i := 8) rfl
  have e9 := rangeAt_cell VR (i := 9) rfl
  have e10 := rangeAt_cell VR (i := 10) rfl
  have e11 := rangeAt_cell VR (i := 11) rfl
  have e12 := rangeAt_cell VR (i := 12) rfl
  have e13 := rangeAt_cell VR (i := 13) rfl
  clear VR
  have one : (#[.int .i64 5, .string ⟨#[]⟩, .bool false, .int .i64 0, .int .i64 0, .int .i64 r, .int .i64 c, .bool rf, .bool cf, .int .i64 0, .int .i64 0, .bool false, .bool false, .int .i64 0] : Array Value).all (·.oneCell') = true := by simp [Value.oneCell']
  go_wp2_with (refine wpList_store_mid rfl _ _ _ rfl (w.heap.size + 1) 0 #[.int .i64 5, .string ⟨#[]⟩, .bool false, .int .i64 0, .int .i64 0, .int .i64 r, .int .i64 c, .bool rf, .bool cf, .int .i64 0, .int .i64 0, .bool false, .bool false, .int .i64 0] rfl rfl VT hi14 one ?_; show wpList _ _ _ _ _ (wb.setCells (w.heap.size + 1) 0 [.int .i64 5, .string ⟨#[]⟩, .bool false, .int .i64 0, .int .i64 0, .int .i64 r, .int .i64 c, .bool rf, .bool cf, .int .i64 0, .int .i64 0, .bool false, .bool false, .int .i64 0]); rw [hq])
  exact bodyPost_ret (v := .agg #[.int .i64 5, .string ⟨#[]⟩, .bool false, .int .i64 0, .int .i64 0, .int .i64 r, .int .i64 c, .bool rf, .bool cf, .int .i64 0, .int .i64 0, .bool false, .bool false, .int .i64 0]) (by simp [results, Tryz.results62, go_sem, e0, e1, e2, e3, e4, e5, e6, e7, e8, e9, e10, e11, e12, e13]) rfl ⟨by first | rfl | (simp [toldL]), XR⟩
 have g5 : (k == 5) = false := by rw [beq_eq_false_iff_ne]; exact h5
 by_cases h6 : k = 6
 ·
  subst h6
  go_enter Tryz.func62, Tryz.ntmps62
  have VR := World.rangeAt_setCells_same wb (w.heap.size + 1) 0 [.int .i64 6, .string ⟨#[]⟩, .bool false, .int .i64 0, .int .i64 0, .int .i64 r, .int .i64 c, .bool rf, .bool cf, .int .i64 r2, .int .i64 c2, .bool rf2, .bool cf2, .int .i64 0] VT
  have XR := Ext.setCells (b := w.heap.size + 1) (by omega) [.int .i64 6, .string ⟨#[]⟩, .bool false, .int .i64 0, .int .i64 0, .int .i64 r, .int .i64 c, .bool rf, .bool cf, .int .i64 r2, .int .i64 c2, .bool rf2, .bool cf2, .int .i64 0] 0 wb X
  obtain ⟨wq, hq⟩ : ∃ q, wb.setCells (w.heap.size + 1) 0 [.int .i64 6, .string ⟨#[]⟩, .bool false, .int .i64 0, .int .i64 0, .int .i64 r, .int .i64 c, .bool rf, .bool cf, .int .i64 r2, .int .i64 c2, .bool rf2, .bool cf2, .int .i64 0] = q := ⟨_, rfl⟩
  rw [hq] at VR XR
  have e0 := rangeAt_cell VR (i := 0) rfl
  have e1 := rangeAt_cell VR (i := 1) rfl
  have e2 := rangeAt_cell VR (i := 2) rfl
  have e3 := rangeAt_cell VR (i := 3) rfl
  have e4 := rangeAt_cell VR (i := 4) rfl
  have e5 := rangeAt_cell VR (i := 5) rfl
  have e6 := rangeAt_cell VR (i := 6) rfl
  have e7 := rangeAt_cell VR (i := 7) rfl
  have e8 := rangeAt_cell VR (i := 8) rfl
  have e9 := rangeAt_cell VR (i := 9) rfl
  have e10 := rangeAt_cell VR (i := 10) rfl
  have e11 := rangeAt_cell VR (i := 11) rfl
  have e12 := rangeAt_cell VR (i := 12) rfl
  have e13 := rangeAt_cell VR (i := 13) rfl
  clear VR
  have one : (#[.int .i64 6, .string ⟨#[]⟩, .bool false, .int .i64 0, .int .i64 0, .int .i64 r, .int .i64 c, .bool rf, .bool cf, .int .i64 r2, .int .i64 c2, .bool rf2, .bool cf2, .int .i64 0] : Array Value).all (·.oneCell') = true := by simp [Value.oneCell']
  go_wp2_with (refine wpList_store_mid rfl _ _ _ rfl (w.heap.size + 1) 0 #[.int .i64 6, .string ⟨#[]⟩, .bool false, .int .i64 0, .int .i64 0, .int .i64 r, .int .i64 c, .bool rf, .bool cf, .int .i64 r2, .int .i64 c2, .bool rf2, .bool cf2, .int .i64 0] rfl rfl VT hi14 one ?_; show wpList _ _ _ _ _ (wb.setCells (w.heap.size + 1) 0 [.int .i64 6, .string ⟨#[]⟩, .bool false, .int .i64 0, .int .i64 0, .int .i64 r, .int .i64 c, .bool rf, .bool cf, .int .i64 r2, .int .i64 c2, .bool rf2, .bool cf2, .int .i64 0]); rw [hq])
  exact bodyPost_ret (v := .agg #[.int .i64 6, .string ⟨#[]⟩, .bool false, .int .i64 0, .int .i64 0, .int .i64 r, .int .i64 c, .bool rf, .bool cf, .int .i64 r2, .int .i64 c2, .bool rf2, .bool cf2, .int .i64 0]) (by simp [results, Tryz.results62, go_sem, e0, e1, e2, e3, e4, e5, e6, e7, e8, e9, e10, e11, e12, e13]) rfl ⟨by first | rfl | (simp [toldL]), XR⟩
 have g6 : (k == 6) = false := by rw [beq_eq_false_iff_ne]; exact h6
 by_cases h13 : k = 13
 ·
  subst h13
  go_enter Tryz.func62, Tryz.ntmps62
  have VR := World.rangeAt_setCells_same wb (w.heap.size + 1) 0 [.int .i64 13, .string ⟨#[]⟩, .bool false, .int .i64 0, .int .i64 0, .int .i64 0, .int .i64 0, .bool false, .bool false, .int .i64 0, .int .i64 0, .bool false, .bool false, .int .i64 0] VT
  have XR := Ext.setCells (b := w.heap.size + 1) (by omega) [.int .i64 13, .string ⟨#[]⟩, .bool false, .int .i64 0, .int .i64 0, .int .i64 0, .int .i64 0, .bool false, .bool false, .int .i64 0, .int .i64 0, .bool false, .bool false, .int .i64 0] 0 wb X
  obtain ⟨wq, hq⟩ : ∃ q, wb.setCells (w.heap.size + 1) 0 [.int .i64 13, .string ⟨#[]⟩, .bool false, .int .i64 0, .int .i64 0, .int .i64 0, .int .i64 0, .bool false, .bool false, .int .i64 0, .int .i64 0, .bool false, .bool false, .int .i64 0] = q := ⟨_, rfl⟩
  rw [hq] at VR XR
  have e0 := rangeAt_cell VR (i := 0) rfl
  have e1 := rangeAt_cell VR (i := 1) rfl
  have e2 := rangeAt_cell VR (i := 2) rfl
  have e3 := rangeAt_cell VR (i := 3) rfl
  have e4 := rangeAt_cell VR (i := 4) rfl
  have e5 := rangeAt_cell VR (i := 5) rfl
  have e6 := rangeAt_cell VR (i := 6) rfl
  have e7 := rangeAt_cell VR (i := 7) rfl
  have e8 := rangeAt_cell VR (i := 8) rfl
  have e9 := rangeAt_cell VR (i := 9) rfl
  have e10 := rangeAt_cell VR (i := 10) rfl
  have e11 := rangeAt_cell VR (i := 11) rfl
  have e12 := rangeAt_cell VR (i := 12) rfl
  have e13 := rangeAt_cell VR (i := 13) rfl
  clear VR
  have one : (#[.int .i64 13, .string ⟨#[]⟩, .bool false, .int .i64 0, .int .i64 0, .int .i64 0, .int .i64 0, .bool false, .bool false, .int .i64 0, .int .i64 0, .bool false, .bool false, .int .i64 0] : Array Value).all (·.oneCell') = true := by simp [Value.oneCell']
  go_wp2_with (refine wpList_store_mid rfl _ _ _ rfl (w.heap.size + 1) 0 #[.int .i64 13, .string ⟨#[]⟩, .bool false, .int .i64 0, .int .i64 0, .int .i64 0, .int .i64 0, .bool false, .bool false, .int .i64 0, .int .i64 0, .bool false, .bool false, .int .i64 0] rfl rfl VT hi14 one ?_; show wpList _ _ _ _ _ (wb.setCells (w.heap.size + 1) 0 [.int .i64 13, .string ⟨#[]⟩, .bool false, .int .i64 0, .int .i64 0, .int .i64 0, .int .i64 0, .bool false, .bool false, .int .i64 0, .int .i64 0, .bool false, .bool false, .int .i64 0]); rw [hq])
  exact bodyPost_ret (v := .agg #[.int .i64 13, .string ⟨#[]⟩, .bool false, .int .i64 0, .int .i64 0, .int .i64 0, .int .i64 0, .bool false, .bool false, .int .i64 0, .int .i64 0, .bool false, .bool false, .int .i64 0]) (by simp [results, Tryz.results62, go_sem, e0, e1, e2, e3, e4, e5, e6, e7, e8, e9, e10, e11, e12, e13]) rfl ⟨by first | rfl | (simp [toldL]), XR⟩
 have g13 : (k == 13) = false := by rw [beq_eq_false_iff_ne]; exact h13
 by_cases h8 : k = 8
 ·
  subst h8
  go_enter Tryz.func62, Tryz.ntmps62
  have VR := World.rangeAt_setCells_same wb (w.heap.size + 1) 0 [.int .i64 8, .string ⟨#[]⟩, .bool false, .int .i64 0, .int .i64 0, .int .i64 0, .int .i64 0, .bool false, .bool false, .int .i64 0, .int .i64 0, .bool false, .bool false, .int .i64 1] VT
  have XR := Ext.setCells (b := w.heap.size + 1) (by omega) [.int .i64 8, .string ⟨#[]⟩, .bool false, .int .i64 0, .int .i64 0, .int .i64 0, .int .i64 0, .bool false, .bool false, .int .i64 0, .int .i64 0, .bool false, .bool false, .int .i64 1] 0 wb X
  obtain ⟨wq, hq⟩ : ∃ q, wb.setCells (w.heap.size + 1) 0 [.int .i64 8, .string ⟨#[]⟩, .bool false, .int .i64 0, .int .i64 0, .int .i64 0, .int .i64 0, .bool false, .bool false, .int .i64 0, .int .i64 0, .bool false, .bool false, .int .i64 1] = q := ⟨_, rfl⟩
  rw [hq] at VR XR
  have e0 := rangeAt_cell VR (i := 0) rfl
  have e1 := rangeAt_cell VR (i := 1) rfl
  have e2 := rangeAt_cell VR (i := 2) rfl
  have e3 := rangeAt_cell VR (i := 3) rfl
  have e4 := rangeAt_cell VR (i := 4) rfl
  have e5 := rangeAt_cell VR (i := 5) rfl
  have e6 := rangeAt_cell VR (i := 6) rfl
  have e7 := rangeAt_cell VR (i := 7) rfl
  have e8 := rangeAt_cell VR (i := 8) rfl
  have e9 := rangeAt_cell VR (i := 9) rfl
  have e10 := rangeAt_cell VR (i := 10) rfl
  have e11 := rangeAt_cell VR (i := 11) rfl
  have e12 := rangeAt_cell VR (i := 12) rfl
  have e13 := rangeAt_cell VR (i := 13) rfl
  clear VR
  have one : (#[.int .i64 8, .string ⟨#[]⟩, .bool false, .int .i64 0, .int .i64 0, .int .i64 0, .int .i64 0, .bool false, .bool false, .int .i64 0, .int .i64 0, .bool false, .bool false, .int .i64 1] : Array Value).all (·.oneCell') = true := by simp [Value.oneCell']
  go_wp2_with (refine wpList_store_mid rfl _ _ _ rfl (w.heap.size + 1) 0 #[.int .i64 8, .string ⟨#[]⟩, .bool false, .int .i64 0, .int .i64 0, .int .i64 0, .int .i64 0, .bool false, .bool false, .int .i64 0, .int .i64 0, .bool false, .bool false, .int .i64 1] rfl rfl VT hi14 one ?_; show wpList _ _ _ _ _ (wb.setCells (w.heap.size + 1) 0 [.int .i64 8, .string ⟨#[]⟩, .bool false, .int .i64 0, .int .i64 0, .int .i64 0, .int .i64 0, .bool false, .bool false, .int .i64 0, .int .i64 0, .bool false, .bool false, .int .i64 1]); rw [hq])
  exact bodyPost_ret (v := .agg #[.int .i64 8, .string ⟨#[]⟩, .bool false, .int .i64 0, .int .i64 0, .int .i64 0, .int .i64 0, .bool false, .bool false, .int .i64 0, .int .i64 0, .bool false, .bool false, .int .i64 1]) (by simp [results, Tryz.results62, go_sem, e0, e1, e2, e3, e4, e5, e6, e7, e8, e9, e10, e11, e12, e13]) rfl ⟨by first | rfl | (simp [toldL]), XR⟩
 have g8 : (k == 8) = false := by rw [beq_eq_false_iff_ne]; exact h8
 by_cases h9 : k = 9
 ·
  subst h9
  go_enter Tryz.func62, Tryz.ntmps62
  have VR := World.rangeAt_setCells_same wb (w.heap.size + 1) 0 [.int .i64 9, .string ⟨#[]⟩, .bool false, .int .i64 0, .int .i64 0, .int .i64 0, .int .i64 0, .bool false, .bool false, .int .i64 0, .int .i64 0, .bool false, .bool false, .int .i64 1] VT
  have XR := Ext.setCells (b := w.heap.size + 1) (by omega) [.int .i64 9, .string ⟨#[]⟩, .bool false, .int .i64 0, .int .i64 0, .int .i64 0, .int .i64 0, .bool false, .bool false, .int .i64 0, .int .i64 0, .bool false, .bool false, .int .i64 1] 0 wb X
  obtain ⟨wq, hq⟩ : ∃ q, wb.setCells (w.heap.size + 1) 0 [.int .i64 9, .string ⟨#[]⟩, .bool false, .int .i64 0, .int .i64 0, .int .i64 0, .int .i64 0, .bool false, .bool false, .int .i64 0, .int .i64 0, .bool false, .bool false, .int .i64 1] = q := ⟨_, rfl⟩
  rw [hq] at VR XR
  have e0 := rangeAt_cell VR (i := 0) rfl
  have e1 := rangeAt_cell VR (i := 1) rfl
  have e2 := rangeAt_cell VR (i := 2) rfl
  have e3 := rangeAt_cell VR (i := 3) rfl
  have e4 := rangeAt_cell VR (i := 4) rfl
  have e5 := rangeAt_cell VR (i := 5) rfl
  have e6 := rangeAt_cell VR (i := 6) rfl
  have e7 := rangeAt_cell VR (i := 7) rfl
  have e8 := rangeAt_cell VR (i := 8) rfl
  have e9 := rangeAt_cell VR (i := 9) rfl
  have e10 := rangeAt_cell VR (i := 10) rfl
  have e11 := rangeAt_cell VR (i := 11) rfl
  have e12 := rangeAt_cell VR (i := 12) rfl
  have e13 := rangeAt_cell VR (i := 13) rfl
  clear VR
  have one : (#[.int .i64 9, .string ⟨#[]⟩, .bool false, .int .i64 0, .int .i64 0, .int .i64 0, .int .i64 0, .bool false, .bool false, .int .i64 0, .int .i64 0, .bool false, .bool false, .int .i64 1] : Array Value).all (·.oneCell') = true := by simp [Value.oneCell']
  go_wp2_with (refine wpList_store_mid rfl _ _ _ rfl (w.heap.size + 1) 0 #[.int .i64 9, .string ⟨#[]⟩, .bool false, .int .i64 0, .int .i64 0, .int .i64 0, .int .i64 0, .bool false, .bool false, .int .i64 0, .int .i64 0, .bool false, .bool false, .int .i64 1] rfl rfl VT hi14 one ?_; show wpList _ _ _ _ _ (wb.setCells (w.heap.size + 1) 0 [.int .i64 9, .string ⟨#[]⟩, .bool false, .int .i64 0, .int .i64 0, .int .i64 0, .int .i64 0, .bool false, .bool false, .int .i64 0, .int .i64 0, .bool false, .bool false, .int .i64 1]); rw [hq])
  exact bodyPost_ret (v := .agg #[.int .i64 9, .string ⟨#[]⟩, .bool false, .int .i64 0, .int .i64 0, .int .i64 0, .int .i64 0, .bool false, .bool false, .int .i64 0, .int .i64 0, .bool false, .bool false, .int .i64 1]) (by simp [results, Tryz.results62, go_sem, e0, e1, e2, e3, e4, e5, e6, e7, e8, e9, e10, e11, e12, e13]) rfl ⟨by first | rfl | (simp [toldL]), XR⟩
 have g9 : (k == 9) = false := by rw [beq_eq_false_iff_ne]; exact h9
 by_cases h10 : k = 10
 ·
  subst h10
  go_enter Tryz.func62, Tryz.ntmps62
  have VR := World.rangeAt_setCells_same wb (w.heap.size + 1) 0 [.int .i64 10, sV t, .bool false, .int .i64 0, .int .i64 0, .int .i64 0, .int .i64 0, .bool false, .bool false, .int .i64 0, .int .i64 0, .bool false, .bool false, .int .i64 2] VT
  have XR := Ext.setCells (b := w.heap.size + 1) (by omega) [.int .i64 10, sV t, .bool false, .int .i64 0, .int .i64 0, .int .i64 0, .int .i64 0, .bool false, .bool false, .int .i64 0, .int .i64 0, .bool false, .bool false, .int .i64 2] 0 wb X
  obtain ⟨wq, hq⟩ : ∃ q, wb.setCells (w.heap.size + 1) 0 [.int .i64 10, sV t, .bool false, .int .i64 0, .int .i64 0, .int .i64 0, .int .i64 0, .bool false, .bool false, .int .i64 0, .int .i64 0, .bool false, .bool false, .int .i64 2] = q := ⟨_, rfl⟩
  rw [hq] at VR XR
  have e0 := rangeAt_cell VR (i := 0) rfl
  have e1 := rangeAt_cell VR (i := 1) rfl
  have e2 := rangeAt_cell VR (i := 2) rfl
  have e3 := rangeAt_cell VR (i := 3) rfl
  have e4 := rangeAt_cell VR (i := 4) rfl
  have e5 := rangeAt_cell VR (i := 5) rfl
  have e6 := rangeAt_cell VR (i := 6) rfl
  have e7 := rangeAt_cell VR (i := 7) rfl
  have e8 := rangeAt_cell VR (i := 8) rfl
  have e9 := rangeAt_cell VR (i := 9) rfl
  have e10 := rangeAt_cell VR (i := 10) rfl
  have e11 := rangeAt_cell VR (i := 11) rfl
  have e12 := rangeAt_cell VR (i := 12) rfl
  have e13 := rangeAt_cell VR (i := 13) rfl
  clear VR
  have one : (#[.int .i64 10, sV t, .bool false, .int .i64 0, .int .i64 0, .int .i64 0, .int .i64 0, .bool false, .bool false, .int .i64 0, .int .i64 0, .bool false, .bool false, .int .i64 2] : Array Value).all (·.oneCell') = true := by simp [Value.oneCell']
  go_wp2_with (refine wpList_store_mid rfl _ _ _ rfl (w.heap.size + 1) 0 #[.int .i64 10, sV t, .bool false, .int .i64 0, .int .i64 0, .int .i64 0, .int .i64 0, .bool false, .bool false, .int .i64 0, .int .i64 0, .bool false, .bool false, .int .i64 2] rfl rfl VT hi14 one ?_; show wpList _ _ _ _ _ (wb.setCells (w.heap.size + 1) 0 [.int .i64 10, sV t, .bool false, .int .i64 0, .int .i64 0, .int .i64 0, .int .i64 0, .bool false, .bool false, .int .i64 0, .int .i64 0, .bool false, .bool false, .int .i64 2]); rw [hq])
  exact bodyPost_ret (v := .agg #[.int .i64 10, sV t, .bool false, .int .i64 0, .int .i64 0, .int .i64 0, .int .i64 0, .bool false, .bool false, .int .i64 0, .int .i64 0, .bool false, .bool false, .int .i64 2]) (by simp [results, Tryz.results62, go_sem, e0, e1, e2, e3, e4, e5, e6, e7, e8, e9, e10, e11, e12, e13]) rfl ⟨by first | rfl | (simp [toldL]), XR⟩
 have g10 : (k == 10) = false := by rw [beq_eq_false_iff_ne]; exact h10
 by_cases h11 : k = 11
 ·
  subst h11
  go_enter Tryz.func62, Tryz.ntmps62
  have VR := World.rangeAt_setCells_same wb (w.heap.size + 1) 0 [.int .i64 11, sV t, .bool false, .int .i64 0, .int .i64 0, .int .i64 0, .int .i64 0, .bool false, .bool false, .int .i64 0, .int .i64 0, .bool false, .bool false, .int .i64 m] VT
  have XR := Ext.setCells (b := w.heap.size + 1) (by omega) [.int .i64 11, sV t, .bool false, .int .i64 0, .int .i64 0, .int .i64 0, .int .i64 0, .bool false, .bool false, .int .i64 0, .int .i64 0, .bool false, .bool false, .int .i64 m] 0 wb X
  obtain ⟨wq, hq⟩ : ∃ q, wb.setCells (w.heap.size + 1) 0 [.int .i64 11, sV t, .bool false, .int .i64 0, .int .i64 0, .int .i64 0, .int .i64 0, .bool false, .bool false, .int .i64 0, .int .i64 0, .bool false, .bool false, .int .i64 m] = q := ⟨_, rfl⟩
  rw [hq] at VR XR
  have e0 := rangeAt_cell VR (i := 0) rfl
  have e1 := rangeAt_cell VR (i := 1) rfl
  have e2 := rangeAt_cell VR (i := 2) rfl
  have e3 := rangeAt_cell VR (i := 3) rfl
  have e4 := rangeAt_cell VR (i := 4) rfl
  have e5 := rangeAt_cell VR (i := 5) rfl
  have e6 := rangeAt_cell VR (i := 6) rfl
  have e7 := rangeAt_cell VR (i := 7) rfl
  have e8 := rangeAt_cell VR (i := 8) rfl
  have e9 := rangeAt_cell VR (i := 9) rfl
  have e10 := rangeAt_cell VR (i := 10) rfl
  have e11 := rangeAt_cell VR (i := 11) rfl
  have e12 := rangeAt_cell VR (i := 12) rfl
  have e13 := rangeAt_cell VR (i := 13) rfl
  clear VR
  have one : (#[.int .i64 11, sV t, .bool false, .int .i64 0, .int .i64 0, .int .i64 0, .int .i64 0, .bool false, .bool false, .int .i64 0, .int .i64 0, .bool false, .bool false, .int .i64 m] : Array Value).all (·.oneCell') = true := by simp [Value.oneCell']
  go_wp2_with (refine wpList_store_mid rfl _ _ _ rfl (w.heap.size + 1) 0 #[.int .i64 11, sV t, .bool false, .int .i64 0, .int .i64 0, .int .i64 0, .int .i64 0, .bool false, .bool false, .int .i64 0, .int .i64 0, .bool false, .bool false, .int .i64 m] rfl rfl VT hi14 one ?_; show wpList _ _ _ _ _ (wb.setCells (w.heap.size + 1) 0 [.int .i64 11, sV t, .bool false, .int .i64 0, .int .i64 0, .int .i64 0, .int .i64 0, .bool false, .bool false, .int .i64 0, .int .i64 0, .bool false, .bool false, .int .i64 m]); rw [hq])
  exact bodyPost_ret (v := .agg #[.int .i64 11, sV t, .bool false, .int .i64 0, .int .i64 0, .int .i64 0, .int .i64 0, .bool false, .bool false, .int .i64 0, .int .i64 0, .bool false, .bool false, .int .i64 m]) (by simp [results, Tryz.results62, go_sem, e0, e1, e2, e3, e4, e5, e6, e7, e8, e9, e10, e11, e12, e13]) rfl ⟨by first | rfl | (simp [toldL]), XR⟩
 have g11 : (k == 11) = false := by rw [beq_eq_false_iff_ne]; exact h11
 by_cases h12 : k = 12
 ·
  subst h12
  go_enter Tryz.func62, Tryz.ntmps62
  have VR := World.rangeAt_setCells_same wb (w.heap.size + 1) 0 [.int .i64 12, sV t, .bool false, .int .i64 0, .int .i64 0, .int .i64 0, .int .i64 0, .bool false, .bool false, .int .i64 0, .int .i64 0, .bool false, .bool false, .int .i64 m] VT
  have XR := Ext.setCells (b := w.heap.size + 1) (by omega) [.int .i64 12, sV t, .bool false, .int .i64 0, .int .i64 0, .int .i64 0, .int .i64 0, .bool false, .bool false, .int .i64 0, .int .i64 0, .bool false, .bool false, .int .i64 m] 0 wb X
  obtain ⟨wq, hq⟩ : ∃ q, wb.setCells (w.heap.size + 1) 0 [.int .i64 12, sV t, .bool false, .int .i64 0, .int .i64 0, .int .i64 0, .int .i64 0, .bool false, .bool false, .int .i64 0, .int .i64 0, .bool false, .bool false, .int .i64 m] = q := ⟨_, rfl⟩
  rw [hq] at VR XR
  have e0 := rangeAt_cell VR (i := 0) rfl
  have e1 := rangeAt_cell VR (i := 1) rfl
  have e2 := rangeAt_cell VR (i := 2) rfl
  have e3 := rangeAt_cell VR (i := 3) rfl
  have e4 := rangeAt_cell VR (i := 4) rfl
  have e5 := rangeAt_cell VR (i := 5) rfl
  have e6 := rangeAt_cell VR (i := 6) rfl
  have e7 := rangeAt_cell VR (i := 7) rfl
  have e8 := rangeAt_cell VR (i := 8) rfl
  have e9 := rangeAt_cell VR (i := 9) rfl
  have e10 := rangeAt_cell VR (i := 10) rfl
  have e11 := rangeAt_cell VR (i := 11) rfl
  have e12 := rangeAt_cell VR (i := 12) rfl
  have e13 := rangeAt_cell VR (i := 13) rfl
  clear VR
  have one : (#[.int .i64 12, sV t, .bool false, .int .i64 0, .int .i64 0, .int .i64 0, .int .i64 0, .bool false, .bool false, .int .i64 0, .int .i64 0, .bool false, .bool false, .int .i64 m] : Array Value).all (·.oneCell') = true := by simp [Value.oneCell']
  go_wp2_with (refine wpList_store_mid rfl _ _ _ rfl (w.heap.size + 1) 0 #[.int .i64 12, sV t, .bool false, .int .i64 0, .int .i64 0, .int .i64 0, .int .i64 0, .bool false, .bool false, .int .i64 0, .int .i64 0, .bool false, .bool false, .int .i64 m] rfl rfl VT hi14 one ?_; show wpList _ _ _ _ _ (wb.setCells (w.heap.size + 1) 0 [.int .i64 12, sV t, .bool false, .int .i64 0, .int .i64 0, .int .i64 0, .int .i64 0, .bool false, .bool false, .int .i64 0, .int .i64 0, .bool false, .bool false, .int .i64 m]); rw [hq])
  exact bodyPost_ret (v := .agg #[.int .i64 12, sV t, .bool false, .int .i64 0, .int .i64 0, .int .i64 0, .int .i64 0, .bool false, .bool false, .int .i64 0, .int .i64 0, .bool false, .bool false, .int .i64 m]) (by simp [results, Tryz.results62, go_sem, e0, e1, e2, e3, e4, e5, e6, e7, e8, e9, e10, e11, e12, e13]) rfl ⟨by first | rfl | (simp [toldL]), XR⟩
 have g12 : (k == 12) = false := by rw [beq_eq_false_iff_ne]; exact h12
 have eT : toldL k t neg d x r c rf cf r2 c2 rf2 cf2 m = [.int .i64 0, .string ⟨#[]⟩, .bool false, .int .i64 0, .int .i64 0, .int .i64 0, .int .i64 0, .bool false, .bool false, .int .i64 0, .int .i64 0, .bool false, .bool false, .int .i64 0] := by unfold toldL; rw [if_neg h1, if_neg h2, if_neg h3, if_neg h4, if_neg h7, if_neg h5, if_neg h6, if_neg h13, if_neg h8, if_neg h9, if_neg h10, if_neg h11, if_neg h12]
 rw [eT]
 clear eT h1 h2 h3 h4 h7 h5 h6 h13 h8 h9 h10 h11 h12
 go_enter Tryz.func62, Tryz.ntmps62
 have VR := World.rangeAt_setCells_same wb (w.heap.size + 1) 0 [.int .i64 0, .string ⟨#[]⟩, .bool false, .int .i64 0, .int .i64 0, .int .i64 0, .int .i64 0, .bool false, .bool false, .int .i64 0, .int .i64 0, .bool false, .bool false, .int .i64 0] VT
 have XR := Ext.setCells (b := w.heap.size + 1) (by omega) [.int .i64 0, .string ⟨#[]⟩, .bool false, .int .i64 0, .int .i64 0, .int .i64 0, .int .i64 0, .bool false, .bool false, .int .i64 0, .int .i64 0, .bool false, .bool false, .int .i64 0] 0 wb X
 obtain ⟨wq, hq⟩ : ∃ q, wb.setCells (w.heap.size + 1) 0 [.int .i64 0, .string ⟨#[]⟩, .bool false, .int .i64 0, .int .i64 0, .int .i64 0, .int .i64 0, .bool false, .bool false, .int .i64 0, .int .i64 0, .bool false, .bool false, .int .i64 0] = q := ⟨_, rfl⟩
 rw [hq] at VR XR
 have e0 := rangeAt_cell VR (i := 0) rfl
 have e1 := rangeAt_cell VR (i := 1) rfl
 have e2 := rangeAt_cell VR (i := 2) rfl
 have e3 := rangeAt_cell VR (i := 3) rfl
 have e4 := rangeAt_cell VR (i := 4) rfl
 have e5 := rangeAt_cell VR (i := 5) rfl
 have e6 := rangeAt_cell VR (i := 6) rfl
 have e7 := rangeAt_cell VR (i := 7) rfl
 have e8 := rangeAt_cell VR (i := 8) rfl
 have e9 := rangeAt_cell VR (i := 9) rfl
 have e10 := rangeAt_cell VR (i := 10) rfl
 have e11 := rangeAt_cell VR (i := 11) rfl
 have e12 := rangeAt_cell VR (i := 12) rfl
 have e13 := rangeAt_cell VR (i := 13) rfl
 clear VR
 have one : (#[.int .i64 0, .string ⟨#[]⟩, .bool false, .int .i64 0, .int .i64 0, .int .i64 0, .int .i64 0, .bool false, .bool false, .int .i64 0, .int .i64 0, .bool false, .bool false, .int .i64 0] : Array Value).all (·.oneCell') = true := by simp [Value.oneCell']
 go_wp2_with (refine wpList_store_mid rfl _ _ _ rfl (w.heap.size + 1) 0 #[.int .i64 0, .string ⟨#[]⟩, .bool false, .int .i64 0, .int .i64 0, .int .i64 0, .int .i64 0, .bool false, .bool false, .int .i64 0, .int .i64 0, .bool false, .bool false, .int .i64 0] rfl rfl VT hi14 one ?_; show wpList _ _ _ _ _ (wb.setCells (w.heap.size + 1) 0 [.int .i64 0, .string ⟨#[]⟩, .bool false, .int .i64 0, .int .i64 0, .int .i64 0, .int .i64 0, .bool false, .bool false, .int .i64 0, .int .i64 0, .bool false, .bool false, .int .i64 0]); rw [hq])
 exact bodyPost_ret (v := .agg #[.int .i64 0, .string ⟨#[]⟩, .bool false, .int .i64 0, .int .i64 0, .int .i64 0, .int .i64 0, .bool false, .bool false, .int .i64 0, .int .i64 0, .bool false, .bool false, .int .i64 0]) (by simp [results, Tryz.results62, go_sem, e0, e1, e2, e3, e4, e5, e6, e7, e8, e9, e10, e11, e12, e13]) rfl ⟨by rfl, XR⟩

end Go.Proofs.YtcjjobciokfehaaGreatDoor

