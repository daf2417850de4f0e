/-
  Chapter 4: trees as values, and the nodes that they tell.
-/
import Derived.Test.YtcjjobciokfehaaGreatDoorMg14
import Derived.Test.YtcjjobciokfehaaGreatDoorFo
namespace Go.Proofs.YtcjjobciokfehaaGreatDoor
open Go.RowKit

abbrev NT.val (e : NT) : Value := nodV e.k e.t e.n e.d e.x e.r e.c e.f e.g e.r2 e.c2 e.f2 e.g2 e.q
theorem hi14N : (Tryz.prog.info? 48).map (·.size) = some 14 := by kernel_rfl

set_option maxRecDepth 8000 in
set_option maxHeartbeats 2000000 in
theorem node_leaf (x : NT) (w : World) : Calls Tryz.prog 202 #[.agg #[.int .i64 x.k, sV x.t, .bool x.n, .int .i64 x.d, .int .i64 x.x, .int .i64 x.r, .int .i64 x.c, .bool x.f, .bool x.g, .int .i64 x.r2, .int .i64 x.c2, .bool x.f2, .bool x.g2, .int .i64 x.q]] w fun e w' => e = .returned (.agg #[.int .i64 x.k, sV x.t, .bool x.n, .int .i64 x.d, .int .i64 x.x, .int .i64 x.r, .int .i64 x.c, .bool x.f, .bool x.g, .int .i64 x.r2, .int .i64 x.c2, .bool x.f2, .bool x.g2, .int .i64 x.q]) ∧ Ext w w' := by
 have VN := vec_made w [.int .i64 x.k, sV x.t, .bool x.n, .int .i64 x.d, .int .i64 x.x, .int .i64 x.r, .int .i64 x.c, .bool x.f, .bool x.g, .int .i64 x.r2, .int .i64 x.c2, .bool x.f2, .bool x.g2, .int .i64 x.q] 122
 have X1 := x1 w (.cells [.int .i64 x.k, sV x.t, .bool x.n, .int .i64 x.d, .int .i64 x.x, .int .i64 x.r, .int .i64 x.c, .bool x.f, .bool x.g, .int .i64 x.r2, .int .i64 x.c2, .bool x.f2, .bool x.g2, .int .i64 x.q].toArray 122)
 obtain ⟨wa, ha⟩ : ∃ wa, w.alloc (.cells [.int .i64 x.k, sV x.t, .bool x.n, .int .i64 x.d, .int .i64 x.x, .int .i64 x.r, .int .i64 x.c, .bool x.f, .bool x.g, .int .i64 x.r2, .int .i64 x.c2, .bool x.f2, .bool x.g2, .int .i64 x.q].toArray 122) = wa := ⟨_, rfl⟩
 have VZ := vec_made wa [.int .i64 0, .string ⟨#[]⟩, .bool false, .int .i64 0, .int .i64 0, .int .i64 0, .int .i64 0, .bool false, .bool false, .int .i64 0, .int .i64 0, .bool false, .bool false, .int .i64 0] 48
 have X2 := x1 wa (.cells [.int .i64 0, .string ⟨#[]⟩, .bool false, .int .i64 0, .int .i64 0, .int .i64 0, .int .i64 0, .bool false, .bool false, .int .i64 0, .int .i64 0, .bool false, .bool false, .int .i64 0].toArray 48)
 have sa : wa.heap.size = w.heap.size + 1 := by rw [← ha, World.size_alloc]
 obtain ⟨wb, hb⟩ : ∃ wb, wa.alloc (.cells [.int .i64 0, .string ⟨#[]⟩, .bool false, .int .i64 0, .int .i64 0, .int .i64 0, .int .i64 0, .bool false, .bool false, .int .i64 0, .int .i64 0, .bool false, .bool false, .int .i64 0].toArray 48) = wb := ⟨_, rfl⟩
 rw [ha] at VN X1
 rw [hb] at VZ X2
 rw [sa] at VZ
 have VN := VN.later X2
 have X := xt X1 X2
 clear X1 X2
 have HRA : wb.rangeAt w.heap.size 0 [.int .i64 x.k, sV x.t, .bool x.n, .int .i64 x.d, .int .i64 x.x, .int .i64 x.r, .int .i64 x.c, .bool x.f, .bool x.g, .int .i64 x.r2, .int .i64 x.c2, .bool x.f2, .bool x.g2, .int .i64 x.q] := fun j v hv => by rw [Nat.zero_add]; exact (VN j v hv).1
 go_enter Tryz.func202, Tryz.ntmps202
 have VT := VZ.there
 have VR := World.rangeAt_setCells_same wb (w.heap.size + 1) 0 [.int .i64 x.k, sV x.t, .bool x.n, .int .i64 x.d, .int .i64 x.x, .int .i64 x.r, .int .i64 x.c, .bool x.f, .bool x.g, .int .i64 x.r2, .int .i64 x.c2, .bool x.f2, .bool x.g2, .int .i64 x.q] VT
 have XR := Ext.setCells (b := w.heap.size + 1) (by omega) [.int .i64 x.k, sV x.t, .bool x.n, .int .i64 x.d, .int .i64 x.x, .int .i64 x.r, .int .i64 x.c, .bool x.f, .bool x.g, .int .i64 x.r2, .int .i64 x.c2, .bool x.f2, .bool x.g2, .int .i64 x.q] 0 wb X
 obtain ⟨wq, hq⟩ : ∃ q, wb.setCells (w.heap.size + 1) 0 [.int .i64 x.k, sV x.t, .bool x.n, .int .i64 x.d, .int .i64 x.x, .int .i64 x.r, .int .i64 x.c, .bool x.f, .bool x.g, .int .i64 x.r2, .int .i64 x.c2, .bool x.f2, .bool x.g2, .int .i64 x.q] = q := ⟨_, rfl⟩
 rw [hq] at VR XR
 have e0 := rangeAt_cell VR (i := 0) rfl
 have e1 := rangeAt_cell VR (i := 1) rfl
 have e2 := rangeAt_cell VR (i := 2) rfl
 have e3 := rangeAt_cell VR (i := 3) rfl
 have e4 := rangeAt_cell VR (i := 4) rfl
 have e5 := rangeAt_cell VR (i := 5) rfl
 have e6 := rangeAt_cell VR (i := 6) rfl
 have e7 := rangeAt_cell VR (i := 7) rfl
 have e8 := rangeAt_cell VR (i := 8) rfl
 have e9 := rangeAt_cell VR (i := 9) rfl
 have e10 := rangeAt_cell VR (i := 10) rfl
 have e11 := rangeAt_cell VR (i := 11) rfl
 have e12 := rangeAt_cell VR (i := 12) rfl
 have e13 := rangeAt_cell VR (i := 13) rfl
 clear VR
 have one : (#[.int .i64 x.k, sV x.t, .bool x.n, .int .i64 x.d, .int .i64 x.x, .int .i64 x.r, .int .i64 x.c, .bool x.f, .bool x.g, .int .i64 x.r2, .int .i64 x.c2, .bool x.f2, .bool x.g2, .int .i64 x.q] : Array Value).all (·.oneCell') = true := by simp [Value.oneCell']
 go_wp2_with (first | (refine wpList_load_mid rfl 48 (.tmp 3) rfl w.heap.size 0 rfl [.int .i64 x.k, sV x.t, .bool x.n, .int .i64 x.d, .int .i64 x.x, .int .i64 x.r, .int .i64 x.c, .bool x.f, .bool x.g, .int .i64 x.r2, .int .i64 x.c2, .bool x.f2, .bool x.g2, .int .i64 x.q] _ HRA Tryz.underlying48 rfl hi14N ?_) | (refine wpList_store_mid rfl _ _ _ rfl (w.heap.size + 1) 0 #[.int .i64 x.k, sV x.t, .bool x.n, .int .i64 x.d, .int .i64 x.x, .int .i64 x.r, .int .i64 x.c, .bool x.f, .bool x.g, .int .i64 x.r2, .int .i64 x.c2, .bool x.f2, .bool x.g2, .int .i64 x.q] rfl rfl VT hi14N one ?_; show wpList _ _ _ _ _ (wb.setCells (w.heap.size + 1) 0 [.int .i64 x.k, sV x.t, .bool x.n, .int .i64 x.d, .int .i64 x.x, .int .i64 x.r, .int .i64 x.c, .bool x.f, .bool x.g, .int .i64 x.r2, .int .i64 x.c2, .bool x.f2, .bool x.g2, .int .i64 x.q]); rw [hq]))
 exact bodyPost_ret (v := .agg #[.int .i64 x.k, sV x.t, .bool x.n, .int .i64 x.d, .int .i64 x.x, .int .i64 x.r, .int .i64 x.c, .bool x.f, .bool x.g, .int .i64 x.r2, .int .i64 x.c2, .bool x.f2, .bool x.g2, .int .i64 x.q]) (by simp [results, Tryz.results202, go_sem, e0, e1, e2, e3, e4, e5, e6, e7, e8, e9, e10, e11, e12, e13]) rfl ⟨rfl, XR⟩
set_option maxRecDepth 8000 in
set_option maxHeartbeats 2000000 in
theorem node_signed (k : Int) (kid : Value) (w : World) : Calls Tryz.prog 190 #[.agg #[.int .i64 k, kid]] w fun e w' => e = .returned (.agg #[.int .i64 k, .string ⟨#[]⟩, .bool false, .int .i64 0, .int .i64 0, .int .i64 0, .int .i64 0, .bool false, .bool false, .int .i64 0, .int .i64 0, .bool false, .bool false, .int .i64 1]) ∧ Ext w w' := by
 have VN := vec_made w [.int .i64 k, kid] 110
 have X1 := x1 w (.cells [.int .i64 k, kid].toArray 110)
 obtain ⟨wa, ha⟩ : ∃ wa, w.alloc (.cells [.int .i64 k, kid].toArray 110) = wa := ⟨_, rfl⟩
 have VZ := vec_made wa [.int .i64 0, .string ⟨#[]⟩, .bool false, .int .i64 0, .int .i64 0, .int .i64 0, .int .i64 0, .bool false, .bool false, .int .i64 0, .int .i64 0, .bool false, .bool false, .int .i64 0] 48
 have X2 := x1 wa (.cells [.int .i64 0, .string ⟨#[]⟩, .bool false, .int .i64 0, .int .i64 0, .int .i64 0, .int .i64 0, .bool false, .bool false, .int .i64 0, .int .i64 0, .bool false, .bool false, .int .i64 0].toArray 48)
 have sa : wa.heap.size = w.heap.size + 1 := by rw [← ha, World.size_alloc]
 obtain ⟨wb, hb⟩ : ∃ wb, wa.alloc (.cells [.int .i64 0, .string ⟨#[]⟩, .bool false, .int .i64 0, .int .i64 0, .int .i64 0, .int .i64 0, .bool false, .bool false, .int .i64 0, .int .i64 0, .bool false, .bool false, .int .i64 0].toArray 48) = wb := ⟨_, rfl⟩
 rw [ha] at VN X1
 rw [hb] at VZ X2
 rw [sa] at VZ
 have VN := VN.later X2
 have X := xt X1 X2
 clear X1 X2
 have a0 := (VN 0 _ rfl).1
 have a1 := (VN 1 _ rfl).1
 go_enter Tryz.func190, Tryz.ntmps190
 have VT := VZ.there
 have VR := World.rangeAt_setCells_same wb (w.heap.size + 1) 0 [.int .i64 k, .string ⟨#[]⟩, .bool false, .int .i64 0, .int .i64 0, .int .i64 0, .int .i64 0, .bool false, .bool false, .int .i64 0, .int .i64 0, .bool false, .bool false, .int .i64 1] VT
 have XR := Ext.setCells (b := w.heap.size + 1) (by omega) [.int .i64 k, .string ⟨#[]⟩, .bool false, .int .i64 0, .int .i64 0, .int .i64 0, .int .i64 0, .bool false, .bool false, .int .i64 0, .int .i64 0, .bool false, .bool false, .int .i64 1] 0 wb X
 obtain ⟨wq, hq⟩ : ∃ q, wb.setCells (w.heap.size + 1) 0 [.int .i64 k, .string ⟨#[]⟩, .bool false, .int .i64 0, .int .i64 0, .int .i64 0, .int .i64 0, .bool false, .bool false, .int .i64 0, .int .i64 0, .bool false, .bool false, .int .i64 1] = q := ⟨_, rfl⟩
 rw [hq] at VR XR
 have e0 := rangeAt_cell VR (i := 0) rfl
 have e1 := rangeAt_cell VR (i := 1) rfl
 have e2 := rangeAt_cell VR (i := 2) rfl
 have e3 := rangeAt_cell VR (i := 3) rfl
 have e4 := rangeAt_cell VR (i := 4) rfl
 have e5 := rangeAt_cell VR (i := 5) rfl
 have e6 := rangeAt_cell VR (i := 6) rfl
 have e7 := rangeAt_cell VR (i := 7) rfl
 have e8 := rangeAt_cell VR (i := 8) rfl
 have e9 := rangeAt_cell VR (i := 9) rfl
 have e10 := rangeAt_cell VR (i := 10) rfl
 have e11 := rangeAt_cell VR (i := 11) rfl
 have e12 := rangeAt_cell VR (i := 12) rfl
 have e13 := rangeAt_cell VR (i := 13) rfl
 clear VR
 have one : (#[.int .i64 k, .string ⟨#[]⟩, .bool false, .int .i64 0, .int .i64 0, .int .i64 0, .int .i64 0, .bool false, .bool false, .int .i64 0, .int .i64 0, .bool false, .bool false, .int .i64 1] : Array Value).all (·.oneCell') = true := by simp [Value.oneCell']
 go_wp2_with (refine wpList_store_mid rfl _ _ _ rfl (w.heap.size + 1) 0 #[.int .i64 k, .string ⟨#[]⟩, .bool false, .int .i64 0, .int .i64 0, .int .i64 0, .int .i64 0, .bool false, .bool false, .int .i64 0, .int .i64 0, .bool false, .bool false, .int .i64 1] rfl rfl VT hi14N one ?_; show wpList _ _ _ _ _ (wb.setCells (w.heap.size + 1) 0 [.int .i64 k, .string ⟨#[]⟩, .bool false, .int .i64 0, .int .i64 0, .int .i64 0, .int .i64 0, .bool false, .bool false, .int .i64 0, .int .i64 0, .bool false, .bool false, .int .i64 1]); rw [hq])
 exact bodyPost_ret (v := .agg #[.int .i64 k, .string ⟨#[]⟩, .bool false, .int .i64 0, .int .i64 0, .int .i64 0, .int .i64 0, .bool false, .bool false, .int .i64 0, .int .i64 0, .bool false, .bool false, .int .i64 1]) (by simp [results, Tryz.results190, go_sem, e0, e1, e2, e3, e4, e5, e6, e7, e8, e9, e10, e11, e12, e13]) rfl ⟨rfl, XR⟩
set_option maxRecDepth 8000 in
set_option maxHeartbeats 2000000 in
theorem node_pair (t : List UInt8) (lev : Int) (l r : Value) (w : World) : Calls Tryz.prog 193 #[.agg #[sV t, .int .i64 lev, l, r]] w fun e w' => e = .returned (.agg #[.int .i64 10, sV t, .bool false, .int .i64 0, .int .i64 0, .int .i64 0, .int .i64 0, .bool false, .bool false, .int .i64 0, .int .i64 0, .bool false, .bool false, .int .i64 2]) ∧ Ext w w' := by
 have VN := vec_made w [sV t, .int .i64 lev, l, r] 115
 have X1 := x1 w (.cells [sV t, .int .i64 lev, l, r].toArray 115)
 obtain ⟨wa, ha⟩ : ∃ wa, w.alloc (.cells [sV t, .int .i64 lev, l, r].toArray 115) = wa := ⟨_, rfl⟩
 have VZ := vec_made wa [.int .i64 0, .string ⟨#[]⟩, .bool false, .int .i64 0, .int .i64 0, .int .i64 0, .int .i64 0, .bool false, .bool false, .int .i64 0, .int .i64 0, .bool false, .bool false, .int .i64 0] 48
 have X2 := x1 wa (.cells [.int .i64 0, .string ⟨#[]⟩, .bool false, .int .i64 0, .int .i64 0, .int .i64 0, .int .i64 0, .bool false, .bool false, .int .i64 0, .int .i64 0, .bool false, .bool false, .int .i64 0].toArray 48)
 have sa : wa.heap.size = w.heap.size + 1 := by rw [← ha, World.size_alloc]
 obtain ⟨wb, hb⟩ : ∃ wb, wa.alloc (.cells [.int .i64 0, .string ⟨#[]⟩, .bool false, .int .i64 0, .int .i64 0, .int .i64 0, .int .i64 0, .bool false, .bool false, .int .i64 0, .int .i64 0, .bool false, .bool false, .int .i64 0].toArray 48) = wb := ⟨_, rfl⟩
 rw [ha] at VN X1
 rw [hb] at VZ X2
 rw [sa] at VZ
 have VN := VN.later X2
 have X := xt X1 X2
 clear X1 X2
 have a0 := (VN 0 _ rfl).1
 have a1 := (VN 1 _ rfl).1
 have a2 := (VN 2 _ rfl).1
 have a3 := (VN 3 _ rfl).1
 go_enter Tryz.func193, Tryz.ntmps193
 have VT := VZ.there
 have VR := World.rangeAt_setCells_same wb (w.heap.size + 1) 0 [.int .i64 10, sV t, .bool false, .int .i64 0, .int .i64 0, .int .i64 0, .int .i64 0, .bool false, .bool false, .int .i64 0, .int .i64 0, .bool false, .bool false, .int .i64 2] VT
 have XR := Ext.setCells (b := w.heap.size + 1) (by omega) [.int .i64 10, sV t, .bool false, .int .i64 0, .int .i64 0, .int .i64 0, .int .i64 0, .bool false, .bool false, .int .i64 0, .int .i64 0, .bool false, .bool false, .int .i64 2] 0 wb X
 obtain ⟨wq, hq⟩ : ∃ q, wb.setCells (w.heap.size + 1) 0 [.int .i64 10, sV t, .bool false, .int .i64 0, .int .i64 0, .int .i64 0, .int .i64 0, .bool false, .bool false, .int .i64 0, .int .i64 0, .bool false, .bool false, .int .i64 2] = q := ⟨_, rfl⟩
 rw [hq] at VR XR
 have e0 := rangeAt_cell VR (i := 0) rfl
 have e1 := rangeAt_cell VR (i := 1) rfl
 have e2 := rangeAt_cell VR (i := 2) rfl
 have e3 := rangeAt_cell VR (i := 3) rfl
 have e4 := rangeAt_cell VR (i := 4) rfl
 have e5 := rangeAt_cell VR (i := 5) rfl
 have e6 := rangeAt_cell VR (i := 6) rfl
 have e7 := rangeAt_cell VR (i := 7) rfl
 have e8 := rangeAt_cell VR (i := 8) rfl
 have e9 := rangeAt_cell VR (i := 9) rfl
 have e10 := rangeAt_cell VR (i := 10) rfl
 have e11 := rangeAt_cell VR (i := 11) rfl
 have e12 := rangeAt_cell VR (i := 12) rfl
 have e13 := rangeAt_cell VR (i := 13) rfl
 clear VR
 have one : (#[.int .i64 10, sV t, .bool false, .int .i64 0, .int .i64 0, .int .i64 0, .int .i64 0, .bool false, .bool false, .int .i64 0, .int .i64 0, .bool false, .bool false, .int .i64 2] : Array Value).all (·.oneCell') = true := by simp [Value.oneCell']
 go_wp2_with (refine wpList_store_mid rfl _ _ _ rfl (w.heap.size + 1) 0 #[.int .i64 10, sV t, .bool false, .int .i64 0, .int .i64 0, .int .i64 0, .int .i64 0, .bool false, .bool false, .int .i64 0, .int .i64 0, .bool false, .bool false, .int .i64 2] rfl rfl VT hi14N one ?_; show wpList _ _ _ _ _ (wb.setCells (w.heap.size + 1) 0 [.int .i64 10, sV t, .bool false, .int .i64 0, .int .i64 0, .int .i64 0, .int .i64 0, .bool false, .bool false, .int .i64 0, .int .i64 0, .bool false, .bool false, .int .i64 2]); rw [hq])
 exact bodyPost_ret (v := .agg #[.int .i64 10, sV t, .bool false, .int .i64 0, .int .i64 0, .int .i64 0, .int .i64 0, .bool false, .bool false, .int .i64 0, .int .i64 0, .bool false, .bool false, .int .i64 2]) (by simp [results, Tryz.results193, go_sem, e0, e1, e2, e3, e4, e5, e6, e7, e8, e9, e10, e11, e12, e13]) rfl ⟨rfl, XR⟩
set_option maxRecDepth 8000 in
set_option maxHeartbeats 2000000 in
theorem node_call (t : List UInt8) (p : Option Addr) (n c : Nat) (w : World) : Calls Tryz.prog 196 #[.agg #[sV t, .slice p n c]] w fun e w' => e = .returned (.agg #[.int .i64 11, sV t, .bool false, .int .i64 0, .int .i64 0, .int .i64 0, .int .i64 0, .bool false, .bool false, .int .i64 0, .int .i64 0, .bool false, .bool false, .int .i64 (n : Int)]) ∧ Ext w w' := by
 have VN := vec_made w [sV t, .slice p n c] 117
 have X1 := x1 w (.cells [sV t, .slice p n c].toArray 117)
 obtain ⟨wa, ha⟩ : ∃ wa, w.alloc (.cells [sV t, .slice p n c].toArray 117) = wa := ⟨_, rfl⟩
 have VZ := vec_made wa [.int .i64 0, .string ⟨#[]⟩, .bool false, .int .i64 0, .int .i64 0, .int .i64 0, .int .i64 0, .bool false, .bool false, .int .i64 0, .int .i64 0, .bool false, .bool false, .int .i64 0] 48
 have X2 := x1 wa (.cells [.int .i64 0, .string ⟨#[]⟩, .bool false, .int .i64 0, .int .i64 0, .int .i64 0, .int .i64 0, .bool false, .bool false, .int .i64 0, .int .i64 0, .bool false, .bool false, .int .i64 0].toArray 48)
 have sa : wa.heap.size = w.heap.size + 1 := by rw [← ha, World.size_alloc]
 obtain ⟨wb, hb⟩ : ∃ wb, wa.alloc (.cells [.int .i64 0, .string ⟨#[]⟩, .bool false, .int .i64 0, .int .i64 0, .int .i64 0, .int .i64 0, .bool false, .bool false, .int .i64 0, .int .i64 0, .bool false, .bool false, .int .i64 0].toArray 48) = wb := ⟨_, rfl⟩
 rw [ha] at VN X1
 rw [hb] at VZ X2
 rw [sa] at VZ
 have VN := VN.later X2
 have X := xt X1 X2
 clear X1 X2
 have a0 := (VN 0 _ rfl).1
 have a1 := (VN 1 _ rfl).1
 go_enter Tryz.func196, Tryz.ntmps196
 have VT := VZ.there
 have VR := World.rangeAt_setCells_same wb (w.heap.size + 1) 0 [.int .i64 11, sV t, .bool false, .int .i64 0, .int .i64 0, .int .i64 0, .int .i64 0, .bool false, .bool false, .int .i64 0, .int .i64 0, .bool false, .bool false, .int .i64 (n : Int)] VT
 have XR := Ext.setCells (b := w.heap.size + 1) (by omega) [.int .i64 11, sV t, .bool false, .int .i64 0, .int .i64 0, .int .i64 0, .int .i64 0, .bool false, .bool false, .int .i64 0, .int .i64 0, .bool false, .bool false, .int .i64 (n : Int)] 0 wb X
 obtain ⟨wq, hq⟩ : ∃ q, wb.setCells (w.heap.size + 1) 0 [.int .i64 11, sV t, .bool false, .int .i64 0, .int .i64 0, .int .i64 0, .int .i64 0, .bool false, .bool false, .int .i64 0, .int .i64 0, .bool false, .bool false, .int .i64 (n : Int)] = q := ⟨_, rfl⟩
 rw [hq] at VR XR
 have e0 := rangeAt_cell VR (i := 0) rfl
 have e1 := rangeAt_cell VR (i := 1) rfl
 have e2 := rangeAt_cell VR (i := 2) rfl
 have e3 := rangeAt_cell VR (i := 3) rfl
 have e4 := rangeAt_cell VR (i := 4) rfl
 have e5 := rangeAt_cell VR (i := 5) rfl
 have e6 := rangeAt_cell VR (i := 6) rfl
 have e7 := rangeAt_cell VR (i := 7) rfl
 have e8 := rangeAt_cell VR (i := 8) rfl
 have e9 := rangeAt_cell VR (i := 9) rfl
 have e10 := rangeAt_cell VR (i := 10) rfl
 have e11 := rangeAt_cell VR (i := 11) rfl
 have e12 := rangeAt_cell VR (i := 12) rfl
 have e13 := rangeAt_cell VR (i := 13) rfl
 clear VR
 have one : (#[.int .i64 11, sV t, .bool false, .int .i64 0, .int .i64 0, .int .i64 0, .int .i64 0, .bool false, .bool false, .int .i64 0, .int .i64 0, .bool false, .bool false, .int .i64 (n : Int)] : Array Value).all (·.oneCell') = true := by simp [Value.oneCell']
 go_wp2_with (refine wpList_store_mid rfl _ _ _ rfl (w.heap.size + 1) 0 #[.int .i64 11, sV t, .bool false, .int .i64 0, .int .i64 0, .int .i64 0, .int .i64 0, .bool false, .bool false, .int .i64 0, .int .i64 0, .bool false, .bool false, .int .i64 (n : Int)] rfl rfl VT hi14N one ?_; show wpList _ _ _ _ _ (wb.setCells (w.heap.size + 1) 0 [.int .i64 11, sV t, .bool false, .int .i64 0, .int .i64 0, .int .i64 0, .int .i64 0, .bool false, .bool false, .int .i64 0, .int .i64 0, .bool false, .bool false, .int .i64 (n : Int)]); rw [hq])
 exact bodyPost_ret (v := .agg #[.int .i64 11, sV t, .bool false, .int .i64 0, .int .i64 0, .int .i64 0, .int .i64 0, .bool false, .bool false, .int .i64 0, .int .i64 0, .bool false, .bool false, .int .i64 (n : Int)]) (by simp [results, Tryz.results196, go_sem, e0, e1, e2, e3, e4, e5, e6, e7, e8, e9, e10, e11, e12, e13]) rfl ⟨rfl, XR⟩

end Go.Proofs.YtcjjobciokfehaaGreatDoor

