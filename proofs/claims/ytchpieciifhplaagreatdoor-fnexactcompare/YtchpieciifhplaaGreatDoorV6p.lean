/-
  Chapter 6: a value beside another one.
-/
import Derived.Test.YtchpieciifhplaaGreatDoorV6d
import Derived.Test.YtchpieciifhplaaGreatDoorFb
namespace Go.Proofs.YtchpieciifhplaaGreatDoor
open Go.RowKit

set_option maxRecDepth 8000 in
set_option maxHeartbeats 2000000 in
theorem numE (w : World) (hT : Tens w) (hE : ErrTab w) :
    Calls Tryz.prog 31 #[valV 0 false 0 0 []] w fun e w' => e = .returned (valV 1 false 0 0 []) ∧ Ext w w' := by
  obtain ⟨R, hR⟩ : ∃ R, valV 1 false 0 0 [] = R := ⟨_, rfl⟩
  have HR : Hid (valV 1 false 0 0 [] = R) := hR
  rw [hR]
  clear hR
  have X1 := x1 w (.cells #[.int .i64 0, .bool false, .int .i64 0, .int .i64 0, sV []] 30)
  have B1 := vec_made w (valL 0 false 0 0 []) 30
  obtain ⟨wa, ha⟩ : ∃ wa, w.alloc (.cells #[.int .i64 0, .bool false, .int .i64 0, .int .i64 0, sV []] 30) = wa := ⟨_, rfl⟩
  have B2 := vec_made wa (valL 0 false 0 0 []) 30
  have X2 := x1 wa (.cells #[.int .i64 0, .bool false, .int .i64 0, .int .i64 0, sV []] 30)
  obtain ⟨wb, hb⟩ : ∃ wb, wa.alloc (.cells #[.int .i64 0, .bool false, .int .i64 0, .int .i64 0, sV []] 30) = wb := ⟨_, rfl⟩
  have sa : wa.heap.size = w.heap.size + 1 := by rw [← ha, World.size_alloc]
  change Vec (w.alloc (.cells #[.int .i64 0, .bool false, .int .i64 0, .int .i64 0, sV []] 30)) _ _ at B1
  change Vec (wa.alloc (.cells #[.int .i64 0, .bool false, .int .i64 0, .int .i64 0, sV []] 30)) _ _ at B2
  rw [ha] at X1 B1
  rw [hb] at X2 B2
  rw [sa] at B2
  have X := xt X1 X2
  have B1 := B1.later X2
  clear X1 X2
  have a0 := (B1 0 _ rfl).1
  have a1 := (B1 1 _ rfl).1
  have a2 := (B1 2 _ rfl).1
  have a3 := (B1 3 _ rfl).1
  have a4 := (B1 4 _ rfl).1
  go_enter Tryz.func31, Tryz.ntmps31
  go_wp2_with fail
  clear ha hb sa a0 a1 a2 a3 a4
  refine (goodVI 0 false 0 0 [] wb (by decide) (by decide) (by decide) (hT.later X) (hE.later X)).mono ?_
  rintro e w1 ⟨rfl, e1⟩
  rw [show goodV 0 false 0 0 [] = true by decide]
  have C1 := B1.later e1
  have C2 := B2.later e1
  have X1 := xt X e1
  have a0 := (C1 0 _ rfl).1
  have a1 := (C1 1 _ rfl).1
  have a2 := (C1 2 _ rfl).1
  have a3 := (C1 3 _ rfl).1
  have a4 := (C1 4 _ rfl).1
  go_wp2_with fail
  clear a0 a1 a2 a3 a4
  refine (numVI false 0 0 _).mono ?_
  rintro e w2 ⟨rfl, e2⟩
  have FV := C2.later e2
  have FG := FV.put5 (.int .i64 1) (.bool false) (.int .i64 0) (.int .i64 0) (sV [])
  have FX := Ext.setL (b := w.heap.size + 1) (by omega) [.int .i64 1, .bool false, .int .i64 0, .int .i64 0, sV []] 0 (xt X1 e2)
  obtain ⟨wy, hy⟩ : ∃ wy, setL w2 (w.heap.size + 1) 0 [.int .i64 1, .bool false, .int .i64 0, .int .i64 0, sV []] = wy := ⟨_, rfl⟩
  rw [hy] at FG FX
  have hy : (((((w2.setCell ⟨w.heap.size + 1, 0, none⟩ (.int .i64 1)).setCell ⟨w.heap.size + 1, 1, none⟩ (.bool false)).setCell ⟨w.heap.size + 1, 2, none⟩ (.int .i64 0)).setCell ⟨w.heap.size + 1, 3, none⟩ (.int .i64 0)).setCell ⟨w.heap.size + 1, 4, none⟩ (sV [])) = wy := hy
  have b0 := (FV 0 _ rfl).1
  have b1 := (FV 1 _ rfl).1
  have b2 := (FV 2 _ rfl).1
  have b3 := (FV 3 _ rfl).1
  have b4 := (FV 4 _ rfl).1
  have fb0 := (FV 0 _ rfl).2
  have fb1 := (FV 1 _ rfl).2
  have fb2 := (FV 2 _ rfl).2
  have fb3 := (FV 3 _ rfl).2
  have fb4 := (FV 4 _ rfl).2
  have fd0 := (FG 0 _ rfl).1
  have fd1 := (FG 1 _ rfl).1
  have fd2 := (FG 2 _ rfl).1
  have fd3 := (FG 3 _ rfl).1
  have fd4 := (FG 4 _ rfl).1
  clear FV FG 
  go_wp2_with fail
  exact bodyPost_ret (v := valV 1 false 0 0 []) (by simp [results, Tryz.results31, go_sem, fd0, fd1, fd2, fd3, fd4]) rfl ⟨congrArg Ending.returned HR.out, FX⟩
set_option maxRecDepth 8000 in
set_option maxHeartbeats 2000000 in
theorem textE (w : World) (hT : Tens w) (hE : ErrTab w) :
    Calls Tryz.prog 32 #[valV 0 false 0 0 []] w fun e w' => e = .returned (valV 2 false 0 0 []) ∧ Ext w w' := by
  obtain ⟨R, hR⟩ : ∃ R, valV 2 false 0 0 [] = R := ⟨_, rfl⟩
  have HR : Hid (valV 2 false 0 0 [] = R) := hR
  rw [hR]
  clear hR
  have X1 := x1 w (.cells #[.int .i64 0, .bool false, .int .i64 0, .int .i64 0, sV []] 30)
  have B1 := vec_made w (valL 0 false 0 0 []) 30
  obtain ⟨wa, ha⟩ : ∃ wa, w.alloc (.cells #[.int .i64 0, .bool false, .int .i64 0, .int .i64 0, sV []] 30) = wa := ⟨_, rfl⟩
  have B2 := vec_made wa (valL 0 false 0 0 []) 30
  have X2 := x1 wa (.cells #[.int .i64 0, .bool false, .int .i64 0, .int .i64 0, sV []] 30)
  obtain ⟨wb, hb⟩ : ∃ wb, wa.alloc (.cells #[.int .i64 0, .bool false, .int .i64 0, .int .i64 0, sV []] 30) = wb := ⟨_, rfl⟩
  have sa : wa.heap.size = w.heap.size + 1 := by rw [← ha, World.size_alloc]
  change Vec (w.alloc (.cells #[.int .i64 0, .bool false, .int .i64 0, .int .i64 0, sV []] 30)) _ _ at B1
  change Vec (wa.alloc (.cells #[.int .i64 0, .bool false, .int .i64 0, .int .i64 0, sV []] 30)) _ _ at B2
  rw [ha] at X1 B1
  rw [hb] at X2 B2
  rw [sa] at B2
  have X := xt X1 X2
  have B1 := B1.later X2
  clear X1 X2
  have a0 := (B1 0 _ rfl).1
  have a1 := (B1 1 _ rfl).1
  have a2 := (B1 2 _ rfl).1
  have a3 := (B1 3 _ rfl).1
  have a4 := (B1 4 _ rfl).1
  go_enter Tryz.func32, Tryz.ntmps32
  go_wp2_with fail
  clear ha hb sa a0 a1 a2 a3 a4
  refine (goodVI 0 false 0 0 [] wb (by decide) (by decide) (by decide) (hT.later X) (hE.later X)).mono ?_
  rintro e w1 ⟨rfl, e1⟩
  rw [show goodV 0 false 0 0 [] = true by decide]
  have C1 := B1.later e1
  have C2 := B2.later e1
  have X1 := xt X e1
  have a0 := (C1 0 _ rfl).1
  have a1 := (C1 1 _ rfl).1
  have a2 := (C1 2 _ rfl).1
  have a3 := (C1 3 _ rfl).1
  have a4 := (C1 4 _ rfl).1
  go_wp2_with fail
  clear a0 a1 a2 a3 a4
  refine (textVI [] _).mono ?_
  rintro e w2 ⟨rfl, e2⟩
  have FV := C2.later e2
  have FG := FV.put5 (.int .i64 2) (.bool false) (.int .i64 0) (.int .i64 0) (sV [])
  have FX := Ext.setL (b := w.heap.size + 1) (by omega) [.int .i64 2, .bool false, .int .i64 0, .int .i64 0, sV []] 0 (xt X1 e2)
  obtain ⟨wy, hy⟩ : ∃ wy, setL w2 (w.heap.size + 1) 0 [.int .i64 2, .bool false, .int .i64 0, .int .i64 0, sV []] = wy := ⟨_, rfl⟩
  rw [hy] at FG FX
  have hy : (((((w2.setCell ⟨w.heap.size + 1, 0, none⟩ (.int .i64 2)).setCell ⟨w.heap.size + 1, 1, none⟩ (.bool false)).setCell ⟨w.heap.size + 1, 2, none⟩ (.int .i64 0)).setCell ⟨w.heap.size + 1, 3, none⟩ (.int .i64 0)).setCell ⟨w.heap.size + 1, 4, none⟩ (sV [])) = wy := hy
  have b0 := (FV 0 _ rfl).1
  have b1 := (FV 1 _ rfl).1
  have b2 := (FV 2 _ rfl).1
  have b3 := (FV 3 _ rfl).1
  have b4 := (FV 4 _ rfl).1
  have fb0 := (FV 0 _ rfl).2
  have fb1 := (FV 1 _ rfl).2
  have fb2 := (FV 2 _ rfl).2
  have fb3 := (FV 3 _ rfl).2
  have fb4 := (FV 4 _ rfl).2
  have fd0 := (FG 0 _ rfl).1
  have fd1 := (FG 1 _ rfl).1
  have fd2 := (FG 2 _ rfl).1
  have fd3 := (FG 3 _ rfl).1
  have fd4 := (FG 4 _ rfl).1
  clear FV FG 
  go_wp2_with fail
  exact bodyPost_ret (v := valV 2 false 0 0 []) (by simp [results, Tryz.results32, go_sem, fd0, fd1, fd2, fd3, fd4]) rfl ⟨congrArg Ending.returned HR.out, FX⟩
set_option maxRecDepth 8000 in
set_option maxHeartbeats 2000000 in
theorem boolE (w : World) (hT : Tens w) (hE : ErrTab w) :
    Calls Tryz.prog 33 #[valV 0 false 0 0 []] w fun e w' => e = .returned (valV 3 false 0 0 falseT) ∧ Ext w w' := by
  obtain ⟨R, hR⟩ : ∃ R, valV 3 false 0 0 falseT = R := ⟨_, rfl⟩
  have HR : Hid (valV 3 false 0 0 falseT = R) := hR
  rw [hR]
  clear hR
  have X1 := x1 w (.cells #[.int .i64 0, .bool false, .int .i64 0, .int .i64 0, sV []] 30)
  have B1 := vec_made w (valL 0 false 0 0 []) 30
  obtain ⟨wa, ha⟩ : ∃ wa, w.alloc (.cells #[.int .i64 0, .bool false, .int .i64 0, .int .i64 0, sV []] 30) = wa := ⟨_, rfl⟩
  have B2 := vec_made wa (valL 0 false 0 0 []) 30
  have X2 := x1 wa (.cells #[.int .i64 0, .bool false, .int .i64 0, .int .i64 0, sV []] 30)
  obtain ⟨wb, hb⟩ : ∃ wb, wa.alloc (.cells #[.int .i64 0, .bool false, .int .i64 0, .int .i64 0, sV []] 30) = wb := ⟨_, rfl⟩
  have sa : wa.heap.size = w.heap.size + 1 := by rw [← ha, World.size_alloc]
  change Vec (w.alloc (.cells #[.int .i64 0, .bool false, .int .i64 0, .int .i64 0, sV []] 30)) _ _ at B1
  change Vec (wa.alloc (.cells #[.int .i64 0, .bool false, .int .i64 0, .int .i64 0, sV []] 30)) _ _ at B2
  rw [ha] at X1 B1
  rw [hb] at X2 B2
  rw [sa] at B2
  have X := xt X1 X2
  have B1 := B1.later X2
  clear X1 X2
  have a0 := (B1 0 _ rfl).1
  have a1 := (B1 1 _ rfl).1
  have a2 := (B1 2 _ rfl).1
  have a3 := (B1 3 _ rfl).1
  have a4 := (B1 4 _ rfl).1
  go_enter Tryz.func33, Tryz.ntmps33
  go_wp2_with fail
  clear ha hb sa a0 a1 a2 a3 a4
  refine (goodVI 0 false 0 0 [] wb (by decide) (by decide) (by decide) (hT.later X) (hE.later X)).mono ?_
  rintro e w1 ⟨rfl, e1⟩
  rw [show goodV 0 false 0 0 [] = true by decide]
  have C1 := B1.later e1
  have C2 := B2.later e1
  have X1 := xt X e1
  have a0 := (C1 0 _ rfl).1
  have a1 := (C1 1 _ rfl).1
  have a2 := (C1 2 _ rfl).1
  have a3 := (C1 3 _ rfl).1
  have a4 := (C1 4 _ rfl).1
  go_wp2_with fail
  clear a0 a1 a2 a3 a4
  refine (boolVI false _).mono ?_
  rintro e w2 ⟨rfl, e2⟩
  have FV := C2.later e2
  have FG := FV.put5 (.int .i64 3) (.bool false) (.int .i64 0) (.int .i64 0) (sV falseT)
  have FX := Ext.setL (b := w.heap.size + 1) (by omega) [.int .i64 3, .bool false, .int .i64 0, .int .i64 0, sV falseT] 0 (xt X1 e2)
  obtain ⟨wy, hy⟩ : ∃ wy, setL w2 (w.heap.size + 1) 0 [.int .i64 3, .bool false, .int .i64 0, .int .i64 0, sV falseT] = wy := ⟨_, rfl⟩
  rw [hy] at FG FX
  have hy : (((((w2.setCell ⟨w.heap.size + 1, 0, none⟩ (.int .i64 3)).setCell ⟨w.heap.size + 1, 1, none⟩ (.bool false)).setCell ⟨w.heap.size + 1, 2, none⟩ (.int .i64 0)).setCell ⟨w.heap.size + 1, 3, none⟩ (.int .i64 0)).setCell ⟨w.heap.size + 1, 4, none⟩ (sV falseT)) = wy := hy
  have b0 := (FV 0 _ rfl).1
  have b1 := (FV 1 _ rfl).1
  have b2 := (FV 2 _ rfl).1
  have b3 := (FV 3 _ rfl).1
  have b4 := (FV 4 _ rfl).1
  have fb0 := (FV 0 _ rfl).2
  have fb1 := (FV 1 _ rfl).2
  have fb2 := (FV 2 _ rfl).2
  have fb3 := (FV 3 _ rfl).2
  have fb4 := (FV 4 _ rfl).2
  have fd0 := (FG 0 _ rfl).1
  have fd1 := (FG 1 _ rfl).1
  have fd2 := (FG 2 _ rfl).1
  have fd3 := (FG 3 _ rfl).1
  have fd4 := (FG 4 _ rfl).1
  clear FV FG 
  go_wp2_with fail
  exact bodyPost_ret (v := valV 3 false 0 0 falseT) (by simp [results, Tryz.results33, go_sem, fd0, fd1, fd2, fd3, fd4]) rfl ⟨congrArg Ending.returned HR.out, FX⟩
/-- What stands for a value beside one of a kind. -/
def besideV (k : Int) (n : Bool) (d x : Int) (t : List UInt8) (k' : Int) : Value :=
  if k ≠ 0 then valV k n d x t else if k' = 1 then valV 1 false 0 0 [] else if k' = 2 then valV 2 false 0 0 [] else if k' = 3 then valV 3 false 0 0 falseT else valV k n d x t
set_option maxHeartbeats 1000000 in
theorem isErrI (k : Int) (n : Bool) (d x : Int) (t : List UInt8) (w : World) :
    Calls Tryz.prog 12 #[valV k n d x t] w fun e w' => e = .returned (.bool (decide (k = 4))) ∧ Ext w w' := by
  have X := x1 w (.cells #[.int .i64 k, .bool n, .int .i64 d, .int .i64 x, sV t] 30)
  by_cases h : k = 4
  · subst h
    go_enter Tryz.func12, Tryz.ntmps12
    go_wp2_with fail
    go_ret
    exact ⟨rfl, X⟩
  · rw [show decide (k = 4) = false by simpa using h]
    have hb : (k == 4) = false := by simpa using h
    go_enter Tryz.func12, Tryz.ntmps12
    go_wp2_with fail
    go_ret
    exact ⟨rfl, X⟩
set_option maxRecDepth 8000 in
set_option maxHeartbeats 2000000 in
theorem besideI (k : Int) (n : Bool) (d x : Int) (t : List UInt8) (k' : Int) (n' : Bool) (d' x' : Int) (t' : List UInt8) (w : World) (hT : Tens w) (hE : ErrTab w) (hg : goodV k n d x t = true) :
    Calls Tryz.prog 13 #[valV k n d x t, valV k' n' d' x' t'] w fun e w' => e = .returned (besideV k n d x t k') ∧ Ext w w' := by
  obtain ⟨R, hR⟩ : ∃ R, besideV k n d x t k' = R := ⟨_, rfl⟩
  have HR0 : Hid (besideV k n d x t k' = R) := hR
  rw [hR]
  clear hR
  have X1 := x1 w (.cells #[.int .i64 k, .bool n, .int .i64 d, .int .i64 x, sV t] 30)
  have B1 := vec_made w (valL k n d x t) 30
  obtain ⟨wa, ha⟩ : ∃ wa, w.alloc (.cells #[.int .i64 k, .bool n, .int .i64 d, .int .i64 x, sV t] 30) = wa := ⟨_, rfl⟩
  have X2 := x1 wa (.cells #[.int .i64 k', .bool n', .int .i64 d', .int .i64 x', sV t'] 30)
  have B2 := vec_made wa (valL k' n' d' x' t') 30
  obtain ⟨wb, hb⟩ : ∃ wb, wa.alloc (.cells #[.int .i64 k', .bool n', .int .i64 d', .int .i64 x', sV t'] 30) = wb := ⟨_, rfl⟩
  have sa : wa.heap.size = w.heap.size + 1 := by rw [← ha, World.size_alloc]
  have sb : wb.heap.size = w.heap.size + 1 + 1 := by rw [← hb, World.size_alloc, sa]
  change Vec (w.alloc (.cells #[.int .i64 k, .bool n, .int .i64 d, .int .i64 x, sV t] 30)) _ _ at B1
  change Vec (wa.alloc (.cells #[.int .i64 k', .bool n', .int .i64 d', .int .i64 x', sV t'] 30)) _ _ at B2
  rw [ha] at X1 B1
  rw [hb] at X2 B2
  rw [sa] at B2
  have B1 := B1.later X2
  have X := xt X1 X2
  have X3 := x1 wb (.cells #[.int .i64 0, .bool false, .int .i64 0, .int .i64 0, sV []] 30)
  have B3 := vec_made wb (valL 0 false 0 0 []) 30
  obtain ⟨wc, hc⟩ : ∃ wc, wb.alloc (.cells #[.int .i64 0, .bool false, .int .i64 0, .int .i64 0, sV []] 30) = wc := ⟨_, rfl⟩
  change Vec (wb.alloc (.cells #[.int .i64 0, .bool false, .int .i64 0, .int .i64 0, sV []] 30)) _ _ at B3
  rw [hc] at X3 B3
  rw [sb] at B3
  have B1 := B1.later X3
  have B2 := B2.later X3
  have X := xt X X3
  clear X1 X2 X3
  have a0 := (B1 0 _ rfl).1
  have a1 := (B1 1 _ rfl).1
  have a2 := (B1 2 _ rfl).1
  have a3 := (B1 3 _ rfl).1
  have a4 := (B1 4 _ rfl).1
  have c0 := (B2 0 _ rfl).1
  have c1 := (B2 1 _ rfl).1
  have c2 := (B2 2 _ rfl).1
  have c3 := (B2 3 _ rfl).1
  have c4 := (B2 4 _ rfl).1
  go_enter Tryz.func13, Tryz.ntmps13
  by_cases h0 : k = 0
  · subst h0
    obtain ⟨rfl, rfl, rfl⟩ := goodV_zero hg (by decide)
    obtain rfl := goodV_empty hg
    have T1 := hT.later X
    have E1 := hE.later X
    clear hg hT hE
    by_cases h1 : k' = 1
    · subst h1
      have HR : Hid (valV 1 false 0 0 [] = R) := by show _ = _; rw [← HR0.out]; simp [besideV]
      go_wp2_with fail
      clear ha hb hc sa sb a0 a1 a2 a3 a4 c0 c1 c2 c3 c4
      refine (numE wc T1 E1).mono ?_
      rintro e w2 ⟨rfl, e2⟩
      have FV := B3.later e2
      have FG := FV.put5 (.int .i64 1) (.bool false) (.int .i64 0) (.int .i64 0) (sV [])
      have FX := Ext.setL (b := w.heap.size + 1 + 1) (by omega) [.int .i64 1, .bool false, .int .i64 0, .int .i64 0, sV []] 0 (xt X e2)
      obtain ⟨wy, hy⟩ : ∃ wy, setL w2 (w.heap.size + 1 + 1) 0 [.int .i64 1, .bool false, .int .i64 0, .int .i64 0, sV []] = wy := ⟨_, rfl⟩
      rw [hy] at FG FX
      have hy : (((((w2.setCell ⟨w.heap.size + 1 + 1, 0, none⟩ (.int .i64 1)).setCell ⟨w.heap.size + 1 + 1, 1, none⟩ (.bool false)).setCell ⟨w.heap.size + 1 + 1, 2, none⟩ (.int .i64 0)).setCell ⟨w.heap.size + 1 + 1, 3, none⟩ (.int .i64 0)).setCell ⟨w.heap.size + 1 + 1, 4, none⟩ (sV [])) = wy := hy
      have b0 := (FV 0 _ rfl).1
      have b1 := (FV 1 _ rfl).1
      have b2 := (FV 2 _ rfl).1
      have b3 := (FV 3 _ rfl).1
      have b4 := (FV 4 _ rfl).1
      have fb0 := (FV 0 _ rfl).2
      have fb1 := (FV 1 _ rfl).2
      have fb2 := (FV 2 _ rfl).2
      have fb3 := (FV 3 _ rfl).2
      have fb4 := (FV 4 _ rfl).2
      have fd0 := (FG 0 _ rfl).1
      have fd1 := (FG 1 _ rfl).1
      have fd2 := (FG 2 _ rfl).1
      have fd3 := (FG 3 _ rfl).1
      have fd4 := (FG 4 _ rfl).1
      clear FV FG 
      go_wp2_with fail
      exact bodyPost_ret (v := valV 1 false 0 0 []) (by simp [results, Tryz.results13, go_sem, fd0, fd1, fd2, fd3, fd4]) rfl ⟨congrArg Ending.returned HR.out, FX⟩
    · by_cases h2 : k' = 2
      · subst h2
        have HR : Hid (valV 2 false 0 0 [] = R) := by show _ = _; rw [← HR0.out]; simp [besideV]
        go_wp2_with fail
        clear ha hb hc sa sb a0 a1 a2 a3 a4 c0 c1 c2 c3 c4
        refine (textE wc T1 E1).mono ?_
        rintro e w2 ⟨rfl, e2⟩
        have FV := B3.later e2
        have FG := FV.put5 (.int .i64 2) (.bool false) (.int .i64 0) (.int .i64 0) (sV [])
        have FX := Ext.setL (b := w.heap.size + 1 + 1) (by omega) [.int .i64 2, .bool false, .int .i64 0, .int .i64 0, sV []] 0 (xt X e2)
        obtain ⟨wy, hy⟩ : ∃ wy, setL w2 (w.heap.size + 1 + 1) 0 [.int .i64 2, .bool false, .int .i64 0, .int .i64 0, sV []] = wy := ⟨_, rfl⟩
        rw [hy] at FG FX
        have hy : (((((w2.setCell ⟨w.heap.size + 1 + 1, 0, none⟩ (.int .i64 2)).setCell ⟨w.heap.size + 1 + 1, 1, none⟩ (.bool false)).setCell ⟨w.heap.size + 1 + 1, 2, none⟩ (.int .i64 0)).setCell ⟨w.heap.size + 1 + 1, 3, none⟩ (.int .i64 0)).setCell ⟨w.heap.size + 1 + 1, 4, none⟩ (sV [])) = wy := hy
        have b0 := (FV 0 _ rfl).1
        have b1 := (FV 1 _ rfl).1
        have b2 := (FV 2 _ rfl).1
        have b3 := (FV 3 _ rfl).1
        have b4 := (FV 4 _ rfl).1
        have fb0 := (FV 0 _ rfl).2
        have fb1 := (FV 1 _ rfl).2
        have fb2 := (FV 2 _ rfl).2
        have fb3 := (FV 3 _ rfl).2
        have fb4 := (FV 4 _ rfl).2
        have fd0 := (FG 0 _ rfl).1
        have fd1 := (FG 1 _ rfl).1
        have fd2 := (FG 2 _ rfl).1
        have fd3 := (FG 3 _ rfl).1
        have fd4 := (FG 4 _ rfl).1
        clear FV FG 
        go_wp2_with fail
        exact bodyPost_ret (v := valV 2 false 0 0 []) (by simp [results, Tryz.results13, go_sem, fd0, fd1, fd2, fd3, fd4]) rfl ⟨congrArg Ending.returned HR.out, FX⟩
      · by_cases h3 : k' = 3
        · subst h3
          have HR : Hid (valV 3 false 0 0 falseT = R) := by show _ = _; rw [← HR0.out]; simp [besideV]
          go_wp2_with fail
          clear ha hb hc sa sb a0 a1 a2 a3 a4 c0 c1 c2 c3 c4
          refine (boolE wc T1 E1).mono ?_
          rintro e w2 ⟨rfl, e2⟩
          have FV := B3.later e2
          have FG := FV.put5 (.int .i64 3) (.bool false) (.int .i64 0) (.int .i64 0) (sV falseT)
          have FX := Ext.setL (b := w.heap.size + 1 + 1) (by omega) [.int .i64 3, .bool false, .int .i64 0, .int .i64 0, sV falseT] 0 (xt X e2)
          obtain ⟨wy, hy⟩ : ∃ wy, setL w2 (w.heap.size + 1 + 1) 0 [.int .i64 3, .bool false, .int .i64 0, .int .i64 0, sV falseT] = wy := ⟨_, rfl⟩
          rw [hy] at FG FX
          have hy : (((((w2.setCell ⟨w.heap.size + 1 + 1, 0, none⟩ (.int .i64 3)).setCell ⟨w.heap.size + 1 + 1, 1, none⟩ (.bool false)).setCell ⟨w.heap.size + 1 + 1, 2, none⟩ (.int .i64 0)).setCell ⟨w.heap.size + 1 + 1, 3, none⟩ (.int .i64 0)).setCell ⟨w.heap.size + 1 + 1, 4, none⟩ (sV falseT)) = wy := hy
          have b0 := (FV 0 _ rfl).1
          have b1 := (FV 1 _ rfl).1
          have b2 := (FV 2 _ rfl).1
          have b3 := (FV 3 _ rfl).1
          have b4 := (FV 4 _ rfl).1
          have fb0 := (FV 0 _ rfl).2
          have fb1 := (FV 1 _ rfl).2
          have fb2 := (FV 2 _ rfl).2
          have fb3 := (FV 3 _ rfl).2
          have fb4 := (FV 4 _ rfl).2
          have fd0 := (FG 0 _ rfl).1
          have fd1 := (FG 1 _ rfl).1
          have fd2 := (FG 2 _ rfl).1
          have fd3 := (FG 3 _ rfl).1
          have fd4 := (FG 4 _ rfl).1
          clear FV FG 
          go_wp2_with fail
          exact bodyPost_ret (v := valV 3 false 0 0 falseT) (by simp [results, Tryz.results13, go_sem, fd0, fd1, fd2, fd3, fd4]) rfl ⟨congrArg Ending.returned HR.out, FX⟩
        · have HR : Hid (valV 0 false 0 0 [] = R) := by show _ = _; rw [← HR0.out]; simp [besideV, h1, h2, h3]
          have FV := B3
          have FG := FV.put5 (.int .i64 0) (.bool false) (.int .i64 0) (.int .i64 0) (sV [])
          have FX := Ext.setL (b := w.heap.size + 1 + 1) (by omega) [.int .i64 0, .bool false, .int .i64 0, .int .i64 0, sV []] 0 (X)
          obtain ⟨wy, hy⟩ : ∃ wy, setL wc (w.heap.size + 1 + 1) 0 [.int .i64 0, .bool false, .int .i64 0, .int .i64 0, sV []] = wy := ⟨_, rfl⟩
          rw [hy] at FG FX
          have hy : (((((wc.setCell ⟨w.heap.size + 1 + 1, 0, none⟩ (.int .i64 0)).setCell ⟨w.heap.size + 1 + 1, 1, none⟩ (.bool false)).setCell ⟨w.heap.size + 1 + 1, 2, none⟩ (.int .i64 0)).setCell ⟨w.heap.size + 1 + 1, 3, none⟩ (.int .i64 0)).setCell ⟨w.heap.size + 1 + 1, 4, none⟩ (sV [])) = wy := hy
          have b0 := (FV 0 _ rfl).1
          have b1 := (FV 1 _ rfl).1
          have b2 := (FV 2 _ rfl).1
          have b3 := (FV 3 _ rfl).1
          have b4 := (FV 4 _ rfl).1
          have fb0 := (FV 0 _ rfl).2
          have fb1 := (FV 1 _ rfl).2
          have fb2 := (FV 2 _ rfl).2
          have fb3 := (FV 3 _ rfl).2
          have fb4 := (FV 4 _ rfl).2
          have fd0 := (FG 0 _ rfl).1
          have fd1 := (FG 1 _ rfl).1
          have fd2 := (FG 2 _ rfl).1
          have fd3 := (FG 3 _ rfl).1
          have fd4 := (FG 4 _ rfl).1
          clear FV FG 
          go_wp2_with fail
          exact bodyPost_ret (v := valV 0 false 0 0 []) (by simp [results, Tryz.results13, go_sem, fd0, fd1, fd2, fd3, fd4]) rfl ⟨congrArg Ending.returned HR.out, FX⟩
  · have HR : Hid (valV k n d x t = R) := by show _ = _; rw [← HR0.out]; simp [besideV, h0]
    have FV := B3
    have FG := FV.put5 (.int .i64 k) (.bool n) (.int .i64 d) (.int .i64 x) (sV t)
    have FX := Ext.setL (b := w.heap.size + 1 + 1) (by omega) [.int .i64 k, .bool n, .int .i64 d, .int .i64 x, sV t] 0 (X)
    obtain ⟨wy, hy⟩ : ∃ wy, setL wc (w.heap.size + 1 + 1) 0 [.int .i64 k, .bool n, .int .i64 d, .int .i64 x, sV t] = wy := ⟨_, rfl⟩
    rw [hy] at FG FX
    have hy : (((((wc.setCell ⟨w.heap.size + 1 + 1, 0, none⟩ (.int .i64 k)).setCell ⟨w.heap.size + 1 + 1, 1, none⟩ (.bool n)).setCell ⟨w.heap.size + 1 + 1, 2, none⟩ (.int .i64 d)).setCell ⟨w.heap.size + 1 + 1, 3, none⟩ (.int .i64 x)).setCell ⟨w.heap.size + 1 + 1, 4, none⟩ (sV t)) = wy := hy
    have b0 := (FV 0 _ rfl).1
    have b1 := (FV 1 _ rfl).1
    have b2 := (FV 2 _ rfl).1
    have b3 := (FV 3 _ rfl).1
    have b4 := (FV 4 _ rfl).1
    have fb0 := (FV 0 _ rfl).2
    have fb1 := (FV 1 _ rfl).2
    have fb2 := (FV 2 _ rfl).2
    have fb3 := (FV 3 _ rfl).2
    have fb4 := (FV 4 _ rfl).2
    have fd0 := (FG 0 _ rfl).1
    have fd1 := (FG 1 _ rfl).1
    have fd2 := (FG 2 _ rfl).1
    have fd3 := (FG 3 _ rfl).1
    have fd4 := (FG 4 _ rfl).1
    clear FV FG 
    go_wp2_with fail
    exact bodyPost_ret (v := valV k n d x t) (by simp [results, Tryz.results13, go_sem, fd0, fd1, fd2, fd3, fd4]) rfl ⟨congrArg Ending.returned HR.out, FX⟩
set_option maxRecDepth 8000 in
set_option maxHeartbeats 2000000 in
theorem likeS (k : Int) (n : Bool) (d x : Int) (t : List UInt8) (k' : Int) (n' : Bool) (d' x' : Int) (t' : List UInt8) (w : World)  :
    Calls Tryz.prog 23 #[valV k n d x t, valV k' n' d' x' t'] w fun e w' => e = .returned (besideV k n d x t k') ∧ Ext w w' := by
  obtain ⟨R, hR⟩ : ∃ R, besideV k n d x t k' = R := ⟨_, rfl⟩
  have HR0 : Hid (besideV k n d x t k' = R) := hR
  rw [hR]
  clear hR
  have X1 := x1 w (.cells #[.int .i64 k, .bool n, .int .i64 d, .int .i64 x, sV t] 30)
  have B1 := vec_made w (valL k n d x t) 30
  obtain ⟨wa, ha⟩ : ∃ wa, w.alloc (.cells #[.int .i64 k, .bool n, .int .i64 d, .int .i64 x, sV t] 30) = wa := ⟨_, rfl⟩
  have X2 := x1 wa (.cells #[.int .i64 k', .bool n', .int .i64 d', .int .i64 x', sV t'] 30)
  have B2 := vec_made wa (valL k' n' d' x' t') 30
  obtain ⟨wb, hb⟩ : ∃ wb, wa.alloc (.cells #[.int .i64 k', .bool n', .int .i64 d', .int .i64 x', sV t'] 30) = wb := ⟨_, rfl⟩
  have sa : wa.heap.size = w.heap.size + 1 := by rw [← ha, World.size_alloc]
  have sb : wb.heap.size = w.heap.size + 1 + 1 := by rw [← hb, World.size_alloc, sa]
  change Vec (w.alloc (.cells #[.int .i64 k, .bool n, .int .i64 d, .int .i64 x, sV t] 30)) _ _ at B1
  change Vec (wa.alloc (.cells #[.int .i64 k', .bool n', .int .i64 d', .int .i64 x', sV t'] 30)) _ _ at B2
  rw [ha] at X1 B1
  rw [hb] at X2 B2
  rw [sa] at B2
  have B1 := B1.later X2
  have X := xt X1 X2
  have X3 := x1 wb (.cells #[.int .i64 0, .bool false, .int .i64 0, .int .i64 0, sV []] 30)
  have B3 := vec_made wb (valL 0 false 0 0 []) 30
  obtain ⟨wc, hc⟩ : ∃ wc, wb.alloc (.cells #[.int .i64 0, .bool false, .int .i64 0, .int .i64 0, sV []] 30) = wc := ⟨_, rfl⟩
  change Vec (wb.alloc (.cells #[.int .i64 0, .bool false, .int .i64 0, .int .i64 0, sV []] 30)) _ _ at B3
  rw [hc] at X3 B3
  rw [sb] at B3
  have B1 := B1.later X3
  have B2 := B2.later X3
  have X := xt X X3
  clear X1 X2 X3
  have a0 := (B1 0 _ rfl).1
  have a1 := (B1 1 _ rfl).1
  have a2 := (B1 2 _ rfl).1
  have a3 := (B1 3 _ rfl).1
  have a4 := (B1 4 _ rfl).1
  have c0 := (B2 0 _ rfl).1
  have c1 := (B2 1 _ rfl).1
  have c2 := (B2 2 _ rfl).1
  have c3 := (B2 3 _ rfl).1
  have c4 := (B2 4 _ rfl).1
  go_enter Tryz.func23, Tryz.ntmps23
  by_cases h0 : k = 0
  · subst h0
    by_cases h1 : k' = 1
    · subst h1
      have HR : Hid (valV 1 false 0 0 [] = R) := by show _ = _; rw [← HR0.out]; simp [besideV]
      go_wp2_with fail
      clear ha hb hc sa sb a0 a1 a2 a3 a4 c0 c1 c2 c3 c4
      refine (numVS false 0 0 wc).mono ?_
      rintro e w2 ⟨rfl, e2⟩
      have FV := B3.later e2
      have FG := FV.put5 (.int .i64 1) (.bool false) (.int .i64 0) (.int .i64 0) (sV [])
      have FX := Ext.setL (b := w.heap.size + 1 + 1) (by omega) [.int .i64 1, .bool false, .int .i64 0, .int .i64 0, sV []] 0 (xt X e2)
      obtain ⟨wy, hy⟩ : ∃ wy, setL w2 (w.heap.size + 1 + 1) 0 [.int .i64 1, .bool false, .int .i64 0, .int .i64 0, sV []] = wy := ⟨_, rfl⟩
      rw [hy] at FG FX
      have hy : (((((w2.setCell ⟨w.heap.size + 1 + 1, 0, none⟩ (.int .i64 1)).setCell ⟨w.heap.size + 1 + 1, 1, none⟩ (.bool false)).setCell ⟨w.heap.size + 1 + 1, 2, none⟩ (.int .i64 0)).setCell ⟨w.heap.size + 1 + 1, 3, none⟩ (.int .i64 0)).setCell ⟨w.heap.size + 1 + 1, 4, none⟩ (sV [])) = wy := hy
      have b0 := (FV 0 _ rfl).1
      have b1 := (FV 1 _ rfl).1
      have b2 := (FV 2 _ rfl).1
      have b3 := (FV 3 _ rfl).1
      have b4 := (FV 4 _ rfl).1
      have fb0 := (FV 0 _ rfl).2
      have fb1 := (FV 1 _ rfl).2
      have fb2 := (FV 2 _ rfl).2
      have fb3 := (FV 3 _ rfl).2
      have fb4 := (FV 4 _ rfl).2
      have fd0 := (FG 0 _ rfl).1
      have fd1 := (FG 1 _ rfl).1
      have fd2 := (FG 2 _ rfl).1
      have fd3 := (FG 3 _ rfl).1
      have fd4 := (FG 4 _ rfl).1
      clear FV FG 
      go_wp2_with fail
      exact bodyPost_ret (v := valV 1 false 0 0 []) (by simp [results, Tryz.results23, go_sem, fd0, fd1, fd2, fd3, fd4]) rfl ⟨congrArg Ending.returned HR.out, FX⟩
    · by_cases h2 : k' = 2
      · subst h2
        have HR : Hid (valV 2 false 0 0 [] = R) := by show _ = _; rw [← HR0.out]; simp [besideV]
        go_wp2_with fail
        clear ha hb hc sa sb a0 a1 a2 a3 a4 c0 c1 c2 c3 c4
        refine (textVS [] wc).mono ?_
        rintro e w2 ⟨rfl, e2⟩
        have FV := B3.later e2
        have FG := FV.put5 (.int .i64 2) (.bool false) (.int .i64 0) (.int .i64 0) (sV [])
        have FX := Ext.setL (b := w.heap.size + 1 + 1) (by omega) [.int .i64 2, .bool false, .int .i64 0, .int .i64 0, sV []] 0 (xt X e2)
        obtain ⟨wy, hy⟩ : ∃ wy, setL w2 (w.heap.size + 1 + 1) 0 [.int .i64 2, .bool false, .int .i64 0, .int .i64 0, sV []] = wy := ⟨_, rfl⟩
        rw [hy] at FG FX
        have hy : (((((w2.setCell ⟨w.heap.size + 1 + 1, 0, none⟩ (.int .i64 2)).setCell ⟨w.heap.size + 1 + 1, 1, none⟩ (.bool false)).setCell ⟨w.heap.size + 1 + 1, 2, none⟩ (.int .i64 0)).setCell ⟨w.heap.size + 1 + 1, 3, none⟩ (.int .i64 0)).setCell ⟨w.heap.size + 1 + 1, 4, none⟩ (sV [])) = wy := hy
        have b0 := (FV 0 _ rfl).1
        have b1 := (FV 1 _ rfl).1
        have b2 := (FV 2 _ rfl).1
        have b3 := (FV 3 _ rfl).1
        have b4 := (FV 4 _ rfl).1
        have fb0 := (FV 0 _ rfl).2
        have fb1 := (FV 1 _ rfl).2
        have fb2 := (FV 2 _ rfl).2
        have fb3 := (FV 3 _ rfl).2
        have fb4 := (FV 4 _ rfl).2
        have fd0 := (FG 0 _ rfl).1
        have fd1 := (FG 1 _ rfl).1
        have fd2 := (FG 2 _ rfl).1
        have fd3 := (FG 3 _ rfl).1
        have fd4 := (FG 4 _ rfl).1
        clear FV FG 
        go_wp2_with fail
        exact bodyPost_ret (v := valV 2 false 0 0 []) (by simp [results, Tryz.results23, go_sem, fd0, fd1, fd2, fd3, fd4]) rfl ⟨congrArg Ending.returned HR.out, FX⟩
      · by_cases h3 : k' = 3
        · subst h3
          have HR : Hid (valV 3 false 0 0 falseT = R) := by show _ = _; rw [← HR0.out]; simp [besideV]
          go_wp2_with fail
          clear ha hb hc sa sb a0 a1 a2 a3 a4 c0 c1 c2 c3 c4
          refine (boolVS false wc).mono ?_
          rintro e w2 ⟨rfl, e2⟩
          have FV := B3.later e2
          have FG := FV.put5 (.int .i64 3) (.bool false) (.int .i64 0) (.int .i64 0) (sV falseT)
          have FX := Ext.setL (b := w.heap.size + 1 + 1) (by omega) [.int .i64 3, .bool false, .int .i64 0, .int .i64 0, sV falseT] 0 (xt X e2)
          obtain ⟨wy, hy⟩ : ∃ wy, setL w2 (w.heap.size + 1 + 1) 0 [.int .i64 3, .bool false, .int .i64 0, .int .i64 0, sV falseT] = wy := ⟨_, rfl⟩
          rw [hy] at FG FX
          have hy : (((((w2.setCell ⟨w.heap.size + 1 + 1, 0, none⟩ (.int .i64 3)).setCell ⟨w.heap.size + 1 + 1, 1, none⟩ (.bool false)).setCell ⟨w.heap.size + 1 + 1, 2, none⟩ (.int .i64 0)).setCell ⟨w.heap.size + 1 + 1, 3, none⟩ (.int .i64 0)).setCell ⟨w.heap.size + 1 + 1, 4, none⟩ (sV falseT)) = wy := hy
          have b0 := (FV 0 _ rfl).1
          have b1 := (FV 1 _ rfl).1
          have b2 := (FV 2 _ rfl).1
          have b3 := (FV 3 _ rfl).1
          have b4 := (FV 4 _ rfl).1
          have fb0 := (FV 0 _ rfl).2
          have fb1 := (FV 1 _ rfl).2
          have fb2 := (FV 2 _ rfl).2
          have fb3 := (FV 3 _ rfl).2
          have fb4 := (FV 4 _ rfl).2
          have fd0 := (FG 0 _ rfl).1
          have fd1 := (FG 1 _ rfl).1
          have fd2 := (FG 2 _ rfl).1
          have fd3 := (FG 3 _ rfl).1
          have fd4 := (FG 4 _ rfl).1
          clear FV FG 
          go_wp2_with fail
          exact bodyPost_ret (v := valV 3 false 0 0 falseT) (by simp [results, Tryz.results23, go_sem, fd0, fd1, fd2, fd3, fd4]) rfl ⟨congrArg Ending.returned HR.out, FX⟩
        · have HR : Hid (valV 0 n d x t = R) := by show _ = _; rw [← HR0.out]; simp [besideV, h1, h2, h3]
          have FV := B3
          have FG := FV.put5 (.int .i64 0) (.bool n) (.int .i64 d) (.int .i64 x) (sV t)
          have FX := Ext.setL (b := w.heap.size + 1 + 1) (by omega) [.int .i64 0, .bool n, .int .i64 d, .int .i64 x, sV t] 0 (X)
          obtain ⟨wy, hy⟩ : ∃ wy, setL wc (w.heap.size + 1 + 1) 0 [.int .i64 0, .bool n, .int .i64 d, .int .i64 x, sV t] = wy := ⟨_, rfl⟩
          rw [hy] at FG FX
          have hy : (((((wc.setCell ⟨w.heap.size + 1 + 1, 0, none⟩ (.int .i64 0)).setCell ⟨w.heap.size + 1 + 1, 1, none⟩ (.bool n)).setCell ⟨w.heap.size + 1 + 1, 2, none⟩ (.int .i64 d)).setCell ⟨w.heap.size + 1 + 1, 3, none⟩ (.int .i64 x)).setCell ⟨w.heap.size + 1 + 1, 4, none⟩ (sV t)) = wy := hy
          have b0 := (FV 0 _ rfl).1
          have b1 := (FV 1 _ rfl).1
          have b2 := (FV 2 _ rfl).1
          have b3 := (FV 3 _ rfl).1
          have b4 := (FV 4 _ rfl).1
          have fb0 := (FV 0 _ rfl).2
          have fb1 := (FV 1 _ rfl).2
          have fb2 := (FV 2 _ rfl).2
          have fb3 := (FV 3 _ rfl).2
          have fb4 := (FV 4 _ rfl).2
          have fd0 := (FG 0 _ rfl).1
          have fd1 := (FG 1 _ rfl).1
          have fd2 := (FG 2 _ rfl).1
          have fd3 := (FG 3 _ rfl).1
          have fd4 := (FG 4 _ rfl).1
          clear FV FG 
          go_wp2_with fail
          exact bodyPost_ret (v := valV 0 n d x t) (by simp [results, Tryz.results23, go_sem, fd0, fd1, fd2, fd3, fd4]) rfl ⟨congrArg Ending.returned HR.out, FX⟩
  · have HR : Hid (valV k n d x t = R) := by show _ = _; rw [← HR0.out]; simp [besideV, h0]
    have FV := B3
    have FG := FV.put5 (.int .i64 k) (.bool n) (.int .i64 d) (.int .i64 x) (sV t)
    have FX := Ext.setL (b := w.heap.size + 1 + 1) (by omega) [.int .i64 k, .bool n, .int .i64 d, .int .i64 x, sV t] 0 (X)
    obtain ⟨wy, hy⟩ : ∃ wy, setL wc (w.heap.size + 1 + 1) 0 [.int .i64 k, .bool n, .int .i64 d, .int .i64 x, sV t] = wy := ⟨_, rfl⟩
    rw [hy] at FG FX
    have hy : (((((wc.setCell ⟨w.heap.size + 1 + 1, 0, none⟩ (.int .i64 k)).setCell ⟨w.heap.size + 1 + 1, 1, none⟩ (.bool n)).setCell ⟨w.heap.size + 1 + 1, 2, none⟩ (.int .i64 d)).setCell ⟨w.heap.size + 1 + 1, 3, none⟩ (.int .i64 x)).setCell ⟨w.heap.size + 1 + 1, 4, none⟩ (sV t)) = wy := hy
    have b0 := (FV 0 _ rfl).1
    have b1 := (FV 1 _ rfl).1
    have b2 := (FV 2 _ rfl).1
    have b3 := (FV 3 _ rfl).1
    have b4 := (FV 4 _ rfl).1
    have fb0 := (FV 0 _ rfl).2
    have fb1 := (FV 1 _ rfl).2
    have fb2 := (FV 2 _ rfl).2
    have fb3 := (FV 3 _ rfl).2
    have fb4 := (FV 4 _ rfl).2
    have fd0 := (FG 0 _ rfl).1
    have fd1 := (FG 1 _ rfl).1
    have fd2 := (FG 2 _ rfl).1
    have fd3 := (FG 3 _ rfl).1
    have fd4 := (FG 4 _ rfl).1
    clear FV FG 
    go_wp2_with fail
    exact bodyPost_ret (v := valV k n d x t) (by simp [results, Tryz.results23, go_sem, fd0, fd1, fd2, fd3, fd4]) rfl ⟨congrArg Ending.returned HR.out, FX⟩

end Go.Proofs.YtchpieciifhplaaGreatDoor

