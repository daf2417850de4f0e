/-
  Several texts in one: V6p, V6n.
-/
import Derived.Test.YtfgohahfppabbaaGreatDoorMg7
import Derived.Test.YtfgohahfppabbaaGreatDoorMg0
import Derived.Lib.Bytealg
namespace Go.Proofs.YtfgohahfppabbaaGreatDoor
open Go.RowKit

set_option maxRecDepth 8000 in
set_option maxHeartbeats 2000000 in
theorem numE (w : World) (hT : Tens w) (hE : ErrTab w) :
  Calls Tryz.prog 116 #[valV 0 false 0 0 []] w fun e w' => e = .returned (valV 1 false 0 0 []) ∧ Ext w w' := by
 obtain ⟨R, hR⟩ : ∃ R, valV 1 false 0 0 [] = R := ⟨_, rfl⟩
 have HR : Hid (valV 1 false 0 0 [] = R) := hR
 rw [hR]
 clear hR
 obtain ⟨wa, wb, ha, hb, sa, _, B1, B2, X⟩ := mkB2 w [.int .i64 0, .bool false, .int .i64 0, .int .i64 0, sV []] [.int .i64 0, .bool false, .int .i64 0, .int .i64 0, sV []] 27 27
 obtain ⟨a0, a1, a2, a3, a4⟩ := Vec.five B1
 go_enter Tryz.func116, Tryz.ntmps116
 go_wp2_with fail
 clear ha hb sa a0 a1 a2 a3 a4
 refine (goodVI 0 false 0 0 [] wb (by decide) (by decide) (by decide) (hT.later X) (hE.later X)).mono ?_
 rintro e w1 ⟨rfl, e1⟩
 rw [show goodV 0 false 0 0 [] = true by decide]
 have C1 := B1.later e1
 have C2 := B2.later e1
 have X1 := xt X e1
 obtain ⟨a0, a1, a2, a3, a4⟩ := Vec.five C1
 go_wp2_with fail
 clear a0 a1 a2 a3 a4
 refine (numVI false 0 0 _).mono ?_
 rintro e w2 ⟨rfl, e2⟩
 obtain ⟨wy, hy, FX, ⟨b0, b1, b2, b3, b4⟩, ⟨fb0, fb1, fb2, fb3, fb4⟩, fd0, fd1, fd2, fd3, fd4⟩ := fin5 (C2.later e2) (xt X1 e2) (by omega) (1) (false) (0) (0) ([])
 go_wp2_with fail
 exact bodyPost_ret (v := valV 1 false 0 0 []) (by simp [results, Tryz.results116, go_sem, fd0, fd1, fd2, fd3, fd4]) rfl ⟨congrArg Ending.returned HR.out, FX⟩
set_option maxRecDepth 8000 in
set_option maxHeartbeats 2000000 in
theorem textE (w : World) (hT : Tens w) (hE : ErrTab w) :
  Calls Tryz.prog 118 #[valV 0 false 0 0 []] w fun e w' => e = .returned (valV 2 false 0 0 []) ∧ Ext w w' := by
 obtain ⟨R, hR⟩ : ∃ R, valV 2 false 0 0 [] = R := ⟨_, rfl⟩
 have HR : Hid (valV 2 false 0 0 [] = R) := hR
 rw [hR]
 clear hR
 obtain ⟨wa, wb, ha, hb, sa, _, B1, B2, X⟩ := mkB2 w [.int .i64 0, .bool false, .int .i64 0, .int .i64 0, sV []] [.int .i64 0, .bool false, .int .i64 0, .int .i64 0, sV []] 27 27
 obtain ⟨a0, a1, a2, a3, a4⟩ := Vec.five B1
 go_enter Tryz.func118, Tryz.ntmps118
 go_wp2_with fail
 clear ha hb sa a0 a1 a2 a3 a4
 refine (goodVI 0 false 0 0 [] wb (by decide) (by decide) (by decide) (hT.later X) (hE.later X)).mono ?_
 rintro e w1 ⟨rfl, e1⟩
 rw [show goodV 0 false 0 0 [] = true by decide]
 have C1 := B1.later e1
 have C2 := B2.later e1
 have X1 := xt X e1
 obtain ⟨a0, a1, a2, a3, a4⟩ := Vec.five C1
 go_wp2_with fail
 clear a0 a1 a2 a3 a4
 refine (textVI [] _).mono ?_
 rintro e w2 ⟨rfl, e2⟩
 obtain ⟨wy, hy, FX, ⟨b0, b1, b2, b3, b4⟩, ⟨fb0, fb1, fb2, fb3, fb4⟩, fd0, fd1, fd2, fd3, fd4⟩ := fin5 (C2.later e2) (xt X1 e2) (by omega) (2) (false) (0) (0) ([])
 go_wp2_with fail
 exact bodyPost_ret (v := valV 2 false 0 0 []) (by simp [results, Tryz.results118, go_sem, fd0, fd1, fd2, fd3, fd4]) rfl ⟨congrArg Ending.returned HR.out, FX⟩
set_option maxRecDepth 8000 in
set_option maxHeartbeats 2000000 in
theorem boolE (w : World) (hT : Tens w) (hE : ErrTab w) :
  Calls Tryz.prog 119 #[valV 0 false 0 0 []] w fun e w' => e = .returned (valV 3 false 0 0 falseT) ∧ Ext w w' := by
 obtain ⟨R, hR⟩ : ∃ R, valV 3 false 0 0 falseT = R := ⟨_, rfl⟩
 have HR : Hid (valV 3 false 0 0 falseT = R) := hR
 rw [hR]
 clear hR
 obtain ⟨wa, wb, ha, hb, sa, _, B1, B2, X⟩ := mkB2 w [.int .i64 0, .bool false, .int .i64 0, .int .i64 0, sV []] [.int .i64 0, .bool false, .int .i64 0, .int .i64 0, sV []] 27 27
 obtain ⟨a0, a1, a2, a3, a4⟩ := Vec.five B1
 go_enter Tryz.func119, Tryz.ntmps119
 go_wp2_with fail
 clear ha hb sa a0 a1 a2 a3 a4
 refine (goodVI 0 false 0 0 [] wb (by decide) (by decide) (by decide) (hT.later X) (hE.later X)).mono ?_
 rintro e w1 ⟨rfl, e1⟩
 rw [show goodV 0 false 0 0 [] = true by decide]
 have C1 := B1.later e1
 have C2 := B2.later e1
 have X1 := xt X e1
 obtain ⟨a0, a1, a2, a3, a4⟩ := Vec.five C1
 go_wp2_with fail
 clear a0 a1 a2 a3 a4
 refine (boolVI false _).mono ?_
 rintro e w2 ⟨rfl, e2⟩
 obtain ⟨wy, hy, FX, ⟨b0, b1, b2, b3, b4⟩, ⟨fb0, fb1, fb2, fb3, fb4⟩, fd0, fd1, fd2, fd3, fd4⟩ := fin5 (C2.later e2) (xt X1 e2) (by omega) (3) (false) (0) (0) (falseT)
 go_wp2_with fail
 exact bodyPost_ret (v := valV 3 false 0 0 falseT) (by simp [results, Tryz.results119, go_sem, fd0, fd1, fd2, fd3, fd4]) rfl ⟨congrArg Ending.returned HR.out, FX⟩
/-- What stands for a value beside one of a kind. -/
def besideV (k : Int) (n : Bool) (d x : Int) (t : List UInt8) (k' : Int) : Value :=
 if k ≠ 0 then valV k n d x t else if k' = 1 then valV 1 false 0 0 [] else if k' = 2 then valV 2 false 0 0 [] else if k' = 3 then valV 3 false 0 0 falseT else valV k n d x t
set_option maxHeartbeats 1000000 in
theorem isErrI (k : Int) (n : Bool) (d x : Int) (t : List UInt8) (w : World) :
  Calls Tryz.prog 24 #[valV k n d x t] w fun e w' => e = .returned (.bool (decide (k = 4))) ∧ Ext w w' := by
 have X := x1 w (.cells #[.int .i64 k, .bool n, .int .i64 d, .int .i64 x, sV t] 27)
 by_cases h : k = 4
 ·
  subst h
  go_enter Tryz.func24, Tryz.ntmps24
  go_wp2_with fail
  go_ret
  exact ⟨rfl, X⟩
 ·
  rw [show decide (k = 4) = false by simpa using h]
  have hb : (k == 4) = false := by simpa using h
  go_enter Tryz.func24, Tryz.ntmps24
  go_wp2_with fail
  go_ret
  exact ⟨rfl, X⟩
set_option maxRecDepth 8000 in
set_option maxHeartbeats 2000000 in
theorem besideI (k : Int) (n : Bool) (d x : Int) (t : List UInt8) (k' : Int) (n' : Bool) (d' x' : Int) (t' : List UInt8) (w : World) (hT : Tens w) (hE : ErrTab w) (hg : goodV k n d x t = true) :
  Calls Tryz.prog 87 #[valV k n d x t, valV k' n' d' x' t'] w fun e w' => e = .returned (besideV k n d x t k') ∧ Ext w w' := by
 obtain ⟨R, hR⟩ : ∃ R, besideV k n d x t k' = R := ⟨_, rfl⟩
 have HR0 : Hid (besideV k n d x t k' = R) := hR
 rw [hR]
 clear hR
 have X1 := x1 w (.cells #[.int .i64 k, .bool n, .int .i64 d, .int .i64 x, sV t] 27)
 have B1 := vec_made w (valL k n d x t) 27
 obtain ⟨wa, ha⟩ : ∃ wa, w.alloc (.cells #[.int .i64 k, .bool n, .int .i64 d, .int .i64 x, sV t] 27) = wa := ⟨_, rfl⟩
 have X2 := x1 wa (.cells #[.int .i64 k', .bool n', .int .i64 d', .int .i64 x', sV t'] 27)
 have B2 := vec_made wa (valL k' n' d' x' t') 27
 obtain ⟨wb, hb⟩ : ∃ wb, wa.alloc (.cells #[.int .i64 k', .bool n', .int .i64 d', .int .i64 x', sV t'] 27) = wb := ⟨_, rfl⟩
 have sa : wa.heap.size = w.heap.size + 1 := by rw [← ha, World.size_alloc]
 have sb : wb.heap.size = w.heap.size + 1 + 1 := by rw [← hb, World.size_alloc, sa]
 change Vec (w.alloc (.cells #[.int .i64 k, .bool n, .int .i64 d, .int .i64 x, sV t] 27)) _ _ at B1
 change Vec (wa.alloc (.cells #[.int .i64 k', .bool n', .int .i64 d', .int .i64 x', sV t'] 27)) _ _ at B2
 rw [ha] at X1 B1
 rw [hb] at X2 B2
 rw [sa] at B2
 have B1 := B1.later X2
 have X := xt X1 X2
 have X3 := x1 wb (.cells #[.int .i64 0, .bool false, .int .i64 0, .int .i64 0, sV []] 27)
 have B3 := vec_made wb (valL 0 false 0 0 []) 27
 obtain ⟨wc, hc⟩ : ∃ wc, wb.alloc (.cells #[.int .i64 0, .bool false, .int .i64 0, .int .i64 0, sV []] 27) = wc := ⟨_, rfl⟩
 change Vec (wb.alloc (.cells #[.int .i64 0, .bool false, .int .i64 0, .int .i64 0, sV []] 27)) _ _ at B3
 rw [hc] at X3 B3
 rw [sb] at B3
 have B1 := B1.later X3
 have B2 := B2.later X3
 have X := xt X X3
 clear X1 X2 X3
 obtain ⟨a0, a1, a2, a3, a4⟩ := Vec.five B1
 obtain ⟨c0, c1, c2, c3, c4⟩ := Vec.five B2
 go_enter Tryz.func87, Tryz.ntmps87
 by_cases h0 : k = 0
 ·
  subst h0
  obtain ⟨rfl, rfl, rfl⟩ := goodV_zero hg (by decide)
  obtain rfl := goodV_empty hg
  have T1 := hT.later X
  have E1 := hE.later X
  clear hg hT hE
  by_cases h1 : k' = 1
  ·
   subst h1
   have HR : Hid (valV 1 false 0 0 [] = R) := by show _ = _; rw [← HR0.out]; simp [besideV]
   go_wp2_with fail
   clear ha hb hc sa sb a0 a1 a2 a3 a4 c0 c1 c2 c3 c4
   refine (numE wc T1 E1).mono ?_
   rintro e w2 ⟨rfl, e2⟩
   obtain ⟨wy, hy, FX, ⟨b0, b1, b2, b3, b4⟩, ⟨fb0, fb1, fb2, fb3, fb4⟩, fd0, fd1, fd2, fd3, fd4⟩ := fin5 (B3.later e2) (xt X e2) (by omega) (1) (false) (0) (0) ([])
   go_wp2_with fail
   exact bodyPost_ret (v := valV 1 false 0 0 []) (by simp [results, Tryz.results87, go_sem, fd0, fd1, fd2, fd3, fd4]) rfl ⟨congrArg Ending.returned HR.out, FX⟩
  ·
   by_cases h2 : k' = 2
   ·
    subst h2
    have HR : Hid (valV 2 false 0 0 [] = R) := by show _ = _; rw [← HR0.out]; simp [besideV]
    go_wp2_with fail
    clear ha hb hc sa sb a0 a1 a2 a3 a4 c0 c1 c2 c3 c4
    refine (textE wc T1 E1).mono ?_
    rintro e w2 ⟨rfl, e2⟩
    obtain ⟨wy, hy, FX, ⟨b0, b1, b2, b3, b4⟩, ⟨fb0, fb1, fb2, fb3, fb4⟩, fd0, fd1, fd2, fd3, fd4⟩ := fin5 (B3.later e2) (xt X e2) (by omega) (2) (false) (0) (0) ([])
    go_wp2_with fail
    exact bodyPost_ret (v := valV 2 false 0 0 []) (by simp [results, Tryz.results87, go_sem, fd0, fd1, fd2, fd3, fd4]) rfl ⟨congrArg Ending.returned HR.out, FX⟩
   ·
    by_cases h3 : k' = 3
    ·
     subst h3
     have HR : Hid (valV 3 false 0 0 falseT = R) := by show _ = _; rw [← HR0.out]; simp [besideV]
     go_wp2_with fail
     clear ha hb hc sa sb a0 a1 a2 a3 a4 c0 c1 c2 c3 c4
     refine (boolE wc T1 E1).mono ?_
     rintro e w2 ⟨rfl, e2⟩
     obtain ⟨wy, hy, FX, ⟨b0, b1, b2, b3, b4⟩, ⟨fb0, fb1, fb2, fb3, fb4⟩, fd0, fd1, fd2, fd3, fd4⟩ := fin5 (B3.later e2) (xt X e2) (by omega) (3) (false) (0) (0) (falseT)
     go_wp2_with fail
     exact bodyPost_ret (v := valV 3 false 0 0 falseT) (by simp [results, Tryz.results87, go_sem, fd0, fd1, fd2, fd3, fd4]) rfl ⟨congrArg Ending.returned HR.out, FX⟩
    ·
     have HR : Hid (valV 0 false 0 0 [] = R) := by show _ = _; rw [← HR0.out]; simp [besideV, h1, h2, h3]
     obtain ⟨wy, hy, FX, ⟨b0, b1, b2, b3, b4⟩, ⟨fb0, fb1, fb2, fb3, fb4⟩, fd0, fd1, fd2, fd3, fd4⟩ := fin5 (B3) (X) (by omega) (0) (false) (0) (0) ([])
     go_wp2_with fail
     exact bodyPost_ret (v := valV 0 false 0 0 []) (by simp [results, Tryz.results87, go_sem, fd0, fd1, fd2, fd3, fd4]) rfl ⟨congrArg Ending.returned HR.out, FX⟩
 ·
  have HR : Hid (valV k n d x t = R) := by show _ = _; rw [← HR0.out]; simp [besideV, h0]
  obtain ⟨wy, hy, FX, ⟨b0, b1, b2, b3, b4⟩, ⟨fb0, fb1, fb2, fb3, fb4⟩, fd0, fd1, fd2, fd3, fd4⟩ := fin5 (B3) (X) (by omega) (k) (n) (d) (x) (t)
  go_wp2_with fail
  exact bodyPost_ret (v := valV k n d x t) (by simp [results, Tryz.results87, go_sem, fd0, fd1, fd2, fd3, fd4]) rfl ⟨congrArg Ending.returned HR.out, FX⟩

end Go.Proofs.YtfgohahfppabbaaGreatDoor

