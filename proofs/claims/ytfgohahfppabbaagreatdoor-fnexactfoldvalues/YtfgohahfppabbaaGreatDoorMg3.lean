/-
  Several texts in one: V6p, V9o, Num, CmpNum, PutN, PutM.
-/
import Derived.Test.YtfgohahfppabbaaGreatDoorMg2
namespace Go.Proofs.YtfgohahfppabbaaGreatDoor
open Go.RowKit

set_option maxRecDepth 8000 in
set_option maxHeartbeats 2000000 in
theorem numE (w : World) (hT : Tens w) (hE : ErrTab w) :
  Calls Tryz.prog 116 #[valV 0 false 0 0 []] w fun e w' => e = .returned (valV 1 false 0 0 []) ∧ Ext w w' := by
 obtain ⟨R, hR⟩ : ∃ R, valV 1 false 0 0 [] = R := ⟨_, rfl⟩
 have HR : Hid (valV 1 false 0 0 [] = R) := hR
 rw [hR]
 clear hR
 obtain ⟨wa, wb, ha, hb, sa, _, B1, B2, X⟩ := mkB2 w [.int .i64 0, .bool false, .int .i64 0, .int .i64 0, sV []] [.int .i64 0, .bool false, .int .i64 0, .int .i64 0, sV []] 27 27
 obtain ⟨a0, a1, a2, a3, a4⟩ := Vec.five B1
 go_enter Tryz.func116, Tryz.ntmps116
 go_wp2_with fail
 clear ha hb sa a0 a1 a2 a3 a4
 refine (goodVI 0 false 0 0 [] wb (by decide) (by decide) (by decide) (hT.later X) (hE.later X)).mono ?_
 rintro e w1 ⟨rfl, e1⟩
 rw [show goodV 0 false 0 0 [] = true by decide]
 have C1 := B1.later e1
 have C2 := B2.later e1
 have X1 := xt X e1
 obtain ⟨a0, a1, a2, a3, a4⟩ := Vec.five C1
 go_wp2_with fail
 clear a0 a1 a2 a3 a4
 refine (numVI false 0 0 _).mono ?_
 rintro e w2 ⟨rfl, e2⟩
 obtain ⟨wy, hy, FX, ⟨b0, b1, b2, b3, b4⟩, ⟨fb0, fb1, fb2, fb3, fb4⟩, fd0, fd1, fd2, fd3, fd4⟩ := fin5 (C2.later e2) (xt X1 e2) (by omega) (1) (false) (0) (0) ([])
 go_wp2_with fail
 exact bodyPost_ret (v := valV 1 false 0 0 []) (by simp [results, Tryz.results116, go_sem, fd0, fd1, fd2, fd3, fd4]) rfl ⟨congrArg Ending.returned HR.out, FX⟩
set_option maxRecDepth 8000 in
set_option maxHeartbeats 2000000 in
theorem textE (w : World) (hT : Tens w) (hE : ErrTab w) :
  Calls Tryz.prog 118 #[valV 0 false 0 0 []] w fun e w' => e = .returned (valV 2 false 0 0 []) ∧ Ext w w' := by
 obtain ⟨R, hR⟩ : ∃ R, valV 2 false 0 0 [] = R := ⟨_, rfl⟩
 have HR : Hid (valV 2 false 0 0 [] = R) := hR
 rw [hR]
 clear hR
 obtain ⟨wa, wb, ha, hb, sa, _, B1, B2, X⟩ := mkB2 w [.int .i64 0, .bool false, .int .i64 0, .int .i64 0, sV []] [.int .i64 0, .bool false, .int .i64 0, .int .i64 0, sV []] 27 27
 obtain ⟨a0, a1, a2, a3, a4⟩ := Vec.five B1
 go_enter Tryz.func118, Tryz.ntmps118
 go_wp2_with fail
 clear ha hb sa a0 a1 a2 a3 a4
 refine (goodVI 0 false 0 0 [] wb (by decide) (by decide) (by decide) (hT.later X) (hE.later X)).mono ?_
 rintro e w1 ⟨rfl, e1⟩
 rw [show goodV 0 false 0 0 [] = true by decide]
 have C1 := B1.later e1
 have C2 := B2.later e1
 have X1 := xt X e1
 obtain ⟨a0, a1, a2, a3, a4⟩ := Vec.five C1
 go_wp2_with fail
 clear a0 a1 a2 a3 a4
 refine (textVI [] _).mono ?_
 rintro e w2 ⟨rfl, e2⟩
 obtain ⟨wy, hy, FX, ⟨b0, b1, b2, b3, b4⟩, ⟨fb0, fb1, fb2, fb3, fb4⟩, fd0, fd1, fd2, fd3, fd4⟩ := fin5 (C2.later e2) (xt X1 e2) (by omega) (2) (false) (0) (0) ([])
 go_wp2_with fail
 exact bodyPost_ret (v := valV 2 false 0 0 []) (by simp [results, Tryz.results118, go_sem, fd0, fd1, fd2, fd3, fd4]) rfl ⟨congrArg Ending.returned HR.out, FX⟩
set_option maxRecDepth 8000 in
set_option maxHeartbeats 2000000 in
theorem boolE (w : World) (hT : Tens w) (hE : ErrTab w) :
  Calls Tryz.prog 119 #[valV 0 false 0 0 []] w fun e w' => e = .returned (valV 3 false 0 0 falseT) ∧ Ext w w' := by
 obtain ⟨R, hR⟩ : ∃ R, valV 3 false 0 0 falseT = R := ⟨_, rfl⟩
 have HR : Hid (valV 3 false 0 0 falseT = R) := hR
 rw [hR]
 clear hR
 obtain ⟨wa, wb, ha, hb, sa, _, B1, B2, X⟩ := mkB2 w [.int .i64 0, .bool false, .int .i64 0, .int .i64 0, sV []] [.int .i64 0, .bool false, .int .i64 0, .int .i64 0, sV []] 27 27
 obtain ⟨a0, a1, a2, a3, a4⟩ := Vec.five B1
 go_enter Tryz.func119, Tryz.ntmps119
 go_wp2_with fail
 clear ha hb sa a0 a1 a2 a3 a4
 refine (goodVI 0 false 0 0 [] wb (by decide) (by decide) (by decide) (hT.later X) (hE.later X)).mono ?_
 rintro e w1 ⟨rfl, e1⟩
 rw [show goodV 0 false 0 0 [] = true by decide]
 have C1 := B1.later e1
 have C2 := B2.later e1
 have X1 := xt X e1
 obtain ⟨a0, a1, a2, a3, a4⟩ := Vec.five C1
 go_wp2_with fail
 clear a0 a1 a2 a3 a4
 refine (boolVI false _).mono ?_
 rintro e w2 ⟨rfl, e2⟩
 obtain ⟨wy, hy, FX, ⟨b0, b1, b2, b3, b4⟩, ⟨fb0, fb1, fb2, fb3, fb4⟩, fd0, fd1, fd2, fd3, fd4⟩ := fin5 (C2.later e2) (xt X1 e2) (by omega) (3) (false) (0) (0) (falseT)
 go_wp2_with fail
 exact bodyPost_ret (v := valV 3 false 0 0 falseT) (by simp [results, Tryz.results119, go_sem, fd0, fd1, fd2, fd3, fd4]) rfl ⟨congrArg Ending.returned HR.out, FX⟩
/-- What stands for a value beside one of a kind. -/
def besideV (k : Int) (n : Bool) (d x : Int) (t : List UInt8) (k' : Int) : Value :=
 if k ≠ 0 then valV k n d x t else if k' = 1 then valV 1 false 0 0 [] else if k' = 2 then valV 2 false 0 0 [] else if k' = 3 then valV 3 false 0 0 falseT else valV k n d x t
set_option maxHeartbeats 1000000 in
theorem isErrI (k : Int) (n : Bool) (d x : Int) (t : List UInt8) (w : World) :
  Calls Tryz.prog 24 #[valV k n d x t] w fun e w' => e = .returned (.bool (decide (k = 4))) ∧ Ext w w' := by
 have X := x1 w (.cells #[.int .i64 k, .bool n, .int .i64 d, .int .i64 x, sV t] 27)
 by_cases h : k = 4
 ·
  subst h
  go_enter Tryz.func24, Tryz.ntmps24
  go_wp2_with fail
  go_ret
  exact ⟨rfl, X⟩
 ·
  rw [show decide (k = 4) = false by simpa using h]
  have hb : (k == 4) = false := by simpa using h
  go_enter Tryz.func24, Tryz.ntmps24
  go_wp2_with fail
  go_ret
  exact ⟨rfl, X⟩
set_option maxRecDepth 8000 in
set_option maxHeartbeats 2000000 in
theorem besideI (k : Int) (n : Bool) (d x : Int) (t : List UInt8) (k' : Int) (n' : Bool) (d' x' : Int) (t' : List UInt8) (w : World) (hT : Tens w) (hE : ErrTab w) (hg : goodV k n d x t = true) :
  Calls Tryz.prog 87 #[valV k n d x t, valV k' n' d' x' t'] w fun e w' => e = .returned (besideV k n d x t k') ∧ Ext w w' := by
 obtain ⟨R, hR⟩ : ∃ R, besideV k n d x t k' = R := ⟨_, rfl⟩
 have HR0 : Hid (besideV k n d x t k' = R) := hR
 rw [hR]
 clear hR
 have X1 := x1 w (.cells #[.int .i64 k, .bool n, .int .i64 d, .int .i64 x, sV t] 27)
 have B1 := vec_made w (valL k n d x t) 27
 obtain ⟨wa, ha⟩ : ∃ wa, w.alloc (.cells #[.int .i64 k, .bool n, .int .i64 d, .int .i64 x, sV t] 27) = wa := ⟨_, rfl⟩
 have X2 := x1 wa (.cells #[.int .i64 k', .bool n', .int .i64 d', .int .i64 x', sV t'] 27)
 have B2 := vec_made wa (valL k' n' d' x' t') 27
 obtain ⟨wb, hb⟩ : ∃ wb, wa.alloc (.cells #[.int .i64 k', .bool n', .int .i64 d', .int .i64 x', sV t'] 27) = wb := ⟨_, rfl⟩
 have sa : wa.heap.size = w.heap.size + 1 := by rw [← ha, World.size_alloc]
 have sb : wb.heap.size = w.heap.size + 1 + 1 := by rw [← hb, World.size_alloc, sa]
 change Vec (w.alloc (.cells #[.int .i64 k, .bool n, .int .i64 d, .int .i64 x, sV t] 27)) _ _ at B1
 change Vec (wa.alloc (.cells #[.int .i64 k', .bool n', .int .i64 d', .int .i64 x', sV t'] 27)) _ _ at B2
 rw [ha] at X1 B1
 rw [hb] at X2 B2
 rw [sa] at B2
 have B1 := B1.later X2
 have X := xt X1 X2
 have X3 := x1 wb (.cells #[.int .i64 0, .bool false, .int .i64 0, .int .i64 0, sV []] 27)
 have B3 := vec_made wb (valL 0 false 0 0 []) 27
 obtain ⟨wc, hc⟩ : ∃ wc, wb.alloc (.cells #[.int .i64 0, .bool false, .int .i64 0, .int .i64 0, sV []] 27) = wc := ⟨_, rfl⟩
 change Vec (wb.alloc (.cells #[.int .i64 0, .bool false, .int .i64 0, .int .i64 0, sV []] 27)) _ _ at B3
 rw [hc] at X3 B3
 rw [sb] at B3
 have B1 := B1.later X3
 have B2 := B2.later X3
 have X := xt X X3
 clear X1 X2 X3
 obtain ⟨a0, a1, a2, a3, a4⟩ := Vec.five B1
 obtain ⟨c0, c1, c2, c3, c4⟩ := Vec.five B2
 go_enter Tryz.func87, Tryz.ntmps87
 by_cases h0 : k = 0
 ·
  subst h0
  obtain ⟨rfl, rfl, rfl⟩ := goodV_zero hg (by decide)
  obtain rfl := goodV_empty hg
  have T1 := hT.later X
  have E1 := hE.later X
  clear hg hT hE
  by_cases h1 : k' = 1
  ·
   subst h1
   have HR : Hid (valV 1 false 0 0 [] = R) := by show _ = _; rw [← HR0.out]; simp [besideV]
   go_wp2_with fail
   clear ha hb hc sa sb a0 a1 a2 a3 a4 c0 c1 c2 c3 c4
   refine (numE wc T1 E1).mono ?_
   rintro e w2 ⟨rfl, e2⟩
   obtain ⟨wy, hy, FX, ⟨b0, b1, b2, b3, b4⟩, ⟨fb0, fb1, fb2, fb3, fb4⟩, fd0, fd1, fd2, fd3, fd4⟩ := fin5 (B3.later e2) (xt X e2) (by omega) (1) (false) (0) (0) ([])
   go_wp2_with fail
   exact bodyPost_ret (v := valV 1 false 0 0 []) (by simp [results, Tryz.results87, go_sem, fd0, fd1, fd2, fd3, fd4]) rfl ⟨congrArg Ending.returned HR.out, FX⟩
  ·
   by_cases h2 : k' = 2
   ·
    subst h2
    have HR : Hid (valV 2 false 0 0 [] = R) := by show _ = _; rw [← HR0.out]; simp [besideV]
    go_wp2_with fail
    clear ha hb hc sa sb a0 a1 a2 a3 a4 c0 c1 c2 c3 c4
    refine (textE wc T1 E1).mono ?_
    rintro e w2 ⟨rfl, e2⟩
    obtain ⟨wy, hy, FX, ⟨b0, b1, b2, b3, b4⟩, ⟨fb0, fb1, fb2, fb3, fb4⟩, fd0, fd1, fd2, fd3, fd4⟩ := fin5 (B3.later e2) (xt X e2) (by omega) (2) (false) (0) (0) ([])
    go_wp2_with fail
    exact bodyPost_ret (v := valV 2 false 0 0 []) (by simp [results, Tryz.results87, go_sem, fd0, fd1, fd2, fd3, fd4]) rfl ⟨congrArg Ending.returned HR.out, FX⟩
   ·
    by_cases h3 : k' = 3
    ·
     subst h3
     have HR : Hid (valV 3 false 0 0 falseT = R) := by show _ = _; rw [← HR0.out]; simp [besideV]
     go_wp2_with fail
     clear ha hb hc sa sb a0 a1 a2 a3 a4 c0 c1 c2 c3 c4
     refine (boolE wc T1 E1).mono ?_
     rintro e w2 ⟨rfl, e2⟩
     obtain ⟨wy, hy, FX, ⟨b0, b1, b2, b3, b4⟩, ⟨fb0, fb1, fb2, fb3, fb4⟩, fd0, fd1, fd2, fd3, fd4⟩ := fin5 (B3.later e2) (xt X e2) (by omega) (3) (false) (0) (0) (falseT)
     go_wp2_with fail
     exact bodyPost_ret (v := valV 3 false 0 0 falseT) (by simp [results, Tryz.results87, go_sem, fd0, fd1, fd2, fd3, fd4]) rfl ⟨congrArg Ending.returned HR.out, FX⟩
    ·
     have HR : Hid (valV 0 false 0 0 [] = R) := by show _ = _; rw [← HR0.out]; simp [besideV, h1, h2, h3]
     obtain ⟨wy, hy, FX, ⟨b0, b1, b2, b3, b4⟩, ⟨fb0, fb1, fb2, fb3, fb4⟩, fd0, fd1, fd2, fd3, fd4⟩ := fin5 (B3) (X) (by omega) (0) (false) (0) (0) ([])
     go_wp2_with fail
     exact bodyPost_ret (v := valV 0 false 0 0 []) (by simp [results, Tryz.results87, go_sem, fd0, fd1, fd2, fd3, fd4]) rfl ⟨congrArg Ending.returned HR.out, FX⟩
 ·
  have HR : Hid (valV k n d x t = R) := by show _ = _; rw [← HR0.out]; simp [besideV, h0]
  obtain ⟨wy, hy, FX, ⟨b0, b1, b2, b3, b4⟩, ⟨fb0, fb1, fb2, fb3, fb4⟩, fd0, fd1, fd2, fd3, fd4⟩ := fin5 (B3) (X) (by omega) (k) (n) (d) (x) (t)
  go_wp2_with fail
  exact bodyPost_ret (v := valV k n d x t) (by simp [results, Tryz.results87, go_sem, fd0, fd1, fd2, fd3, fd4]) rfl ⟨congrArg Ending.returned HR.out, FX⟩

set_option maxRecDepth 8000 in
set_option maxHeartbeats 2000000 in
theorem of_left (n : Bool) (d x : Int) (t : List UInt8) (k' : Int) (n' : Bool) (d' x' : Int) (t' : List UInt8) (fv : Value) (w : World) :
  Calls Tryz.prog 83 #[fv, valV 4 n d x t, valV k' n' d' x' t'] w fun e w' => e = .returned (valV 4 n d x t) ∧ Ext w w' := by
 obtain ⟨u0, u1, u2, h0, h1, h2, s0, s1, s2, B0, B1, B2, X⟩ := mkB3 w [.int .i64 4, .bool n, .int .i64 d, .int .i64 x, sV t] [.int .i64 k', .bool n', .int .i64 d', .int .i64 x', sV t'] [.int .i64 0, .bool false, .int .i64 0, .int .i64 0, sV []] 27 27 27
 obtain ⟨a0, a1, a2, a3, a4⟩ := Vec.five (B0)
 obtain ⟨c0, c1, c2, c3, c4⟩ := Vec.five (B1)
 go_enter Tryz.func83, Tryz.ntmps83
 go_wp2_with fail
 clear h0 s0 h1 s1 h2 s2 a0 a1 a2 a3 a4 c0 c1 c2 c3 c4
 refine (isErrI 4 n d x t u2).mono ?_
 rintro e w1 ⟨rfl, e1⟩
 obtain ⟨a0, a1, a2, a3, a4⟩ := Vec.five ((B0.later e1))
 rw [show decide ((4 : Int) = 4) = true from rfl]
 obtain ⟨wy, hy, FX, ⟨b0, b1, b2, b3, b4⟩, ⟨fb0, fb1, fb2, fb3, fb4⟩, fd0, fd1, fd2, fd3, fd4⟩ := fin5 (B2.later e1) (xt X e1) (by omega) 4 n d x t
 go_wp2_with fail
 exact bodyPost_ret (v := valV 4 n d x t) (by simp [results, Tryz.results83, go_sem, fd0, fd1, fd2, fd3, fd4]) rfl ⟨rfl, FX⟩
set_option maxRecDepth 8000 in
set_option maxHeartbeats 2000000 in
theorem of_go (k : Int) (n : Bool) (d x : Int) (t : List UInt8) (k' : Int) (n' : Bool) (d' x' : Int) (t' : List UInt8) (f : Nat) (HF : ∀ ar w, (callFunc f ar).run Tryz.prog w = .ok (.enter f ar) w) (h4 : k ≠ 4) (h4' : k' ≠ 4) (w : World) {k2 : Int} {n2 : Bool} {d2 x2 : Int} {t2 : List UInt8}
  (H : ∀ w1, Ext w w1 → Calls Tryz.prog f #[valV k n d x t, valV k' n' d' x' t'] w1 fun e w' => e = .returned (valV k2 n2 d2 x2 t2) ∧ Ext w1 w') :
  Calls Tryz.prog 83 #[.func (.func f) #[] #[], valV k n d x t, valV k' n' d' x' t'] w fun e w' => e = .returned (valV k2 n2 d2 x2 t2) ∧ Ext w w' := by
 obtain ⟨u0, u1, u2, h0, h1, h2, s0, s1, s2, B0, B1, B2, X⟩ := mkB3 w [.int .i64 k, .bool n, .int .i64 d, .int .i64 x, sV t] [.int .i64 k', .bool n', .int .i64 d', .int .i64 x', sV t'] [.int .i64 0, .bool false, .int .i64 0, .int .i64 0, sV []] 27 27 27
 obtain ⟨a0, a1, a2, a3, a4⟩ := Vec.five (B0)
 obtain ⟨c0, c1, c2, c3, c4⟩ := Vec.five (B1)
 go_enter Tryz.func83, Tryz.ntmps83
 go_wp2_with fail
 clear h0 s0 h1 s1 h2 s2 a0 a1 a2 a3 a4 c0 c1 c2 c3 c4
 refine (isErrI k n d x t u2).mono ?_
 rintro e w1 ⟨rfl, e1⟩
 rw [decide_eq_false h4]
 obtain ⟨c0, c1, c2, c3, c4⟩ := Vec.five ((B1.later e1))
 go_wp2_with fail
 clear c0 c1 c2 c3 c4
 refine (isErrI k' n' d' x' t' w1).mono ?_
 rintro e w2 ⟨rfl, e2⟩
 rw [decide_eq_false h4']
 have Xw := xt (xt X e1) e2
 have C0 := (B0.later e1).later e2
 have C1 := (B1.later e1).later e2
 have C2 := (B2.later e1).later e2
 clear B0 B1 B2 X e1 e2
 obtain ⟨a0, a1, a2, a3, a4⟩ := Vec.five (C0)
 obtain ⟨c0, c1, c2, c3, c4⟩ := Vec.five (C1)
 go_wp2_with fail
 clear a0 a1 a2 a3 a4 c0 c1 c2 c3 c4
 refine (H w2 Xw).mono ?_
 rintro e w3 ⟨rfl, e3⟩
 obtain ⟨wy, hy, FX, ⟨b0, b1, b2, b3, b4⟩, ⟨fb0, fb1, fb2, fb3, fb4⟩, fd0, fd1, fd2, fd3, fd4⟩ := fin5 (C2.later e3) (xt Xw e3) (by omega) k2 n2 d2 x2 t2
 go_wp2_with fail
 exact bodyPost_ret (v := valV k2 n2 d2 x2 t2) (by simp [results, Tryz.results83, go_sem, fd0, fd1, fd2, fd3, fd4]) rfl ⟨rfl, FX⟩
set_option maxRecDepth 8000 in
set_option maxHeartbeats 2000000 in
theorem of_cap (k : Int) (n : Bool) (d x : Int) (t : List UInt8) (k' : Int) (n' : Bool) (d' x' : Int) (t' : List UInt8) (p : Value) (f : Nat) (HF : ∀ ar w, (callFunc f ar).run Tryz.prog w = .ok (.enter f ar) w) (h4 : k ≠ 4) (h4' : k' ≠ 4) (w : World) {k2 : Int} {n2 : Bool} {d2 x2 : Int} {t2 : List UInt8}
  (H : ∀ w1, Ext w w1 → Calls Tryz.prog f #[valV k n d x t, valV k' n' d' x' t', p] w1 fun e w' => e = .returned (valV k2 n2 d2 x2 t2) ∧ Ext w1 w') :
  Calls Tryz.prog 83 #[.func (.func f) #[] #[p], valV k n d x t, valV k' n' d' x' t'] w fun e w' => e = .returned (valV k2 n2 d2 x2 t2) ∧ Ext w w' := by
 obtain ⟨u0, u1, u2, h0, h1, h2, s0, s1, s2, B0, B1, B2, X⟩ := mkB3 w [.int .i64 k, .bool n, .int .i64 d, .int .i64 x, sV t] [.int .i64 k', .bool n', .int .i64 d', .int .i64 x', sV t'] [.int .i64 0, .bool false, .int .i64 0, .int .i64 0, sV []] 27 27 27
 obtain ⟨a0, a1, a2, a3, a4⟩ := Vec.five (B0)
 obtain ⟨c0, c1, c2, c3, c4⟩ := Vec.five (B1)
 go_enter Tryz.func83, Tryz.ntmps83
 go_wp2_with fail
 clear h0 s0 h1 s1 h2 s2 a0 a1 a2 a3 a4 c0 c1 c2 c3 c4
 refine (isErrI k n d x t u2).mono ?_
 rintro e w1 ⟨rfl, e1⟩
 rw [decide_eq_false h4]
 obtain ⟨c0, c1, c2, c3, c4⟩ := Vec.five ((B1.later e1))
 go_wp2_with fail
 clear c0 c1 c2 c3 c4
 refine (isErrI k' n' d' x' t' w1).mono ?_
 rintro e w2 ⟨rfl, e2⟩
 rw [decide_eq_false h4']
 have Xw := xt (xt X e1) e2
 have C0 := (B0.later e1).later e2
 have C1 := (B1.later e1).later e2
 have C2 := (B2.later e1).later e2
 clear B0 B1 B2 X e1 e2
 obtain ⟨a0, a1, a2, a3, a4⟩ := Vec.five (C0)
 obtain ⟨c0, c1, c2, c3, c4⟩ := Vec.five (C1)
 go_wp2_with fail
 clear a0 a1 a2 a3 a4 c0 c1 c2 c3 c4
 refine (H w2 Xw).mono ?_
 rintro e w3 ⟨rfl, e3⟩
 obtain ⟨wy, hy, FX, ⟨b0, b1, b2, b3, b4⟩, ⟨fb0, fb1, fb2, fb3, fb4⟩, fd0, fd1, fd2, fd3, fd4⟩ := fin5 (C2.later e3) (xt Xw e3) (by omega) k2 n2 d2 x2 t2
 go_wp2_with fail
 exact bodyPost_ret (v := valV k2 n2 d2 x2 t2) (by simp [results, Tryz.results83, go_sem, fd0, fd1, fd2, fd3, fd4]) rfl ⟨rfl, FX⟩
end Go.Proofs.YtfgohahfppabbaaGreatDoor

namespace Go.Proofs.YtfgohahfppabbaaGreatDoor

/-- What limbs say, the lowest first. -/
def lv : List Int → Int
 | [] => 0
 | x :: xs => x + 1000000000 * lv xs

/-- Each limb has at most nine digits. -/
def Lim (xs : List Int) : Prop := ∀ x ∈ xs, 0 ≤ x ∧ x < 1000000000

theorem Lim.nil : Lim [] := fun _ h => by cases h
theorem Lim.cons {x : Int} {xs : List Int} (h0 : 0 ≤ x) (h1 : x < 1000000000) (h : Lim xs) : Lim (x :: xs) := fun y hy => by
 rcases List.mem_cons.1 hy with rfl | hy
 ·
  exact ⟨h0, h1⟩
 ·
  exact h y hy
theorem Lim.head {x : Int} {xs : List Int} (h : Lim (x :: xs)) : 0 ≤ x ∧ x < 1000000000 := h x (by simp)
theorem Lim.tail {x : Int} {xs : List Int} (h : Lim (x :: xs)) : Lim xs := fun y hy => h y (by simp [hy])
theorem Lim.take {xs : List Int} (h : Lim xs) (n : Nat) : Lim (xs.take n) := fun y hy => h y (List.mem_of_mem_take hy)
theorem Lim.drop {xs : List Int} (h : Lim xs) (n : Nat) : Lim (xs.drop n) := fun y hy => h y (List.mem_of_mem_drop hy)
theorem Lim.getD {xs : List Int} (h : Lim xs) (i : Nat) : 0 ≤ xs.getD i 0 ∧ xs.getD i 0 < 1000000000 := by
 by_cases hi : i < xs.length
 ·
  rw [List.getD_eq_getElem?_getD, List.getElem?_eq_getElem hi]
  exact h _ (List.getElem_mem hi)
 ·
  rw [List.getD_eq_getElem?_getD, List.getElem?_eq_none (by omega)]
  simp

theorem lv_nonneg : ∀ {xs : List Int}, Lim xs → 0 ≤ lv xs
 | [], _ => by simp [lv]
 | x :: xs, h => by
  have := lv_nonneg h.tail
  have := h.head
  simp only [lv]; omega

theorem lv_app : ∀ (xs ys : List Int), lv (xs ++ ys) = lv xs + 1000000000 ^ xs.length * lv ys
 | [], ys => by simp [lv]
 | x :: xs, ys => by
  simp only [List.cons_append, lv, lv_app xs ys, List.length_cons, Int.pow_succ]
  rw [Int.mul_add, Int.mul_comm (1000000000 ^ xs.length) 1000000000, ← Int.mul_assoc]
  omega

theorem lv_lt : ∀ {xs : List Int}, Lim xs → lv xs < 1000000000 ^ xs.length
 | [], _ => by simp [lv]
 | x :: xs, h => by
  have := lv_lt h.tail
  have := h.head
  simp only [lv, List.length_cons, Int.pow_succ]; omega

theorem pos_pow (n : Nat) : (0 : Int) < 1000000000 ^ n := Int.pow_pos (by decide)

/-- Where the highest limb is not nought, so many limbs are wanted. -/
theorem lv_ge {xs : List Int} (h : Lim xs) (hn : 0 < xs.length) (ht : xs.getD (xs.length - 1) 0 ≠ 0) : 1000000000 ^ (xs.length - 1) ≤ lv xs := by
 obtain ⟨ys, y, rfl⟩ : ∃ ys y, xs = ys ++ [y] := ⟨xs.dropLast, xs.getLast (by intro e; simp [e] at hn), (List.dropLast_concat_getLast _).symm⟩
 have h1 : (ys ++ [y]).getD ((ys ++ [y]).length - 1) 0 = y := by simp
 rw [h1] at ht
 have hy := h y (by simp)
 have h0 := lv_nonneg (fun z hz => h z (by simp [hz]) : Lim ys)
 rw [lv_app]
 simp only [List.length_append, List.length_singleton, Nat.add_sub_cancel, lv]
 have hp := pos_pow ys.length
 have : (1000000000 : Int) ^ ys.length * 1 ≤ 1000000000 ^ ys.length * (y + 1000000000 * 0) := Int.mul_le_mul_of_nonneg_left (by omega) (by omega)
 omega

/-- So many limbs, by what they say. -/
theorem len_le {xs : List Int} {k : Nat} (h : Lim xs) (ht : xs.length = 0 ∨ xs.getD (xs.length - 1) 0 ≠ 0) (hk : lv xs < 1000000000 ^ k) : xs.length ≤ k := by
 rcases ht with ht | ht
 ·
  omega
 ·
  by_cases hn : xs.length ≤ k
  ·
   exact hn
  ·
   have h1 := lv_ge h (by omega) ht
   have h2 : (1000000000 : Int) ^ k ≤ 1000000000 ^ (xs.length - 1) := by
    have := Nat.pow_le_pow_right (n := 1000000000) (by decide) (show k ≤ xs.length - 1 by omega)
    have h3 : ((1000000000 ^ k : Nat) : Int) ≤ ((1000000000 ^ (xs.length - 1) : Nat) : Int) := by exact_mod_cast this
    simpa using h3
   omega

theorem lv_take_succ (xs : List Int) (i : Nat) (h : i < xs.length) : lv (xs.take (i + 1)) = lv (xs.take i) + 1000000000 ^ i * xs.getD i 0 := by
 rw [List.take_succ_eq_append_getElem h, lv_app]
 simp [lv, List.length_take, Nat.min_eq_left (Nat.le_of_lt h), h]

theorem lv_set : ∀ (xs : List Int) (i : Nat) (v : Int), i < xs.length → lv (xs.set i v) = lv xs + 1000000000 ^ i * (v - xs.getD i 0)
 | [], _, _, h => by simp at h
 | x :: xs, 0, v, _ => by simp [lv]; omega
 | x :: xs, i + 1, v, h => by
  have := lv_set xs i v (by simpa using h)
  simp only [List.set_cons_succ, lv, this, List.getD_cons_succ, Int.pow_succ]
  rw [Int.mul_add, Int.mul_comm (1000000000 ^ i) 1000000000, Int.mul_assoc]
  omega
theorem getD_set {xs : List Int} {i j : Nat} {v : Int} (h : i < xs.length) : (xs.set i v).getD j 0 = if j = i then v else xs.getD j 0 := by
 simp only [List.getD_eq_getElem?_getD, List.getElem?_set]
 by_cases e : i = j
 ·
  subst e; simp [h]
 ·
  rw [if_neg e, if_neg (fun h => e h.symm)]
theorem Lim.set {xs : List Int} (h : Lim xs) (i : Nat) {v : Int} (h0 : 0 ≤ v) (h1 : v < 1000000000) : Lim (xs.set i v) := fun y hy => by
 rcases List.mem_or_eq_of_mem_set hy with hy | rfl
 ·
  exact h y hy
 ·
  exact ⟨h0, h1⟩
theorem lv_replicate (n : Nat) : lv (List.replicate n 0) = 0 := by
 induction n with
 | zero => rfl
 | succ n ih => simp [List.replicate_succ, lv, ih]
theorem Lim.zeros (n : Nat) : Lim (List.replicate n 0) := fun y hy => by
 rw [List.eq_of_mem_replicate hy]; decide
theorem getD_zeros (n i : Nat) : (List.replicate n (0 : Int)).getD i 0 = 0 := by
 simp only [List.getD_eq_getElem?_getD, List.getElem?_replicate]
 split <;> rfl

end Go.Proofs.YtfgohahfppabbaaGreatDoor

namespace Go.Proofs.YtfgohahfppabbaaGreatDoor

/-- The order of two numbers: -1, 0, 1. -/
def cmpI (a b : Int) : Int := if a < b then -1 else if b < a then 1 else 0
theorem cmpI_lt {a b : Int} (h : a < b) : cmpI a b = -1 := by unfold cmpI; rw [if_pos h]
theorem cmpI_gt {a b : Int} (h : b < a) : cmpI a b = 1 := by unfold cmpI; rw [if_neg (by omega), if_pos h]
theorem cmpI_eq (a : Int) : cmpI a a = 0 := by unfold cmpI; rw [if_neg (by omega), if_neg (by omega)]
theorem cmpI_neg (a b : Int) : -cmpI a b = cmpI (-a) (-b) := by unfold cmpI; split <;> (try split) <;> (try split) <;> (try split) <;> omega

theorem pow_le_pow {i j : Nat} (h : i ≤ j) : (1000000000 : Int) ^ i ≤ 1000000000 ^ j := by
 have := Nat.pow_le_pow_right (n := 1000000000) (by decide) h
 have h3 : ((1000000000 ^ i : Nat) : Int) ≤ ((1000000000 ^ j : Nat) : Int) := by exact_mod_cast this
 simpa using h3

theorem lv_len {xs ys : List Int} (lx : Lim xs) (ly : Lim ys) (ty : ys.getD (ys.length - 1) 0 ≠ 0) (h : xs.length < ys.length) : lv xs < lv ys := by
 have h1 := lv_lt lx
 have h2 := lv_ge ly (by omega) ty
 have h3 := pow_le_pow (show xs.length ≤ ys.length - 1 by omega)
 omega

theorem lv_split (xs : List Int) (j : Nat) (h : j < xs.length) : lv xs = lv (xs.take j) + 1000000000 ^ j * (xs.getD j 0 + 1000000000 * lv (xs.drop (j + 1))) := by
 have e : xs = xs.take j ++ (xs[j] :: xs.drop (j + 1)) := by rw [← List.drop_eq_getElem_cons h, List.take_append_drop]
 have h1 := congrArg lv e
 rw [lv_app] at h1
 simp only [lv, List.length_take, Nat.min_eq_left (Nat.le_of_lt h)] at h1
 rw [h1]
 simp [h]

theorem lv_top {xs ys : List Int} {j : Nat} (lx : Lim xs) (ly : Lim ys) (hx : j < xs.length) (hy : j < ys.length) (hd : xs.drop (j + 1) = ys.drop (j + 1)) (h : xs.getD j 0 < ys.getD j 0) : lv xs < lv ys := by
 rw [lv_split xs j hx, lv_split ys j hy, hd]
 have h1 := lv_lt (lx.take j)
 have h2 := lv_nonneg (ly.take j)
 have e : (xs.take j).length = j := by simp; omega
 rw [e] at h1
 generalize lv (ys.drop (j + 1)) = D at *
 generalize xs.getD j 0 = x at *
 generalize ys.getD j 0 = y at *
 generalize lv (xs.take j) = X at *
 generalize lv (ys.take j) = Y at *
 have hp := pos_pow j
 have h3 : (1000000000 : Int) ^ j * (x + 1000000000 * D + 1) ≤ 1000000000 ^ j * (y + 1000000000 * D) := Int.mul_le_mul_of_nonneg_left (by omega) (by omega)
 rw [Int.mul_add _ _ 1, Int.mul_one] at h3
 omega

theorem drop_step {xs ys : List Int} {j : Nat} (hx : j < xs.length) (hy : j < ys.length) (hd : xs.drop (j + 1) = ys.drop (j + 1)) (h : xs.getD j 0 = ys.getD j 0) : xs.drop j = ys.drop j := by
 rw [List.drop_eq_getElem_cons hx, List.drop_eq_getElem_cons hy, hd]
 have e1 : xs.getD j 0 = xs[j] := by simp [hx]
 have e2 : ys.getD j 0 = ys[j] := by simp [hy]
 rw [← e1, ← e2, h]

end Go.Proofs.YtfgohahfppabbaaGreatDoor

namespace Go.Proofs.YtfgohahfppabbaaGreatDoor

theorem ten_pow_pos (n : Nat) : 0 < 10 ^ n := Nat.pow_pos (by decide)

/-- How many digits; 0 has none. -/
def nd (a : Nat) : Nat := if h : a = 0 then 0 else nd (a / 10) + 1
termination_by a
decreasing_by omega

theorem nd_zero : nd 0 = 0 := by rw [nd]; simp
theorem nd_pos {a : Nat} (h : a ≠ 0) : nd a = nd (a / 10) + 1 := by rw [nd]; simp [h]
theorem nd_dig (a : Nat) : a < 10 ^ nd a ∧ (nd a = 0 ∨ 10 ^ (nd a - 1) ≤ a) := by
 induction a using Nat.strongRecOn with
 | ind a ih =>
  by_cases h : a = 0
  ·
   subst h; rw [nd_zero]; simp
  ·
   rw [nd_pos h]
   obtain ⟨h1, h2⟩ := ih (a / 10) (by omega)
   refine ⟨by rw [Nat.pow_succ]; omega, .inr ?_⟩
   rw [Nat.add_sub_cancel]
   by_cases h3 : a / 10 = 0
   ·
    rw [h3, nd_zero]; simp; omega
   ·
    have h4 : nd (a / 10) ≠ 0 := by rw [nd_pos h3]; omega
    have h5 := h2.resolve_left h4
    obtain ⟨m, hm⟩ : ∃ m, nd (a / 10) = m + 1 := ⟨nd (a / 10) - 1, by omega⟩
    rw [hm] at h5 ⊢
    rw [Nat.pow_succ]
    simp at h5
    omega
theorem pow10_le {i j : Nat} (h : i ≤ j) : 10 ^ i ≤ 10 ^ j := Nat.pow_le_pow_right (by decide) h
theorem pow10_lt_iff {i j : Nat} (h : 10 ^ i < 10 ^ j) : i < j := by
 by_cases e : i < j
 ·
  exact e
 ·
  have := pow10_le (show j ≤ i by omega); omega
theorem nd_eq {a k : Nat} (h1 : a < 10 ^ k) (h2 : k = 0 ∨ 10 ^ (k - 1) ≤ a) : nd a = k := by
 obtain ⟨h3, h4⟩ := nd_dig a
 have e1 : k ≤ nd a := by
  rcases h2 with h2 | h2
  ·
   omega
  ·
   have := pow10_lt_iff (i := k - 1) (j := nd a) (by omega)
   omega
 have e2 : nd a ≤ k := by
  rcases h4 with h4 | h4
  ·
   omega
  ·
   have := pow10_lt_iff (i := nd a - 1) (j := k) (by omega)
   omega
 omega
theorem nd_ge {a k : Nat} (h : 10 ^ k ≤ a) : k < nd a := pow10_lt_iff (Nat.lt_of_le_of_lt h (nd_dig a).1)
theorem nd_le {a k : Nat} (h : a < 10 ^ k) : nd a ≤ k := by
 rcases (nd_dig a).2 with h2 | h2
 ·
  omega
 ·
  have := pow10_lt_iff (i := nd a - 1) (j := k) (by omega)
  omega
theorem nd_lt {a k : Nat} (h : k < nd a) : 10 ^ k ≤ a := by
 rcases (nd_dig a).2 with h2 | h2
 ·
  omega
 ·
  exact Nat.le_trans (pow10_le (by omega)) h2

/-- What is cut off: nothing, below a half, a half, above a half, in units of the last digit that stays. -/
def restN (P cut : Nat) (more : Bool) : Nat :=
 if 10 ^ cut < 2 * (P % 10 ^ cut) ∨ (2 * (P % 10 ^ cut) = 10 ^ cut ∧ more = true) then 3
 else if 2 * (P % 10 ^ cut) = 10 ^ cut then 2
 else if 0 < P % 10 ^ cut ∨ more = true then 1 else 0
/-- Whether a mode goes one on. -/
def goesOn (mode : Nat) (odd : Bool) (rest : Nat) : Bool :=
 if mode = 0 then decide (rest = 3) || (decide (rest = 2) && odd) else if mode = 1 then decide (2 ≤ rest) else if mode = 2 then false else decide (rest ≠ 0)
def rndM (mode P cut : Nat) (more : Bool) : Nat := P / 10 ^ cut + if goesOn mode (decide (P / 10 ^ cut % 2 = 1)) (restN P cut more) = true then 1 else 0

/-- Noughts at the end go into the power of ten. -/
def strip (P : Nat) (e : Int) : Nat × Int := if h : P ≠ 0 ∧ P % 10 = 0 then strip (P / 10) (e + 1) else (P, e)
termination_by P
decreasing_by omega
theorem strip_ten {P : Nat} {e : Int} (h0 : P ≠ 0) (h : P % 10 = 0) : strip P e = strip (P / 10) (e + 1) := by rw [strip]; simp [h0, h]
theorem strip_stop {P : Nat} {e : Int} (h : P % 10 ≠ 0) : strip P e = (P, e) := by rw [strip]; simp [h]

/-- What is answered: whether it is one, and the decimal. -/
structure DR where
 ok : Bool
 neg : Bool
 d : Int
 e : Int

def fitR (neg : Bool) (P : Nat) (e : Int) : DR :=
 if P = 0 then ⟨true, false, 0, 0⟩
 else if 300 < (strip P e).2 then ⟨false, false, 0, 0⟩
 else if (strip P e).2 < -300 then ⟨true, false, 0, 0⟩
 else ⟨true, neg, (strip P e).1, (strip P e).2⟩
def putR (neg : Bool) (P : Nat) (e : Int) (more : Bool) : DR :=
 if 15 < nd P then fitR neg (rndM 0 P (nd P - 15) more) (e + ((nd P - 15 : Nat) : Int)) else fitR neg P e

theorem strip_pow (a : Nat) (ha : a % 10 ≠ 0) (m : Nat) (e : Int) : strip (a * 10 ^ m) e = (a, e + m) := by
 induction m generalizing e with
 | zero => rw [Nat.pow_zero, Nat.mul_one, strip_stop ha]; simp
 | succ m ih =>
  have h1 : a * 10 ^ (m + 1) = a * 10 ^ m * 10 := by rw [Nat.pow_succ, Nat.mul_assoc]
  have hp : 0 < a * 10 ^ m := Nat.mul_pos (by omega) (ten_pow_pos m)
  rw [h1, strip_ten (by omega) (by omega), Nat.mul_div_cancel _ (by decide), ih]
  congr 1
  omega
theorem strip_add (P : Nat) (e : Int) (k : Int) : strip P (e + k) = ((strip P e).1, (strip P e).2 + k) := by
 induction P using Nat.strongRecOn generalizing e with
 | ind P ih =>
  by_cases h : P ≠ 0 ∧ P % 10 = 0
  ·
   rw [strip_ten h.1 h.2, strip_ten h.1 h.2, show e + k + 1 = e + 1 + k by omega, ih (P / 10) (by omega)]
  ·
   rw [strip, dif_neg h, strip, dif_neg h]
theorem strip_scale (P : Nat) (m : Nat) (e : Int) (h0 : P ≠ 0) : strip (P * 10 ^ m) e = strip P (e + m) := by
 induction m generalizing e with
 | zero => simp
 | succ m ih =>
  have h1 : P * 10 ^ (m + 1) = P * 10 ^ m * 10 := by rw [Nat.pow_succ, Nat.mul_assoc]
  have hp : 0 < P * 10 ^ m := Nat.mul_pos (by omega) (ten_pow_pos m)
  rw [h1, strip_ten (by omega) (by omega), Nat.mul_div_cancel _ (by decide), ih]
  congr 1
  omega
theorem strip_le (P : Nat) (e : Int) : (strip P e).1 ≤ P ∧ e ≤ (strip P e).2 := by
 induction P using Nat.strongRecOn generalizing e with
 | ind P ih =>
  by_cases h : P ≠ 0 ∧ P % 10 = 0
  ·
   rw [strip_ten h.1 h.2]
   have := ih (P / 10) (by omega) (e + 1)
   omega
  ·
   rw [strip, dif_neg h]; simp
/-- A digit more is cut. -/
theorem rest_step (P n : Nat) (more : Bool) :
  restN P (n + 1) more = restN (P / 10 ^ n) 1 (more || decide (P % 10 ^ n ≠ 0)) := by
 obtain ⟨T, hT⟩ : ∃ T, 10 ^ n = T := ⟨_, rfl⟩
 have hp : 0 < T := by rw [← hT]; exact ten_pow_pos n
 have e1 : P % 10 ^ (n + 1) = P % T + T * (P / T % 10) := by
  rw [Nat.pow_succ, hT, Nat.mod_mul]
 have e2 : (10 : Nat) ^ (n + 1) = T * 10 := by rw [Nat.pow_succ, hT]
 unfold restN
 rw [e1, e2, hT, Nat.pow_one]
 have hs := Nat.mod_lt P hp
 generalize P % T = s at *
 have hl : P / T % 10 < 10 := Nat.mod_lt _ (by decide)
 generalize P / T % 10 = l at *
 have e3 : l = 0 ∨ l = 1 ∨ l = 2 ∨ l = 3 ∨ l = 4 ∨ l = 5 ∨ l = 6 ∨ l = 7 ∨ l = 8 ∨ l = 9 := by omega
 have e4 : (more || decide (s ≠ 0)) = true ↔ more = true ∨ s ≠ 0 := by simp
 simp only [e4]
 clear e4
 clear e1 e2 hT hl
 cases more
 all_goals simp only [Bool.false_eq_true, and_true, and_false, or_true, true_or, or_false, false_or]
 all_goals rcases e3 with h | h | h | h | h | h | h | h | h | h <;> subst h <;> (repeat' split) <;> omega

end Go.Proofs.YtfgohahfppabbaaGreatDoor

namespace Go.Proofs.YtfgohahfppabbaaGreatDoor

theorem div_pow (N i j : Nat) : N / 10 ^ i / 10 ^ j = N / 10 ^ (i + j) := by rw [Nat.div_div_eq_div_mul, Nat.pow_add]
theorem mod_pow (N i j : Nat) : N % 10 ^ (i + j) = N % 10 ^ i + 10 ^ i * (N / 10 ^ i % 10 ^ j) := by rw [Nat.pow_add, Nat.mod_mul]
theorem mod_pow_zero (N i j : Nat) : N % 10 ^ (i + j) ≠ 0 ↔ N % 10 ^ i ≠ 0 ∨ N / 10 ^ i % 10 ^ j ≠ 0 := by
 rw [mod_pow]
 have hp := ten_pow_pos i
 by_cases h : N / 10 ^ i % 10 ^ j = 0
 ·
  rw [h]; simp
 ·
  have : 0 < 10 ^ i * (N / 10 ^ i % 10 ^ j) := Nat.mul_pos hp (by omega)
  constructor
  ·
   intro _; exact .inr h
  ·
   intro _; omega

theorem rest_steps (P j cut : Nat) (more : Bool) (hc : 1 ≤ cut) : restN P (j + cut) more = restN (P / 10 ^ j) cut (more || decide (P % 10 ^ j ≠ 0)) := by
 obtain ⟨c, rfl⟩ : ∃ c, cut = c + 1 := ⟨cut - 1, by omega⟩
 rw [show j + (c + 1) = (j + c) + 1 by omega, rest_step P (j + c), rest_step (P / 10 ^ j) c, div_pow P j c]
 congr 1
 have e := mod_pow_zero P j c
 rw [Bool.or_assoc]
 congr 1
 rw [Bool.eq_iff_iff]
 simp only [Bool.or_eq_true, decide_eq_true_eq]
 exact e
theorem rnd_steps (mode P j cut : Nat) (more : Bool) (hc : 1 ≤ cut) : rndM mode P (j + cut) more = rndM mode (P / 10 ^ j) cut (more || decide (P % 10 ^ j ≠ 0)) := by
 unfold rndM
 rw [rest_steps P j cut more hc, div_pow]

theorem nd_div (N j : Nat) : nd (N / 10 ^ j) = nd N - j := by
 induction j with
 | zero => simp
 | succ j ih =>
  rw [← div_pow N j 1, Nat.pow_one]
  by_cases h : N / 10 ^ j = 0
  ·
   rw [h] at ih ⊢; simp only [Nat.zero_div, nd_zero] at *; omega
  ·
   have := nd_pos h
   omega
/-- More digits than sixteen change nothing but whether there is more. -/
theorem put_refine (neg : Bool) (N j : Nat) (e : Int) (m : Bool) (h : 15 < nd (N / 10 ^ j)) : putR neg N e m = putR neg (N / 10 ^ j) (e + j) (m || decide (N % 10 ^ j ≠ 0)) := by
 have hn := nd_div N j
 unfold putR
 rw [if_pos h, if_pos (by omega), show nd N - 15 = j + (nd (N / 10 ^ j) - 15) by omega, rnd_steps _ _ _ _ _ (by omega)]
 congr 1
 omega
theorem nd_mul (P j : Nat) (h : P ≠ 0) : nd (P * 10 ^ j) = nd P + j := by
 have := nd_div (P * 10 ^ j) j
 rw [Nat.mul_div_cancel _ (ten_pow_pos j)] at this
 have h2 : 0 < nd P := by rw [nd_pos h]; omega
 omega
theorem rest_below {P c : Nat} (h : 2 * (P % 10 ^ c) < 10 ^ c) : restN P c false ≤ 1 := by
 unfold restN
 rw [if_neg (by simp; omega), if_neg (by omega)]
 split <;> omega
theorem rest_above {P c : Nat} {m : Bool} (h : 10 ^ c < 2 * (P % 10 ^ c)) : restN P c m = 3 := by
 unfold restN
 rw [if_pos (.inl h)]
theorem goes_below (odd : Bool) {r : Nat} (h : r ≤ 1) : goesOn 0 odd r = false := by
 unfold goesOn
 have : r = 0 ∨ r = 1 := by omega
 rcases this with rfl | rfl <;> simp
theorem fit_scale (neg : Bool) (P m : Nat) (e : Int) : fitR neg (P * 10 ^ m) e = fitR neg P (e + m) := by
 unfold fitR
 by_cases h : P = 0
 ·
  subst h; simp
 ·
  have : P * 10 ^ m ≠ 0 := by have := Nat.mul_pos (show 0 < P by omega) (ten_pow_pos m); omega
  rw [if_neg h, if_neg this, strip_scale P m e h]
/-- A decimal that is good is put as it is. -/
theorem fit_good (neg : Bool) (d : Nat) (e : Int) (h : d % 10 ≠ 0) (e0 : -300 ≤ e) (e1 : e ≤ 300) : fitR neg d e = ⟨true, neg, d, e⟩ := by
 unfold fitR
 rw [if_neg (by omega), strip_stop h]
 simp only
 rw [if_neg (by omega), if_neg (by omega)]
theorem put_good (neg : Bool) (d : Nat) (e : Int) (h : d % 10 ≠ 0) (hd : d < 1000000000000000) (e0 : -300 ≤ e) (e1 : e ≤ 300) : putR neg d e false = ⟨true, neg, d, e⟩ := by
 unfold putR
 rw [if_neg (by have := nd_le (a := d) (k := 15) (by omega); omega), fit_good neg d e h e0 e1]

theorem rnd_near_up (Q b c : Nat) (h : 2 * b < 10 ^ c) : rndM 0 (Q * 10 ^ c + b) c false = Q := by
 have hp := ten_pow_pos c
 have e1 : (Q * 10 ^ c + b) / 10 ^ c = Q := by rw [Nat.mul_comm, Nat.mul_add_div hp, Nat.div_eq_of_lt (by omega)]; omega
 have e2 : (Q * 10 ^ c + b) % 10 ^ c = b := by rw [Nat.mul_comm, Nat.mul_add_mod, Nat.mod_eq_of_lt (by omega)]
 unfold rndM
 rw [e1, goes_below _ (rest_below (by rw [e2]; exact h))]
 simp
theorem rnd_near_down (Q b c : Nat) (hb : 0 < b) (h : 2 * b < 10 ^ c) (hQ : 0 < Q) : rndM 0 (Q * 10 ^ c - b) c false = Q := by
 have hp := ten_pow_pos c
 obtain ⟨q, rfl⟩ : ∃ q, Q = q + 1 := ⟨Q - 1, by omega⟩
 have e0 : (q + 1) * 10 ^ c - b = q * 10 ^ c + (10 ^ c - b) := by rw [Nat.add_mul]; omega
 rw [e0]
 have e1 : (q * 10 ^ c + (10 ^ c - b)) / 10 ^ c = q := by rw [Nat.mul_comm, Nat.mul_add_div hp, Nat.div_eq_of_lt (by omega)]; omega
 have e2 : (q * 10 ^ c + (10 ^ c - b)) % 10 ^ c = 10 ^ c - b := by rw [Nat.mul_comm, Nat.mul_add_mod, Nat.mod_eq_of_lt (by omega)]
 unfold rndM
 rw [e1, rest_above (by rw [e2]; omega)]
 simp [goesOn]

theorem far_pow : (10 : Nat) ^ 37 = 10000000000000000000000000000000000000 ∧ (10 : Nat) ^ 38 = 100000000000000000000000000000000000000 ∧ (10 : Nat) ^ 16 = 10000000000000000 := by decide
/-- A sum of what lies far apart. -/
theorem put_far (neg minus : Bool) (a b m : Nat) (e : Int) (ha : a % 10 ≠ 0) (ha1 : a < 1000000000000000) (hb : 0 < b) (hb1 : b < 1000000000000000) (hm : 38 < nd a + m) (e0 : -300 ≤ e + m) (e1 : e + m ≤ 300) :
  putR neg (if minus then a * 10 ^ m - b else a * 10 ^ m + b) e false = ⟨true, neg, a, e + m⟩ := by
 have na := nd_mul a m (by omega)
 have n15 := nd_le (a := a) (k := 15) (by omega)
 obtain ⟨A, hA⟩ : ∃ A, a * 10 ^ m = A := ⟨_, rfl⟩
 obtain ⟨f1, f2, f3⟩ := far_pow
 have A38 : 10 ^ 38 ≤ A := by rw [← hA]; exact nd_lt (by omega)
 obtain ⟨X, hX⟩ : ∃ X, (if minus then A - b else A + b) = X := ⟨_, rfl⟩
 have Xlo : 10 ^ 37 ≤ X := by rw [← hX]; split <;> omega
 have nlo := nd_ge Xlo
 have nhi : nd X ≤ nd a + m := by
  apply nd_le
  have h1 : (a + 1) * 10 ^ m ≤ 10 ^ nd a * 10 ^ m := Nat.mul_le_mul_right _ (nd_dig a).1
  rw [← Nat.pow_add, Nat.add_mul, hA] at h1
  have h2 : 10 ^ 16 ≤ 10 ^ m := pow10_le (by omega)
  have := ten_pow_pos m
  rw [← hX]; split <;> omega
 obtain ⟨c, hc⟩ : ∃ c, nd X - 15 = c := ⟨_, rfl⟩
 obtain ⟨r, hr⟩ : ∃ r, m = r + c := ⟨m - c, by omega⟩
 have c16 : 10 ^ 16 ≤ 10 ^ c := pow10_le (by omega)
 have hQ : A = a * 10 ^ r * 10 ^ c := by rw [← hA, hr, Nat.pow_add, Nat.mul_assoc]
 have Qp : 0 < a * 10 ^ r := Nat.mul_pos (by omega) (ten_pow_pos r)
 have hR : rndM 0 X c false = a * 10 ^ r := by
  rw [← hX, hQ]
  cases minus
  ·
   exact rnd_near_up _ _ _ (by omega)
  ·
   exact rnd_near_down _ _ _ hb (by omega) Qp
 rw [hA, hX]
 unfold putR
 rw [if_pos (by omega), hc, hR, fit_scale, show e + (c : Int) + (r : Int) = e + (m : Int) by omega, fit_good neg a _ ha e0 e1]

/-- A quotient with more places. -/
theorem div_refine (y T B : Nat) (hT : 0 < T) : y * T / B / T = y / B ∧ ((y * T % B ≠ 0 ∨ y * T / B % T ≠ 0) ↔ y % B ≠ 0) := by
 refine ⟨by rw [Nat.div_div_eq_div_mul, Nat.mul_div_mul_right _ _ hT], ?_⟩
 have h1 : y * T % (B * T) = y % B * T := Nat.mul_mod_mul_right _ _ _
 rw [Nat.mod_mul] at h1
 by_cases h : y % B = 0
 ·
  rw [h, Nat.zero_mul] at h1
  constructor
  ·
   intro h2
   by_cases hB : B = 0
   ·
    subst hB; simp at h; subst h; simp at h2
   ·
    rcases h2 with h2 | h2
    ·
     omega
    ·
     have : 0 < B * (y * T / B % T) := Nat.mul_pos (by omega) (by omega)
     omega
  ·
   intro h2; exact absurd h h2
 ·
  have h3 : 0 < y % B * T := Nat.mul_pos (by omega) hT
  constructor
  ·
   intro _; exact h
  ·
   intro _
   by_cases h4 : y * T % B = 0
   ·
    right
    intro h5
    rw [h4, h5] at h1
    simp at h1
    omega
   ·
    exact .inl h4
theorem put_div (neg : Bool) (A B u v : Nat) (e : Int) (h : 15 < nd (A * 10 ^ u / B)) (huv : u ≤ v) :
  putR neg (A * 10 ^ v / B) (e - v) (decide (A * 10 ^ v % B ≠ 0)) = putR neg (A * 10 ^ u / B) (e - u) (decide (A * 10 ^ u % B ≠ 0)) := by
 obtain ⟨j, rfl⟩ : ∃ j, v = u + j := ⟨v - u, by omega⟩
 have e1 : A * 10 ^ (u + j) = A * 10 ^ u * 10 ^ j := by rw [Nat.pow_add, Nat.mul_assoc]
 obtain ⟨d1, d2⟩ := div_refine (A * 10 ^ u) (10 ^ j) B (ten_pow_pos j)
 rw [e1, put_refine neg _ j _ _ (by rw [d1]; exact h), d1]
 congr 1
 ·
  omega
 ·
  rw [Bool.eq_iff_iff]
  simp only [Bool.or_eq_true, decide_eq_true_eq]
  exact d2

end Go.Proofs.YtfgohahfppabbaaGreatDoor

