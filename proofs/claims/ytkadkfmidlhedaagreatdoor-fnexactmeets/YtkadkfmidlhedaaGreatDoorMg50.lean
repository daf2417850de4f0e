/-
  Several texts in one: V9l, V9v.
-/
import Derived.Test.YtkadkfmidlhedaaGreatDoorMg49
import Derived.Test.YtkadkfmidlhedaaGreatDoorMg48
namespace Go.Proofs.YtkadkfmidlhedaaGreatDoor
open Go.RowKit

theorem opN_at {op : List UInt8} {o : Nat} (h : opN op = some o) : signL[o]? = some op := by
 unfold opN at h
 rw [List.findIdx?_eq_some_iff_getElem] at h
 obtain ⟨hlt, h1, _⟩ := h
 rw [List.getElem?_eq_getElem hlt]
 exact congrArg some (by simpa using h1)
theorem opN_no {op : List UInt8} (h : opN op = none) : ∀ p ∈ workL, p.1 ≠ op := by
 unfold opN at h
 rw [List.findIdx?_eq_none_iff] at h
 intro p hp e
 have hm : p.1 ∈ signL := by
  simp only [workL, List.mem_cons, List.not_mem_nil, or_false] at hp
  rcases hp with rfl | rfl | rfl | rfl | rfl | rfl | rfl | rfl | rfl | rfl | rfl | rfl <;> decide
 have := h _ hm
 simp [e] at this
theorem work_one : ∀ p ∈ workL, ∀ q ∈ workL, p.1 = q.1 → p.2 = q.2 := by
 have h : (workL.map Prod.fst).Nodup := by decide
 intro p hp q hq e
 obtain ⟨i, hi, rfl⟩ := List.getElem_of_mem hp
 obtain ⟨j, hj, rfl⟩ := List.getElem_of_mem hq
 have := (List.getElem_inj (xs := workL.map Prod.fst) (i := i) (j := j) (h₀ := by simpa using hi) (h₁ := by simpa using hj) h).1 (by simpa using e)
 subst this
 rfl
theorem op_work {op : List UInt8} {o : Nat} (h : opN op = some o) : ∃ f, (op, fnV f) ∈ workL ∧ (∀ p ∈ workL, p.1 = op → p.2 = fnV f) ∧ MakesI o f := by
 have h1 := opN_at h
 have h2 : o < 12 := (List.getElem?_eq_some_iff.1 h1).1
 match o, h1, h2 with
 | 0, h1, _ =>
  cases h1
  exact ⟨106, by simp [workL], fun p hp e => work_one p hp (_, _) (by simp [workL]) e, makes_0⟩
 | 1, h1, _ =>
  cases h1
  exact ⟨107, by simp [workL], fun p hp e => work_one p hp (_, _) (by simp [workL]) e, makes_1⟩
 | 2, h1, _ =>
  cases h1
  exact ⟨108, by simp [workL], fun p hp e => work_one p hp (_, _) (by simp [workL]) e, makes_2⟩
 | 3, h1, _ =>
  cases h1
  exact ⟨109, by simp [workL], fun p hp e => work_one p hp (_, _) (by simp [workL]) e, makes_3⟩
 | 4, h1, _ =>
  cases h1
  exact ⟨110, by simp [workL], fun p hp e => work_one p hp (_, _) (by simp [workL]) e, makes_4⟩
 | 5, h1, _ =>
  cases h1
  exact ⟨111, by simp [workL], fun p hp e => work_one p hp (_, _) (by simp [workL]) e, makes_5⟩
 | 6, h1, _ =>
  cases h1
  exact ⟨112, by simp [workL], fun p hp e => work_one p hp (_, _) (by simp [workL]) e, makes_6⟩
 | 7, h1, _ =>
  cases h1
  exact ⟨113, by simp [workL], fun p hp e => work_one p hp (_, _) (by simp [workL]) e, makes_7⟩
 | 8, h1, _ =>
  cases h1
  exact ⟨114, by simp [workL], fun p hp e => work_one p hp (_, _) (by simp [workL]) e, makes_8⟩
 | 9, h1, _ =>
  cases h1
  exact ⟨115, by simp [workL], fun p hp e => work_one p hp (_, _) (by simp [workL]) e, makes_9⟩
 | 10, h1, _ =>
  cases h1
  exact ⟨116, by simp [workL], fun p hp e => work_one p hp (_, _) (by simp [workL]) e, makes_10⟩
 | 11, h1, _ =>
  cases h1
  exact ⟨117, by simp [workL], fun p hp e => work_one p hp (_, _) (by simp [workL]) e, makes_11⟩
theorem ofI (o f : Nat) (M : MakesI o f) (k : Int) (n : Bool) (d x : Int) (t : List UInt8) (k' : Int) (n' : Bool) (d' x' : Int) (t' : List UInt8) (w : World) (hl : t.length ≤ 1048576) (hl' : t'.length ≤ 1048576) (d1 : -9223372036854775808 ≤ d) (d2 : d ≤ 9223372036854775807) (d1' : -9223372036854775808 ≤ d') (d2' : d' ≤ 9223372036854775807) (hT : Tens w) (hE : ErrTab w) (hI : ItoaC w) (ga : goodV k n d x t = true) (gb : goodV k' n' d' x' t' = true) :
  Calls Tryz.prog 64 #[fnV f, valV k n d x t, valV k' n' d' x' t'] w fun e w' => e = .returned (workV o k n d x t k' n' d' x' t') ∧ Ext w w' := by
 unfold workV
 by_cases h4 : k = 4
 ·
  subst h4
  rw [if_pos rfl]
  exact of_left n d x t k' n' d' x' t' (fnV f) w
 ·
  rw [if_neg h4]
  by_cases h4' : k' = 4
  ·
   subst h4'
   rw [if_pos rfl]
   exact of_right k n d x t n' d' x' t' (fnV f) h4 w
  ·
   rw [if_neg h4']
   obtain ⟨k2, n2, dd2, x2, t2, hv⟩ := makeV_val o k n d x t k' n' d' x' t'
   rw [hv]
   refine of_go k n d x t k' n' d' x' t' f M.1 h4 h4' w fun w1 h1 => ?_
   have := M.2 k n d x t k' n' d' x' t' w1 hl hl' d1 d2 d1' d2' (hT.later h1) (hE.later h1) (hI.later h1) ga gb h4 h4'
   rw [hv] at this
   exact this
set_option maxRecDepth 8000 in
set_option maxHeartbeats 2000000 in
theorem applyI (op : List UInt8) (k : Int) (n : Bool) (d x : Int) (t : List UInt8) (k' : Int) (n' : Bool) (d' x' : Int) (t' : List UInt8) (w : World) (ho : op.length ≤ 1048576) (hl : t.length ≤ 1048576) (hl' : t'.length ≤ 1048576) (d1 : -9223372036854775808 ≤ d) (d2 : d ≤ 9223372036854775807) (d1' : -9223372036854775808 ≤ d') (d2' : d' ≤ 9223372036854775807) (hT : Tens w) (hE : ErrTab w) (hI : ItoaC w) :
  Calls Tryz.prog 18 #[sV op, valV k n d x t, valV k' n' d' x' t'] w fun e w' => e = .returned (applyV op k n d x t k' n' d' x' t') ∧ Ext w w' := by
 obtain ⟨R, hR⟩ : ∃ R, applyV op k n d x t k' n' d' x' t' = R := ⟨_, rfl⟩
 have HR0 : Hid (applyV op k n d x t k' n' d' x' t' = R) := hR
 rw [hR]
 clear hR
 obtain ⟨u0, u1, u2, h0, h1, h2, s0, s1, s2, B0, B1, B2, X⟩ := mkB3 w [.int .i64 k, .bool n, .int .i64 d, .int .i64 x, sV t] [.int .i64 k', .bool n', .int .i64 d', .int .i64 x', sV t'] [.int .i64 0, .bool false, .int .i64 0, .int .i64 0, sV []] 26 26 26
 cases hop : opN op with
 | none =>
  have HR : Hid (evV nameT = R) := by show _ = _; rw [← HR0.out]; unfold applyV; rw [hop]
  go_enter Tryz.func18, Tryz.ntmps18
  go_wp2_with fail
  clear h0 h1 h2 s0 s1 s2
  refine (worksI u2).mono ?_
  rintro e w1 ⟨m, rfl, WM, e1⟩
  have LK := WM.lost workL_len ho (opN_no hop)
  clear WM hop HR0 hT hE hI hl hl' d1 d2 d1' d2' ho
  go_wp2_with fail
  clear LK
  refine (errVI nameT w1).mono ?_
  rintro e w2 ⟨rfl, e2⟩
  obtain ⟨wy, hy, FX, ⟨b0, b1, b2, b3, b4⟩, ⟨fb0, fb1, fb2, fb3, fb4⟩, fd0, fd1, fd2, fd3, fd4⟩ := fin5 ((B2.later e1).later e2) (xt (xt X e1) e2) (by omega) 4 false 0 0 nameT
  go_wp2_with fail
  exact bodyPost_ret (v := valV 4 false 0 0 nameT) (by simp [results, Tryz.results18, go_sem, fd0, fd1, fd2, fd3, fd4]) rfl ⟨congrArg Ending.returned HR.out, FX⟩
 | some o =>
  obtain ⟨f, hm, hu, M⟩ := op_work hop
  have HR1 : Hid ((if (goodV k n d x t && goodV k' n' d' x' t') = true then workV o k n d x t k' n' d' x' t' else errW) = R) := by show _ = _; rw [← HR0.out]; unfold applyV; rw [hop]
  clear HR0
  go_enter Tryz.func18, Tryz.ntmps18
  go_wp2_with fail
  clear h0 h1 h2 s0 s1 s2
  refine (worksI u2).mono ?_
  rintro e w1 ⟨m, rfl, WM, e1⟩
  have LK := WM.found workL_len hm hu
  have C0 := B0.later e1
  have C1 := B1.later e1
  have C2 := B2.later e1
  have X1 := xt X e1
  clear WM hop hm hu ho B0 B1 B2 X
  obtain ⟨a0, a1, a2, a3, a4⟩ := Vec.five (C0)
  go_wp2_with fail
  clear LK a0 a1 a2 a3 a4
  refine (goodVI k n d x t w1 (by omega) d1 d2 (hT.later X1) (hE.later X1)).mono ?_
  rintro e w2 ⟨rfl, e2⟩
  have D1 := C1.later e2
  have D0 := C0.later e2
  have D2 := C2.later e2
  have X2 := xt X1 e2
  clear C0 C1 C2
  obtain ⟨g, hg⟩ : ∃ g, goodV k n d x t = g := ⟨_, rfl⟩
  rw [hg] at HR1 ⊢
  cases g
  ·
   have HR : Hid (errW = R) := HR1
   clear HR1 hg
   go_wp2_with fail
   refine (errVI errT w2).mono ?_
   rintro e w3 ⟨rfl, e3⟩
   obtain ⟨wy, hy, FX, ⟨b0, b1, b2, b3, b4⟩, ⟨fb0, fb1, fb2, fb3, fb4⟩, fd0, fd1, fd2, fd3, fd4⟩ := fin5 (D2.later e3) (xt X2 e3) (by omega) 4 false 0 0 errT
   go_wp2_with fail
   exact bodyPost_ret (v := valV 4 false 0 0 errT) (by simp [results, Tryz.results18, go_sem, fd0, fd1, fd2, fd3, fd4]) rfl ⟨congrArg Ending.returned HR.out, FX⟩
  ·
   obtain ⟨c0, c1, c2, c3, c4⟩ := Vec.five (D1)
   go_wp2_with fail
   clear c0 c1 c2 c3 c4
   refine (goodVI k' n' d' x' t' w2 (by omega) d1' d2' (hT.later X2) (hE.later X2)).mono ?_
   rintro e w3 ⟨rfl, e3⟩
   have E0 := D0.later e3
   have E1 := D1.later e3
   have E2 := D2.later e3
   have X3 := xt X2 e3
   clear D0 D1 D2
   obtain ⟨g', hg'⟩ : ∃ g, goodV k' n' d' x' t' = g := ⟨_, rfl⟩
   rw [hg'] at HR1 ⊢
   cases g'
   ·
    have HR : Hid (errW = R) := HR1
    clear HR1 hg hg'
    go_wp2_with fail
    refine (errVI errT w3).mono ?_
    rintro e w4 ⟨rfl, e4⟩
    obtain ⟨wy, hy, FX, ⟨b0, b1, b2, b3, b4⟩, ⟨fb0, fb1, fb2, fb3, fb4⟩, fd0, fd1, fd2, fd3, fd4⟩ := fin5 (E2.later e4) (xt X3 e4) (by omega) 4 false 0 0 errT
    go_wp2_with fail
    exact bodyPost_ret (v := valV 4 false 0 0 errT) (by simp [results, Tryz.results18, go_sem, fd0, fd1, fd2, fd3, fd4]) rfl ⟨congrArg Ending.returned HR.out, FX⟩
   ·
    have HR2 : Hid (workV o k n d x t k' n' d' x' t' = R) := HR1
    obtain ⟨k2, n2, dd2, x2, t2, hv⟩ := workV_val o k n d x t k' n' d' x' t'
    have HR : Hid (valV k2 n2 dd2 x2 t2 = R) := by show _ = _; rw [← HR2.out, hv]
    have HP : Hid (Calls Tryz.prog 64 #[fnV f, valV k n d x t, valV k' n' d' x' t'] w3 fun e w' => e = .returned (valV k2 n2 dd2 x2 t2) ∧ Ext w3 w') := by
     show Calls _ _ _ _ _
     rw [← hv]
     exact ofI o f M k n d x t k' n' d' x' t' w3 hl hl' d1 d2 d1' d2' (hT.later X3) (hE.later X3) (hI.later X3) hg hg'
    clear HR1 HR2 hv hg hg' hT hE hI hl hl' d1 d2 d1' d2' M
    obtain ⟨a0, a1, a2, a3, a4⟩ := Vec.five (E0)
    obtain ⟨c0, c1, c2, c3, c4⟩ := Vec.five (E1)
    go_wp2_with fail
    clear a0 a1 a2 a3 a4 c0 c1 c2 c3 c4
    refine (HP.out).mono ?_
    rintro e w4 ⟨rfl, e4⟩
    obtain ⟨wy, hy, FX, ⟨b0, b1, b2, b3, b4⟩, ⟨fb0, fb1, fb2, fb3, fb4⟩, fd0, fd1, fd2, fd3, fd4⟩ := fin5 (E2.later e4) (xt X3 e4) (by omega) k2 n2 dd2 x2 t2
    go_wp2_with fail
    exact bodyPost_ret (v := valV k2 n2 dd2 x2 t2) (by simp [results, Tryz.results18, go_sem, fd0, fd1, fd2, fd3, fd4]) rfl ⟨congrArg Ending.returned HR.out, FX⟩

set_option maxRecDepth 8000 in
set_option maxHeartbeats 2000000 in
theorem l6reck (o : Nat) (op : List UInt8) (lv : Int) (hlv : (lv == 1) = false) (h38 : (op == [38]) = false)
  (HLv : Hid (∀ W, Calls Tryz.prog 119 #[sV op] W fun e w' => e = .returned (.int .i64 lv) ∧ w' = W))
  (HS : ∀ (n : Bool) (d e : Int) (n' : Bool) (d' e' : Int), goodB n d e = true → goodB n' d' e' = true → ∀ W, Calls Tryz.prog 121 #[sV op, decV n d e, decV n' d' e'] W fun rr w' => rr = .returned (stepV o n d e n' d' e') ∧ Ext W w')
  (k : Int) (n : Bool) (d x : Int) (t : List UInt8) (k' : Int) (n' : Bool) (d' x' : Int) (t' : List UInt8) (w : World) (hl : t.length ≤ 1048576) (hl' : t'.length ≤ 1048576) (ga : goodV k n d x t = true) (gb : goodV k' n' d' x' t' = true) (h4 : k ≠ 4) (h4' : k' ≠ 4) :
  Calls Tryz.prog 70 #[sV op, valV k n d x t, valV k' n' d' x' t'] w fun e w' => e = .returned (reckV o k n d x t k' n' d' x' t') ∧ Ext w w' := by
 have hk4 : (k == 4) = false := by simpa using h4
 have hk4' : (k' == 4) = false := by simpa using h4'
 have CA : Hid (∀ W, Calls Tryz.prog 120 #[valV k n d x t] W fun e w' => e = .returned (numOf k n d x t) ∧ Ext W w') := fun W => asNumS k n d x t W hl
 have CB : Hid (∀ W, Calls Tryz.prog 120 #[valV k' n' d' x' t'] W fun e w' => e = .returned (numOf k' n' d' x' t') ∧ Ext W w') := fun W => asNumS k' n' d' x' t' W hl'
 cases hA : numD k n d x t with
 | none =>
  rw [reckV_none hA]
  rw [numOf_none hA] at CA
  clear CB HS hA hl hl' ga gb h4 h4'
  obtain ⟨u0, u1, u2, h0, h1, h2, s0, s1, s2, B0, B1, B2, X⟩ := mkB3 w [.int .i64 k, .bool n, .int .i64 d, .int .i64 x, sV t] [.int .i64 k', .bool n', .int .i64 d', .int .i64 x', sV t'] [.int .i64 0, .bool false, .int .i64 0, .int .i64 0, sV []] 26 26 26
  obtain ⟨a0, a1, a2, a3, a4⟩ := Vec.five (B0)
  obtain ⟨c0, c1, c2, c3, c4⟩ := Vec.five (B1)
  go_enter Tryz.func70, Tryz.ntmps70
  go_wp2_with fail
  refine (HLv.out u2).mono ?_
  rintro e w0 ⟨rfl, rfl⟩
  go_wp2_with fail
  clear h0 s0 h1 s1 h2 s2 a0 a1 a2 a3 a4 c0 c1 c2 c3 c4 hk4 hk4'
  refine (CA.out w0).mono ?_
  rintro e w1 ⟨rfl, e1⟩
  obtain ⟨wz, wa1, hwz, hwa1, BN, Y, ⟨z0, z1, z2, z3, z4⟩, fz0, fz1, fz2, fz3, fz4⟩ := newB w1 (4) (false) (0) (0) (errT)
  obtain ⟨g0, g1, g2, g3, g4⟩ := Vec.five (BN)
  have C2 := (B2.later e1).later Y
  have Xy := xt (xt X e1) Y
  clear BN B0 B1 B2 CA
  obtain ⟨wy, hy, FX, ⟨b0, b1, b2, b3, b4⟩, ⟨fb0, fb1, fb2, fb3, fb4⟩, fd0, fd1, fd2, fd3, fd4⟩ := fin5 (C2) (Xy) (by omega) 4 false 0 0 errT
  go_wp2_with fail
  exact bodyPost_ret (v := valV 4 false 0 0 errT) (by simp [results, Tryz.results70, go_sem, fd0, fd1, fd2, fd3, fd4]) rfl ⟨rfl, FX⟩
 | some a =>
  obtain ⟨an, ad, ae⟩ := a
  obtain ⟨ea, gA⟩ := numOf_some ga h4 hA
  rw [ea] at CA
  cases hB : numD k' n' d' x' t' with
  | none =>
   rw [reckV_none' hA hB]
   rw [numOf_none hB] at CB
   clear HS hA hB hl hl' ga gb h4 h4' ea gA
   obtain ⟨u0, u1, u2, h0, h1, h2, s0, s1, s2, B0, B1, B2, X⟩ := mkB3 w [.int .i64 k, .bool n, .int .i64 d, .int .i64 x, sV t] [.int .i64 k', .bool n', .int .i64 d', .int .i64 x', sV t'] [.int .i64 0, .bool false, .int .i64 0, .int .i64 0, sV []] 26 26 26
   obtain ⟨a0, a1, a2, a3, a4⟩ := Vec.five (B0)
   obtain ⟨c0, c1, c2, c3, c4⟩ := Vec.five (B1)
   go_enter Tryz.func70, Tryz.ntmps70
   go_wp2_with fail
   refine (HLv.out u2).mono ?_
   rintro e w0 ⟨rfl, rfl⟩
   go_wp2_with fail
   clear h0 s0 h1 s1 h2 s2 a0 a1 a2 a3 a4 c0 c1 c2 c3 c4 hk4 hk4'
   refine (CA.out w0).mono ?_
   rintro e w1 ⟨rfl, e1⟩
   obtain ⟨wz, wa1, hwz, hwa1, BN, Y, ⟨z0, z1, z2, z3, z4⟩, fz0, fz1, fz2, fz3, fz4⟩ := newB w1 (1) (an) (ad) (ae) ([])
   obtain ⟨g0, g1, g2, g3, g4⟩ := Vec.five (BN)
   have C1 := (B1.later e1).later Y
   have C2 := (B2.later e1).later Y
   have Xy := xt (xt X e1) Y
   clear B0 B1 B2 CA X
   obtain ⟨c0, c1, c2, c3, c4⟩ := Vec.five (C1)
   go_wp2_with fail
   clear z0 fz0 z1 fz1 z2 fz2 z3 fz3 z4 fz4 g0 g1 g2 g3 g4 c0 c1 c2 c3 c4 hwz hwa1
   refine (CB.out wa1).mono ?_
   rintro e w2 ⟨rfl, e2⟩
   obtain ⟨wt, wu, hwt, hwu, BM, Y2, ⟨z0, z1, z2, z3, z4⟩, fz0, fz1, fz2, fz3, fz4⟩ := newB w2 (4) (false) (0) (0) (errT)
   obtain ⟨g0, g1, g2, g3, g4⟩ := Vec.five (BM)
   have D2 := (C2.later e2).later Y2
   have Xu := xt (xt Xy e2) Y2
   clear BM BN C1 C2 CB
   obtain ⟨wy, hy, FX, ⟨b0, b1, b2, b3, b4⟩, ⟨fb0, fb1, fb2, fb3, fb4⟩, fd0, fd1, fd2, fd3, fd4⟩ := fin5 (D2) (Xu) (by omega) 4 false 0 0 errT
   go_wp2_with fail
   exact bodyPost_ret (v := valV 4 false 0 0 errT) (by simp [results, Tryz.results70, go_sem, fd0, fd1, fd2, fd3, fd4]) rfl ⟨rfl, FX⟩
  | some b =>
   obtain ⟨bn, bd, be⟩ := b
   obtain ⟨eb, gB⟩ := numOf_some gb h4' hB
   rw [eb] at CB
   rw [reckV_some hA hB]
   show Calls _ _ _ _ fun e w' => e = .returned (stepV o an ad ae bn bd be) ∧ _
   have CS : Hid (∀ W, Calls Tryz.prog 121 #[sV op, decV an ad ae, decV bn bd be] W fun rr w' => rr = .returned (stepV o an ad ae bn bd be) ∧ Ext W w') := HS an ad ae bn bd be gA gB
   obtain ⟨k2, n2, dd2, x2, t2, hv⟩ := stepV_val o an ad ae bn bd be
   rw [hv] at CS ⊢
   clear HS hA hB hl hl' ga gb h4 h4' ea gA eb gB hv
   obtain ⟨u0, u1, u2, h0, h1, h2, s0, s1, s2, B0, B1, B2, X⟩ := mkB3 w [.int .i64 k, .bool n, .int .i64 d, .int .i64 x, sV t] [.int .i64 k', .bool n', .int .i64 d', .int .i64 x', sV t'] [.int .i64 0, .bool false, .int .i64 0, .int .i64 0, sV []] 26 26 26
   obtain ⟨a0, a1, a2, a3, a4⟩ := Vec.five (B0)
   obtain ⟨c0, c1, c2, c3, c4⟩ := Vec.five (B1)
   go_enter Tryz.func70, Tryz.ntmps70
   go_wp2_with fail
   refine (HLv.out u2).mono ?_
   rintro e w0 ⟨rfl, rfl⟩
   go_wp2_with fail
   clear h0 s0 h1 s1 h2 s2 a0 a1 a2 a3 a4 c0 c1 c2 c3 c4 hk4 hk4'
   refine (CA.out w0).mono ?_
   rintro e w1 ⟨rfl, e1⟩
   obtain ⟨wz, wa1, hwz, hwa1, BN, Y, ⟨z0, z1, z2, z3, z4⟩, fz0, fz1, fz2, fz3, fz4⟩ := newB w1 (1) (an) (ad) (ae) ([])
   obtain ⟨g0, g1, g2, g3, g4⟩ := Vec.five (BN)
   have C1 := (B1.later e1).later Y
   have C2 := (B2.later e1).later Y
   have Xy := xt (xt X e1) Y
   clear B0 B1 B2 CA X
   obtain ⟨c0, c1, c2, c3, c4⟩ := Vec.five (C1)
   go_wp2_with fail
   clear z0 fz0 z1 fz1 z2 fz2 z3 fz3 z4 fz4 g0 g1 g2 g3 g4 c0 c1 c2 c3 c4 hwz hwa1
   refine (CB.out wa1).mono ?_
   rintro e w2 ⟨rfl, e2⟩
   obtain ⟨wt, wu, hwt, hwu, BM, Y2, ⟨z0, z1, z2, z3, z4⟩, fz0, fz1, fz2, fz3, fz4⟩ := newB w2 (1) (bn) (bd) (be) ([])
   have BN2 := (BN.later e2).later Y2
   obtain ⟨g0, g1, g2, g3, g4⟩ := Vec.five (BM)
   obtain ⟨i0, i1, i2, i3, i4⟩ := Vec.five (BN2)
   have D2 := (C2.later e2).later Y2
   have Xu := xt (xt Xy e2) Y2
   clear BM BN BN2 C1 C2 CB
   go_wp2_with fail
   clear z0 fz0 z1 fz1 z2 fz2 z3 fz3 z4 fz4 g0 g1 g2 g3 g4 i0 i1 i2 i3 i4 hwt hwu
   refine (CS.out wu).mono ?_
   rintro e w3 ⟨rfl, e3⟩
   obtain ⟨wy, hy, FX, ⟨b0, b1, b2, b3, b4⟩, ⟨fb0, fb1, fb2, fb3, fb4⟩, fd0, fd1, fd2, fd3, fd4⟩ := fin5 (D2.later e3) (xt Xu e3) (by omega) k2 n2 dd2 x2 t2
   go_wp2_with fail
   exact bodyPost_ret (v := valV k2 n2 dd2 x2 t2) (by simp [results, Tryz.results70, go_sem, fd0, fd1, fd2, fd3, fd4]) rfl ⟨rfl, FX⟩
theorem l6ApplyS (op : List UInt8) (o : Nat) (hop : opN op = some o) (k : Int) (n : Bool) (d x : Int) (t : List UInt8) (k' : Int) (n' : Bool) (d' x' : Int) (t' : List UInt8) (w : World) (hl : t.length ≤ 1048576) (hl' : t'.length ≤ 1048576) (ga : goodV k n d x t = true) (gb : goodV k' n' d' x' t' = true) :
  Calls Tryz.prog 70 #[sV op, valV k n d x t, valV k' n' d' x' t'] w fun e w' => e = .returned (workV o k n d x t k' n' d' x' t') ∧ Ext w w' := by
 unfold workV
 by_cases h4 : k = 4
 ·
  subst h4
  rw [if_pos rfl]
  exact l6left op n d x t k' n' d' x' t' w
 ·
  rw [if_neg h4]
  by_cases h4' : k' = 4
  ·
   subst h4'
   rw [if_pos rfl]
   exact l6right op k n d x t n' d' x' t' w h4
  ·
   rw [if_neg h4']
   have h1 := opN_at hop
   have h2 : o < 12 := (List.getElem?_eq_some_iff.1 h1).1
   match o, h1, h2 with
   | 0, h1, _ =>
    cases h1
    exact l6reck 0 [43] 3 (by decide) (by decide) (fun W => level_0 W) (fun n d e n' d' e' ga gb W => plusS n d e n' d' e' W) k n d x t k' n' d' x' t' w hl hl' ga gb h4 h4'
   | 1, h1, _ =>
    cases h1
    exact l6reck 1 [45] 3 (by decide) (by decide) (fun W => level_1 W) (fun n d e n' d' e' ga gb W => minusS n d e n' d' e' W) k n d x t k' n' d' x' t' w hl hl' ga gb h4 h4'
   | 2, h1, _ =>
    cases h1
    exact l6reck 2 [42] 4 (by decide) (by decide) (fun W => level_2 W) (fun n d e n' d' e' ga gb W => timesS n d e n' d' e' W) k n d x t k' n' d' x' t' w hl hl' ga gb h4 h4'
   | 3, h1, _ =>
    cases h1
    exact l6reck 3 [47] 4 (by decide) (by decide) (fun W => level_3 W) (fun n d e n' d' e' ga gb W => overS n d e n' d' e' W) k n d x t k' n' d' x' t' w hl hl' ga gb h4 h4'
   | 4, h1, _ =>
    cases h1
    exact l6reck 4 [94] 5 (by decide) (by decide) (fun W => level_4 W) (fun n d e n' d' e' ga gb W => raiseS n d e n' d' e' W ga gb) k n d x t k' n' d' x' t' w hl hl' ga gb h4 h4'
   | 5, h1, _ =>
    cases h1
    exact l6join k n d x t k' n' d' x' t' w ga gb h4 h4'
   | 6, h1, _ =>
    cases h1
    exact l6ord_6 k n d x t k' n' d' x' t' w hl hl' ga gb h4 h4'
   | 7, h1, _ =>
    cases h1
    exact l6ord_7 k n d x t k' n' d' x' t' w hl hl' ga gb h4 h4'
   | 8, h1, _ =>
    cases h1
    exact l6ord_8 k n d x t k' n' d' x' t' w hl hl' ga gb h4 h4'
   | 9, h1, _ =>
    cases h1
    exact l6ord_9 k n d x t k' n' d' x' t' w hl hl' ga gb h4 h4'
   | 10, h1, _ =>
    cases h1
    exact l6ord_10 k n d x t k' n' d' x' t' w hl hl' ga gb h4 h4'
   | 11, h1, _ =>
    cases h1
    exact l6ord_11 k n d x t k' n' d' x' t' w hl hl' ga gb h4 h4'
end Go.Proofs.YtkadkfmidlhedaaGreatDoor

