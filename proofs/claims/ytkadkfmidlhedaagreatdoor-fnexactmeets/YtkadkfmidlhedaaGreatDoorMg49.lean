/-
  Several texts in one: V9p, V9k.
-/
import Derived.Test.YtkadkfmidlhedaaGreatDoorMg48
import Derived.Test.YtkadkfmidlhedaaGreatDoorMg44
import Derived.Test.YtkadkfmidlhedaaGreatDoorMg47
namespace Go.Proofs.YtkadkfmidlhedaaGreatDoor
open Go.RowKit

theorem Vec.putT {w : World} {b : Nat} {v0 v1 v2 : Value} (h : Vec w b [v0, v1, v2]) (u0 u1 u2 : Value) : Vec (((w.setCell ⟨b, 0, none⟩ u0).setCell ⟨b, 1, none⟩ u1).setCell ⟨b, 2, none⟩ u2) b [u0, u1, u2] :=
 ((h.put 0 (by simp) u0).put 1 (by simp) u1).put 2 (by simp) u2
set_option maxRecDepth 8000 in
set_option maxHeartbeats 2000000 in
theorem powerI (n : Bool) (d e : Int) (n' : Bool) (d' e' : Int) (w : World) (ga : goodB n d e = true) (gb : goodB n' d' e' = true) (hT : Tens w) :
  Calls Tryz.prog 160 #[decV n d e, decV n' d' e'] w fun rr w' => rr = .returned (powerV n d e n' d' e') ∧ Ext w w' := by
 have gA := good_all ga
 have gB := good_all gb
 have a1 : -9223372036854775808 ≤ d := by omega
 have a2 : d ≤ 9223372036854775807 := by omega
 have b1 : -9223372036854775808 ≤ d' := by omega
 have b2 : d' ≤ 9223372036854775807 := by omega
 have GA : Hid (d = 0 → e = 0 ∧ n = false) := gA.2.2.2.2.1
 have GB : Hid (d' = 0 → e' = 0 ∧ n' = false) := gB.2.2.2.2.1
 clear ga gb gA gB
 obtain ⟨ok, hok⟩ : ∃ ok, intOk n' d' e' = ok := ⟨_, rfl⟩
 obtain ⟨iz, hiz⟩ : ∃ iz, intR n' d' e' = iz := ⟨_, rfl⟩
 have HI : Hid (∀ W, Tens W → Calls Tryz.prog 205 #[decV n' d' e'] W fun r w' => r = .returned (.tuple #[.int .i64 iz, .bool ok]) ∧ Ext W w') := fun W hW => by rw [← hok, ← hiz]; exact intI n' d' e' W b1 b2 hW
 have HK : Hid (intOk n' d' e' = ok) := hok
 have HZ : Hid (intR n' d' e' = iz) := hiz
 clear hok hiz b1 b2
 obtain ⟨R, hR⟩ : ∃ R, powerV n d e n' d' e' = R := ⟨_, rfl⟩
 have HR0 : Hid (powerV n d e n' d' e' = R) := hR
 rw [hR]
 clear hR
 obtain ⟨u0, u1, u2, u3, h0, h1, h2, h3, s0, s1, s2, s3, B0, B1, B2, B3, X⟩ := mkB4 w [.bool n, .int .i64 d, .int .i64 e] [.bool n', .int .i64 d', .int .i64 e'] [.int .i64 0, .bool false, .int .i64 0, .int .i64 0, sV []] [.bool false, .int .i64 0, .int .i64 0] 24 24 26 24
 obtain ⟨wz, hz⟩ : ∃ wz, u3 = wz := ⟨_, rfl⟩
 rw [hz] at h3 s3 B0 B1 B2 B3 X
 clear hz
 have BQ := B3.putT (.bool false) (.int .i64 5) (.int .i64 (-1))
 have XQ : Ext w (((wz.setCell ⟨w.heap.size + 1 + 1 + 1, 0, none⟩ (.bool false)).setCell ⟨w.heap.size + 1 + 1 + 1, 1, none⟩ (.int .i64 5)).setCell ⟨w.heap.size + 1 + 1 + 1, 2, none⟩ (.int .i64 (-1))) := xset (xset (xset X (by simp only; omega) _) (by simp only; omega) _) (by simp only; omega) _
 have D0 := Vec.farL (k := w.heap.size + 1 + 1 + 1) (by omega) [.bool false, .int .i64 5, .int .i64 (-1)] 0 B0
 have D1 := Vec.farL (k := w.heap.size + 1 + 1 + 1) (by omega) [.bool false, .int .i64 5, .int .i64 (-1)] 0 B1
 have D2 := Vec.farL (k := w.heap.size + 1 + 1 + 1) (by omega) [.bool false, .int .i64 5, .int .i64 (-1)] 0 B2
 obtain ⟨wq, hq⟩ : ∃ wq, ((wz.setCell ⟨w.heap.size + 1 + 1 + 1, 0, none⟩ (.bool false)).setCell ⟨w.heap.size + 1 + 1 + 1, 1, none⟩ (.int .i64 5)).setCell ⟨w.heap.size + 1 + 1 + 1, 2, none⟩ (.int .i64 (-1)) = wq := ⟨_, rfl⟩
 change Vec (((wz.setCell ⟨w.heap.size + 1 + 1 + 1, 0, none⟩ (.bool false)).setCell ⟨w.heap.size + 1 + 1 + 1, 1, none⟩ (.int .i64 5)).setCell ⟨w.heap.size + 1 + 1 + 1, 2, none⟩ (.int .i64 (-1))) _ _ at D0 D1 D2
 rw [hq] at BQ XQ D0 D1 D2
 obtain ⟨z0, z1, z2⟩ := B3.three
 obtain ⟨y0, y1, y2⟩ := B3.threeF
 clear B0 B1 B2 B3 X
 obtain ⟨a0, a1, a2⟩ := Vec.three (D0)
 obtain ⟨c0, c1, c2⟩ := Vec.three (D1)
 obtain ⟨p0, p1, p2⟩ := Vec.three (BQ)
 go_enter Tryz.func160, Tryz.ntmps160
 go_wp2_with fail
 clear h0 h1 h2 h3 s0 s1 s2 s3 hq z0 z1 z2 y0 y1 y2 a0 a1 a2 c0 c1 c2 p0 p1 p2
 refine (HI.out wq (hT.later XQ)).mono ?_
 rintro rr w1 ⟨rfl, e1⟩
 have E0 := D0.later e1
 have E1 := D1.later e1
 have E2 := D2.later e1
 have EQ := BQ.later e1
 have X1 := xt XQ e1
 clear D0 D1 D2 BQ XQ HI e1
 obtain ⟨a0, a1, a2⟩ := Vec.three (E0)
 obtain ⟨c0, c1, c2⟩ := Vec.three (E1)
 obtain ⟨p0, p1, p2⟩ := Vec.three (EQ)
 clear E0 E1 EQ
 by_cases h0 : d = 0
 ·
  obtain ⟨q1, q2⟩ := GA.out h0
  subst h0 q1 q2
  by_cases h1 : d' = 0
  ·
   obtain ⟨q1, q2⟩ := GB.out h1
   subst h1 q1 q2
   have HR : Hid (evV numbT = R) := by show _ = _; rw [← HR0.out]; unfold powerV; rw [if_pos ⟨rfl, rfl⟩]
   go_wp2_with fail
   clear a0 a1 a2 c0 c1 c2 p0 p1 p2
   refine (errVI numbT w1).mono ?_
   rintro rr w2 ⟨rfl, e2⟩
   obtain ⟨wy, hy, FX, ⟨b0, b1, b2, b3, b4⟩, ⟨fb0, fb1, fb2, fb3, fb4⟩, fd0, fd1, fd2, fd3, fd4⟩ := fin5 (E2.later e2) (xt X1 e2) (by omega) 4 false 0 0 numbT
   go_wp2_with fail
   exact bodyPost_ret (v := valV 4 false 0 0 numbT) (by simp [results, Tryz.results160, go_sem, fd0, fd1, fd2, fd3, fd4]) rfl ⟨congrArg Ending.returned HR.out, FX⟩
  ·
   have hd : (d' == 0) = false := by simpa using h1
   cases n'
   ·
    cases ok
    ·
     by_cases hh : halfB false d' e' = true
     ·
      obtain ⟨q1, q2⟩ : d' = 5 ∧ e' = -1 := by simpa [halfB] using hh
      subst q1 q2
      have HR : Hid (putV (sqrtR false 0 0) = R) := by show _ = _; rw [← HR0.out]; unfold powerV; rw [if_neg (by simp), if_neg (by simp), if_neg (by rw [HK.out]; simp), if_pos hh]
      obtain ⟨k2, n2, d2, x2, t2, hv⟩ := putV_val (sqrtR false 0 0)
      have HV : Hid (putV (sqrtR false 0 0) = valV k2 n2 d2 x2 t2) := hv
      have HR3 : Hid (valV k2 n2 d2 x2 t2 = R) := by show _ = _; rw [← hv]; exact HR.out
      clear hv
      go_wp2_with fail
      clear a0 a1 a2 c0 c1 c2 p0 p1 p2
      refine (sqrtIV false 0 0 a1 a2 w1 (hT.later X1)).mono ?_
      rintro rr w2 ⟨rfl, e2⟩
      go_wp2_with fail
      refine (putVI (sqrtR false 0 0) w2).mono ?_
      rintro rr w3 ⟨rfl, e3⟩
      rw [HV.out]
      obtain ⟨wy, hy, FX, ⟨b0, b1, b2, b3, b4⟩, ⟨fb0, fb1, fb2, fb3, fb4⟩, fd0, fd1, fd2, fd3, fd4⟩ := fin5 ((E2.later e2).later e3) (xt (xt X1 e2) e3) (by omega) k2 n2 d2 x2 t2
      go_wp2_with fail
      exact bodyPost_ret (v := valV k2 n2 d2 x2 t2) (by simp [results, Tryz.results160, go_sem, fd0, fd1, fd2, fd3, fd4]) rfl ⟨congrArg Ending.returned HR3.out, FX⟩
     ·
      have HR : Hid (evV numbT = R) := by show _ = _; rw [← HR0.out]; unfold powerV; rw [if_neg (by simp [h1]), if_neg (by simp), if_neg (by rw [HK.out]; simp), if_neg hh]
      have hh2 : d' ≠ 5 ∨ (d' = 5 ∧ e' ≠ -1) := by
       by_cases hd : d' = 5
       ·
        exact Or.inr ⟨hd, fun hx => hh (by simp [halfB, hd, hx])⟩
       ·
        exact Or.inl hd
      clear hh HR0
      rcases hh2 with hd5 | ⟨hd5, he1⟩
      ·
       have hd6 : (d' == 5) = false := by simpa using hd5
       go_wp2_with fail
       clear a0 a1 a2 c0 c1 c2 p0 p1 p2
       refine (errVI numbT w1).mono ?_
       rintro rr w2 ⟨rfl, e2⟩
       obtain ⟨wy, hy, FX, ⟨b0, b1, b2, b3, b4⟩, ⟨fb0, fb1, fb2, fb3, fb4⟩, fd0, fd1, fd2, fd3, fd4⟩ := fin5 (E2.later e2) (xt X1 e2) (by omega) 4 false 0 0 numbT
       go_wp2_with fail
       exact bodyPost_ret (v := valV 4 false 0 0 numbT) (by simp [results, Tryz.results160, go_sem, fd0, fd1, fd2, fd3, fd4]) rfl ⟨congrArg Ending.returned HR.out, FX⟩
      ·
       subst hd5
       have he6 : (e' == -1) = false := by simpa using he1
       go_wp2_with fail
       clear a0 a1 a2 c0 c1 c2 p0 p1 p2
       refine (errVI numbT w1).mono ?_
       rintro rr w2 ⟨rfl, e2⟩
       obtain ⟨wy, hy, FX, ⟨b0, b1, b2, b3, b4⟩, ⟨fb0, fb1, fb2, fb3, fb4⟩, fd0, fd1, fd2, fd3, fd4⟩ := fin5 (E2.later e2) (xt X1 e2) (by omega) 4 false 0 0 numbT
       go_wp2_with fail
       exact bodyPost_ret (v := valV 4 false 0 0 numbT) (by simp [results, Tryz.results160, go_sem, fd0, fd1, fd2, fd3, fd4]) rfl ⟨congrArg Ending.returned HR.out, FX⟩
    ·
     have HR : Hid (putV (powR false 0 0 iz) = R) := by show _ = _; rw [← HR0.out]; unfold powerV; rw [if_neg (by simp [h1]), if_neg (by simp), if_pos (by rw [HK.out]), HZ.out]
     obtain ⟨k2, n2, d2, x2, t2, hv⟩ := putV_val (powR false 0 0 iz)
     have HV : Hid (putV (powR false 0 0 iz) = valV k2 n2 d2 x2 t2) := hv
     have HR3 : Hid (valV k2 n2 d2 x2 t2 = R) := by show _ = _; rw [← hv]; exact HR.out
     clear hv
     go_wp2_with fail
     clear a0 a1 a2 c0 c1 c2 p0 p1 p2
     refine (powI false 0 0 iz w1 a1 a2 (hT.later X1)).mono ?_
     rintro rr w2 ⟨rfl, e2⟩
     go_wp2_with fail
     refine (putVI (powR false 0 0 iz) w2).mono ?_
     rintro rr w3 ⟨rfl, e3⟩
     rw [HV.out]
     obtain ⟨wy, hy, FX, ⟨b0, b1, b2, b3, b4⟩, ⟨fb0, fb1, fb2, fb3, fb4⟩, fd0, fd1, fd2, fd3, fd4⟩ := fin5 ((E2.later e2).later e3) (xt (xt X1 e2) e3) (by omega) k2 n2 d2 x2 t2
     go_wp2_with fail
     exact bodyPost_ret (v := valV k2 n2 d2 x2 t2) (by simp [results, Tryz.results160, go_sem, fd0, fd1, fd2, fd3, fd4]) rfl ⟨congrArg Ending.returned HR3.out, FX⟩
   ·
    have HR : Hid (evV divT = R) := by show _ = _; rw [← HR0.out]; unfold powerV; rw [if_neg (by simp [h1]), if_pos ⟨rfl, rfl⟩]
    go_wp2_with fail
    clear a0 a1 a2 c0 c1 c2 p0 p1 p2
    refine (errVI divT w1).mono ?_
    rintro rr w2 ⟨rfl, e2⟩
    obtain ⟨wy, hy, FX, ⟨b0, b1, b2, b3, b4⟩, ⟨fb0, fb1, fb2, fb3, fb4⟩, fd0, fd1, fd2, fd3, fd4⟩ := fin5 (E2.later e2) (xt X1 e2) (by omega) 4 false 0 0 divT
    go_wp2_with fail
    exact bodyPost_ret (v := valV 4 false 0 0 divT) (by simp [results, Tryz.results160, go_sem, fd0, fd1, fd2, fd3, fd4]) rfl ⟨congrArg Ending.returned HR.out, FX⟩
 ·
  have hd0 : (d == 0) = false := by simpa using h0
  cases ok
  ·
   by_cases hh : halfB n' d' e' = true
   ·
    obtain ⟨q0, q1, q2⟩ : n' = false ∧ d' = 5 ∧ e' = -1 := by simpa [halfB, and_assoc] using hh
    subst q0 q1 q2
    have HR : Hid (putV (sqrtR n d e) = R) := by show _ = _; rw [← HR0.out]; unfold powerV; rw [if_neg (by simp), if_neg (by simp), if_neg (by rw [HK.out]; simp), if_pos hh]
    obtain ⟨k2, n2, d2, x2, t2, hv⟩ := putV_val (sqrtR n d e)
    have HV : Hid (putV (sqrtR n d e) = valV k2 n2 d2 x2 t2) := hv
    have HR3 : Hid (valV k2 n2 d2 x2 t2 = R) := by show _ = _; rw [← hv]; exact HR.out
    clear hv
    go_wp2_with fail
    clear a0 a1 a2 c0 c1 c2 p0 p1 p2
    refine (sqrtIV n d e a1 a2 w1 (hT.later X1)).mono ?_
    rintro rr w2 ⟨rfl, e2⟩
    go_wp2_with fail
    refine (putVI (sqrtR n d e) w2).mono ?_
    rintro rr w3 ⟨rfl, e3⟩
    rw [HV.out]
    obtain ⟨wy, hy, FX, ⟨b0, b1, b2, b3, b4⟩, ⟨fb0, fb1, fb2, fb3, fb4⟩, fd0, fd1, fd2, fd3, fd4⟩ := fin5 ((E2.later e2).later e3) (xt (xt X1 e2) e3) (by omega) k2 n2 d2 x2 t2
    go_wp2_with fail
    exact bodyPost_ret (v := valV k2 n2 d2 x2 t2) (by simp [results, Tryz.results160, go_sem, fd0, fd1, fd2, fd3, fd4]) rfl ⟨congrArg Ending.returned HR3.out, FX⟩
   ·
    have HR : Hid (evV numbT = R) := by show _ = _; rw [← HR0.out]; unfold powerV; rw [if_neg (by simp [h0]), if_neg (by simp [h0]), if_neg (by rw [HK.out]; simp), if_neg hh]
    have hh2 : n' = true ∨ (n' = false ∧ (d' ≠ 5 ∨ (d' = 5 ∧ e' ≠ -1))) := by
     cases n'
     ·
      right
      refine ⟨rfl, ?_⟩
      by_cases hd : d' = 5
      ·
       exact Or.inr ⟨hd, fun hx => hh (by simp [halfB, hd, hx])⟩
      ·
       exact Or.inl hd
     ·
      exact Or.inl rfl
    clear hh HR0
    rcases hh2 with hn | ⟨hn, hd5 | ⟨hd5, he1⟩⟩
    ·
     subst hn
     go_wp2_with fail
     clear a0 a1 a2 c0 c1 c2 p0 p1 p2
     refine (errVI numbT w1).mono ?_
     rintro rr w2 ⟨rfl, e2⟩
     obtain ⟨wy, hy, FX, ⟨b0, b1, b2, b3, b4⟩, ⟨fb0, fb1, fb2, fb3, fb4⟩, fd0, fd1, fd2, fd3, fd4⟩ := fin5 (E2.later e2) (xt X1 e2) (by omega) 4 false 0 0 numbT
     go_wp2_with fail
     exact bodyPost_ret (v := valV 4 false 0 0 numbT) (by simp [results, Tryz.results160, go_sem, fd0, fd1, fd2, fd3, fd4]) rfl ⟨congrArg Ending.returned HR.out, FX⟩
    ·
     subst hn
     have hd6 : (d' == 5) = false := by simpa using hd5
     go_wp2_with fail
     clear a0 a1 a2 c0 c1 c2 p0 p1 p2
     refine (errVI numbT w1).mono ?_
     rintro rr w2 ⟨rfl, e2⟩
     obtain ⟨wy, hy, FX, ⟨b0, b1, b2, b3, b4⟩, ⟨fb0, fb1, fb2, fb3, fb4⟩, fd0, fd1, fd2, fd3, fd4⟩ := fin5 (E2.later e2) (xt X1 e2) (by omega) 4 false 0 0 numbT
     go_wp2_with fail
     exact bodyPost_ret (v := valV 4 false 0 0 numbT) (by simp [results, Tryz.results160, go_sem, fd0, fd1, fd2, fd3, fd4]) rfl ⟨congrArg Ending.returned HR.out, FX⟩
    ·
     subst hn
     subst hd5
     have he6 : (e' == -1) = false := by simpa using he1
     go_wp2_with fail
     clear a0 a1 a2 c0 c1 c2 p0 p1 p2
     refine (errVI numbT w1).mono ?_
     rintro rr w2 ⟨rfl, e2⟩
     obtain ⟨wy, hy, FX, ⟨b0, b1, b2, b3, b4⟩, ⟨fb0, fb1, fb2, fb3, fb4⟩, fd0, fd1, fd2, fd3, fd4⟩ := fin5 (E2.later e2) (xt X1 e2) (by omega) 4 false 0 0 numbT
     go_wp2_with fail
     exact bodyPost_ret (v := valV 4 false 0 0 numbT) (by simp [results, Tryz.results160, go_sem, fd0, fd1, fd2, fd3, fd4]) rfl ⟨congrArg Ending.returned HR.out, FX⟩
  ·
   have HR : Hid (putV (powR n d e iz) = R) := by show _ = _; rw [← HR0.out]; unfold powerV; rw [if_neg (by simp [h0]), if_neg (by simp [h0]), if_pos (by rw [HK.out]), HZ.out]
   obtain ⟨k2, n2, d2, x2, t2, hv⟩ := putV_val (powR n d e iz)
   have HV : Hid (putV (powR n d e iz) = valV k2 n2 d2 x2 t2) := hv
   have HR3 : Hid (valV k2 n2 d2 x2 t2 = R) := by show _ = _; rw [← hv]; exact HR.out
   clear hv
   go_wp2_with fail
   clear a0 a1 a2 c0 c1 c2 p0 p1 p2
   refine (powI n d e iz w1 a1 a2 (hT.later X1)).mono ?_
   rintro rr w2 ⟨rfl, e2⟩
   go_wp2_with fail
   refine (putVI (powR n d e iz) w2).mono ?_
   rintro rr w3 ⟨rfl, e3⟩
   rw [HV.out]
   obtain ⟨wy, hy, FX, ⟨b0, b1, b2, b3, b4⟩, ⟨fb0, fb1, fb2, fb3, fb4⟩, fd0, fd1, fd2, fd3, fd4⟩ := fin5 ((E2.later e2).later e3) (xt (xt X1 e2) e3) (by omega) k2 n2 d2 x2 t2
   go_wp2_with fail
   exact bodyPost_ret (v := valV k2 n2 d2 x2 t2) (by simp [results, Tryz.results160, go_sem, fd0, fd1, fd2, fd3, fd4]) rfl ⟨congrArg Ending.returned HR3.out, FX⟩

theorem enter_reck : ∀ ar w, (callFunc 203 ar).run Tryz.prog w = .ok (.enter 203 ar) w := fun ar w => by kernel_rfl
theorem reckV_none {o : Nat} {k : Int} {n : Bool} {d x : Int} {t : List UInt8} {k' : Int} {n' : Bool} {d' x' : Int} {t' : List UInt8} (h : numD k n d x t = none) : reckV o k n d x t k' n' d' x' t' = errW := by
 unfold reckV; rw [h]
theorem reckV_none' {o : Nat} {k : Int} {n : Bool} {d x : Int} {t : List UInt8} {k' : Int} {n' : Bool} {d' x' : Int} {t' : List UInt8} {a : Bool × Int × Int} (h : numD k n d x t = some a) (h' : numD k' n' d' x' t' = none) : reckV o k n d x t k' n' d' x' t' = errW := by
 unfold reckV; rw [h]; simp only; rw [h']
theorem reckV_some {o : Nat} {k : Int} {n : Bool} {d x : Int} {t : List UInt8} {k' : Int} {n' : Bool} {d' x' : Int} {t' : List UInt8} {a b : Bool × Int × Int} (h : numD k n d x t = some a) (h' : numD k' n' d' x' t' = some b) : reckV o k n d x t k' n' d' x' t' = stepV o a.1 a.2.1 a.2.2 b.1 b.2.1 b.2.2 := by
 unfold reckV; rw [h]; simp only; rw [h']
/-- A step of the program: what it makes of two good numbers. -/
def Step (o f : Nat) : Prop := (∀ ar w, (callFunc f ar).run Tryz.prog w = .ok (.enter f ar) w) ∧
 ∀ (n : Bool) (d e : Int) (n' : Bool) (d' e' : Int), goodB n d e = true → goodB n' d' e' = true → ∀ W, Tens W → Calls Tryz.prog f #[decV n d e, decV n' d' e'] W fun rr w' => rr = .returned (stepV o n d e n' d' e') ∧ Ext W w'
theorem good_bnd {n : Bool} {d e : Int} (h : goodB n d e = true) : -9223372036854775808 ≤ d ∧ d ≤ 9223372036854775807 := by
 have := good_all h
 omega
theorem step_plus : Step 0 151 := ⟨fun ar w => by kernel_rfl, fun n d e n' d' e' ga gb W hT => plus1I n d e n' d' e' W (good_bnd ga).1 (good_bnd ga).2 (good_bnd gb).1 (good_bnd gb).2 hT⟩
theorem step_minus : Step 1 154 := ⟨fun ar w => by kernel_rfl, fun n d e n' d' e' ga gb W hT => minus1I n d e n' d' e' W (good_bnd ga).1 (good_bnd ga).2 (good_bnd gb).1 (good_bnd gb).2 hT⟩
theorem step_times : Step 2 156 := ⟨fun ar w => by kernel_rfl, fun n d e n' d' e' ga gb W hT => times1I n d e n' d' e' W (good_bnd ga).1 (good_bnd ga).2 (good_bnd gb).1 (good_bnd gb).2 hT⟩
theorem step_over : Step 3 158 := ⟨fun ar w => by kernel_rfl, fun n d e n' d' e' ga gb W hT => over1I n d e n' d' e' W (good_bnd ga).1 (good_bnd ga).2 (good_bnd gb).1 (good_bnd gb).2 hT gb⟩
theorem step_power : Step 4 160 := ⟨fun ar w => by kernel_rfl, fun n d e n' d' e' ga gb W hT => powerI n d e n' d' e' W ga gb hT⟩
theorem reckI (o f : Nat) (S : Step o f) (k : Int) (n : Bool) (d x : Int) (t : List UInt8) (k' : Int) (n' : Bool) (d' x' : Int) (t' : List UInt8) (w : World) (hl : t.length ≤ 1048576) (hl' : t'.length ≤ 1048576) (d1 : -9223372036854775808 ≤ d) (d2 : d ≤ 9223372036854775807) (d1' : -9223372036854775808 ≤ d') (d2' : d' ≤ 9223372036854775807) (hT : Tens w) (hE : ErrTab w) (ga : goodV k n d x t = true) (gb : goodV k' n' d' x' t' = true) (h4 : k ≠ 4) (h4' : k' ≠ 4) :
  Calls Tryz.prog 150 #[valV k n d x t, valV k' n' d' x' t', fnV f] w fun e w' => e = .returned (reckV o k n d x t k' n' d' x' t') ∧ Ext w w' := by
 have NA : ∀ w1, Ext w w1 → Calls Tryz.prog 89 #[valV k n d x t] w1 fun e w' => e = .returned (numOf k n d x t) ∧ Ext w1 w' := fun w1 h => by
  have := numOfI k n d x t w1 hl d1 d2 (hT.later h) (hE.later h)
  unfold numOfV at this
  rw [if_pos ga] at this
  exact this
 have NB : ∀ w1, Ext w w1 → Calls Tryz.prog 89 #[valV k' n' d' x' t'] w1 fun e w' => e = .returned (numOf k' n' d' x' t') ∧ Ext w1 w' := fun w1 h => by
  have := numOfI k' n' d' x' t' w1 hl' d1' d2' (hT.later h) (hE.later h)
  unfold numOfV at this
  rw [if_pos gb] at this
  exact this
 cases hA : numD k n d x t with
 | none =>
  rw [reckV_none hA]
  rw [numOf_none hA] at NA
  obtain ⟨kb, nb, db, xb, tb, hb⟩ := numOf_val k' n' d' x' t'
  rw [hb] at NB
  exact reckW k n d x t k' n' d' x' t' f w _ _ _ _ _ kb nb db xb tb NA NB fun w1 p _ _ => of_left _ _ _ _ kb nb db xb tb _ w1
 | some a =>
  obtain ⟨an, ad, ae⟩ := a
  obtain ⟨ea, gA⟩ := numOf_some ga h4 hA
  rw [ea] at NA
  cases hB : numD k' n' d' x' t' with
  | none =>
   rw [reckV_none' hA hB]
   rw [numOf_none hB] at NB
   exact reckW k n d x t k' n' d' x' t' f w _ _ _ _ _ _ _ _ _ _ NA NB fun w1 p _ _ => of_right _ _ _ _ _ _ _ _ _ _ (by decide) w1
  | some b =>
   obtain ⟨bn, bd, be⟩ := b
   obtain ⟨eb, gB⟩ := numOf_some gb h4' hB
   rw [eb] at NB
   rw [reckV_some hA hB]
   obtain ⟨k2, n2, d2, x2, t2, hv⟩ := stepV_val o an ad ae bn bd be
   have SS := S.2 an ad ae bn bd be gA gB
   rw [hv] at SS
   show Calls _ _ _ _ fun e w' => e = .returned (stepV o an ad ae bn bd be) ∧ _
   rw [hv]
   refine reckW k n d x t k' n' d' x' t' f w _ _ _ _ _ _ _ _ _ _ NA NB fun w1 p h1 hp => ?_
   refine of_cap _ _ _ _ _ _ _ _ _ _ _ _ enter_reck (by decide) (by decide) w1 fun w2 h2 => ?_
   exact reck1 _ _ _ _ _ _ _ _ _ _ f p S.1 w2 (cell_later h2 hp) fun w3 h3 => SS w3 (hT.later (xt (xt h1 h2) h3))
set_option maxRecDepth 8000 in
set_option maxHeartbeats 2000000 in
theorem plusMI (k : Int) (n : Bool) (d x : Int) (t : List UInt8) (k' : Int) (n' : Bool) (d' x' : Int) (t' : List UInt8) (w : World) (hl : t.length ≤ 1048576) (hl' : t'.length ≤ 1048576) (d1 : -9223372036854775808 ≤ d) (d2 : d ≤ 9223372036854775807) (d1' : -9223372036854775808 ≤ d') (d2' : d' ≤ 9223372036854775807) (hT : Tens w) (hE : ErrTab w) (ga : goodV k n d x t = true) (gb : goodV k' n' d' x' t' = true) (h4 : k ≠ 4) (h4' : k' ≠ 4) :
  Calls Tryz.prog 106 #[valV k n d x t, valV k' n' d' x' t'] w fun e w' => e = .returned (reckV 0 k n d x t k' n' d' x' t') ∧ Ext w w' := by
 obtain ⟨k2, n2, dd2, x2, t2, hv⟩ := reckV_val 0 k n d x t k' n' d' x' t'
 have HV : Hid (reckV 0 k n d x t k' n' d' x' t' = valV k2 n2 dd2 x2 t2) := hv
 rw [hv]
 clear hv
 obtain ⟨u0, u1, u2, h0, h1, h2, s0, s1, s2, B0, B1, B2, X⟩ := mkB3 w [.int .i64 k, .bool n, .int .i64 d, .int .i64 x, sV t] [.int .i64 k', .bool n', .int .i64 d', .int .i64 x', sV t'] [.int .i64 0, .bool false, .int .i64 0, .int .i64 0, sV []] 26 26 26
 obtain ⟨a0, a1, a2, a3, a4⟩ := Vec.five (B0)
 obtain ⟨c0, c1, c2, c3, c4⟩ := Vec.five (B1)
 have HP : Hid (Calls Tryz.prog 150 #[valV k n d x t, valV k' n' d' x' t', fnV 151] u2 fun e w' => e = .returned (reckV 0 k n d x t k' n' d' x' t') ∧ Ext u2 w') := reckI 0 _ step_plus k n d x t k' n' d' x' t' u2 hl hl' d1 d2 d1' d2' (hT.later X) (hE.later X) ga gb h4 h4'
 clear hl hl' d1 d2 d1' d2' hT hE ga gb h4 h4'
 go_enter Tryz.func106, Tryz.ntmps106
 go_wp2_with fail
 clear h0 s0 h1 s1 h2 s2 a0 a1 a2 a3 a4 c0 c1 c2 c3 c4
 refine (HP.out).mono ?_
 rintro e w1 ⟨rfl, e1⟩
 rw [HV.out]
 obtain ⟨wy, hy, FX, ⟨b0, b1, b2, b3, b4⟩, ⟨fb0, fb1, fb2, fb3, fb4⟩, fd0, fd1, fd2, fd3, fd4⟩ := fin5 (B2.later e1) (xt X e1) (by omega) k2 n2 dd2 x2 t2
 go_wp2_with fail
 exact bodyPost_ret (v := valV k2 n2 dd2 x2 t2) (by simp [results, Tryz.results106, go_sem, fd0, fd1, fd2, fd3, fd4]) rfl ⟨rfl, FX⟩
set_option maxRecDepth 8000 in
set_option maxHeartbeats 2000000 in
theorem minusMI (k : Int) (n : Bool) (d x : Int) (t : List UInt8) (k' : Int) (n' : Bool) (d' x' : Int) (t' : List UInt8) (w : World) (hl : t.length ≤ 1048576) (hl' : t'.length ≤ 1048576) (d1 : -9223372036854775808 ≤ d) (d2 : d ≤ 9223372036854775807) (d1' : -9223372036854775808 ≤ d') (d2' : d' ≤ 9223372036854775807) (hT : Tens w) (hE : ErrTab w) (ga : goodV k n d x t = true) (gb : goodV k' n' d' x' t' = true) (h4 : k ≠ 4) (h4' : k' ≠ 4) :
  Calls Tryz.prog 107 #[valV k n d x t, valV k' n' d' x' t'] w fun e w' => e = .returned (reckV 1 k n d x t k' n' d' x' t') ∧ Ext w w' := by
 obtain ⟨k2, n2, dd2, x2, t2, hv⟩ := reckV_val 1 k n d x t k' n' d' x' t'
 have HV : Hid (reckV 1 k n d x t k' n' d' x' t' = valV k2 n2 dd2 x2 t2) := hv
 rw [hv]
 clear hv
 obtain ⟨u0, u1, u2, h0, h1, h2, s0, s1, s2, B0, B1, B2, X⟩ := mkB3 w [.int .i64 k, .bool n, .int .i64 d, .int .i64 x, sV t] [.int .i64 k', .bool n', .int .i64 d', .int .i64 x', sV t'] [.int .i64 0, .bool false, .int .i64 0, .int .i64 0, sV []] 26 26 26
 obtain ⟨a0, a1, a2, a3, a4⟩ := Vec.five (B0)
 obtain ⟨c0, c1, c2, c3, c4⟩ := Vec.five (B1)
 have HP : Hid (Calls Tryz.prog 150 #[valV k n d x t, valV k' n' d' x' t', fnV 154] u2 fun e w' => e = .returned (reckV 1 k n d x t k' n' d' x' t') ∧ Ext u2 w') := reckI 1 _ step_minus k n d x t k' n' d' x' t' u2 hl hl' d1 d2 d1' d2' (hT.later X) (hE.later X) ga gb h4 h4'
 clear hl hl' d1 d2 d1' d2' hT hE ga gb h4 h4'
 go_enter Tryz.func107, Tryz.ntmps107
 go_wp2_with fail
 clear h0 s0 h1 s1 h2 s2 a0 a1 a2 a3 a4 c0 c1 c2 c3 c4
 refine (HP.out).mono ?_
 rintro e w1 ⟨rfl, e1⟩
 rw [HV.out]
 obtain ⟨wy, hy, FX, ⟨b0, b1, b2, b3, b4⟩, ⟨fb0, fb1, fb2, fb3, fb4⟩, fd0, fd1, fd2, fd3, fd4⟩ := fin5 (B2.later e1) (xt X e1) (by omega) k2 n2 dd2 x2 t2
 go_wp2_with fail
 exact bodyPost_ret (v := valV k2 n2 dd2 x2 t2) (by simp [results, Tryz.results107, go_sem, fd0, fd1, fd2, fd3, fd4]) rfl ⟨rfl, FX⟩
set_option maxRecDepth 8000 in
set_option maxHeartbeats 2000000 in
theorem timesMI (k : Int) (n : Bool) (d x : Int) (t : List UInt8) (k' : Int) (n' : Bool) (d' x' : Int) (t' : List UInt8) (w : World) (hl : t.length ≤ 1048576) (hl' : t'.length ≤ 1048576) (d1 : -9223372036854775808 ≤ d) (d2 : d ≤ 9223372036854775807) (d1' : -9223372036854775808 ≤ d') (d2' : d' ≤ 9223372036854775807) (hT : Tens w) (hE : ErrTab w) (ga : goodV k n d x t = true) (gb : goodV k' n' d' x' t' = true) (h4 : k ≠ 4) (h4' : k' ≠ 4) :
  Calls Tryz.prog 108 #[valV k n d x t, valV k' n' d' x' t'] w fun e w' => e = .returned (reckV 2 k n d x t k' n' d' x' t') ∧ Ext w w' := by
 obtain ⟨k2, n2, dd2, x2, t2, hv⟩ := reckV_val 2 k n d x t k' n' d' x' t'
 have HV : Hid (reckV 2 k n d x t k' n' d' x' t' = valV k2 n2 dd2 x2 t2) := hv
 rw [hv]
 clear hv
 obtain ⟨u0, u1, u2, h0, h1, h2, s0, s1, s2, B0, B1, B2, X⟩ := mkB3 w [.int .i64 k, .bool n, .int .i64 d, .int .i64 x, sV t] [.int .i64 k', .bool n', .int .i64 d', .int .i64 x', sV t'] [.int .i64 0, .bool false, .int .i64 0, .int .i64 0, sV []] 26 26 26
 obtain ⟨a0, a1, a2, a3, a4⟩ := Vec.five (B0)
 obtain ⟨c0, c1, c2, c3, c4⟩ := Vec.five (B1)
 have HP : Hid (Calls Tryz.prog 150 #[valV k n d x t, valV k' n' d' x' t', fnV 156] u2 fun e w' => e = .returned (reckV 2 k n d x t k' n' d' x' t') ∧ Ext u2 w') := reckI 2 _ step_times k n d x t k' n' d' x' t' u2 hl hl' d1 d2 d1' d2' (hT.later X) (hE.later X) ga gb h4 h4'
 clear hl hl' d1 d2 d1' d2' hT hE ga gb h4 h4'
 go_enter Tryz.func108, Tryz.ntmps108
 go_wp2_with fail
 clear h0 s0 h1 s1 h2 s2 a0 a1 a2 a3 a4 c0 c1 c2 c3 c4
 refine (HP.out).mono ?_
 rintro e w1 ⟨rfl, e1⟩
 rw [HV.out]
 obtain ⟨wy, hy, FX, ⟨b0, b1, b2, b3, b4⟩, ⟨fb0, fb1, fb2, fb3, fb4⟩, fd0, fd1, fd2, fd3, fd4⟩ := fin5 (B2.later e1) (xt X e1) (by omega) k2 n2 dd2 x2 t2
 go_wp2_with fail
 exact bodyPost_ret (v := valV k2 n2 dd2 x2 t2) (by simp [results, Tryz.results108, go_sem, fd0, fd1, fd2, fd3, fd4]) rfl ⟨rfl, FX⟩
set_option maxRecDepth 8000 in
set_option maxHeartbeats 2000000 in
theorem overMI (k : Int) (n : Bool) (d x : Int) (t : List UInt8) (k' : Int) (n' : Bool) (d' x' : Int) (t' : List UInt8) (w : World) (hl : t.length ≤ 1048576) (hl' : t'.length ≤ 1048576) (d1 : -9223372036854775808 ≤ d) (d2 : d ≤ 9223372036854775807) (d1' : -9223372036854775808 ≤ d') (d2' : d' ≤ 9223372036854775807) (hT : Tens w) (hE : ErrTab w) (ga : goodV k n d x t = true) (gb : goodV k' n' d' x' t' = true) (h4 : k ≠ 4) (h4' : k' ≠ 4) :
  Calls Tryz.prog 109 #[valV k n d x t, valV k' n' d' x' t'] w fun e w' => e = .returned (reckV 3 k n d x t k' n' d' x' t') ∧ Ext w w' := by
 obtain ⟨k2, n2, dd2, x2, t2, hv⟩ := reckV_val 3 k n d x t k' n' d' x' t'
 have HV : Hid (reckV 3 k n d x t k' n' d' x' t' = valV k2 n2 dd2 x2 t2) := hv
 rw [hv]
 clear hv
 obtain ⟨u0, u1, u2, h0, h1, h2, s0, s1, s2, B0, B1, B2, X⟩ := mkB3 w [.int .i64 k, .bool n, .int .i64 d, .int .i64 x, sV t] [.int .i64 k', .bool n', .int .i64 d', .int .i64 x', sV t'] [.int .i64 0, .bool false, .int .i64 0, .int .i64 0, sV []] 26 26 26
 obtain ⟨a0, a1, a2, a3, a4⟩ := Vec.five (B0)
 obtain ⟨c0, c1, c2, c3, c4⟩ := Vec.five (B1)
 have HP : Hid (Calls Tryz.prog 150 #[valV k n d x t, valV k' n' d' x' t', fnV 158] u2 fun e w' => e = .returned (reckV 3 k n d x t k' n' d' x' t') ∧ Ext u2 w') := reckI 3 _ step_over k n d x t k' n' d' x' t' u2 hl hl' d1 d2 d1' d2' (hT.later X) (hE.later X) ga gb h4 h4'
 clear hl hl' d1 d2 d1' d2' hT hE ga gb h4 h4'
 go_enter Tryz.func109, Tryz.ntmps109
 go_wp2_with fail
 clear h0 s0 h1 s1 h2 s2 a0 a1 a2 a3 a4 c0 c1 c2 c3 c4
 refine (HP.out).mono ?_
 rintro e w1 ⟨rfl, e1⟩
 rw [HV.out]
 obtain ⟨wy, hy, FX, ⟨b0, b1, b2, b3, b4⟩, ⟨fb0, fb1, fb2, fb3, fb4⟩, fd0, fd1, fd2, fd3, fd4⟩ := fin5 (B2.later e1) (xt X e1) (by omega) k2 n2 dd2 x2 t2
 go_wp2_with fail
 exact bodyPost_ret (v := valV k2 n2 dd2 x2 t2) (by simp [results, Tryz.results109, go_sem, fd0, fd1, fd2, fd3, fd4]) rfl ⟨rfl, FX⟩
set_option maxRecDepth 8000 in
set_option maxHeartbeats 2000000 in
theorem powerMI (k : Int) (n : Bool) (d x : Int) (t : List UInt8) (k' : Int) (n' : Bool) (d' x' : Int) (t' : List UInt8) (w : World) (hl : t.length ≤ 1048576) (hl' : t'.length ≤ 1048576) (d1 : -9223372036854775808 ≤ d) (d2 : d ≤ 9223372036854775807) (d1' : -9223372036854775808 ≤ d') (d2' : d' ≤ 9223372036854775807) (hT : Tens w) (hE : ErrTab w) (ga : goodV k n d x t = true) (gb : goodV k' n' d' x' t' = true) (h4 : k ≠ 4) (h4' : k' ≠ 4) :
  Calls Tryz.prog 110 #[valV k n d x t, valV k' n' d' x' t'] w fun e w' => e = .returned (reckV 4 k n d x t k' n' d' x' t') ∧ Ext w w' := by
 obtain ⟨k2, n2, dd2, x2, t2, hv⟩ := reckV_val 4 k n d x t k' n' d' x' t'
 have HV : Hid (reckV 4 k n d x t k' n' d' x' t' = valV k2 n2 dd2 x2 t2) := hv
 rw [hv]
 clear hv
 obtain ⟨u0, u1, u2, h0, h1, h2, s0, s1, s2, B0, B1, B2, X⟩ := mkB3 w [.int .i64 k, .bool n, .int .i64 d, .int .i64 x, sV t] [.int .i64 k', .bool n', .int .i64 d', .int .i64 x', sV t'] [.int .i64 0, .bool false, .int .i64 0, .int .i64 0, sV []] 26 26 26
 obtain ⟨a0, a1, a2, a3, a4⟩ := Vec.five (B0)
 obtain ⟨c0, c1, c2, c3, c4⟩ := Vec.five (B1)
 have HP : Hid (Calls Tryz.prog 150 #[valV k n d x t, valV k' n' d' x' t', fnV 160] u2 fun e w' => e = .returned (reckV 4 k n d x t k' n' d' x' t') ∧ Ext u2 w') := reckI 4 _ step_power k n d x t k' n' d' x' t' u2 hl hl' d1 d2 d1' d2' (hT.later X) (hE.later X) ga gb h4 h4'
 clear hl hl' d1 d2 d1' d2' hT hE ga gb h4 h4'
 go_enter Tryz.func110, Tryz.ntmps110
 go_wp2_with fail
 clear h0 s0 h1 s1 h2 s2 a0 a1 a2 a3 a4 c0 c1 c2 c3 c4
 refine (HP.out).mono ?_
 rintro e w1 ⟨rfl, e1⟩
 rw [HV.out]
 obtain ⟨wy, hy, FX, ⟨b0, b1, b2, b3, b4⟩, ⟨fb0, fb1, fb2, fb3, fb4⟩, fd0, fd1, fd2, fd3, fd4⟩ := fin5 (B2.later e1) (xt X e1) (by omega) k2 n2 dd2 x2 t2
 go_wp2_with fail
 exact bodyPost_ret (v := valV k2 n2 dd2 x2 t2) (by simp [results, Tryz.results110, go_sem, fd0, fd1, fd2, fd3, fd4]) rfl ⟨rfl, FX⟩
/-- What each of the twelve makes. -/
def MakesI (o f : Nat) : Prop := (∀ ar w, (callFunc f ar).run Tryz.prog w = .ok (.enter f ar) w) ∧
 ∀ (k : Int) (n : Bool) (d x : Int) (t : List UInt8) (k' : Int) (n' : Bool) (d' x' : Int) (t' : List UInt8) (w : World) (_ : t.length ≤ 1048576) (_ : t'.length ≤ 1048576) (_ : -9223372036854775808 ≤ d) (_ : d ≤ 9223372036854775807) (_ : -9223372036854775808 ≤ d') (_ : d' ≤ 9223372036854775807) (_ : Tens w) (_ : ErrTab w) (_ : ItoaC w) (_ : goodV k n d x t = true) (_ : goodV k' n' d' x' t' = true) (_ : k ≠ 4) (_ : k' ≠ 4),
  Calls Tryz.prog f #[valV k n d x t, valV k' n' d' x' t'] w fun e w' => e = .returned (makeV o k n d x t k' n' d' x' t') ∧ Ext w w'
theorem makes_0 : MakesI 0 106 := ⟨fun ar w => by kernel_rfl, fun k n d x t k' n' d' x' t' w hl hl' d1 d2 d1' d2' hT hE hI ga gb h4 h4' => by
  have := plusMI k n d x t k' n' d' x' t' w hl hl' d1 d2 d1' d2' hT hE ga gb h4 h4'
  exact this⟩
theorem makes_1 : MakesI 1 107 := ⟨fun ar w => by kernel_rfl, fun k n d x t k' n' d' x' t' w hl hl' d1 d2 d1' d2' hT hE hI ga gb h4 h4' => by
  have := minusMI k n d x t k' n' d' x' t' w hl hl' d1 d2 d1' d2' hT hE ga gb h4 h4'
  exact this⟩
theorem makes_2 : MakesI 2 108 := ⟨fun ar w => by kernel_rfl, fun k n d x t k' n' d' x' t' w hl hl' d1 d2 d1' d2' hT hE hI ga gb h4 h4' => by
  have := timesMI k n d x t k' n' d' x' t' w hl hl' d1 d2 d1' d2' hT hE ga gb h4 h4'
  exact this⟩
theorem makes_3 : MakesI 3 109 := ⟨fun ar w => by kernel_rfl, fun k n d x t k' n' d' x' t' w hl hl' d1 d2 d1' d2' hT hE hI ga gb h4 h4' => by
  have := overMI k n d x t k' n' d' x' t' w hl hl' d1 d2 d1' d2' hT hE ga gb h4 h4'
  exact this⟩
theorem makes_4 : MakesI 4 110 := ⟨fun ar w => by kernel_rfl, fun k n d x t k' n' d' x' t' w hl hl' d1 d2 d1' d2' hT hE hI ga gb h4 h4' => by
  have := powerMI k n d x t k' n' d' x' t' w hl hl' d1 d2 d1' d2' hT hE ga gb h4 h4'
  exact this⟩
theorem makes_5 : MakesI 5 111 := ⟨fun ar w => by kernel_rfl, fun k n d x t k' n' d' x' t' w hl hl' d1 d2 d1' d2' hT hE hI ga gb h4 h4' => by
  exact joinedI k n d x t k' n' d' x' t' w (by omega) (by omega) d1 d2 d1' d2' hT hE hI ga gb⟩
theorem makes_6 : MakesI 6 112 := ⟨fun ar w => by kernel_rfl, fun k n d x t k' n' d' x' t' w hl hl' d1 d2 d1' d2' hT hE hI ga gb h4 h4' => by
  exact sameI k n d x t k' n' d' x' t' w (by omega) (by omega) d1 d2 d1' d2' hT hE⟩
theorem makes_7 : MakesI 7 113 := ⟨fun ar w => by kernel_rfl, fun k n d x t k' n' d' x' t' w hl hl' d1 d2 d1' d2' hT hE hI ga gb h4 h4' => by
  exact unlikeI k n d x t k' n' d' x' t' w (by omega) (by omega) d1 d2 d1' d2' hT hE⟩
theorem makes_8 : MakesI 8 114 := ⟨fun ar w => by kernel_rfl, fun k n d x t k' n' d' x' t' w hl hl' d1 d2 d1' d2' hT hE hI ga gb h4 h4' => by
  exact belowI k n d x t k' n' d' x' t' w (by omega) (by omega) d1 d2 d1' d2' hT hE⟩
theorem makes_9 : MakesI 9 115 := ⟨fun ar w => by kernel_rfl, fun k n d x t k' n' d' x' t' w hl hl' d1 d2 d1' d2' hT hE hI ga gb h4 h4' => by
  exact aboveI k n d x t k' n' d' x' t' w (by omega) (by omega) d1 d2 d1' d2' hT hE⟩
theorem makes_10 : MakesI 10 116 := ⟨fun ar w => by kernel_rfl, fun k n d x t k' n' d' x' t' w hl hl' d1 d2 d1' d2' hT hE hI ga gb h4 h4' => by
  exact notAboveI k n d x t k' n' d' x' t' w (by omega) (by omega) d1 d2 d1' d2' hT hE⟩
theorem makes_11 : MakesI 11 117 := ⟨fun ar w => by kernel_rfl, fun k n d x t k' n' d' x' t' w hl hl' d1 d2 d1' d2' hT hE hI ga gb h4 h4' => by
  exact notBelowI k n d x t k' n' d' x' t' w (by omega) (by omega) d1 d2 d1' d2' hT hE⟩

end Go.Proofs.YtkadkfmidlhedaaGreatDoor

