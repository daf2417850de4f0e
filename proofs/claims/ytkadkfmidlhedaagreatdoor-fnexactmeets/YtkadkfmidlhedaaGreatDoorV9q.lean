/-
  Chapter 6: powers and sums, of the specification.
-/
import Derived.Test.YtkadkfmidlhedaaGreatDoorV9a
import Derived.Test.YtkadkfmidlhedaaGreatDoorMg27
import Derived.Test.YtkadkfmidlhedaaGreatDoorMg44
namespace Go.Proofs.YtkadkfmidlhedaaGreatDoor
open Go.RowKit

theorem Vec.putF {w : World} {b : Nat} {v0 v1 v2 v3 : Value} (h : Vec w b [v0, v1, v2, v3]) (u0 u1 u2 u3 : Value) : Vec ((((w.setCell ⟨b, 0, none⟩ u0).setCell ⟨b, 1, none⟩ u1).setCell ⟨b, 2, none⟩ u2).setCell ⟨b, 3, none⟩ u3) b [u0, u1, u2, u3] :=
 (((h.put 0 (by simp) u0).put 1 (by simp) u1).put 2 (by simp) u2).put 3 (by simp) u3
theorem ext_putF {a w : World} {b : Nat} (h : Ext a w) (hb : a.heap.size ≤ b) (u0 u1 u2 u3 : Value) : Ext a ((((w.setCell ⟨b, 0, none⟩ u0).setCell ⟨b, 1, none⟩ u1).setCell ⟨b, 2, none⟩ u2).setCell ⟨b, 3, none⟩ u3) :=
 xset (p := ⟨b, 3, none⟩) (xset (p := ⟨b, 2, none⟩) (xset (p := ⟨b, 1, none⟩) (xset (p := ⟨b, 0, none⟩) h hb _) hb _) hb _) hb _
theorem Vec.farF {w : World} {b k : Nat} {l : List Value} (hk : b ≠ k) (u0 u1 u2 u3 : Value) (h : Vec w k l) : Vec ((((w.setCell ⟨b, 0, none⟩ u0).setCell ⟨b, 1, none⟩ u1).setCell ⟨b, 2, none⟩ u2).setCell ⟨b, 3, none⟩ u3) k l :=
 Vec.farL (k := b) hk [u0, u1, u2, u3] 0 h
set_option maxRecDepth 8000 in
set_option maxHeartbeats 2000000 in
theorem powerS (n : Bool) (d e : Int) (n' : Bool) (d' e' : Int) (w : World) (ga : goodB n d e = true) (gb : goodB n' d' e' = true) :
  Calls Tryz.prog 168 #[decV n d e, decV n' d' e'] w fun rr w' => rr = .returned (powerV n d e n' d' e') ∧ Ext w w' := by
 have gA := good_all ga
 have lo1 : -9223372036854775808 ≤ d := by omega
 have lo2 : d ≤ 9223372036854775807 := by omega
 clear ga gA
 have GB0 : Hid (goodB n' d' e' = true) := gb
 clear gb
 obtain ⟨ok, hok⟩ : ∃ ok, intOk n' d' e' = ok := ⟨_, rfl⟩
 obtain ⟨iz, hiz⟩ : ∃ iz, intR n' d' e' = iz := ⟨_, rfl⟩
 have HI : Hid (∀ W, Calls Tryz.prog 211 #[decV n' d' e'] W fun r w' => r = .returned (.tuple #[.int .i64 iz, .bool ok]) ∧ Ext W w') := fun W => by rw [← hok, ← hiz]; exact intS n' d' e' W
 have HK : Hid (intOk n' d' e' = ok) := hok
 have HZ : Hid (intR n' d' e' = iz) := hiz
 clear hok hiz
 obtain ⟨R, hR⟩ : ∃ R, powerV n d e n' d' e' = R := ⟨_, rfl⟩
 have HR0 : Hid (powerV n d e n' d' e' = R) := hR
 rw [hR]
 clear hR
 by_cases h00 : d = 0 ∧ d' = 0
 ·
  obtain ⟨rfl, rfl⟩ := h00
  have HR : Hid (evV numbT = R) := by show _ = _; rw [← HR0.out]; unfold powerV; rw [if_pos ⟨rfl, rfl⟩]
  obtain ⟨u0, u1, u2, h0, h1, h2, s0, s1, s2, B0, B1, B2, X⟩ := mkB3 w [.bool n, .int .i64 0, .int .i64 e] [.bool n', .int .i64 0, .int .i64 e'] [.int .i64 0, .bool false, .int .i64 0, .int .i64 0, sV []] 24 24 26
  obtain ⟨a0, a1, a2⟩ := Vec.three (B0)
  obtain ⟨c0, c1, c2⟩ := Vec.three (B1)
  go_enter Tryz.func168, Tryz.ntmps168
  go_wp2_with fail
  clear h0 s0 h1 s1 h2 s2 a0 a1 a2 c0 c1 c2
  refine (errVS numbT u2).mono ?_
  rintro rr w2 ⟨rfl, e2⟩
  obtain ⟨wy, hy, FX, ⟨b0, b1, b2, b3, b4⟩, ⟨fb0, fb1, fb2, fb3, fb4⟩, fd0, fd1, fd2, fd3, fd4⟩ := fin5 (B2.later e2) (xt X e2) (by omega) 4 false 0 0 numbT
  go_wp2_with fail
  exact bodyPost_ret (v := valV 4 false 0 0 numbT) (by simp [results, Tryz.results168, go_sem, fd0, fd1, fd2, fd3, fd4]) rfl ⟨congrArg Ending.returned HR.out, FX⟩
 ·
  by_cases h01 : d = 0 ∧ n' = true
  ·
   obtain ⟨rfl, rfl⟩ := h01
   have hd : (d' == 0) = false := by simpa using h00
   have HR : Hid (evV divT = R) := by show _ = _; rw [← HR0.out]; unfold powerV; rw [if_neg h00, if_pos ⟨rfl, rfl⟩]
   obtain ⟨u0, u1, u2, h0, h1, h2, s0, s1, s2, B0, B1, B2, X⟩ := mkB3 w [.bool n, .int .i64 0, .int .i64 e] [.bool true, .int .i64 d', .int .i64 e'] [.int .i64 0, .bool false, .int .i64 0, .int .i64 0, sV []] 24 24 26
   obtain ⟨a0, a1, a2⟩ := Vec.three (B0)
   obtain ⟨c0, c1, c2⟩ := Vec.three (B1)
   go_enter Tryz.func168, Tryz.ntmps168
   go_wp2_with fail
   clear h0 s0 h1 s1 h2 s2 a0 a1 a2 c0 c1 c2
   refine (errVS divT u2).mono ?_
   rintro rr w2 ⟨rfl, e2⟩
   obtain ⟨wy, hy, FX, ⟨b0, b1, b2, b3, b4⟩, ⟨fb0, fb1, fb2, fb3, fb4⟩, fd0, fd1, fd2, fd3, fd4⟩ := fin5 (B2.later e2) (xt X e2) (by omega) 4 false 0 0 divT
   go_wp2_with fail
   exact bodyPost_ret (v := valV 4 false 0 0 divT) (by simp [results, Tryz.results168, go_sem, fd0, fd1, fd2, fd3, fd4]) rfl ⟨congrArg Ending.returned HR.out, FX⟩
  ·
   have HD : Hid ((d == 0) = false ∨ ((d == 0) = true ∧ (d' == 0) = false ∧ n' = false)) := by
    by_cases h : d = 0
    ·
     exact Or.inr ⟨by simpa using h, by simpa using fun h2 => h00 ⟨h, h2⟩, by cases hn : n' with | false => rfl | true => exact absurd ⟨h, hn⟩ h01⟩
    ·
     exact Or.inl (by simpa using h)
   have HN1 : Hid (¬ (d = 0 ∧ d' = 0)) := h00
   have HN2 : Hid (¬ (d = 0 ∧ n' = true)) := h01
   clear h00 h01
   obtain ⟨u0, u1, u2, u3, h0, h1, h2, h3, s0, s1, s2, s3, B0, B1, B2, B3, X⟩ := mkB4 w [.bool n, .int .i64 d, .int .i64 e] [.bool n', .int .i64 d', .int .i64 e'] [.int .i64 0, .bool false, .int .i64 0, .int .i64 0, sV []] [.bool false, .bool false, .int .i64 0, .int .i64 0] 24 24 26 79
   obtain ⟨U0, U1⟩ : Vec u2 w.heap.size [.bool n, .int .i64 d, .int .i64 e] ∧ Vec u2 (w.heap.size + 1) [.bool n', .int .i64 d', .int .i64 e'] := by
    obtain ⟨v0, v1, v2, i0, i1, i2, _, _, _, V0, V1, _, _⟩ := mkB3 w [.bool n, .int .i64 d, .int .i64 e] [.bool n', .int .i64 d', .int .i64 e'] [.int .i64 0, .bool false, .int .i64 0, .int .i64 0, sV []] 24 24 26
    rw [h0] at i0
    subst i0
    rw [h1] at i1
    subst i1
    rw [h2] at i2
    subst i2
    exact ⟨V0, V1⟩
   obtain ⟨f0, f1, f2⟩ := Vec.three (U0)
   obtain ⟨g0, g1, g2⟩ := Vec.three (U1)
   obtain ⟨wz, hz⟩ : ∃ wz, u3 = wz := ⟨_, rfl⟩
   rw [hz] at h3 s3 B0 B1 B2 B3 X
   clear hz
   have BQ := B3.putF (.bool false) (.bool false) (.int .i64 0) (.int .i64 0)
   have XQ := ext_putF (b := w.heap.size + 1 + 1 + 1) X (by omega) (.bool false) (.bool false) (.int .i64 0) (.int .i64 0)
   have D0 := Vec.farF (b := w.heap.size + 1 + 1 + 1) (by omega) (.bool false) (.bool false) (.int .i64 0) (.int .i64 0) B0
   have D1 := Vec.farF (b := w.heap.size + 1 + 1 + 1) (by omega) (.bool false) (.bool false) (.int .i64 0) (.int .i64 0) B1
   have D2 := Vec.farF (b := w.heap.size + 1 + 1 + 1) (by omega) (.bool false) (.bool false) (.int .i64 0) (.int .i64 0) B2
   obtain ⟨wq, hq⟩ : ∃ wq, ((((wz.setCell ⟨w.heap.size + 1 + 1 + 1, 0, none⟩ (.bool false)).setCell ⟨w.heap.size + 1 + 1 + 1, 1, none⟩ (.bool false)).setCell ⟨w.heap.size + 1 + 1 + 1, 2, none⟩ (.int .i64 0)).setCell ⟨w.heap.size + 1 + 1 + 1, 3, none⟩ (.int .i64 0)) = wq := ⟨_, rfl⟩
   rw [hq] at BQ XQ D0 D1 D2
   obtain ⟨z0, z1, z2, z3⟩ := B3.four
   obtain ⟨y0, y1, y2, y3⟩ := B3.fourF
   have X := XQ
   clear B0 B1 B2 B3 XQ
   obtain ⟨a0, a1, a2⟩ := Vec.three (D0)
   obtain ⟨c0, c1, c2⟩ := Vec.three (D1)
   have HG : Hid (∀ (Q : Prop), ((d == 0) = false → Q) → ((d == 0) = true → (d' == 0) = false → n' = false → Q) → Q) := fun Q p q => HD.out.elim p fun h => q h.1 h.2.1 h.2.2
   clear HD U0 U1
   go_enter Tryz.func168, Tryz.ntmps168
   refine HG.out _ (fun hd0 => ?_) (fun hd0 hd1 hn0 => ?_)
   ·
    go_wp2_with fail
    clear h0 h1 h2 s0 s1 s2 h3 s3
    clear hq z0 y0 z1 y1 z2 y2 z3 y3 a0 a1 a2 c0 c1 c2 f0 f1 f2 g0 g1 g2
    refine (HI.out wq).mono ?_
    rintro rr w1 ⟨rfl, e1⟩
    have E0 := D0.later e1
    have E1 := D1.later e1
    have E2 := D2.later e1
    have EQ := BQ.later e1
    have X1 := xt X e1
    clear D0 D1 D2 BQ X
    obtain ⟨a0, a1, a2⟩ := Vec.three (E0)
    obtain ⟨c0, c1, c2⟩ := Vec.three (E1)
    cases ok
    ·
     by_cases hh : halfB n' d' e' = true
     ·
      have HR1 : Hid (putV (sqrtR n d e) = R) := by show _ = _; rw [← HR0.out]; unfold powerV; rw [if_neg HN1.out, if_neg HN2.out, if_neg (by rw [HK.out]; simp), if_pos hh]
      obtain ⟨q0, q1, q2⟩ : n' = false ∧ d' = 5 ∧ e' = -1 := by simpa [halfB, and_assoc] using hh
      subst q0 q1 q2
      clear hh
      have HR : Hid (putV (sqrtR n d e) = R) := HR1
      obtain ⟨⟨rk, rn, rd, re⟩, hr⟩ : ∃ r, sqrtR n d e = r := ⟨_, rfl⟩
      have HV : Hid (putV ⟨rk, rn, rd, re⟩ = R) := by show _ = _; rw [← hr]; exact HR.out
      have HP : Hid (∀ W, Calls Tryz.prog 213 #[decV n d e] W fun r w' => r = .returned (.agg #[.bool rk, .bool rn, .int .i64 rd, .int .i64 re]) ∧ Ext W w') := fun W => by have := sqrtSV n d e lo1 lo2 W; rw [hr] at this; exact this
      clear hr HR
      go_wp2_with fail
      refine (HP.out w1).mono ?_
      rintro rr w2 ⟨rfl, e2⟩
      clear a0 a1 a2 c0 c1 c2
      have GQ := (EQ.later e2).putF (.bool rk) (.bool rn) (.int .i64 rd) (.int .i64 re)
      have GX := ext_putF (a := w) (b := w.heap.size + 1 + 1 + 1) (xt X1 e2) (by omega) (.bool rk) (.bool rn) (.int .i64 rd) (.int .i64 re)
      have G2 := Vec.farF (b := w.heap.size + 1 + 1 + 1) (by omega) (.bool rk) (.bool rn) (.int .i64 rd) (.int .i64 re) (E2.later e2)
      obtain ⟨wg, hgw⟩ : ∃ wg, ((((w2.setCell ⟨w.heap.size + 1 + 1 + 1, 0, none⟩ (.bool rk)).setCell ⟨w.heap.size + 1 + 1 + 1, 1, none⟩ (.bool rn)).setCell ⟨w.heap.size + 1 + 1 + 1, 2, none⟩ (.int .i64 rd)).setCell ⟨w.heap.size + 1 + 1 + 1, 3, none⟩ (.int .i64 re)) = wg := ⟨_, rfl⟩
      rw [hgw] at GQ GX G2
      obtain ⟨m0, m1, m2, m3⟩ := Vec.four (EQ.later e2)
      obtain ⟨o0, o1, o2, o3⟩ := Vec.fourF (EQ.later e2)
      obtain ⟨r0, r1, r2, r3⟩ := Vec.four GQ
      cases rk
      ·
       have HV2 := HV
       go_wp2_with fail
       clear hgw m0 o0 r0 m1 o1 r1 m2 o2 r2 m3 o3 r3
       refine (errVS numbT wg).mono ?_
       rintro rr w8 ⟨rfl, e8⟩
       obtain ⟨wy, hy, FX, ⟨b0, b1, b2, b3, b4⟩, ⟨fb0, fb1, fb2, fb3, fb4⟩, fd0, fd1, fd2, fd3, fd4⟩ := fin5 (G2.later e8) (xt GX e8) (by omega) 4 false 0 0 numbT
       go_wp2_with fail
       exact bodyPost_ret (v := valV 4 false 0 0 numbT) (by simp [results, Tryz.results168, go_sem, fd0, fd1, fd2, fd3, fd4]) rfl ⟨congrArg Ending.returned HV2.out, FX⟩
      ·
       have HV2 := HV
       go_wp2_with fail
       clear hgw m0 o0 r0 m1 o1 r1 m2 o2 r2 m3 o3 r3
       refine (numVS rn rd re wg).mono ?_
       rintro rr w8 ⟨rfl, e8⟩
       obtain ⟨wy, hy, FX, ⟨b0, b1, b2, b3, b4⟩, ⟨fb0, fb1, fb2, fb3, fb4⟩, fd0, fd1, fd2, fd3, fd4⟩ := fin5 (G2.later e8) (xt GX e8) (by omega) 1 rn rd re []
       go_wp2_with fail
       exact bodyPost_ret (v := valV 1 rn rd re []) (by simp [results, Tryz.results168, go_sem, fd0, fd1, fd2, fd3, fd4]) rfl ⟨congrArg Ending.returned HV2.out, FX⟩
     ·
      have HR1 : Hid (evV numbT = R) := by show _ = _; rw [← HR0.out]; unfold powerV; rw [if_neg HN1.out, if_neg HN2.out, if_neg (by rw [HK.out]; simp), if_neg hh]
      have hh2 : n' = true ∨ (n' = false ∧ (d' ≠ 5 ∨ (d' = 5 ∧ e' ≠ -1))) := by
       cases n'
       ·
        right
        refine ⟨rfl, ?_⟩
        by_cases hd : d' = 5
        ·
         exact Or.inr ⟨hd, fun hx => hh (by simp [halfB, hd, hx])⟩
        ·
         exact Or.inl hd
       ·
        exact Or.inl rfl
      clear hh
      rcases hh2 with hn | ⟨hn, hd5 | ⟨hd5, he1⟩⟩
      ·
       subst hn
       have HV : Hid (evV numbT = R) := HR1
       obtain ⟨r0, r1, r2, r3⟩ := Vec.four (EQ)
       go_wp2_with fail
       clear a0 a1 a2 c0 c1 c2 r0 r1 r2 r3
       refine (errVS numbT w1).mono ?_
       rintro rr w8 ⟨rfl, e8⟩
       obtain ⟨wy, hy, FX, ⟨b0, b1, b2, b3, b4⟩, ⟨fb0, fb1, fb2, fb3, fb4⟩, fd0, fd1, fd2, fd3, fd4⟩ := fin5 (E2.later e8) (xt X1 e8) (by omega) 4 false 0 0 numbT
       go_wp2_with fail
       exact bodyPost_ret (v := valV 4 false 0 0 numbT) (by simp [results, Tryz.results168, go_sem, fd0, fd1, fd2, fd3, fd4]) rfl ⟨congrArg Ending.returned HV.out, FX⟩
      ·
       subst hn
       have hd6 : (d' == 5) = false := by simpa using hd5
       have HV : Hid (evV numbT = R) := HR1
       obtain ⟨r0, r1, r2, r3⟩ := Vec.four (EQ)
       go_wp2_with fail
       clear a0 a1 a2 c0 c1 c2 r0 r1 r2 r3
       refine (errVS numbT w1).mono ?_
       rintro rr w8 ⟨rfl, e8⟩
       obtain ⟨wy, hy, FX, ⟨b0, b1, b2, b3, b4⟩, ⟨fb0, fb1, fb2, fb3, fb4⟩, fd0, fd1, fd2, fd3, fd4⟩ := fin5 (E2.later e8) (xt X1 e8) (by omega) 4 false 0 0 numbT
       go_wp2_with fail
       exact bodyPost_ret (v := valV 4 false 0 0 numbT) (by simp [results, Tryz.results168, go_sem, fd0, fd1, fd2, fd3, fd4]) rfl ⟨congrArg Ending.returned HV.out, FX⟩
      ·
       subst hn
       subst hd5
       have he6 : (e' == -1) = false := by simpa using he1
       have HV : Hid (evV numbT = R) := HR1
       obtain ⟨r0, r1, r2, r3⟩ := Vec.four (EQ)
       go_wp2_with fail
       clear a0 a1 a2 c0 c1 c2 r0 r1 r2 r3
       refine (errVS numbT w1).mono ?_
       rintro rr w8 ⟨rfl, e8⟩
       obtain ⟨wy, hy, FX, ⟨b0, b1, b2, b3, b4⟩, ⟨fb0, fb1, fb2, fb3, fb4⟩, fd0, fd1, fd2, fd3, fd4⟩ := fin5 (E2.later e8) (xt X1 e8) (by omega) 4 false 0 0 numbT
       go_wp2_with fail
       exact bodyPost_ret (v := valV 4 false 0 0 numbT) (by simp [results, Tryz.results168, go_sem, fd0, fd1, fd2, fd3, fd4]) rfl ⟨congrArg Ending.returned HV.out, FX⟩
    ·
     have HR1 : Hid (putV (powR n d e iz) = R) := by show _ = _; rw [← HR0.out]; unfold powerV; rw [if_neg HN1.out, if_neg HN2.out, if_pos (by rw [HK.out]), HZ.out]
     by_cases hi : -1000 ≤ iz ∧ iz ≤ 1000
     ·
      obtain ⟨i1, i2⟩ := hi
      have HR : Hid (putV (powR n d e iz) = R) := HR1
      obtain ⟨⟨rk, rn, rd, re⟩, hr⟩ : ∃ r, powR n d e iz = r := ⟨_, rfl⟩
      have HV : Hid (putV ⟨rk, rn, rd, re⟩ = R) := by show _ = _; rw [← hr]; exact HR.out
      have HP : Hid (∀ W, Calls Tryz.prog 212 #[decV n d e, .int .i64 iz] W fun r w' => r = .returned (.agg #[.bool rk, .bool rn, .int .i64 rd, .int .i64 re]) ∧ Ext W w') := fun W => by have := powS' n d e iz W; rw [hr] at this; exact this
      clear hr HR
      go_wp2_with fail
      refine (HP.out w1).mono ?_
      rintro rr w2 ⟨rfl, e2⟩
      clear a0 a1 a2 c0 c1 c2
      have GQ := (EQ.later e2).putF (.bool rk) (.bool rn) (.int .i64 rd) (.int .i64 re)
      have GX := ext_putF (a := w) (b := w.heap.size + 1 + 1 + 1) (xt X1 e2) (by omega) (.bool rk) (.bool rn) (.int .i64 rd) (.int .i64 re)
      have G2 := Vec.farF (b := w.heap.size + 1 + 1 + 1) (by omega) (.bool rk) (.bool rn) (.int .i64 rd) (.int .i64 re) (E2.later e2)
      obtain ⟨wg, hgw⟩ : ∃ wg, ((((w2.setCell ⟨w.heap.size + 1 + 1 + 1, 0, none⟩ (.bool rk)).setCell ⟨w.heap.size + 1 + 1 + 1, 1, none⟩ (.bool rn)).setCell ⟨w.heap.size + 1 + 1 + 1, 2, none⟩ (.int .i64 rd)).setCell ⟨w.heap.size + 1 + 1 + 1, 3, none⟩ (.int .i64 re)) = wg := ⟨_, rfl⟩
      rw [hgw] at GQ GX G2
      obtain ⟨m0, m1, m2, m3⟩ := Vec.four (EQ.later e2)
      obtain ⟨o0, o1, o2, o3⟩ := Vec.fourF (EQ.later e2)
      obtain ⟨r0, r1, r2, r3⟩ := Vec.four GQ
      cases rk
      ·
       have HV2 := HV
       go_wp2_with fail
       clear hgw m0 o0 r0 m1 o1 r1 m2 o2 r2 m3 o3 r3
       refine (errVS numbT wg).mono ?_
       rintro rr w8 ⟨rfl, e8⟩
       obtain ⟨wy, hy, FX, ⟨b0, b1, b2, b3, b4⟩, ⟨fb0, fb1, fb2, fb3, fb4⟩, fd0, fd1, fd2, fd3, fd4⟩ := fin5 (G2.later e8) (xt GX e8) (by omega) 4 false 0 0 numbT
       go_wp2_with fail
       exact bodyPost_ret (v := valV 4 false 0 0 numbT) (by simp [results, Tryz.results168, go_sem, fd0, fd1, fd2, fd3, fd4]) rfl ⟨congrArg Ending.returned HV2.out, FX⟩
      ·
       have HV2 := HV
       go_wp2_with fail
       clear hgw m0 o0 r0 m1 o1 r1 m2 o2 r2 m3 o3 r3
       refine (numVS rn rd re wg).mono ?_
       rintro rr w8 ⟨rfl, e8⟩
       obtain ⟨wy, hy, FX, ⟨b0, b1, b2, b3, b4⟩, ⟨fb0, fb1, fb2, fb3, fb4⟩, fd0, fd1, fd2, fd3, fd4⟩ := fin5 (G2.later e8) (xt GX e8) (by omega) 1 rn rd re []
       go_wp2_with fail
       exact bodyPost_ret (v := valV 1 rn rd re []) (by simp [results, Tryz.results168, go_sem, fd0, fd1, fd2, fd3, fd4]) rfl ⟨congrArg Ending.returned HV2.out, FX⟩
     ·
      have HR2 : Hid (evV numbT = R) := by
       show _ = _
       rw [← HR1.out]
       have : powR n d e iz = badR := by unfold powR; rw [if_neg (by simp; intro _; omega)]
       rw [this]
       rfl
      have HR1 := HR2
      clear HR2
      have hh : ¬ halfB n' d' e' = true := fun hh => by
       obtain ⟨q0, q1, q2⟩ : n' = false ∧ d' = 5 ∧ e' = -1 := by simpa [halfB, and_assoc] using hh
       have := HK.out
       rw [q0, q1, q2] at this
       exact absurd this (by decide)
      have hh2 : n' = true ∨ (n' = false ∧ (d' ≠ 5 ∨ (d' = 5 ∧ e' ≠ -1))) := by
       cases n'
       ·
        right
        refine ⟨rfl, ?_⟩
        by_cases hd : d' = 5
        ·
         exact Or.inr ⟨hd, fun hx => hh (by simp [halfB, hd, hx])⟩
        ·
         exact Or.inl hd
       ·
        exact Or.inl rfl
      clear hh
      have hi2 : iz < -1000 ∨ (-1000 ≤ iz ∧ 1000 < iz) := by omega
      clear hi
      rcases hi2 with i1 | ⟨i1, i2⟩
      ·
       rcases hh2 with hn | ⟨hn, hd5 | ⟨hd5, he1⟩⟩
       ·
        subst hn
        have HV : Hid (evV numbT = R) := HR1
        obtain ⟨r0, r1, r2, r3⟩ := Vec.four (EQ)
        go_wp2_with fail
        clear a0 a1 a2 c0 c1 c2 r0 r1 r2 r3
        refine (errVS numbT w1).mono ?_
        rintro rr w8 ⟨rfl, e8⟩
        obtain ⟨wy, hy, FX, ⟨b0, b1, b2, b3, b4⟩, ⟨fb0, fb1, fb2, fb3, fb4⟩, fd0, fd1, fd2, fd3, fd4⟩ := fin5 (E2.later e8) (xt X1 e8) (by omega) 4 false 0 0 numbT
        go_wp2_with fail
        exact bodyPost_ret (v := valV 4 false 0 0 numbT) (by simp [results, Tryz.results168, go_sem, fd0, fd1, fd2, fd3, fd4]) rfl ⟨congrArg Ending.returned HV.out, FX⟩
       ·
        subst hn
        have hd6 : (d' == 5) = false := by simpa using hd5
        have HV : Hid (evV numbT = R) := HR1
        obtain ⟨r0, r1, r2, r3⟩ := Vec.four (EQ)
        go_wp2_with fail
        clear a0 a1 a2 c0 c1 c2 r0 r1 r2 r3
        refine (errVS numbT w1).mono ?_
        rintro rr w8 ⟨rfl, e8⟩
        obtain ⟨wy, hy, FX, ⟨b0, b1, b2, b3, b4⟩, ⟨fb0, fb1, fb2, fb3, fb4⟩, fd0, fd1, fd2, fd3, fd4⟩ := fin5 (E2.later e8) (xt X1 e8) (by omega) 4 false 0 0 numbT
        go_wp2_with fail
        exact bodyPost_ret (v := valV 4 false 0 0 numbT) (by simp [results, Tryz.results168, go_sem, fd0, fd1, fd2, fd3, fd4]) rfl ⟨congrArg Ending.returned HV.out, FX⟩
       ·
        subst hn
        subst hd5
        have he6 : (e' == -1) = false := by simpa using he1
        have HV : Hid (evV numbT = R) := HR1
        obtain ⟨r0, r1, r2, r3⟩ := Vec.four (EQ)
        go_wp2_with fail
        clear a0 a1 a2 c0 c1 c2 r0 r1 r2 r3
        refine (errVS numbT w1).mono ?_
        rintro rr w8 ⟨rfl, e8⟩
        obtain ⟨wy, hy, FX, ⟨b0, b1, b2, b3, b4⟩, ⟨fb0, fb1, fb2, fb3, fb4⟩, fd0, fd1, fd2, fd3, fd4⟩ := fin5 (E2.later e8) (xt X1 e8) (by omega) 4 false 0 0 numbT
        go_wp2_with fail
        exact bodyPost_ret (v := valV 4 false 0 0 numbT) (by simp [results, Tryz.results168, go_sem, fd0, fd1, fd2, fd3, fd4]) rfl ⟨congrArg Ending.returned HV.out, FX⟩
      ·
       rcases hh2 with hn | ⟨hn, hd5 | ⟨hd5, he1⟩⟩
       ·
        subst hn
        have HV : Hid (evV numbT = R) := HR1
        obtain ⟨r0, r1, r2, r3⟩ := Vec.four (EQ)
        go_wp2_with fail
        clear a0 a1 a2 c0 c1 c2 r0 r1 r2 r3
        refine (errVS numbT w1).mono ?_
        rintro rr w8 ⟨rfl, e8⟩
        obtain ⟨wy, hy, FX, ⟨b0, b1, b2, b3, b4⟩, ⟨fb0, fb1, fb2, fb3, fb4⟩, fd0, fd1, fd2, fd3, fd4⟩ := fin5 (E2.later e8) (xt X1 e8) (by omega) 4 false 0 0 numbT
        go_wp2_with fail
        exact bodyPost_ret (v := valV 4 false 0 0 numbT) (by simp [results, Tryz.results168, go_sem, fd0, fd1, fd2, fd3, fd4]) rfl ⟨congrArg Ending.returned HV.out, FX⟩
       ·
        subst hn
        have hd6 : (d' == 5) = false := by simpa using hd5
        have HV : Hid (evV numbT = R) := HR1
        obtain ⟨r0, r1, r2, r3⟩ := Vec.four (EQ)
        go_wp2_with fail
        clear a0 a1 a2 c0 c1 c2 r0 r1 r2 r3
        refine (errVS numbT w1).mono ?_
        rintro rr w8 ⟨rfl, e8⟩
        obtain ⟨wy, hy, FX, ⟨b0, b1, b2, b3, b4⟩, ⟨fb0, fb1, fb2, fb3, fb4⟩, fd0, fd1, fd2, fd3, fd4⟩ := fin5 (E2.later e8) (xt X1 e8) (by omega) 4 false 0 0 numbT
        go_wp2_with fail
        exact bodyPost_ret (v := valV 4 false 0 0 numbT) (by simp [results, Tryz.results168, go_sem, fd0, fd1, fd2, fd3, fd4]) rfl ⟨congrArg Ending.returned HV.out, FX⟩
       ·
        subst hn
        subst hd5
        have he6 : (e' == -1) = false := by simpa using he1
        have HV : Hid (evV numbT = R) := HR1
        obtain ⟨r0, r1, r2, r3⟩ := Vec.four (EQ)
        go_wp2_with fail
        clear a0 a1 a2 c0 c1 c2 r0 r1 r2 r3
        refine (errVS numbT w1).mono ?_
        rintro rr w8 ⟨rfl, e8⟩
        obtain ⟨wy, hy, FX, ⟨b0, b1, b2, b3, b4⟩, ⟨fb0, fb1, fb2, fb3, fb4⟩, fd0, fd1, fd2, fd3, fd4⟩ := fin5 (E2.later e8) (xt X1 e8) (by omega) 4 false 0 0 numbT
        go_wp2_with fail
        exact bodyPost_ret (v := valV 4 false 0 0 numbT) (by simp [results, Tryz.results168, go_sem, fd0, fd1, fd2, fd3, fd4]) rfl ⟨congrArg Ending.returned HV.out, FX⟩
   ·
    rw [hn0] at g0
    clear hn0
    go_wp2_with fail
    clear h0 h1 h2 s0 s1 s2 h3 s3
    clear hq z0 y0 z1 y1 z2 y2 z3 y3 a0 a1 a2 c0 c1 c2 f0 f1 f2 g0 g1 g2
    refine (HI.out wq).mono ?_
    rintro rr w1 ⟨rfl, e1⟩
    have E0 := D0.later e1
    have E1 := D1.later e1
    have E2 := D2.later e1
    have EQ := BQ.later e1
    have X1 := xt X e1
    clear D0 D1 D2 BQ X
    obtain ⟨a0, a1, a2⟩ := Vec.three (E0)
    obtain ⟨c0, c1, c2⟩ := Vec.three (E1)
    cases ok
    ·
     by_cases hh : halfB n' d' e' = true
     ·
      have HR1 : Hid (putV (sqrtR n d e) = R) := by show _ = _; rw [← HR0.out]; unfold powerV; rw [if_neg HN1.out, if_neg HN2.out, if_neg (by rw [HK.out]; simp), if_pos hh]
      obtain ⟨q0, q1, q2⟩ : n' = false ∧ d' = 5 ∧ e' = -1 := by simpa [halfB, and_assoc] using hh
      subst q0 q1 q2
      clear hh
      have HR : Hid (putV (sqrtR n d e) = R) := HR1
      obtain ⟨⟨rk, rn, rd, re⟩, hr⟩ : ∃ r, sqrtR n d e = r := ⟨_, rfl⟩
      have HV : Hid (putV ⟨rk, rn, rd, re⟩ = R) := by show _ = _; rw [← hr]; exact HR.out
      have HP : Hid (∀ W, Calls Tryz.prog 213 #[decV n d e] W fun r w' => r = .returned (.agg #[.bool rk, .bool rn, .int .i64 rd, .int .i64 re]) ∧ Ext W w') := fun W => by have := sqrtSV n d e lo1 lo2 W; rw [hr] at this; exact this
      clear hr HR
      go_wp2_with fail
      refine (HP.out w1).mono ?_
      rintro rr w2 ⟨rfl, e2⟩
      clear a0 a1 a2 c0 c1 c2
      have GQ := (EQ.later e2).putF (.bool rk) (.bool rn) (.int .i64 rd) (.int .i64 re)
      have GX := ext_putF (a := w) (b := w.heap.size + 1 + 1 + 1) (xt X1 e2) (by omega) (.bool rk) (.bool rn) (.int .i64 rd) (.int .i64 re)
      have G2 := Vec.farF (b := w.heap.size + 1 + 1 + 1) (by omega) (.bool rk) (.bool rn) (.int .i64 rd) (.int .i64 re) (E2.later e2)
      obtain ⟨wg, hgw⟩ : ∃ wg, ((((w2.setCell ⟨w.heap.size + 1 + 1 + 1, 0, none⟩ (.bool rk)).setCell ⟨w.heap.size + 1 + 1 + 1, 1, none⟩ (.bool rn)).setCell ⟨w.heap.size + 1 + 1 + 1, 2, none⟩ (.int .i64 rd)).setCell ⟨w.heap.size + 1 + 1 + 1, 3, none⟩ (.int .i64 re)) = wg := ⟨_, rfl⟩
      rw [hgw] at GQ GX G2
      obtain ⟨m0, m1, m2, m3⟩ := Vec.four (EQ.later e2)
      obtain ⟨o0, o1, o2, o3⟩ := Vec.fourF (EQ.later e2)
      obtain ⟨r0, r1, r2, r3⟩ := Vec.four GQ
      cases rk
      ·
       have HV2 := HV
       go_wp2_with fail
       clear hgw m0 o0 r0 m1 o1 r1 m2 o2 r2 m3 o3 r3
       refine (errVS numbT wg).mono ?_
       rintro rr w8 ⟨rfl, e8⟩
       obtain ⟨wy, hy, FX, ⟨b0, b1, b2, b3, b4⟩, ⟨fb0, fb1, fb2, fb3, fb4⟩, fd0, fd1, fd2, fd3, fd4⟩ := fin5 (G2.later e8) (xt GX e8) (by omega) 4 false 0 0 numbT
       go_wp2_with fail
       exact bodyPost_ret (v := valV 4 false 0 0 numbT) (by simp [results, Tryz.results168, go_sem, fd0, fd1, fd2, fd3, fd4]) rfl ⟨congrArg Ending.returned HV2.out, FX⟩
      ·
       have HV2 := HV
       go_wp2_with fail
       clear hgw m0 o0 r0 m1 o1 r1 m2 o2 r2 m3 o3 r3
       refine (numVS rn rd re wg).mono ?_
       rintro rr w8 ⟨rfl, e8⟩
       obtain ⟨wy, hy, FX, ⟨b0, b1, b2, b3, b4⟩, ⟨fb0, fb1, fb2, fb3, fb4⟩, fd0, fd1, fd2, fd3, fd4⟩ := fin5 (G2.later e8) (xt GX e8) (by omega) 1 rn rd re []
       go_wp2_with fail
       exact bodyPost_ret (v := valV 1 rn rd re []) (by simp [results, Tryz.results168, go_sem, fd0, fd1, fd2, fd3, fd4]) rfl ⟨congrArg Ending.returned HV2.out, FX⟩
     ·
      have HR1 : Hid (evV numbT = R) := by show _ = _; rw [← HR0.out]; unfold powerV; rw [if_neg HN1.out, if_neg HN2.out, if_neg (by rw [HK.out]; simp), if_neg hh]
      have hh2 : n' = true ∨ (n' = false ∧ (d' ≠ 5 ∨ (d' = 5 ∧ e' ≠ -1))) := by
       cases n'
       ·
        right
        refine ⟨rfl, ?_⟩
        by_cases hd : d' = 5
        ·
         exact Or.inr ⟨hd, fun hx => hh (by simp [halfB, hd, hx])⟩
        ·
         exact Or.inl hd
       ·
        exact Or.inl rfl
      clear hh
      rcases hh2 with hn | ⟨hn, hd5 | ⟨hd5, he1⟩⟩
      ·
       subst hn
       have HV : Hid (evV numbT = R) := HR1
       obtain ⟨r0, r1, r2, r3⟩ := Vec.four (EQ)
       go_wp2_with fail
       clear a0 a1 a2 c0 c1 c2 r0 r1 r2 r3
       refine (errVS numbT w1).mono ?_
       rintro rr w8 ⟨rfl, e8⟩
       obtain ⟨wy, hy, FX, ⟨b0, b1, b2, b3, b4⟩, ⟨fb0, fb1, fb2, fb3, fb4⟩, fd0, fd1, fd2, fd3, fd4⟩ := fin5 (E2.later e8) (xt X1 e8) (by omega) 4 false 0 0 numbT
       go_wp2_with fail
       exact bodyPost_ret (v := valV 4 false 0 0 numbT) (by simp [results, Tryz.results168, go_sem, fd0, fd1, fd2, fd3, fd4]) rfl ⟨congrArg Ending.returned HV.out, FX⟩
      ·
       subst hn
       have hd6 : (d' == 5) = false := by simpa using hd5
       have HV : Hid (evV numbT = R) := HR1
       obtain ⟨r0, r1, r2, r3⟩ := Vec.four (EQ)
       go_wp2_with fail
       clear a0 a1 a2 c0 c1 c2 r0 r1 r2 r3
       refine (errVS numbT w1).mono ?_
       rintro rr w8 ⟨rfl, e8⟩
       obtain ⟨wy, hy, FX, ⟨b0, b1, b2, b3, b4⟩, ⟨fb0, fb1, fb2, fb3, fb4⟩, fd0, fd1, fd2, fd3, fd4⟩ := fin5 (E2.later e8) (xt X1 e8) (by omega) 4 false 0 0 numbT
       go_wp2_with fail
       exact bodyPost_ret (v := valV 4 false 0 0 numbT) (by simp [results, Tryz.results168, go_sem, fd0, fd1, fd2, fd3, fd4]) rfl ⟨congrArg Ending.returned HV.out, FX⟩
      ·
       subst hn
       subst hd5
       have he6 : (e' == -1) = false := by simpa using he1
       have HV : Hid (evV numbT = R) := HR1
       obtain ⟨r0, r1, r2, r3⟩ := Vec.four (EQ)
       go_wp2_with fail
       clear a0 a1 a2 c0 c1 c2 r0 r1 r2 r3
       refine (errVS numbT w1).mono ?_
       rintro rr w8 ⟨rfl, e8⟩
       obtain ⟨wy, hy, FX, ⟨b0, b1, b2, b3, b4⟩, ⟨fb0, fb1, fb2, fb3, fb4⟩, fd0, fd1, fd2, fd3, fd4⟩ := fin5 (E2.later e8) (xt X1 e8) (by omega) 4 false 0 0 numbT
       go_wp2_with fail
       exact bodyPost_ret (v := valV 4 false 0 0 numbT) (by simp [results, Tryz.results168, go_sem, fd0, fd1, fd2, fd3, fd4]) rfl ⟨congrArg Ending.returned HV.out, FX⟩
    ·
     have HR1 : Hid (putV (powR n d e iz) = R) := by show _ = _; rw [← HR0.out]; unfold powerV; rw [if_neg HN1.out, if_neg HN2.out, if_pos (by rw [HK.out]), HZ.out]
     by_cases hi : -1000 ≤ iz ∧ iz ≤ 1000
     ·
      obtain ⟨i1, i2⟩ := hi
      have HR : Hid (putV (powR n d e iz) = R) := HR1
      obtain ⟨⟨rk, rn, rd, re⟩, hr⟩ : ∃ r, powR n d e iz = r := ⟨_, rfl⟩
      have HV : Hid (putV ⟨rk, rn, rd, re⟩ = R) := by show _ = _; rw [← hr]; exact HR.out
      have HP : Hid (∀ W, Calls Tryz.prog 212 #[decV n d e, .int .i64 iz] W fun r w' => r = .returned (.agg #[.bool rk, .bool rn, .int .i64 rd, .int .i64 re]) ∧ Ext W w') := fun W => by have := powS' n d e iz W; rw [hr] at this; exact this
      clear hr HR
      go_wp2_with fail
      refine (HP.out w1).mono ?_
      rintro rr w2 ⟨rfl, e2⟩
      clear a0 a1 a2 c0 c1 c2
      have GQ := (EQ.later e2).putF (.bool rk) (.bool rn) (.int .i64 rd) (.int .i64 re)
      have GX := ext_putF (a := w) (b := w.heap.size + 1 + 1 + 1) (xt X1 e2) (by omega) (.bool rk) (.bool rn) (.int .i64 rd) (.int .i64 re)
      have G2 := Vec.farF (b := w.heap.size + 1 + 1 + 1) (by omega) (.bool rk) (.bool rn) (.int .i64 rd) (.int .i64 re) (E2.later e2)
      obtain ⟨wg, hgw⟩ : ∃ wg, ((((w2.setCell ⟨w.heap.size + 1 + 1 + 1, 0, none⟩ (.bool rk)).setCell ⟨w.heap.size + 1 + 1 + 1, 1, none⟩ (.bool rn)).setCell ⟨w.heap.size + 1 + 1 + 1, 2, none⟩ (.int .i64 rd)).setCell ⟨w.heap.size + 1 + 1 + 1, 3, none⟩ (.int .i64 re)) = wg := ⟨_, rfl⟩
      rw [hgw] at GQ GX G2
      obtain ⟨m0, m1, m2, m3⟩ := Vec.four (EQ.later e2)
      obtain ⟨o0, o1, o2, o3⟩ := Vec.fourF (EQ.later e2)
      obtain ⟨r0, r1, r2, r3⟩ := Vec.four GQ
      cases rk
      ·
       have HV2 := HV
       go_wp2_with fail
       clear hgw m0 o0 r0 m1 o1 r1 m2 o2 r2 m3 o3 r3
       refine (errVS numbT wg).mono ?_
       rintro rr w8 ⟨rfl, e8⟩
       obtain ⟨wy, hy, FX, ⟨b0, b1, b2, b3, b4⟩, ⟨fb0, fb1, fb2, fb3, fb4⟩, fd0, fd1, fd2, fd3, fd4⟩ := fin5 (G2.later e8) (xt GX e8) (by omega) 4 false 0 0 numbT
       go_wp2_with fail
       exact bodyPost_ret (v := valV 4 false 0 0 numbT) (by simp [results, Tryz.results168, go_sem, fd0, fd1, fd2, fd3, fd4]) rfl ⟨congrArg Ending.returned HV2.out, FX⟩
      ·
       have HV2 := HV
       go_wp2_with fail
       clear hgw m0 o0 r0 m1 o1 r1 m2 o2 r2 m3 o3 r3
       refine (numVS rn rd re wg).mono ?_
       rintro rr w8 ⟨rfl, e8⟩
       obtain ⟨wy, hy, FX, ⟨b0, b1, b2, b3, b4⟩, ⟨fb0, fb1, fb2, fb3, fb4⟩, fd0, fd1, fd2, fd3, fd4⟩ := fin5 (G2.later e8) (xt GX e8) (by omega) 1 rn rd re []
       go_wp2_with fail
       exact bodyPost_ret (v := valV 1 rn rd re []) (by simp [results, Tryz.results168, go_sem, fd0, fd1, fd2, fd3, fd4]) rfl ⟨congrArg Ending.returned HV2.out, FX⟩
     ·
      have HR2 : Hid (evV numbT = R) := by
       show _ = _
       rw [← HR1.out]
       have : powR n d e iz = badR := by unfold powR; rw [if_neg (by simp; intro _; omega)]
       rw [this]
       rfl
      have HR1 := HR2
      clear HR2
      have hh : ¬ halfB n' d' e' = true := fun hh => by
       obtain ⟨q0, q1, q2⟩ : n' = false ∧ d' = 5 ∧ e' = -1 := by simpa [halfB, and_assoc] using hh
       have := HK.out
       rw [q0, q1, q2] at this
       exact absurd this (by decide)
      have hh2 : n' = true ∨ (n' = false ∧ (d' ≠ 5 ∨ (d' = 5 ∧ e' ≠ -1))) := by
       cases n'
       ·
        right
        refine ⟨rfl, ?_⟩
        by_cases hd : d' = 5
        ·
         exact Or.inr ⟨hd, fun hx => hh (by simp [halfB, hd, hx])⟩
        ·
         exact Or.inl hd
       ·
        exact Or.inl rfl
      clear hh
      have hi2 : iz < -1000 ∨ (-1000 ≤ iz ∧ 1000 < iz) := by omega
      clear hi
      rcases hi2 with i1 | ⟨i1, i2⟩
      ·
       rcases hh2 with hn | ⟨hn, hd5 | ⟨hd5, he1⟩⟩
       ·
        subst hn
        have HV : Hid (evV numbT = R) := HR1
        obtain ⟨r0, r1, r2, r3⟩ := Vec.four (EQ)
        go_wp2_with fail
        clear a0 a1 a2 c0 c1 c2 r0 r1 r2 r3
        refine (errVS numbT w1).mono ?_
        rintro rr w8 ⟨rfl, e8⟩
        obtain ⟨wy, hy, FX, ⟨b0, b1, b2, b3, b4⟩, ⟨fb0, fb1, fb2, fb3, fb4⟩, fd0, fd1, fd2, fd3, fd4⟩ := fin5 (E2.later e8) (xt X1 e8) (by omega) 4 false 0 0 numbT
        go_wp2_with fail
        exact bodyPost_ret (v := valV 4 false 0 0 numbT) (by simp [results, Tryz.results168, go_sem, fd0, fd1, fd2, fd3, fd4]) rfl ⟨congrArg Ending.returned HV.out, FX⟩
       ·
        subst hn
        have hd6 : (d' == 5) = false := by simpa using hd5
        have HV : Hid (evV numbT = R) := HR1
        obtain ⟨r0, r1, r2, r3⟩ := Vec.four (EQ)
        go_wp2_with fail
        clear a0 a1 a2 c0 c1 c2 r0 r1 r2 r3
        refine (errVS numbT w1).mono ?_
        rintro rr w8 ⟨rfl, e8⟩
        obtain ⟨wy, hy, FX, ⟨b0, b1, b2, b3, b4⟩, ⟨fb0, fb1, fb2, fb3, fb4⟩, fd0, fd1, fd2, fd3, fd4⟩ := fin5 (E2.later e8) (xt X1 e8) (by omega) 4 false 0 0 numbT
        go_wp2_with fail
        exact bodyPost_ret (v := valV 4 false 0 0 numbT) (by simp [results, Tryz.results168, go_sem, fd0, fd1, fd2, fd3, fd4]) rfl ⟨congrArg Ending.returned HV.out, FX⟩
       ·
        subst hn
        subst hd5
        have he6 : (e' == -1) = false := by simpa using he1
        have HV : Hid (evV numbT = R) := HR1
        obtain ⟨r0, r1, r2, r3⟩ := Vec.four (EQ)
        go_wp2_with fail
        clear a0 a1 a2 c0 c1 c2 r0 r1 r2 r3
        refine (errVS numbT w1).mono ?_
        rintro rr w8 ⟨rfl, e8⟩
        obtain ⟨wy, hy, FX, ⟨b0, b1, b2, b3, b4⟩, ⟨fb0, fb1, fb2, fb3, fb4⟩, fd0, fd1, fd2, fd3, fd4⟩ := fin5 (E2.later e8) (xt X1 e8) (by omega) 4 false 0 0 numbT
        go_wp2_with fail
        exact bodyPost_ret (v := valV 4 false 0 0 numbT) (by simp [results, Tryz.results168, go_sem, fd0, fd1, fd2, fd3, fd4]) rfl ⟨congrArg Ending.returned HV.out, FX⟩
      ·
       rcases hh2 with hn | ⟨hn, hd5 | ⟨hd5, he1⟩⟩
       ·
        subst hn
        have HV : Hid (evV numbT = R) := HR1
        obtain ⟨r0, r1, r2, r3⟩ := Vec.four (EQ)
        go_wp2_with fail
        clear a0 a1 a2 c0 c1 c2 r0 r1 r2 r3
        refine (errVS numbT w1).mono ?_
        rintro rr w8 ⟨rfl, e8⟩
        obtain ⟨wy, hy, FX, ⟨b0, b1, b2, b3, b4⟩, ⟨fb0, fb1, fb2, fb3, fb4⟩, fd0, fd1, fd2, fd3, fd4⟩ := fin5 (E2.later e8) (xt X1 e8) (by omega) 4 false 0 0 numbT
        go_wp2_with fail
        exact bodyPost_ret (v := valV 4 false 0 0 numbT) (by simp [results, Tryz.results168, go_sem, fd0, fd1, fd2, fd3, fd4]) rfl ⟨congrArg Ending.returned HV.out, FX⟩
       ·
        subst hn
        have hd6 : (d' == 5) = false := by simpa using hd5
        have HV : Hid (evV numbT = R) := HR1
        obtain ⟨r0, r1, r2, r3⟩ := Vec.four (EQ)
        go_wp2_with fail
        clear a0 a1 a2 c0 c1 c2 r0 r1 r2 r3
        refine (errVS numbT w1).mono ?_
        rintro rr w8 ⟨rfl, e8⟩
        obtain ⟨wy, hy, FX, ⟨b0, b1, b2, b3, b4⟩, ⟨fb0, fb1, fb2, fb3, fb4⟩, fd0, fd1, fd2, fd3, fd4⟩ := fin5 (E2.later e8) (xt X1 e8) (by omega) 4 false 0 0 numbT
        go_wp2_with fail
        exact bodyPost_ret (v := valV 4 false 0 0 numbT) (by simp [results, Tryz.results168, go_sem, fd0, fd1, fd2, fd3, fd4]) rfl ⟨congrArg Ending.returned HV.out, FX⟩
       ·
        subst hn
        subst hd5
        have he6 : (e' == -1) = false := by simpa using he1
        have HV : Hid (evV numbT = R) := HR1
        obtain ⟨r0, r1, r2, r3⟩ := Vec.four (EQ)
        go_wp2_with fail
        clear a0 a1 a2 c0 c1 c2 r0 r1 r2 r3
        refine (errVS numbT w1).mono ?_
        rintro rr w8 ⟨rfl, e8⟩
        obtain ⟨wy, hy, FX, ⟨b0, b1, b2, b3, b4⟩, ⟨fb0, fb1, fb2, fb3, fb4⟩, fd0, fd1, fd2, fd3, fd4⟩ := fin5 (E2.later e8) (xt X1 e8) (by omega) 4 false 0 0 numbT
        go_wp2_with fail
        exact bodyPost_ret (v := valV 4 false 0 0 numbT) (by simp [results, Tryz.results168, go_sem, fd0, fd1, fd2, fd3, fd4]) rfl ⟨congrArg Ending.returned HV.out, FX⟩

end Go.Proofs.YtkadkfmidlhedaaGreatDoor

