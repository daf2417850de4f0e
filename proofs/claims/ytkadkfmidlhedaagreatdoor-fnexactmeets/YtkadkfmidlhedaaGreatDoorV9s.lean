/-
  Chapter 6: what the specification makes of two numbers.
-/
import Derived.Test.YtkadkfmidlhedaaGreatDoorV9q
namespace Go.Proofs.YtkadkfmidlhedaaGreatDoor
open Go.RowKit

set_option maxRecDepth 8000 in
set_option maxHeartbeats 2000000 in
theorem plusS (n : Bool) (d e : Int) (n' : Bool) (d' e' : Int) (w : World)  :
  Calls Tryz.prog 121 #[sV [43], decV n d e, decV n' d' e'] w fun rr w' => rr = .returned (putV (addR n d e n' d' e')) ∧ Ext w w' := by
 obtain ⟨⟨rk, rn, rd, re⟩, hr⟩ : ∃ r, addR n d e n' d' e' = r := ⟨_, rfl⟩
 have HP : Hid (∀ W, Calls Tryz.prog 164 #[decV n d e, decV n' d' e'] W fun r w' => r = .returned (.agg #[.bool rk, .bool rn, .int .i64 rd, .int .i64 re]) ∧ Ext W w') := fun W => by have := addSpec n n' d e d' e' W; rw [hr] at this; exact this
 rw [hr]
 clear hr
 obtain ⟨R, hR⟩ : ∃ R, putV ⟨rk, rn, rd, re⟩ = R := ⟨_, rfl⟩
 have HV : Hid (putV ⟨rk, rn, rd, re⟩ = R) := hR
 rw [hR]
 clear hR
 obtain ⟨u0, u1, u2, u3, h0, h1, h2, h3, s0, s1, s2, s3, B0, B1, B2, B3, X⟩ := mkB4 w [.bool n, .int .i64 d, .int .i64 e] [.bool n', .int .i64 d', .int .i64 e'] [.int .i64 0, .bool false, .int .i64 0, .int .i64 0, sV []] [.bool false, .bool false, .int .i64 0, .int .i64 0] 24 24 26 79
 obtain ⟨wz, hz⟩ : ∃ wz, u3 = wz := ⟨_, rfl⟩
 rw [hz] at h3 s3 B0 B1 B2 B3 X
 clear hz
 have BQ := B3.putF (.bool false) (.bool false) (.int .i64 0) (.int .i64 0)
 have XQ := ext_putF (b := w.heap.size + 1 + 1 + 1) X (by omega) (.bool false) (.bool false) (.int .i64 0) (.int .i64 0)
 have D0 := Vec.farF (b := w.heap.size + 1 + 1 + 1) (by omega) (.bool false) (.bool false) (.int .i64 0) (.int .i64 0) B0
 have D1 := Vec.farF (b := w.heap.size + 1 + 1 + 1) (by omega) (.bool false) (.bool false) (.int .i64 0) (.int .i64 0) B1
 have D2 := Vec.farF (b := w.heap.size + 1 + 1 + 1) (by omega) (.bool false) (.bool false) (.int .i64 0) (.int .i64 0) B2
 obtain ⟨wq, hq⟩ : ∃ wq, ((((wz.setCell ⟨w.heap.size + 1 + 1 + 1, 0, none⟩ (.bool false)).setCell ⟨w.heap.size + 1 + 1 + 1, 1, none⟩ (.bool false)).setCell ⟨w.heap.size + 1 + 1 + 1, 2, none⟩ (.int .i64 0)).setCell ⟨w.heap.size + 1 + 1 + 1, 3, none⟩ (.int .i64 0)) = wq := ⟨_, rfl⟩
 rw [hq] at BQ XQ D0 D1 D2
 obtain ⟨z0, z1, z2, z3⟩ := B3.four
 obtain ⟨y0, y1, y2, y3⟩ := B3.fourF
 have X := XQ
 clear B0 B1 B2 B3 XQ
 obtain ⟨a0, a1, a2⟩ := Vec.three (D0)
 obtain ⟨c0, c1, c2⟩ := Vec.three (D1)
 go_enter Tryz.func121, Tryz.ntmps121
 go_wp2_with fail
 clear h0 h1 h2 h3 s0 s1 s2 s3 hq z0 y0 z1 y1 z2 y2 z3 y3 a0 a1 a2 c0 c1 c2
 refine (HP.out wq).mono ?_
 rintro rr w2 ⟨rfl, e2⟩
 have GQ := (BQ.later e2).putF (.bool rk) (.bool rn) (.int .i64 rd) (.int .i64 re)
 have GX := ext_putF (a := w) (b := w.heap.size + 1 + 1 + 1) (xt X e2) (by omega) (.bool rk) (.bool rn) (.int .i64 rd) (.int .i64 re)
 have G2 := Vec.farF (b := w.heap.size + 1 + 1 + 1) (by omega) (.bool rk) (.bool rn) (.int .i64 rd) (.int .i64 re) (D2.later e2)
 obtain ⟨wg, hgw⟩ : ∃ wg, ((((w2.setCell ⟨w.heap.size + 1 + 1 + 1, 0, none⟩ (.bool rk)).setCell ⟨w.heap.size + 1 + 1 + 1, 1, none⟩ (.bool rn)).setCell ⟨w.heap.size + 1 + 1 + 1, 2, none⟩ (.int .i64 rd)).setCell ⟨w.heap.size + 1 + 1 + 1, 3, none⟩ (.int .i64 re)) = wg := ⟨_, rfl⟩
 rw [hgw] at GQ GX G2
 obtain ⟨m0, m1, m2, m3⟩ := Vec.four (BQ.later e2)
 obtain ⟨o0, o1, o2, o3⟩ := Vec.fourF (BQ.later e2)
 obtain ⟨r0, r1, r2, r3⟩ := Vec.four GQ
 cases rk
 ·
  have HV2 := HV
  go_wp2_with fail
  clear hgw m0 o0 r0 m1 o1 r1 m2 o2 r2 m3 o3 r3
  refine (errVS numbT wg).mono ?_
  rintro rr w8 ⟨rfl, e8⟩
  obtain ⟨wy, hy, FX, ⟨b0, b1, b2, b3, b4⟩, ⟨fb0, fb1, fb2, fb3, fb4⟩, fd0, fd1, fd2, fd3, fd4⟩ := fin5 (G2.later e8) (xt GX e8) (by omega) 4 false 0 0 numbT
  go_wp2_with fail
  exact bodyPost_ret (v := valV 4 false 0 0 numbT) (by simp [results, Tryz.results121, go_sem, fd0, fd1, fd2, fd3, fd4]) rfl ⟨congrArg Ending.returned HV2.out, FX⟩
 ·
  have HV2 := HV
  go_wp2_with fail
  clear hgw m0 o0 r0 m1 o1 r1 m2 o2 r2 m3 o3 r3
  refine (numVS rn rd re wg).mono ?_
  rintro rr w8 ⟨rfl, e8⟩
  obtain ⟨wy, hy, FX, ⟨b0, b1, b2, b3, b4⟩, ⟨fb0, fb1, fb2, fb3, fb4⟩, fd0, fd1, fd2, fd3, fd4⟩ := fin5 (G2.later e8) (xt GX e8) (by omega) 1 rn rd re []
  go_wp2_with fail
  exact bodyPost_ret (v := valV 1 rn rd re []) (by simp [results, Tryz.results121, go_sem, fd0, fd1, fd2, fd3, fd4]) rfl ⟨congrArg Ending.returned HV2.out, FX⟩
set_option maxRecDepth 8000 in
set_option maxHeartbeats 2000000 in
theorem minusS (n : Bool) (d e : Int) (n' : Bool) (d' e' : Int) (w : World)  :
  Calls Tryz.prog 121 #[sV [45], decV n d e, decV n' d' e'] w fun rr w' => rr = .returned (putV (subR n d e n' d' e')) ∧ Ext w w' := by
 obtain ⟨⟨rk, rn, rd, re⟩, hr⟩ : ∃ r, subR n d e n' d' e' = r := ⟨_, rfl⟩
 have HP : Hid (∀ W, Calls Tryz.prog 165 #[decV n d e, decV n' d' e'] W fun r w' => r = .returned (.agg #[.bool rk, .bool rn, .int .i64 rd, .int .i64 re]) ∧ Ext W w') := fun W => by have := subSpec n n' d e d' e' W; rw [hr] at this; exact this
 rw [hr]
 clear hr
 obtain ⟨R, hR⟩ : ∃ R, putV ⟨rk, rn, rd, re⟩ = R := ⟨_, rfl⟩
 have HV : Hid (putV ⟨rk, rn, rd, re⟩ = R) := hR
 rw [hR]
 clear hR
 obtain ⟨u0, u1, u2, u3, h0, h1, h2, h3, s0, s1, s2, s3, B0, B1, B2, B3, X⟩ := mkB4 w [.bool n, .int .i64 d, .int .i64 e] [.bool n', .int .i64 d', .int .i64 e'] [.int .i64 0, .bool false, .int .i64 0, .int .i64 0, sV []] [.bool false, .bool false, .int .i64 0, .int .i64 0] 24 24 26 79
 obtain ⟨wz, hz⟩ : ∃ wz, u3 = wz := ⟨_, rfl⟩
 rw [hz] at h3 s3 B0 B1 B2 B3 X
 clear hz
 have BQ := B3.putF (.bool false) (.bool false) (.int .i64 0) (.int .i64 0)
 have XQ := ext_putF (b := w.heap.size + 1 + 1 + 1) X (by omega) (.bool false) (.bool false) (.int .i64 0) (.int .i64 0)
 have D0 := Vec.farF (b := w.heap.size + 1 + 1 + 1) (by omega) (.bool false) (.bool false) (.int .i64 0) (.int .i64 0) B0
 have D1 := Vec.farF (b := w.heap.size + 1 + 1 + 1) (by omega) (.bool false) (.bool false) (.int .i64 0) (.int .i64 0) B1
 have D2 := Vec.farF (b := w.heap.size + 1 + 1 + 1) (by omega) (.bool false) (.bool false) (.int .i64 0) (.int .i64 0) B2
 obtain ⟨wq, hq⟩ : ∃ wq, ((((wz.setCell ⟨w.heap.size + 1 + 1 + 1, 0, none⟩ (.bool false)).setCell ⟨w.heap.size + 1 + 1 + 1, 1, none⟩ (.bool false)).setCell ⟨w.heap.size + 1 + 1 + 1, 2, none⟩ (.int .i64 0)).setCell ⟨w.heap.size + 1 + 1 + 1, 3, none⟩ (.int .i64 0)) = wq := ⟨_, rfl⟩
 rw [hq] at BQ XQ D0 D1 D2
 obtain ⟨z0, z1, z2, z3⟩ := B3.four
 obtain ⟨y0, y1, y2, y3⟩ := B3.fourF
 have X := XQ
 clear B0 B1 B2 B3 XQ
 obtain ⟨a0, a1, a2⟩ := Vec.three (D0)
 obtain ⟨c0, c1, c2⟩ := Vec.three (D1)
 go_enter Tryz.func121, Tryz.ntmps121
 go_wp2_with fail
 clear h0 h1 h2 h3 s0 s1 s2 s3 hq z0 y0 z1 y1 z2 y2 z3 y3 a0 a1 a2 c0 c1 c2
 refine (HP.out wq).mono ?_
 rintro rr w2 ⟨rfl, e2⟩
 have GQ := (BQ.later e2).putF (.bool rk) (.bool rn) (.int .i64 rd) (.int .i64 re)
 have GX := ext_putF (a := w) (b := w.heap.size + 1 + 1 + 1) (xt X e2) (by omega) (.bool rk) (.bool rn) (.int .i64 rd) (.int .i64 re)
 have G2 := Vec.farF (b := w.heap.size + 1 + 1 + 1) (by omega) (.bool rk) (.bool rn) (.int .i64 rd) (.int .i64 re) (D2.later e2)
 obtain ⟨wg, hgw⟩ : ∃ wg, ((((w2.setCell ⟨w.heap.size + 1 + 1 + 1, 0, none⟩ (.bool rk)).setCell ⟨w.heap.size + 1 + 1 + 1, 1, none⟩ (.bool rn)).setCell ⟨w.heap.size + 1 + 1 + 1, 2, none⟩ (.int .i64 rd)).setCell ⟨w.heap.size + 1 + 1 + 1, 3, none⟩ (.int .i64 re)) = wg := ⟨_, rfl⟩
 rw [hgw] at GQ GX G2
 obtain ⟨m0, m1, m2, m3⟩ := Vec.four (BQ.later e2)
 obtain ⟨o0, o1, o2, o3⟩ := Vec.fourF (BQ.later e2)
 obtain ⟨r0, r1, r2, r3⟩ := Vec.four GQ
 cases rk
 ·
  have HV2 := HV
  go_wp2_with fail
  clear hgw m0 o0 r0 m1 o1 r1 m2 o2 r2 m3 o3 r3
  refine (errVS numbT wg).mono ?_
  rintro rr w8 ⟨rfl, e8⟩
  obtain ⟨wy, hy, FX, ⟨b0, b1, b2, b3, b4⟩, ⟨fb0, fb1, fb2, fb3, fb4⟩, fd0, fd1, fd2, fd3, fd4⟩ := fin5 (G2.later e8) (xt GX e8) (by omega) 4 false 0 0 numbT
  go_wp2_with fail
  exact bodyPost_ret (v := valV 4 false 0 0 numbT) (by simp [results, Tryz.results121, go_sem, fd0, fd1, fd2, fd3, fd4]) rfl ⟨congrArg Ending.returned HV2.out, FX⟩
 ·
  have HV2 := HV
  go_wp2_with fail
  clear hgw m0 o0 r0 m1 o1 r1 m2 o2 r2 m3 o3 r3
  refine (numVS rn rd re wg).mono ?_
  rintro rr w8 ⟨rfl, e8⟩
  obtain ⟨wy, hy, FX, ⟨b0, b1, b2, b3, b4⟩, ⟨fb0, fb1, fb2, fb3, fb4⟩, fd0, fd1, fd2, fd3, fd4⟩ := fin5 (G2.later e8) (xt GX e8) (by omega) 1 rn rd re []
  go_wp2_with fail
  exact bodyPost_ret (v := valV 1 rn rd re []) (by simp [results, Tryz.results121, go_sem, fd0, fd1, fd2, fd3, fd4]) rfl ⟨congrArg Ending.returned HV2.out, FX⟩
set_option maxRecDepth 8000 in
set_option maxHeartbeats 2000000 in
theorem timesS (n : Bool) (d e : Int) (n' : Bool) (d' e' : Int) (w : World)  :
  Calls Tryz.prog 121 #[sV [42], decV n d e, decV n' d' e'] w fun rr w' => rr = .returned (putV (mulR n d e n' d' e')) ∧ Ext w w' := by
 obtain ⟨⟨rk, rn, rd, re⟩, hr⟩ : ∃ r, mulR n d e n' d' e' = r := ⟨_, rfl⟩
 have HP : Hid (∀ W, Calls Tryz.prog 166 #[decV n d e, decV n' d' e'] W fun r w' => r = .returned (.agg #[.bool rk, .bool rn, .int .i64 rd, .int .i64 re]) ∧ Ext W w') := fun W => by have := mulS n n' d e d' e' W; rw [hr] at this; exact this
 rw [hr]
 clear hr
 obtain ⟨R, hR⟩ : ∃ R, putV ⟨rk, rn, rd, re⟩ = R := ⟨_, rfl⟩
 have HV : Hid (putV ⟨rk, rn, rd, re⟩ = R) := hR
 rw [hR]
 clear hR
 obtain ⟨u0, u1, u2, u3, h0, h1, h2, h3, s0, s1, s2, s3, B0, B1, B2, B3, X⟩ := mkB4 w [.bool n, .int .i64 d, .int .i64 e] [.bool n', .int .i64 d', .int .i64 e'] [.int .i64 0, .bool false, .int .i64 0, .int .i64 0, sV []] [.bool false, .bool false, .int .i64 0, .int .i64 0] 24 24 26 79
 obtain ⟨wz, hz⟩ : ∃ wz, u3 = wz := ⟨_, rfl⟩
 rw [hz] at h3 s3 B0 B1 B2 B3 X
 clear hz
 have BQ := B3.putF (.bool false) (.bool false) (.int .i64 0) (.int .i64 0)
 have XQ := ext_putF (b := w.heap.size + 1 + 1 + 1) X (by omega) (.bool false) (.bool false) (.int .i64 0) (.int .i64 0)
 have D0 := Vec.farF (b := w.heap.size + 1 + 1 + 1) (by omega) (.bool false) (.bool false) (.int .i64 0) (.int .i64 0) B0
 have D1 := Vec.farF (b := w.heap.size + 1 + 1 + 1) (by omega) (.bool false) (.bool false) (.int .i64 0) (.int .i64 0) B1
 have D2 := Vec.farF (b := w.heap.size + 1 + 1 + 1) (by omega) (.bool false) (.bool false) (.int .i64 0) (.int .i64 0) B2
 obtain ⟨wq, hq⟩ : ∃ wq, ((((wz.setCell ⟨w.heap.size + 1 + 1 + 1, 0, none⟩ (.bool false)).setCell ⟨w.heap.size + 1 + 1 + 1, 1, none⟩ (.bool false)).setCell ⟨w.heap.size + 1 + 1 + 1, 2, none⟩ (.int .i64 0)).setCell ⟨w.heap.size + 1 + 1 + 1, 3, none⟩ (.int .i64 0)) = wq := ⟨_, rfl⟩
 rw [hq] at BQ XQ D0 D1 D2
 obtain ⟨z0, z1, z2, z3⟩ := B3.four
 obtain ⟨y0, y1, y2, y3⟩ := B3.fourF
 have X := XQ
 clear B0 B1 B2 B3 XQ
 obtain ⟨a0, a1, a2⟩ := Vec.three (D0)
 obtain ⟨c0, c1, c2⟩ := Vec.three (D1)
 go_enter Tryz.func121, Tryz.ntmps121
 go_wp2_with fail
 clear h0 h1 h2 h3 s0 s1 s2 s3 hq z0 y0 z1 y1 z2 y2 z3 y3 a0 a1 a2 c0 c1 c2
 refine (HP.out wq).mono ?_
 rintro rr w2 ⟨rfl, e2⟩
 have GQ := (BQ.later e2).putF (.bool rk) (.bool rn) (.int .i64 rd) (.int .i64 re)
 have GX := ext_putF (a := w) (b := w.heap.size + 1 + 1 + 1) (xt X e2) (by omega) (.bool rk) (.bool rn) (.int .i64 rd) (.int .i64 re)
 have G2 := Vec.farF (b := w.heap.size + 1 + 1 + 1) (by omega) (.bool rk) (.bool rn) (.int .i64 rd) (.int .i64 re) (D2.later e2)
 obtain ⟨wg, hgw⟩ : ∃ wg, ((((w2.setCell ⟨w.heap.size + 1 + 1 + 1, 0, none⟩ (.bool rk)).setCell ⟨w.heap.size + 1 + 1 + 1, 1, none⟩ (.bool rn)).setCell ⟨w.heap.size + 1 + 1 + 1, 2, none⟩ (.int .i64 rd)).setCell ⟨w.heap.size + 1 + 1 + 1, 3, none⟩ (.int .i64 re)) = wg := ⟨_, rfl⟩
 rw [hgw] at GQ GX G2
 obtain ⟨m0, m1, m2, m3⟩ := Vec.four (BQ.later e2)
 obtain ⟨o0, o1, o2, o3⟩ := Vec.fourF (BQ.later e2)
 obtain ⟨r0, r1, r2, r3⟩ := Vec.four GQ
 cases rk
 ·
  have HV2 := HV
  go_wp2_with fail
  clear hgw m0 o0 r0 m1 o1 r1 m2 o2 r2 m3 o3 r3
  refine (errVS numbT wg).mono ?_
  rintro rr w8 ⟨rfl, e8⟩
  obtain ⟨wy, hy, FX, ⟨b0, b1, b2, b3, b4⟩, ⟨fb0, fb1, fb2, fb3, fb4⟩, fd0, fd1, fd2, fd3, fd4⟩ := fin5 (G2.later e8) (xt GX e8) (by omega) 4 false 0 0 numbT
  go_wp2_with fail
  exact bodyPost_ret (v := valV 4 false 0 0 numbT) (by simp [results, Tryz.results121, go_sem, fd0, fd1, fd2, fd3, fd4]) rfl ⟨congrArg Ending.returned HV2.out, FX⟩
 ·
  have HV2 := HV
  go_wp2_with fail
  clear hgw m0 o0 r0 m1 o1 r1 m2 o2 r2 m3 o3 r3
  refine (numVS rn rd re wg).mono ?_
  rintro rr w8 ⟨rfl, e8⟩
  obtain ⟨wy, hy, FX, ⟨b0, b1, b2, b3, b4⟩, ⟨fb0, fb1, fb2, fb3, fb4⟩, fd0, fd1, fd2, fd3, fd4⟩ := fin5 (G2.later e8) (xt GX e8) (by omega) 1 rn rd re []
  go_wp2_with fail
  exact bodyPost_ret (v := valV 1 rn rd re []) (by simp [results, Tryz.results121, go_sem, fd0, fd1, fd2, fd3, fd4]) rfl ⟨congrArg Ending.returned HV2.out, FX⟩
set_option maxRecDepth 8000 in
set_option maxHeartbeats 2000000 in
theorem overS (n : Bool) (d e : Int) (n' : Bool) (d' e' : Int) (w : World)  :
  Calls Tryz.prog 121 #[sV [47], decV n d e, decV n' d' e'] w fun rr w' => rr = .returned ((if d' = 0 then evV divT else putV (divR n d e n' d' e'))) ∧ Ext w w' := by
 by_cases h00 : d' = 0
 ·
  rw [if_pos h00]
  subst h00
  have HR : Hid (evV divT = evV divT) := rfl
  obtain ⟨u0, u1, u2, u3, h0, h1, h2, h3, s0, s1, s2, s3, B0, B1, B2, B3, X⟩ := mkB4 w [.bool n, .int .i64 d, .int .i64 e] [.bool n', .int .i64 0, .int .i64 e'] [.int .i64 0, .bool false, .int .i64 0, .int .i64 0, sV []] [.bool false, .bool false, .int .i64 0, .int .i64 0] 24 24 26 79
  obtain ⟨wz, hz⟩ : ∃ wz, u3 = wz := ⟨_, rfl⟩
  rw [hz] at h3 s3 B0 B1 B2 B3 X
  clear hz
  have BQ := B3.putF (.bool false) (.bool false) (.int .i64 0) (.int .i64 0)
  have XQ := ext_putF (b := w.heap.size + 1 + 1 + 1) X (by omega) (.bool false) (.bool false) (.int .i64 0) (.int .i64 0)
  have D0 := Vec.farF (b := w.heap.size + 1 + 1 + 1) (by omega) (.bool false) (.bool false) (.int .i64 0) (.int .i64 0) B0
  have D1 := Vec.farF (b := w.heap.size + 1 + 1 + 1) (by omega) (.bool false) (.bool false) (.int .i64 0) (.int .i64 0) B1
  have D2 := Vec.farF (b := w.heap.size + 1 + 1 + 1) (by omega) (.bool false) (.bool false) (.int .i64 0) (.int .i64 0) B2
  obtain ⟨wq, hq⟩ : ∃ wq, ((((wz.setCell ⟨w.heap.size + 1 + 1 + 1, 0, none⟩ (.bool false)).setCell ⟨w.heap.size + 1 + 1 + 1, 1, none⟩ (.bool false)).setCell ⟨w.heap.size + 1 + 1 + 1, 2, none⟩ (.int .i64 0)).setCell ⟨w.heap.size + 1 + 1 + 1, 3, none⟩ (.int .i64 0)) = wq := ⟨_, rfl⟩
  rw [hq] at BQ XQ D0 D1 D2
  obtain ⟨z0, z1, z2, z3⟩ := B3.four
  obtain ⟨y0, y1, y2, y3⟩ := B3.fourF
  have X := XQ
  clear B0 B1 B2 B3 XQ
  obtain ⟨a0, a1, a2⟩ := Vec.three (D0)
  obtain ⟨c0, c1, c2⟩ := Vec.three (D1)
  go_enter Tryz.func121, Tryz.ntmps121
  go_wp2_with fail
  clear h0 h1 h2 h3 s0 s1 s2 s3 hq z0 y0 z1 y1 z2 y2 z3 y3 a0 a1 a2 c0 c1 c2
  refine (errVS divT wq).mono ?_
  rintro rr w2 ⟨rfl, e2⟩
  obtain ⟨wy, hy, FX, ⟨b0, b1, b2, b3, b4⟩, ⟨fb0, fb1, fb2, fb3, fb4⟩, fd0, fd1, fd2, fd3, fd4⟩ := fin5 (D2.later e2) (xt X e2) (by omega) 4 false 0 0 divT
  go_wp2_with fail
  exact bodyPost_ret (v := valV 4 false 0 0 divT) (by simp [results, Tryz.results121, go_sem, fd0, fd1, fd2, fd3, fd4]) rfl ⟨rfl, FX⟩
 ·
  rw [if_neg h00]
  have hd0 : (d' == 0) = false := by simpa using h00
  obtain ⟨⟨rk, rn, rd, re⟩, hr⟩ : ∃ r, divR n d e n' d' e' = r := ⟨_, rfl⟩
  have HP : Hid (∀ W, Calls Tryz.prog 167 #[decV n d e, decV n' d' e'] W fun r w' => r = .returned (.agg #[.bool rk, .bool rn, .int .i64 rd, .int .i64 re]) ∧ Ext W w') := fun W => by have := divS n n' d e d' e' W; rw [hr] at this; exact this
  rw [hr]
  clear hr
  obtain ⟨R, hR⟩ : ∃ R, putV ⟨rk, rn, rd, re⟩ = R := ⟨_, rfl⟩
  have HV : Hid (putV ⟨rk, rn, rd, re⟩ = R) := hR
  rw [hR]
  clear hR
  obtain ⟨u0, u1, u2, u3, h0, h1, h2, h3, s0, s1, s2, s3, B0, B1, B2, B3, X⟩ := mkB4 w [.bool n, .int .i64 d, .int .i64 e] [.bool n', .int .i64 d', .int .i64 e'] [.int .i64 0, .bool false, .int .i64 0, .int .i64 0, sV []] [.bool false, .bool false, .int .i64 0, .int .i64 0] 24 24 26 79
  obtain ⟨wz, hz⟩ : ∃ wz, u3 = wz := ⟨_, rfl⟩
  rw [hz] at h3 s3 B0 B1 B2 B3 X
  clear hz
  have BQ := B3.putF (.bool false) (.bool false) (.int .i64 0) (.int .i64 0)
  have XQ := ext_putF (b := w.heap.size + 1 + 1 + 1) X (by omega) (.bool false) (.bool false) (.int .i64 0) (.int .i64 0)
  have D0 := Vec.farF (b := w.heap.size + 1 + 1 + 1) (by omega) (.bool false) (.bool false) (.int .i64 0) (.int .i64 0) B0
  have D1 := Vec.farF (b := w.heap.size + 1 + 1 + 1) (by omega) (.bool false) (.bool false) (.int .i64 0) (.int .i64 0) B1
  have D2 := Vec.farF (b := w.heap.size + 1 + 1 + 1) (by omega) (.bool false) (.bool false) (.int .i64 0) (.int .i64 0) B2
  obtain ⟨wq, hq⟩ : ∃ wq, ((((wz.setCell ⟨w.heap.size + 1 + 1 + 1, 0, none⟩ (.bool false)).setCell ⟨w.heap.size + 1 + 1 + 1, 1, none⟩ (.bool false)).setCell ⟨w.heap.size + 1 + 1 + 1, 2, none⟩ (.int .i64 0)).setCell ⟨w.heap.size + 1 + 1 + 1, 3, none⟩ (.int .i64 0)) = wq := ⟨_, rfl⟩
  rw [hq] at BQ XQ D0 D1 D2
  obtain ⟨z0, z1, z2, z3⟩ := B3.four
  obtain ⟨y0, y1, y2, y3⟩ := B3.fourF
  have X := XQ
  clear B0 B1 B2 B3 XQ
  obtain ⟨a0, a1, a2⟩ := Vec.three (D0)
  obtain ⟨c0, c1, c2⟩ := Vec.three (D1)
  go_enter Tryz.func121, Tryz.ntmps121
  go_wp2_with fail
  clear h0 h1 h2 h3 s0 s1 s2 s3 hq z0 y0 z1 y1 z2 y2 z3 y3 a0 a1 a2 c0 c1 c2
  refine (HP.out wq).mono ?_
  rintro rr w2 ⟨rfl, e2⟩
  have GQ := (BQ.later e2).putF (.bool rk) (.bool rn) (.int .i64 rd) (.int .i64 re)
  have GX := ext_putF (a := w) (b := w.heap.size + 1 + 1 + 1) (xt X e2) (by omega) (.bool rk) (.bool rn) (.int .i64 rd) (.int .i64 re)
  have G2 := Vec.farF (b := w.heap.size + 1 + 1 + 1) (by omega) (.bool rk) (.bool rn) (.int .i64 rd) (.int .i64 re) (D2.later e2)
  obtain ⟨wg, hgw⟩ : ∃ wg, ((((w2.setCell ⟨w.heap.size + 1 + 1 + 1, 0, none⟩ (.bool rk)).setCell ⟨w.heap.size + 1 + 1 + 1, 1, none⟩ (.bool rn)).setCell ⟨w.heap.size + 1 + 1 + 1, 2, none⟩ (.int .i64 rd)).setCell ⟨w.heap.size + 1 + 1 + 1, 3, none⟩ (.int .i64 re)) = wg := ⟨_, rfl⟩
  rw [hgw] at GQ GX G2
  obtain ⟨m0, m1, m2, m3⟩ := Vec.four (BQ.later e2)
  obtain ⟨o0, o1, o2, o3⟩ := Vec.fourF (BQ.later e2)
  obtain ⟨r0, r1, r2, r3⟩ := Vec.four GQ
  cases rk
  ·
   have HV2 := HV
   go_wp2_with fail
   clear hgw m0 o0 r0 m1 o1 r1 m2 o2 r2 m3 o3 r3
   refine (errVS numbT wg).mono ?_
   rintro rr w8 ⟨rfl, e8⟩
   obtain ⟨wy, hy, FX, ⟨b0, b1, b2, b3, b4⟩, ⟨fb0, fb1, fb2, fb3, fb4⟩, fd0, fd1, fd2, fd3, fd4⟩ := fin5 (G2.later e8) (xt GX e8) (by omega) 4 false 0 0 numbT
   go_wp2_with fail
   exact bodyPost_ret (v := valV 4 false 0 0 numbT) (by simp [results, Tryz.results121, go_sem, fd0, fd1, fd2, fd3, fd4]) rfl ⟨congrArg Ending.returned HV2.out, FX⟩
  ·
   have HV2 := HV
   go_wp2_with fail
   clear hgw m0 o0 r0 m1 o1 r1 m2 o2 r2 m3 o3 r3
   refine (numVS rn rd re wg).mono ?_
   rintro rr w8 ⟨rfl, e8⟩
   obtain ⟨wy, hy, FX, ⟨b0, b1, b2, b3, b4⟩, ⟨fb0, fb1, fb2, fb3, fb4⟩, fd0, fd1, fd2, fd3, fd4⟩ := fin5 (G2.later e8) (xt GX e8) (by omega) 1 rn rd re []
   go_wp2_with fail
   exact bodyPost_ret (v := valV 1 rn rd re []) (by simp [results, Tryz.results121, go_sem, fd0, fd1, fd2, fd3, fd4]) rfl ⟨congrArg Ending.returned HV2.out, FX⟩
set_option maxRecDepth 8000 in
set_option maxHeartbeats 2000000 in
theorem raiseS (n : Bool) (d e : Int) (n' : Bool) (d' e' : Int) (w : World) (ga : goodB n d e = true) (gb : goodB n' d' e' = true) :
  Calls Tryz.prog 121 #[sV [94], decV n d e, decV n' d' e'] w fun rr w' => rr = .returned (powerV n d e n' d' e') ∧ Ext w w' := by
 obtain ⟨k2, n2, d2, x2, t2, hv⟩ := powerV_val n d e n' d' e'
 have HV : Hid (powerV n d e n' d' e' = valV k2 n2 d2 x2 t2) := hv
 rw [hv]
 clear hv
 have HP : Hid (∀ W, Calls Tryz.prog 168 #[decV n d e, decV n' d' e'] W fun rr w' => rr = .returned (powerV n d e n' d' e') ∧ Ext W w') := fun W => powerS n d e n' d' e' W ga gb
 clear ga gb
 obtain ⟨u0, u1, u2, u3, h0, h1, h2, h3, s0, s1, s2, s3, B0, B1, B2, B3, X⟩ := mkB4 w [.bool n, .int .i64 d, .int .i64 e] [.bool n', .int .i64 d', .int .i64 e'] [.int .i64 0, .bool false, .int .i64 0, .int .i64 0, sV []] [.bool false, .bool false, .int .i64 0, .int .i64 0] 24 24 26 79
 obtain ⟨wz, hz⟩ : ∃ wz, u3 = wz := ⟨_, rfl⟩
 rw [hz] at h3 s3 B0 B1 B2 B3 X
 clear hz
 have BQ := B3.putF (.bool false) (.bool false) (.int .i64 0) (.int .i64 0)
 have XQ := ext_putF (b := w.heap.size + 1 + 1 + 1) X (by omega) (.bool false) (.bool false) (.int .i64 0) (.int .i64 0)
 have D0 := Vec.farF (b := w.heap.size + 1 + 1 + 1) (by omega) (.bool false) (.bool false) (.int .i64 0) (.int .i64 0) B0
 have D1 := Vec.farF (b := w.heap.size + 1 + 1 + 1) (by omega) (.bool false) (.bool false) (.int .i64 0) (.int .i64 0) B1
 have D2 := Vec.farF (b := w.heap.size + 1 + 1 + 1) (by omega) (.bool false) (.bool false) (.int .i64 0) (.int .i64 0) B2
 obtain ⟨wq, hq⟩ : ∃ wq, ((((wz.setCell ⟨w.heap.size + 1 + 1 + 1, 0, none⟩ (.bool false)).setCell ⟨w.heap.size + 1 + 1 + 1, 1, none⟩ (.bool false)).setCell ⟨w.heap.size + 1 + 1 + 1, 2, none⟩ (.int .i64 0)).setCell ⟨w.heap.size + 1 + 1 + 1, 3, none⟩ (.int .i64 0)) = wq := ⟨_, rfl⟩
 rw [hq] at BQ XQ D0 D1 D2
 obtain ⟨z0, z1, z2, z3⟩ := B3.four
 obtain ⟨y0, y1, y2, y3⟩ := B3.fourF
 have X := XQ
 clear B0 B1 B2 B3 XQ
 obtain ⟨a0, a1, a2⟩ := Vec.three (D0)
 obtain ⟨c0, c1, c2⟩ := Vec.three (D1)
 go_enter Tryz.func121, Tryz.ntmps121
 go_wp2_with fail
 clear h0 h1 h2 h3 s0 s1 s2 s3 hq z0 y0 z1 y1 z2 y2 z3 y3 a0 a1 a2 c0 c1 c2
 refine (HP.out wq).mono ?_
 rintro rr w2 ⟨rfl, e2⟩
 rw [HV.out]
 obtain ⟨wy, hy, FX, ⟨b0, b1, b2, b3, b4⟩, ⟨fb0, fb1, fb2, fb3, fb4⟩, fd0, fd1, fd2, fd3, fd4⟩ := fin5 (D2.later e2) (xt X e2) (by omega) k2 n2 d2 x2 t2
 go_wp2_with fail
 exact bodyPost_ret (v := valV k2 n2 d2 x2 t2) (by simp [results, Tryz.results121, go_sem, fd0, fd1, fd2, fd3, fd4]) rfl ⟨rfl, FX⟩

end Go.Proofs.YtkadkfmidlhedaaGreatDoor

