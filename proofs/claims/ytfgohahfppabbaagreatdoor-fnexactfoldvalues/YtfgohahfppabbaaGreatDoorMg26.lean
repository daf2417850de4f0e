/-
  Several texts in one: Gp, V9r, Pok.
-/
import Derived.Test.YtfgohahfppabbaaGreatDoorMg20
import Derived.Test.YtfgohahfppabbaaGreatDoorMg22
import Derived.Test.YtfgohahfppabbaaGreatDoorDvM
import Derived.Test.YtfgohahfppabbaaGreatDoorMg23
import Derived.Test.YtfgohahfppabbaaGreatDoorMg14
import Derived.Test.YtfgohahfppabbaaGreatDoorMg17
import Derived.Test.YtfgohahfppabbaaGreatDoorMg0
namespace Go.Proofs.YtfgohahfppabbaaGreatDoor
open Go.RowKit

abbrev nameT : List UInt8 := [35, 78, 65, 77, 69, 63]
abbrev numbT : List UInt8 := [35, 78, 85, 77, 33]
abbrev divT : List UInt8 := [35, 68, 73, 86, 47, 48, 33]
abbrev evV (l : List UInt8) : Value := valV 4 false 0 0 l
def putV (r : DR) : Value := if r.ok = true then valV 1 r.neg r.d r.e [] else evV numbT

theorem putV_val (r : DR) : ∃ k2 n2 d2 x2 t2, putV r = valV k2 n2 d2 x2 t2 := by
 unfold putV
 split
 ·
  exact ⟨_, _, _, _, _, rfl⟩
 ·
  exact ⟨_, _, _, _, _, rfl⟩

set_option maxRecDepth 8000 in
set_option maxHeartbeats 2000000 in
theorem putVI (r : DR) (w : World) : Calls Tryz.prog 58 #[resV r] w fun rr w' => rr = .returned (putV r) ∧ Ext w w' := by
 obtain ⟨ok, rn, rd, re⟩ := r
 cases ok
 ·
  change Calls _ _ _ _ fun rr w' => rr = .returned (valV 4 false 0 0 numbT) ∧ _
  obtain ⟨u0, u1, h0, h1, s0, s1, B0, B1, X⟩ := mkB2 w [.bool false, .bool rn, .int .i64 rd, .int .i64 re] [.int .i64 0, .bool false, .int .i64 0, .int .i64 0, sV []] 70 27
  obtain ⟨a0, a1, a2, a3⟩ := Vec.four (B0)
  go_enter Tryz.func58, Tryz.ntmps58
  go_wp2_with fail
  clear h0 s0 h1 s1 a0 a1 a2 a3
  refine (errVI numbT u1).mono ?_
  rintro rr w1 ⟨rfl, e1⟩
  obtain ⟨wy, hy, FX, ⟨b0, b1, b2, b3, b4⟩, ⟨fb0, fb1, fb2, fb3, fb4⟩, fd0, fd1, fd2, fd3, fd4⟩ := fin5 (B1.later e1) (xt X e1) (by omega) 4 false 0 0 numbT
  go_wp2_with fail
  exact bodyPost_ret (v := valV 4 false 0 0 numbT) (by simp [results, Tryz.results58, go_sem, fd0, fd1, fd2, fd3, fd4]) rfl ⟨rfl, FX⟩
 ·
  change Calls _ _ _ _ fun rr w' => rr = .returned (valV 1 rn rd re []) ∧ _
  obtain ⟨u0, u1, h0, h1, s0, s1, B0, B1, X⟩ := mkB2 w [.bool true, .bool rn, .int .i64 rd, .int .i64 re] [.int .i64 0, .bool false, .int .i64 0, .int .i64 0, sV []] 70 27
  obtain ⟨a0, a1, a2, a3⟩ := Vec.four (B0)
  go_enter Tryz.func58, Tryz.ntmps58
  go_wp2_with fail
  clear h0 s0 h1 s1 a0 a1 a2 a3
  refine (numVI rn rd re u1).mono ?_
  rintro rr w1 ⟨rfl, e1⟩
  obtain ⟨wy, hy, FX, ⟨b0, b1, b2, b3, b4⟩, ⟨fb0, fb1, fb2, fb3, fb4⟩, fd0, fd1, fd2, fd3, fd4⟩ := fin5 (B1.later e1) (xt X e1) (by omega) 1 rn rd re []
  go_wp2_with fail
  exact bodyPost_ret (v := valV 1 rn rd re []) (by simp [results, Tryz.results58, go_sem, fd0, fd1, fd2, fd3, fd4]) rfl ⟨rfl, FX⟩
set_option maxRecDepth 8000 in
set_option maxHeartbeats 2000000 in
theorem plus1I (n : Bool) (d e : Int) (n' : Bool) (d' e' : Int) (w : World) (a1 : -9223372036854775808 ≤ d) (a2 : d ≤ 9223372036854775807) (b1 : -9223372036854775808 ≤ d') (b2 : d' ≤ 9223372036854775807) (hT : Tens w) :
  Calls Tryz.prog 85 #[decV n d e, decV n' d' e'] w fun rr w' => rr = .returned (putV (addR n d e n' d' e')) ∧ Ext w w' := by
 obtain ⟨k2, n2, d2, x2, t2, hv⟩ := putV_val (addR n d e n' d' e')
 have HV : Hid (putV (addR n d e n' d' e') = valV k2 n2 d2 x2 t2) := hv
 rw [hv]
 clear hv
 obtain ⟨u0, u1, u2, h0, h1, h2, s0, s1, s2, B0, B1, B2, X⟩ := mkB3 w [.bool n, .int .i64 d, .int .i64 e] [.bool n', .int .i64 d', .int .i64 e'] [.int .i64 0, .bool false, .int .i64 0, .int .i64 0, sV []] 25 25 27
 obtain ⟨a0, a1, a2⟩ := Vec.three (B0)
 obtain ⟨c0, c1, c2⟩ := Vec.three (B1)
 go_enter Tryz.func85, Tryz.ntmps85
 go_wp2_with fail
 clear h0 s0 h1 s1 h2 s2 a0 a1 a2 c0 c1 c2
 refine (addI n n' d e d' e' u2 a1 a2 b1 b2 (hT.later X)).mono ?_
 rintro rr w1 ⟨rfl, e1⟩
 go_wp2_with fail
 refine (putVI (addR n d e n' d' e') w1).mono ?_
 rintro rr w2 ⟨rfl, e2⟩
 rw [HV.out]
 obtain ⟨wy, hy, FX, ⟨b0, b1, b2, b3, b4⟩, ⟨fb0, fb1, fb2, fb3, fb4⟩, fd0, fd1, fd2, fd3, fd4⟩ := fin5 ((B2.later e1).later e2) (xt (xt X e1) e2) (by omega) k2 n2 d2 x2 t2
 go_wp2_with fail
 exact bodyPost_ret (v := valV k2 n2 d2 x2 t2) (by simp [results, Tryz.results85, go_sem, fd0, fd1, fd2, fd3, fd4]) rfl ⟨rfl, FX⟩
set_option maxRecDepth 8000 in
set_option maxHeartbeats 2000000 in
theorem over1I (n : Bool) (d e : Int) (n' : Bool) (d' e' : Int) (w : World) (a1 : -9223372036854775808 ≤ d) (a2 : d ≤ 9223372036854775807) (b1 : -9223372036854775808 ≤ d') (b2 : d' ≤ 9223372036854775807) (hT : Tens w) (gb : goodB n' d' e' = true) :
  Calls Tryz.prog 93 #[decV n d e, decV n' d' e'] w fun rr w' => rr = .returned (if d' = 0 then evV divT else putV (divR n d e n' d' e')) ∧ Ext w w' := by
 by_cases h0 : d' = 0
 ·
  rw [if_pos h0]
  subst h0
  obtain ⟨rfl, rfl⟩ : n' = false ∧ e' = 0 := by simpa [goodB] using gb
  clear gb
  obtain ⟨u0, u1, u2, h0, h1, h2, s0, s1, s2, B0, B1, B2, X⟩ := mkB3 w [.bool n, .int .i64 d, .int .i64 e] [.bool false, .int .i64 0, .int .i64 0] [.int .i64 0, .bool false, .int .i64 0, .int .i64 0, sV []] 25 25 27
  obtain ⟨a0, a1, a2⟩ := Vec.three (B0)
  obtain ⟨c0, c1, c2⟩ := Vec.three (B1)
  go_enter Tryz.func93, Tryz.ntmps93
  go_wp2_with fail
  clear h0 s0 h1 s1 h2 s2 a0 a1 a2 c0 c1 c2
  refine (errVI divT u2).mono ?_
  rintro rr w1 ⟨rfl, e1⟩
  obtain ⟨wy, hy, FX, ⟨b0, b1, b2, b3, b4⟩, ⟨fb0, fb1, fb2, fb3, fb4⟩, fd0, fd1, fd2, fd3, fd4⟩ := fin5 (B2.later e1) (xt X e1) (by omega) 4 false 0 0 divT
  go_wp2_with fail
  exact bodyPost_ret (v := valV 4 false 0 0 divT) (by simp [results, Tryz.results93, go_sem, fd0, fd1, fd2, fd3, fd4]) rfl ⟨rfl, FX⟩
 ·
  rw [if_neg h0]
  clear gb
  have hd : (d' == 0) = false := by simpa using h0
  obtain ⟨k2, n2, d2, x2, t2, hv⟩ := putV_val (divR n d e n' d' e')
  have HV : Hid (putV (divR n d e n' d' e') = valV k2 n2 d2 x2 t2) := hv
  rw [hv]
  clear hv
  obtain ⟨u0, u1, u2, h0, h1, h2, s0, s1, s2, B0, B1, B2, X⟩ := mkB3 w [.bool n, .int .i64 d, .int .i64 e] [.bool n', .int .i64 d', .int .i64 e'] [.int .i64 0, .bool false, .int .i64 0, .int .i64 0, sV []] 25 25 27
  obtain ⟨a0, a1, a2⟩ := Vec.three (B0)
  obtain ⟨c0, c1, c2⟩ := Vec.three (B1)
  go_enter Tryz.func93, Tryz.ntmps93
  go_wp2_with fail
  clear h0 s0 h1 s1 h2 s2 a0 a1 a2 c0 c1 c2
  refine (divI n n' d e d' e' u2 a1 a2 b1 b2 (hT.later X)).mono ?_
  rintro rr w1 ⟨rfl, e1⟩
  go_wp2_with fail
  refine (putVI (divR n d e n' d' e') w1).mono ?_
  rintro rr w2 ⟨rfl, e2⟩
  rw [HV.out]
  obtain ⟨wy, hy, FX, ⟨b0, b1, b2, b3, b4⟩, ⟨fb0, fb1, fb2, fb3, fb4⟩, fd0, fd1, fd2, fd3, fd4⟩ := fin5 ((B2.later e1).later e2) (xt (xt X e1) e2) (by omega) k2 n2 d2 x2 t2
  go_wp2_with fail
  exact bodyPost_ret (v := valV k2 n2 d2 x2 t2) (by simp [results, Tryz.results93, go_sem, fd0, fd1, fd2, fd3, fd4]) rfl ⟨rfl, FX⟩

set_option maxRecDepth 8000 in
set_option maxHeartbeats 2000000 in
theorem reck1 (k : Int) (n : Bool) (d x : Int) (t : List UInt8) (k' : Int) (n' : Bool) (d' x' : Int) (t' : List UInt8) (f p : Nat) (HF : ∀ ar w, (callFunc f ar).run Tryz.prog w = .ok (.enter f ar) w) (w : World) (hp : w.cell? ⟨p, 0, none⟩ = some (fnV f)) {k2 : Int} {n2 : Bool} {d2 x2 : Int} {t2 : List UInt8}
  (H : ∀ w1, Ext w w1 → Calls Tryz.prog f #[decV n d x, decV n' d' x'] w1 fun e w' => e = .returned (valV k2 n2 d2 x2 t2) ∧ Ext w1 w') :
  Calls Tryz.prog 115 #[valV k n d x t, valV k' n' d' x' t', .pointer (some ⟨p, 0, none⟩)] w fun e w' => e = .returned (valV k2 n2 d2 x2 t2) ∧ Ext w w' := by
 obtain ⟨u0, u1, u2, h0, h1, h2, s0, s1, s2, B0, B1, B2, X⟩ := mkB3 w [.int .i64 k, .bool n, .int .i64 d, .int .i64 x, sV t] [.int .i64 k', .bool n', .int .i64 d', .int .i64 x', sV t'] [.int .i64 0, .bool false, .int .i64 0, .int .i64 0, sV []] 27 27 27
 obtain ⟨a0, a1, a2, a3, a4⟩ := Vec.five (B0)
 obtain ⟨c0, c1, c2, c3, c4⟩ := Vec.five (B1)
 have q0 := cell_later X hp
 go_enter Tryz.func115, Tryz.ntmps115
 go_wp2_with fail
 clear h0 s0 h1 s1 h2 s2 a0 a1 a2 a3 a4 c0 c1 c2 c3 c4 q0
 refine (H u2 X).mono ?_
 rintro e w1 ⟨rfl, e1⟩
 obtain ⟨wy, hy, FX, ⟨b0, b1, b2, b3, b4⟩, ⟨fb0, fb1, fb2, fb3, fb4⟩, fd0, fd1, fd2, fd3, fd4⟩ := fin5 (B2.later e1) (xt X e1) (by omega) k2 n2 d2 x2 t2
 go_wp2_with fail
 exact bodyPost_ret (v := valV k2 n2 d2 x2 t2) (by simp [results, Tryz.results115, go_sem, fd0, fd1, fd2, fd3, fd4]) rfl ⟨rfl, FX⟩
set_option maxRecDepth 8000 in
set_option maxHeartbeats 2000000 in
theorem reckW (k : Int) (n : Bool) (d x : Int) (t : List UInt8) (k' : Int) (n' : Bool) (d' x' : Int) (t' : List UInt8) (f : Nat) (w : World) (ka : Int) (na : Bool) (da xa : Int) (ta : List UInt8) (kb : Int) (nb : Bool) (db xb : Int) (tb : List UInt8) {k2 : Int} {n2 : Bool} {d2 x2 : Int} {t2 : List UInt8}
  (HA : ∀ w1, Ext w w1 → Calls Tryz.prog 116 #[valV k n d x t] w1 fun e w' => e = .returned (valV ka na da xa ta) ∧ Ext w1 w')
  (HB : ∀ w1, Ext w w1 → Calls Tryz.prog 116 #[valV k' n' d' x' t'] w1 fun e w' => e = .returned (valV kb nb db xb tb) ∧ Ext w1 w')
  (HO : ∀ w1 p, Ext w w1 → w1.cell? ⟨p, 0, none⟩ = some (fnV f) → Calls Tryz.prog 83 #[.func (.func 115) #[] #[.pointer (some ⟨p, 0, none⟩)], valV ka na da xa ta, valV kb nb db xb tb] w1 fun e w' => e = .returned (valV k2 n2 d2 x2 t2) ∧ Ext w1 w') :
  Calls Tryz.prog 84 #[valV k n d x t, valV k' n' d' x' t', fnV f] w fun e w' => e = .returned (valV k2 n2 d2 x2 t2) ∧ Ext w w' := by
 obtain ⟨u0, u1, u2, u3, h0, h1, h2, h3, s0, s1, s2, s3, B0, B1, B2, B3, X⟩ := mkB4 w [.int .i64 k, .bool n, .int .i64 d, .int .i64 x, sV t] [.int .i64 k', .bool n', .int .i64 d', .int .i64 x', sV t'] [fnV f] [.int .i64 0, .bool false, .int .i64 0, .int .i64 0, sV []] 27 27 100 27
 obtain ⟨a0, a1, a2, a3, a4⟩ := Vec.five (B0)
 obtain ⟨c0, c1, c2, c3, c4⟩ := Vec.five (B1)
 go_enter Tryz.func84, Tryz.ntmps84
 go_wp2_with fail
 clear h0 s0 h1 s1 h2 s2 h3 s3 a0 a1 a2 a3 a4 c0 c1 c2 c3 c4
 refine wp_region_letters (fun lx : Nat → Value => { tmps := #[valV k n d x t, valV k' n' d' x' t', fnV f, Value.pointer (some ⟨w.heap.size, 0, none⟩), Value.pointer (some ⟨w.heap.size + 1, 0, none⟩), Value.pointer (some ⟨w.heap.size + 1 + 1, 0, none⟩), Value.pointer (some ⟨w.heap.size + 1 + 1 + 1, 0, none⟩), Value.func (Fn.func 115) #[] #[Value.pointer (some ⟨w.heap.size + 1 + 1, 0, none⟩)], Value.func (Fn.func 115) #[] #[Value.pointer (some ⟨w.heap.size + 1 + 1, 0, none⟩)], lx 9, lx 10, lx 11, lx 12, lx 13, lx 14], defers := [] }) (fun L lx lw => Hid (Ext w lw ∧ Vec lw (w.heap.size) [.int .i64 k, .bool n, .int .i64 d, .int .i64 x, sV t] ∧ Vec lw (w.heap.size + 1) [.int .i64 k', .bool n', .int .i64 d', .int .i64 x', sV t'] ∧ Vec lw (w.heap.size + 1 + 1) [fnV f] ∧ (L 0 = true → lx 9 = Value.func (Fn.func 115) #[] #[Value.pointer (some ⟨w.heap.size + 1 + 1, 0, none⟩)]) ∧ (L 1 = true → lx 10 = valV k n d x t) ∧ (L 2 = true → lx 11 = valV ka na da xa ta) ∧ (L 3 = true → lx 12 = valV k' n' d' x' t') ∧ (L 4 = true → lx 13 = valV kb nb db xb tb) ∧ (L 5 = true → lx 14 = valV k2 n2 d2 x2 t2) ∧ (L 6 = false → Vec lw (w.heap.size + 1 + 1 + 1) [.int .i64 0, .bool false, .int .i64 0, .int .i64 0, sV []]) ∧ (L 6 = true → Vec lw (w.heap.size + 1 + 1 + 1) [.int .i64 k2, .bool n2, .int .i64 d2, .int .i64 x2, sV t2]))) rfl (by kernel_rfl) (fun jj => undef) rfl ?_ ?_ ?_
 ·
  exact ⟨xd X, B0.later (xd (xr _)), B1.later (xd (xr _)), B2.later (xd (xr _)), (fun h => by cases h), (fun h => by cases h), (fun h => by cases h), (fun h => by cases h), (fun h => by cases h), (fun h => by cases h), fun _ => B3.later (xd (xr _)), (fun h => by cases h)⟩
 ·
  intro L lx wl i o K hK ho hL haf hI
  obtain ⟨X, f0, f1, f2, f3, f4, f5, f6, f7, f8, f9, f10⟩ := hI.out
  match i, ho, hL, haf, hK with
  | 0, ho, hL, haf, hK =>
   simp only [List.getElem?_toArray, List.getElem?_cons_zero, Option.some.injEq] at ho
   subst ho
   (try dsimp only)
   go_wp2_with fail
   exact hK (fun jj => if jj = 9 then Value.func (Fn.func 115) #[] #[Value.pointer (some ⟨w.heap.size + 1 + 1, 0, none⟩)] else lx jj) _ ⟨X, f0, f1, f2, (fun _ => rfl), f4, f5, f6, f7, f8, f9, f10⟩
  | 1, ho, hL, haf, hK =>
   simp only [List.getElem?_toArray, List.getElem?_cons_zero, List.getElem?_cons_succ, Option.some.injEq] at ho
   subst ho
   (try dsimp only)
   obtain ⟨a0, a1, a2, a3, a4⟩ := Vec.five (f0)
   go_wp2_with fail
   exact hK (fun jj => if jj = 10 then valV k n d x t else lx jj) _ ⟨X, f0, f1, f2, f3, (fun _ => rfl), f5, f6, f7, f8, f9, f10⟩
  | 2, ho, hL, haf, hK =>
   simp only [List.getElem?_toArray, List.getElem?_cons_zero, List.getElem?_cons_succ, Option.some.injEq] at ho
   subst ho
   (try dsimp only)
   rw [f4 (haf ⟨1, .data⟩ (by simp) rfl)]
   go_wp2_with fail
   refine (HA wl X).mono ?_
   rintro rr w' ⟨rfl, E⟩
   go_wp2_with fail
   exact hK (fun jj => if jj = 11 then valV ka na da xa ta else if jj = 10 then valV k n d x t else lx jj) _ ⟨xt X E, (f0.later E), (f1.later E), (f2.later E), f3, (fun _ => rfl), (fun _ => rfl), f6, f7, f8, (fun h => (f9 h).later E), (fun h => (f10 h).later E)⟩
  | 3, ho, hL, haf, hK =>
   simp only [List.getElem?_toArray, List.getElem?_cons_zero, List.getElem?_cons_succ, Option.some.injEq] at ho
   subst ho
   (try dsimp only)
   obtain ⟨a0, a1, a2, a3, a4⟩ := Vec.five (f1)
   go_wp2_with fail
   exact hK (fun jj => if jj = 12 then valV k' n' d' x' t' else lx jj) _ ⟨X, f0, f1, f2, f3, f4, f5, (fun _ => rfl), f7, f8, f9, f10⟩
  | 4, ho, hL, haf, hK =>
   simp only [List.getElem?_toArray, List.getElem?_cons_zero, List.getElem?_cons_succ, Option.some.injEq] at ho
   subst ho
   (try dsimp only)
   rw [f6 (haf ⟨3, .data⟩ (by simp) rfl)]
   go_wp2_with fail
   refine (HB wl X).mono ?_
   rintro rr w' ⟨rfl, E⟩
   go_wp2_with fail
   exact hK (fun jj => if jj = 13 then valV kb nb db xb tb else if jj = 12 then valV k' n' d' x' t' else lx jj) _ ⟨xt X E, (f0.later E), (f1.later E), (f2.later E), f3, f4, f5, (fun _ => rfl), (fun _ => rfl), f8, (fun h => (f9 h).later E), (fun h => (f10 h).later E)⟩
  | 5, ho, hL, haf, hK =>
   simp only [List.getElem?_toArray, List.getElem?_cons_zero, List.getElem?_cons_succ, Option.some.injEq] at ho
   subst ho
   (try dsimp only)
   rw [f3 (haf ⟨0, .data⟩ (by simp) rfl), f5 (haf ⟨2, .data⟩ (by simp) rfl), f7 (haf ⟨4, .data⟩ (by simp) rfl)]
   go_wp2_with fail
   refine (HO wl _ X (f2 0 _ rfl).1).mono ?_
   rintro rr w' ⟨rfl, E⟩
   go_wp2_with fail
   exact hK (fun jj => if jj = 14 then valV k2 n2 d2 x2 t2 else if jj = 9 then Value.func (Fn.func 115) #[] #[Value.pointer (some ⟨w.heap.size + 1 + 1, 0, none⟩)] else if jj = 11 then valV ka na da xa ta else if jj = 13 then valV kb nb db xb tb else lx jj) _ ⟨xt X E, (f0.later E), (f1.later E), (f2.later E), (fun _ => rfl), f4, (fun _ => rfl), f6, (fun _ => rfl), (fun _ => rfl), (fun h => (f9 h).later E), (fun h => (f10 h).later E)⟩
  | 6, ho, hL, haf, hK =>
   simp only [List.getElem?_toArray, List.getElem?_cons_zero, List.getElem?_cons_succ, Option.some.injEq] at ho
   subst ho
   (try dsimp only)
   rw [f8 (haf ⟨5, .data⟩ (by simp) rfl)]
   have bx := f9 hL
   obtain ⟨b0, b1, b2, b3, b4⟩ := Vec.five (bx)
   obtain ⟨fb0, fb1, fb2, fb3, fb4⟩ := Vec.fiveF (bx)
   have hX := Ext.setL (b := w.heap.size + 1 + 1 + 1) (by omega) [.int .i64 k2, .bool n2, .int .i64 d2, .int .i64 x2, sV t2] 0 X
   have hB := bx.put5 (.int .i64 k2) (.bool n2) (.int .i64 d2) (.int .i64 x2) (sV t2)
   go_wp2_with fail
   exact hK (fun jj => if jj = 14 then valV k2 n2 d2 x2 t2 else lx jj) _ ⟨hX, (Vec.farL (k := w.heap.size + 1 + 1 + 1) (by omega) [.int .i64 k2, .bool n2, .int .i64 d2, .int .i64 x2, sV t2] 0 f0), (Vec.farL (k := w.heap.size + 1 + 1 + 1) (by omega) [.int .i64 k2, .bool n2, .int .i64 d2, .int .i64 x2, sV t2] 0 f1), (Vec.farL (k := w.heap.size + 1 + 1 + 1) (by omega) [.int .i64 k2, .bool n2, .int .i64 d2, .int .i64 x2, sV t2] 0 f2), f3, f4, f5, f6, f7, (fun _ => rfl), (fun h => by cases h), (fun _ => hB)⟩
  | k + 7, ho, _, _, _ => simp at ho
 ·
  intro L lx wr hall hI
  obtain ⟨XR, f0, f1, f2, f3, f4, f5, f6, f7, f8, f9, f10⟩ := hI.out
  clear hI
  have G0 := f0
  have G1 := f1
  have G2 := f2
  replace f3 := f3 (hall 0 (by simp))
  replace f4 := f4 (hall 1 (by simp))
  replace f5 := f5 (hall 2 (by simp))
  replace f6 := f6 (hall 3 (by simp))
  replace f7 := f7 (hall 4 (by simp))
  replace f8 := f8 (hall 5 (by simp))
  have BR := f10 (hall 6 (by simp))
  (try dsimp only)
  rw [f3, f4, f5, f6, f7, f8]
  clear hall f0 f1 f2 f3 f4 f5 f6 f7 f8 f9 f10
  obtain ⟨fd0, fd1, fd2, fd3, fd4⟩ := Vec.five (BR)
  clear BR HA HB HO B0 B1 B2 B3
  go_wp2_with fail
  exact bodyPost_ret (v := valV k2 n2 d2 x2 t2) (by simp [results, Tryz.results84, go_sem, fd0, fd1, fd2, fd3, fd4]) rfl ⟨rfl, XR⟩

/-- What put gives is good, or it is none. -/
theorem strip_bd {P : Nat} (e : Int) : (P ≠ 0 → (strip P e).1 % 10 ≠ 0) ∧ (strip P e).1 ≤ P := by
 induction P using Nat.strongRecOn generalizing e with
 | ind P ih =>
  by_cases h : P ≠ 0 ∧ P % 10 = 0
  ·
   rw [strip_ten h.1 h.2]
   obtain ⟨h1, h2⟩ := ih (P / 10) (by omega) (e + 1)
   exact ⟨fun _ => h1 (by omega), by omega⟩
  ·
   rw [strip]
   simp only [h, dite_false]
   exact ⟨fun h0 => by omega, Nat.le_refl _⟩
theorem fit_ok {neg : Bool} {P : Nat} {e : Int} (hP : P ≤ 1000000000000000) (h : (fitR neg P e).ok = true) : goodB (fitR neg P e).neg (fitR neg P e).d (fitR neg P e).e = true := by
 unfold fitR at h ⊢
 split
 ·
  rfl
 ·
  rename_i h0
  simp only [h0, if_false] at h
  split
  ·
   rename_i h1; simp [h1] at h
  ·
   split
   ·
    rfl
   ·
    rename_i h1 h2
    obtain ⟨hm, hl⟩ := strip_bd (P := P) e
    have hm' := hm h0
    unfold goodB
    simp only
    have hne : ((strip P e).1 : Int) ≠ 0 := by omega
    rw [if_neg hne]
    have : (strip P e).1 ≠ 1000000000000000 := by omega
    simp
    omega
theorem put_ok {neg : Bool} {P : Nat} {e : Int} {more : Bool} (h : (putR neg P e more).ok = true) : goodB (putR neg P e more).neg (putR neg P e more).d (putR neg P e more).e = true := by
 unfold putR at h ⊢
 split
 ·
  rename_i h15
  rw [if_pos h15] at h
  exact fit_ok (rnd_lt h15) h
 ·
  rename_i h15
  rw [if_neg h15] at h
  refine fit_ok ?_ h
  have h1 := (nd_dig P).1
  have h2 := pow10_le (show nd P ≤ 15 by omega)
  have e15 : (10 : Nat) ^ 15 = 1000000000000000 := by decide
  omega

end Go.Proofs.YtfgohahfppabbaaGreatDoor

