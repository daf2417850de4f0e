/-
  Chapter 11: how cells and rows stand to each other, of the program.
-/
import Derived.Test.YtgpfddneablcpaaGreatDoorMg22
import Derived.Test.YtgpfddneablcpaaGreatDoorMg27
namespace Go.Proofs.YtgpfddneablcpaaGreatDoor
open Go.RowKit

set_option maxHeartbeats 1000000 in
theorem classI (e : VT) (w : World) : Calls Tryz.prog 87 #[e.val] w fun z w' => z = .returned (.int .i64 (lateV e)) ∧ Ext w w' := by
 obtain ⟨k, n, d, x, t⟩ := e
 have X0 := x1 w (.cells #[.int .i64 k, .bool n, .int .i64 d, .int .i64 x, sV t] 51)
 by_cases h0 : k = 0
 ·
  subst h0
  have e : lateV ⟨0, n, d, x, t⟩ = 1 := rfl
  rw [e]
  go_enter Tryz.func87, Tryz.ntmps87
  go_wp2_with fail
  go_ret
  exact ⟨rfl, X0⟩
 ·
  have h0b : (k == 0) = false := by simpa using h0
  by_cases h4 : k = 4
  ·
   subst h4
   have e : lateV ⟨4, n, d, x, t⟩ = 2 := rfl
   rw [e]
   go_enter Tryz.func87, Tryz.ntmps87
   go_wp2_with fail
   go_ret
   exact ⟨rfl, X0⟩
  ·
   have h4b : (k == 4) = false := by simpa using h4
   have e : lateV ⟨k, n, d, x, t⟩ = 0 := by unfold lateV; rw [if_neg h0, if_neg h4]
   rw [e]
   go_enter Tryz.func87, Tryz.ntmps87
   go_wp2_with fail
   go_ret
   exact ⟨rfl, X0⟩
theorem cmpI_bd3 (a b : Int) : -1 ≤ cmpI a b ∧ cmpI a b ≤ 1 := by unfold cmpI; split <;> (try split) <;> omega
theorem cmpR_bd (k : Int) (n : Bool) (d x : Int) (t : List UInt8) (k' : Int) (n' : Bool) (d' x' : Int) (t' : List UInt8) : -1 ≤ cmpR k n d x t k' n' d' x' t' ∧ cmpR k n d x t k' n' d' x' t' ≤ 1 := by
 unfold cmpR
 split
 ·
  split <;> omega
 ·
  split
  ·
   exact cmpI_bd3 _ _
  ·
   split
   ·
    rcases cmp_three (t.map upC) (t'.map upC) with h | h | h <;> rw [h] <;> decide
   ·
    split
    ·
     rcases cmp_three t t' with h | h | h <;> rw [h] <;> decide
    ·
     decide
theorem cmpQ_bd (a b : VT) : -1 ≤ cmpQ a b ∧ cmpQ a b ≤ 2 := by
 unfold cmpQ compareV
 split
 ·
  have := cmpR_bd (bk a.k b.k) a.n a.d a.x (bt a.k a.t b.k) (bk b.k a.k) b.n b.d b.x (bt b.k b.t a.k)
  omega
 ·
  decide
theorem late_bd (e : VT) : 0 ≤ lateV e ∧ lateV e ≤ 2 := by unfold lateV; split <;> (try split) <;> omega
set_option maxRecDepth 8000 in
set_option maxHeartbeats 4000000 in
theorem standI (a b : VT) (s : Int) (hs : s = 1 ∨ s = -1) (w : World) (ha : a.room) (hb : b.room) (hT : Tens w) (hE : ErrTab w) :
  Calls Tryz.prog 75 #[a.val, b.val, .int .i64 s] w fun e w' => e = .returned (.int .i64 (standB a b s)) ∧ Ext w w' := by
 have CA := fun W => classI a W
 have CB := fun W => classI b W
 have CC : Hid (∀ W, Ext w W → Calls Tryz.prog 89 #[a.val, b.val] W fun e w' => e = .returned (.int .i64 (cmpQ a b)) ∧ Ext W w') := fun W hW => compareI a.k a.n a.d a.x a.t b.k b.n b.d b.x b.t W ha.1 hb.1 ha.2.1 ha.2.2 hb.2.1 hb.2.2 (hT.later hW) (hE.later hW)
 have bd := cmpQ_bd a b
 have la := late_bd a
 have lb := late_bd b
 have HS : Hid (standB a b s = if lateV a ≠ lateV b ∨ lateV a ≠ 0 then cmpI (lateV a) (lateV b) else cmpQ a b * s) := rfl
 obtain ⟨k, n, d, x, t⟩ := a
 obtain ⟨k', n', d', x', t'⟩ := b
 obtain ⟨A, hA⟩ : ∃ A, lateV ⟨k, n, d, x, t⟩ = A := ⟨_, rfl⟩
 obtain ⟨B, hB⟩ : ∃ B, lateV ⟨k', n', d', x', t'⟩ = B := ⟨_, rfl⟩
 obtain ⟨R, hR⟩ : ∃ R, cmpQ ⟨k, n, d, x, t⟩ ⟨k', n', d', x', t'⟩ = R := ⟨_, rfl⟩
 obtain ⟨Q, hQ⟩ : ∃ Q, standB ⟨k, n, d, x, t⟩ ⟨k', n', d', x', t'⟩ s = Q := ⟨_, rfl⟩
 rw [hA] at CA HS la
 rw [hB] at CB HS lb
 rw [hR] at CC HS bd
 rw [hQ] at HS ⊢
 obtain ⟨u0, u1, h0, h1, s0', s1', B0, B1, X⟩ := mkB2 w (valL k n d x t) (valL k' n' d' x' t') 51 51
 obtain ⟨a0, a1, a2, a3, a4⟩ := Vec.five B0
 obtain ⟨a5, a6, a7, a8, a9⟩ := Vec.five B1
 have CI := fun W => compare_int A B W
 clear hA hB hR hQ ha hb hT hE
 by_cases hAB : A = B
 ·
  subst hAB
  by_cases hA0 : A = 0
  ·
   subst hA0
   have HF : Hid (R * s = Q) := by show _ = _; rw [HS.out, if_neg (by omega)]
   clear CI HS
   go_enter Tryz.func75, Tryz.ntmps75
   go_upto_region 1 with fail
   go_cut [16] (fun q wc => q = .bool false ∧ Hid (Ext u1 wc))
   case first =>
    go_region_held3 (fun w' => w'.cell? ⟨w.heap.size, 0, none⟩ = some (.int .i64 k) ∧ w'.cell? ⟨w.heap.size, 1, none⟩ = some (.bool n) ∧ w'.cell? ⟨w.heap.size, 2, none⟩ = some (.int .i64 d) ∧ w'.cell? ⟨w.heap.size, 3, none⟩ = some (.int .i64 x) ∧ w'.cell? ⟨w.heap.size, 4, none⟩ = some (sV t) ∧ w'.cell? ⟨w.heap.size + 1, 0, none⟩ = some (.int .i64 k') ∧ w'.cell? ⟨w.heap.size + 1, 1, none⟩ = some (.bool n') ∧ w'.cell? ⟨w.heap.size + 1, 2, none⟩ = some (.int .i64 d') ∧ w'.cell? ⟨w.heap.size + 1, 3, none⟩ = some (.int .i64 x') ∧ w'.cell? ⟨w.heap.size + 1, 4, none⟩ = some (sV t')) (go_keep)
   (first
    | (go_at_call 87; first | (refine (CA _).mono ?_; rintro e w' ⟨rfl, E⟩; first | (have Y4 := xt Y3 E; have u0 := cell_later E t0; have u1 := cell_later E t1; have u2 := cell_later E t2; have u3 := cell_later E t3; have u4 := cell_later E t4; have u5 := cell_later E t5; have u6 := cell_later E t6; have u7 := cell_later E t7; have u8 := cell_later E t8; have u9 := cell_later E t9) | (have Y3 := xt Y2 E; have t0 := cell_later E s0; have t1 := cell_later E s1; have t2 := cell_later E s2; have t3 := cell_later E s3; have t4 := cell_later E s4; have t5 := cell_later E s5; have t6 := cell_later E s6; have t7 := cell_later E s7; have t8 := cell_later E s8; have t9 := cell_later E s9) | (have Y2 := xt Y E; have s0 := cell_later E r0; have s1 := cell_later E r1; have s2 := cell_later E r2; have s3 := cell_later E r3; have s4 := cell_later E r4; have s5 := cell_later E r5; have s6 := cell_later E r6; have s7 := cell_later E r7; have s8 := cell_later E r8; have s9 := cell_later E r9) | (have Y := xt (xd (xr _)) E; have r0 := cell_later Y a0; have r1 := cell_later Y a1; have r2 := cell_later Y a2; have r3 := cell_later Y a3; have r4 := cell_later Y a4; have r5 := cell_later Y a5; have r6 := cell_later Y a6; have r7 := cell_later Y a7; have r8 := cell_later Y a8; have r9 := cell_later Y a9)) | (refine (CB _).mono ?_; rintro e w' ⟨rfl, E⟩; first | (have Y4 := xt Y3 E; have u0 := cell_later E t0; have u1 := cell_later E t1; have u2 := cell_later E t2; have u3 := cell_later E t3; have u4 := cell_later E t4; have u5 := cell_later E t5; have u6 := cell_later E t6; have u7 := cell_later E t7; have u8 := cell_later E t8; have u9 := cell_later E t9) | (have Y3 := xt Y2 E; have t0 := cell_later E s0; have t1 := cell_later E s1; have t2 := cell_later E s2; have t3 := cell_later E s3; have t4 := cell_later E s4; have t5 := cell_later E s5; have t6 := cell_later E s6; have t7 := cell_later E s7; have t8 := cell_later E s8; have t9 := cell_later E s9) | (have Y2 := xt Y E; have s0 := cell_later E r0; have s1 := cell_later E r1; have s2 := cell_later E r2; have s3 := cell_later E r3; have s4 := cell_later E r4; have s5 := cell_later E r5; have s6 := cell_later E r6; have s7 := cell_later E r7; have s8 := cell_later E r8; have s9 := cell_later E r9) | (have Y := xt (xd (xr _)) E; have r0 := cell_later Y a0; have r1 := cell_later Y a1; have r2 := cell_later Y a2; have r3 := cell_later Y a3; have r4 := cell_later Y a4; have r5 := cell_later Y a5; have r6 := cell_later Y a6; have r7 := cell_later Y a7; have r8 := cell_later Y a8; have r9 := cell_later Y a9))))
    all_goals
     go_wp2_with fail
     go_meet
     exact ⟨rfl, Y3⟩
   case rest =>
    obtain ⟨rfl, HX⟩ := hcut
    have YY := xt X HX.out
    have D0 := B0.later HX.out
    have D1 := B1.later HX.out
    clear a0 a1 a2 a3 a4 a5 a6 a7 a8 a9 CA CB
    obtain ⟨a0, a1, a2, a3, a4⟩ := Vec.five D0
    obtain ⟨a5, a6, a7, a8, a9⟩ := Vec.five D1
    have C0 := CC.out _ YY
    have hw9 : IntKind.i64.wrap (R * s) = R * s := by rcases hs with rfl | rfl <;> rw [IntKind.wrap_i64] <;> omega
    go_wp2_with (go_at_call 89; refine C0.mono ?_; rintro e w9 ⟨rfl, e9⟩)
    go_ret
    exact ⟨ret_int HF.out, xt YY e9⟩
  ·
   have HF : Hid (cmpI A A = Q) := by show _ = _; rw [HS.out, if_pos (Or.inr hA0)]
   have hA0b : (A == 0) = false := by simpa using hA0
   clear HS CC
   go_enter Tryz.func75, Tryz.ntmps75
   go_upto_region 1 with fail
   go_cut [16] (fun q wc => q = .bool true ∧ Hid (Ext u1 wc))
   case first =>
    go_region_held3 (fun w' => w'.cell? ⟨w.heap.size, 0, none⟩ = some (.int .i64 k) ∧ w'.cell? ⟨w.heap.size, 1, none⟩ = some (.bool n) ∧ w'.cell? ⟨w.heap.size, 2, none⟩ = some (.int .i64 d) ∧ w'.cell? ⟨w.heap.size, 3, none⟩ = some (.int .i64 x) ∧ w'.cell? ⟨w.heap.size, 4, none⟩ = some (sV t) ∧ w'.cell? ⟨w.heap.size + 1, 0, none⟩ = some (.int .i64 k') ∧ w'.cell? ⟨w.heap.size + 1, 1, none⟩ = some (.bool n') ∧ w'.cell? ⟨w.heap.size + 1, 2, none⟩ = some (.int .i64 d') ∧ w'.cell? ⟨w.heap.size + 1, 3, none⟩ = some (.int .i64 x') ∧ w'.cell? ⟨w.heap.size + 1, 4, none⟩ = some (sV t')) (go_keep)
   (first
    | (go_at_call 87; first | (refine (CA _).mono ?_; rintro e w' ⟨rfl, E⟩; first | (have Y4 := xt Y3 E; have u0 := cell_later E t0; have u1 := cell_later E t1; have u2 := cell_later E t2; have u3 := cell_later E t3; have u4 := cell_later E t4; have u5 := cell_later E t5; have u6 := cell_later E t6; have u7 := cell_later E t7; have u8 := cell_later E t8; have u9 := cell_later E t9) | (have Y3 := xt Y2 E; have t0 := cell_later E s0; have t1 := cell_later E s1; have t2 := cell_later E s2; have t3 := cell_later E s3; have t4 := cell_later E s4; have t5 := cell_later E s5; have t6 := cell_later E s6; have t7 := cell_later E s7; have t8 := cell_later E s8; have t9 := cell_later E s9) | (have Y2 := xt Y E; have s0 := cell_later E r0; have s1 := cell_later E r1; have s2 := cell_later E r2; have s3 := cell_later E r3; have s4 := cell_later E r4; have s5 := cell_later E r5; have s6 := cell_later E r6; have s7 := cell_later E r7; have s8 := cell_later E r8; have s9 := cell_later E r9) | (have Y := xt (xd (xr _)) E; have r0 := cell_later Y a0; have r1 := cell_later Y a1; have r2 := cell_later Y a2; have r3 := cell_later Y a3; have r4 := cell_later Y a4; have r5 := cell_later Y a5; have r6 := cell_later Y a6; have r7 := cell_later Y a7; have r8 := cell_later Y a8; have r9 := cell_later Y a9)) | (refine (CB _).mono ?_; rintro e w' ⟨rfl, E⟩; first | (have Y4 := xt Y3 E; have u0 := cell_later E t0; have u1 := cell_later E t1; have u2 := cell_later E t2; have u3 := cell_later E t3; have u4 := cell_later E t4; have u5 := cell_later E t5; have u6 := cell_later E t6; have u7 := cell_later E t7; have u8 := cell_later E t8; have u9 := cell_later E t9) | (have Y3 := xt Y2 E; have t0 := cell_later E s0; have t1 := cell_later E s1; have t2 := cell_later E s2; have t3 := cell_later E s3; have t4 := cell_later E s4; have t5 := cell_later E s5; have t6 := cell_later E s6; have t7 := cell_later E s7; have t8 := cell_later E s8; have t9 := cell_later E s9) | (have Y2 := xt Y E; have s0 := cell_later E r0; have s1 := cell_later E r1; have s2 := cell_later E r2; have s3 := cell_later E r3; have s4 := cell_later E r4; have s5 := cell_later E r5; have s6 := cell_later E r6; have s7 := cell_later E r7; have s8 := cell_later E r8; have s9 := cell_later E r9) | (have Y := xt (xd (xr _)) E; have r0 := cell_later Y a0; have r1 := cell_later Y a1; have r2 := cell_later Y a2; have r3 := cell_later Y a3; have r4 := cell_later Y a4; have r5 := cell_later Y a5; have r6 := cell_later Y a6; have r7 := cell_later Y a7; have r8 := cell_later Y a8; have r9 := cell_later Y a9))))
    all_goals
     go_wp2_with fail
     go_meet
     exact ⟨by first | rfl | simp [hA0], Y3⟩
   case rest =>
    obtain ⟨rfl, HX⟩ := hcut
    have YY := xt X HX.out
    have D0 := B0.later HX.out
    have D1 := B1.later HX.out
    clear a0 a1 a2 a3 a4 a5 a6 a7 a8 a9
    obtain ⟨a0, a1, a2, a3, a4⟩ := Vec.five D0
    obtain ⟨a5, a6, a7, a8, a9⟩ := Vec.five D1
    go_wp2_with fail
    go_region_held3 (fun w' => w'.cell? ⟨w.heap.size, 0, none⟩ = some (.int .i64 k) ∧ w'.cell? ⟨w.heap.size, 1, none⟩ = some (.bool n) ∧ w'.cell? ⟨w.heap.size, 2, none⟩ = some (.int .i64 d) ∧ w'.cell? ⟨w.heap.size, 3, none⟩ = some (.int .i64 x) ∧ w'.cell? ⟨w.heap.size, 4, none⟩ = some (sV t) ∧ w'.cell? ⟨w.heap.size + 1, 0, none⟩ = some (.int .i64 k') ∧ w'.cell? ⟨w.heap.size + 1, 1, none⟩ = some (.bool n') ∧ w'.cell? ⟨w.heap.size + 1, 2, none⟩ = some (.int .i64 d') ∧ w'.cell? ⟨w.heap.size + 1, 3, none⟩ = some (.int .i64 x') ∧ w'.cell? ⟨w.heap.size + 1, 4, none⟩ = some (sV t')) (go_keep)
   (first
    | (go_at_call 87; first | (refine (CA _).mono ?_; rintro e w' ⟨rfl, E⟩; first | (have Y4 := xt Y3 E; have u0 := cell_later E t0; have u1 := cell_later E t1; have u2 := cell_later E t2; have u3 := cell_later E t3; have u4 := cell_later E t4; have u5 := cell_later E t5; have u6 := cell_later E t6; have u7 := cell_later E t7; have u8 := cell_later E t8; have u9 := cell_later E t9) | (have Y3 := xt Y2 E; have t0 := cell_later E s0; have t1 := cell_later E s1; have t2 := cell_later E s2; have t3 := cell_later E s3; have t4 := cell_later E s4; have t5 := cell_later E s5; have t6 := cell_later E s6; have t7 := cell_later E s7; have t8 := cell_later E s8; have t9 := cell_later E s9) | (have Y2 := xt Y E; have s0 := cell_later E r0; have s1 := cell_later E r1; have s2 := cell_later E r2; have s3 := cell_later E r3; have s4 := cell_later E r4; have s5 := cell_later E r5; have s6 := cell_later E r6; have s7 := cell_later E r7; have s8 := cell_later E r8; have s9 := cell_later E r9) | (have Y := xt (xd (xr _)) E; have r0 := cell_later Y a0; have r1 := cell_later Y a1; have r2 := cell_later Y a2; have r3 := cell_later Y a3; have r4 := cell_later Y a4; have r5 := cell_later Y a5; have r6 := cell_later Y a6; have r7 := cell_later Y a7; have r8 := cell_later Y a8; have r9 := cell_later Y a9)) | (refine (CB _).mono ?_; rintro e w' ⟨rfl, E⟩; first | (have Y4 := xt Y3 E; have u0 := cell_later E t0; have u1 := cell_later E t1; have u2 := cell_later E t2; have u3 := cell_later E t3; have u4 := cell_later E t4; have u5 := cell_later E t5; have u6 := cell_later E t6; have u7 := cell_later E t7; have u8 := cell_later E t8; have u9 := cell_later E t9) | (have Y3 := xt Y2 E; have t0 := cell_later E s0; have t1 := cell_later E s1; have t2 := cell_later E s2; have t3 := cell_later E s3; have t4 := cell_later E s4; have t5 := cell_later E s5; have t6 := cell_later E s6; have t7 := cell_later E s7; have t8 := cell_later E s8; have t9 := cell_later E s9) | (have Y2 := xt Y E; have s0 := cell_later E r0; have s1 := cell_later E r1; have s2 := cell_later E r2; have s3 := cell_later E r3; have s4 := cell_later E r4; have s5 := cell_later E r5; have s6 := cell_later E r6; have s7 := cell_later E r7; have s8 := cell_later E r8; have s9 := cell_later E r9) | (have Y := xt (xd (xr _)) E; have r0 := cell_later Y a0; have r1 := cell_later Y a1; have r2 := cell_later Y a2; have r3 := cell_later Y a3; have r4 := cell_later Y a4; have r5 := cell_later Y a5; have r6 := cell_later Y a6; have r7 := cell_later Y a7; have r8 := cell_later Y a8; have r9 := cell_later Y a9)))
    | (go_at_call 88; refine (CI _).mono ?_; rintro e w' ⟨rfl, rfl⟩))
    all_goals
     go_wp2_with fail
     go_ret
     exact ⟨ret_int HF.out, xt YY Y2⟩
 ·
  have HF : Hid (cmpI A B = Q) := by show _ = _; rw [HS.out, if_pos (Or.inl hAB)]
  have hABb : (A == B) = false := by simpa using hAB
  have hABn : (A != B) = true := by simpa using hAB
  have hABd : decide (A = B) = false := decide_eq_false hAB
  clear HS CC
  go_enter Tryz.func75, Tryz.ntmps75
  go_upto_region 1 with fail
  go_cut [16] (fun q wc => q = .bool true ∧ Hid (Ext u1 wc))
  case first =>
   go_region_with (first
    | (go_at_call 87; first | (refine (CA _).mono ?_; rintro e w' ⟨rfl, E⟩; first | (have Y4 := xt Y3 E; have u0 := cell_later E t0; have u1 := cell_later E t1; have u2 := cell_later E t2; have u3 := cell_later E t3; have u4 := cell_later E t4; have u5 := cell_later E t5; have u6 := cell_later E t6; have u7 := cell_later E t7; have u8 := cell_later E t8; have u9 := cell_later E t9) | (have Y3 := xt Y2 E; have t0 := cell_later E s0; have t1 := cell_later E s1; have t2 := cell_later E s2; have t3 := cell_later E s3; have t4 := cell_later E s4; have t5 := cell_later E s5; have t6 := cell_later E s6; have t7 := cell_later E s7; have t8 := cell_later E s8; have t9 := cell_later E s9) | (have Y2 := xt Y E; have s0 := cell_later E r0; have s1 := cell_later E r1; have s2 := cell_later E r2; have s3 := cell_later E r3; have s4 := cell_later E r4; have s5 := cell_later E r5; have s6 := cell_later E r6; have s7 := cell_later E r7; have s8 := cell_later E r8; have s9 := cell_later E r9) | (have Y := xt (xd (xr _)) E; have r0 := cell_later Y a0; have r1 := cell_later Y a1; have r2 := cell_later Y a2; have r3 := cell_later Y a3; have r4 := cell_later Y a4; have r5 := cell_later Y a5; have r6 := cell_later Y a6; have r7 := cell_later Y a7; have r8 := cell_later Y a8; have r9 := cell_later Y a9)) | (refine (CB _).mono ?_; rintro e w' ⟨rfl, E⟩; first | (have Y4 := xt Y3 E; have u0 := cell_later E t0; have u1 := cell_later E t1; have u2 := cell_later E t2; have u3 := cell_later E t3; have u4 := cell_later E t4; have u5 := cell_later E t5; have u6 := cell_later E t6; have u7 := cell_later E t7; have u8 := cell_later E t8; have u9 := cell_later E t9) | (have Y3 := xt Y2 E; have t0 := cell_later E s0; have t1 := cell_later E s1; have t2 := cell_later E s2; have t3 := cell_later E s3; have t4 := cell_later E s4; have t5 := cell_later E s5; have t6 := cell_later E s6; have t7 := cell_later E s7; have t8 := cell_later E s8; have t9 := cell_later E s9) | (have Y2 := xt Y E; have s0 := cell_later E r0; have s1 := cell_later E r1; have s2 := cell_later E r2; have s3 := cell_later E r3; have s4 := cell_later E r4; have s5 := cell_later E r5; have s6 := cell_later E r6; have s7 := cell_later E r7; have s8 := cell_later E r8; have s9 := cell_later E r9) | (have Y := xt (xd (xr _)) E; have r0 := cell_later Y a0; have r1 := cell_later Y a1; have r2 := cell_later Y a2; have r3 := cell_later Y a3; have r4 := cell_later Y a4; have r5 := cell_later Y a5; have r6 := cell_later Y a6; have r7 := cell_later Y a7; have r8 := cell_later Y a8; have r9 := cell_later Y a9))))
   all_goals
    go_wp2_with fail
    go_meet
    exact ⟨rfl, Y2⟩
  case rest =>
   obtain ⟨rfl, HX⟩ := hcut
   have YY := xt X HX.out
   have D0 := B0.later HX.out
   have D1 := B1.later HX.out
   clear a0 a1 a2 a3 a4 a5 a6 a7 a8 a9 hABb hABn hABd hAB
   obtain ⟨a0, a1, a2, a3, a4⟩ := Vec.five D0
   obtain ⟨a5, a6, a7, a8, a9⟩ := Vec.five D1
   go_wp2_with fail
   go_region_held3 (fun w' => w'.cell? ⟨w.heap.size, 0, none⟩ = some (.int .i64 k) ∧ w'.cell? ⟨w.heap.size, 1, none⟩ = some (.bool n) ∧ w'.cell? ⟨w.heap.size, 2, none⟩ = some (.int .i64 d) ∧ w'.cell? ⟨w.heap.size, 3, none⟩ = some (.int .i64 x) ∧ w'.cell? ⟨w.heap.size, 4, none⟩ = some (sV t) ∧ w'.cell? ⟨w.heap.size + 1, 0, none⟩ = some (.int .i64 k') ∧ w'.cell? ⟨w.heap.size + 1, 1, none⟩ = some (.bool n') ∧ w'.cell? ⟨w.heap.size + 1, 2, none⟩ = some (.int .i64 d') ∧ w'.cell? ⟨w.heap.size + 1, 3, none⟩ = some (.int .i64 x') ∧ w'.cell? ⟨w.heap.size + 1, 4, none⟩ = some (sV t')) (go_keep)
   (first
    | (go_at_call 87; first | (refine (CA _).mono ?_; rintro e w' ⟨rfl, E⟩; first | (have Y4 := xt Y3 E; have u0 := cell_later E t0; have u1 := cell_later E t1; have u2 := cell_later E t2; have u3 := cell_later E t3; have u4 := cell_later E t4; have u5 := cell_later E t5; have u6 := cell_later E t6; have u7 := cell_later E t7; have u8 := cell_later E t8; have u9 := cell_later E t9) | (have Y3 := xt Y2 E; have t0 := cell_later E s0; have t1 := cell_later E s1; have t2 := cell_later E s2; have t3 := cell_later E s3; have t4 := cell_later E s4; have t5 := cell_later E s5; have t6 := cell_later E s6; have t7 := cell_later E s7; have t8 := cell_later E s8; have t9 := cell_later E s9) | (have Y2 := xt Y E; have s0 := cell_later E r0; have s1 := cell_later E r1; have s2 := cell_later E r2; have s3 := cell_later E r3; have s4 := cell_later E r4; have s5 := cell_later E r5; have s6 := cell_later E r6; have s7 := cell_later E r7; have s8 := cell_later E r8; have s9 := cell_later E r9) | (have Y := xt (xd (xr _)) E; have r0 := cell_later Y a0; have r1 := cell_later Y a1; have r2 := cell_later Y a2; have r3 := cell_later Y a3; have r4 := cell_later Y a4; have r5 := cell_later Y a5; have r6 := cell_later Y a6; have r7 := cell_later Y a7; have r8 := cell_later Y a8; have r9 := cell_later Y a9)) | (refine (CB _).mono ?_; rintro e w' ⟨rfl, E⟩; first | (have Y4 := xt Y3 E; have u0 := cell_later E t0; have u1 := cell_later E t1; have u2 := cell_later E t2; have u3 := cell_later E t3; have u4 := cell_later E t4; have u5 := cell_later E t5; have u6 := cell_later E t6; have u7 := cell_later E t7; have u8 := cell_later E t8; have u9 := cell_later E t9) | (have Y3 := xt Y2 E; have t0 := cell_later E s0; have t1 := cell_later E s1; have t2 := cell_later E s2; have t3 := cell_later E s3; have t4 := cell_later E s4; have t5 := cell_later E s5; have t6 := cell_later E s6; have t7 := cell_later E s7; have t8 := cell_later E s8; have t9 := cell_later E s9) | (have Y2 := xt Y E; have s0 := cell_later E r0; have s1 := cell_later E r1; have s2 := cell_later E r2; have s3 := cell_later E r3; have s4 := cell_later E r4; have s5 := cell_later E r5; have s6 := cell_later E r6; have s7 := cell_later E r7; have s8 := cell_later E r8; have s9 := cell_later E r9) | (have Y := xt (xd (xr _)) E; have r0 := cell_later Y a0; have r1 := cell_later Y a1; have r2 := cell_later Y a2; have r3 := cell_later Y a3; have r4 := cell_later Y a4; have r5 := cell_later Y a5; have r6 := cell_later Y a6; have r7 := cell_later Y a7; have r8 := cell_later Y a8; have r9 := cell_later Y a9)))
    | (go_at_call 88; refine (CI _).mono ?_; rintro e w' ⟨rfl, rfl⟩))
   all_goals
    go_wp2_with fail
    go_ret
    exact ⟨ret_int HF.out, xt YY Y2⟩

end Go.Proofs.YtgpfddneablcpaaGreatDoor

