/-
  Several texts in one: Ql, E3, E4.
-/
import Derived.Test.YtbomplppgobkdaaGreatDoorMg32
import Derived.Test.YtbomplppgobkdaaGreatDoorMg33
import Derived.Test.YtbomplppgobkdaaGreatDoorMg37
import Derived.Shelf.Abstract
namespace Go.Proofs.YtbomplppgobkdaaGreatDoor
open Go.RowKit

set_option maxHeartbeats 1000000 in
theorem classI (e : VT) (w : World) : Calls Tryz.prog 90 #[e.val] w fun z w' => z = .returned (.int .i64 (lateV e)) ∧ Ext w w' := by
  obtain ⟨k, n, d, x, t⟩ := e
  have X0 := x1 w (.cells #[.int .i64 k, .bool n, .int .i64 d, .int .i64 x, sV t] 50)
  by_cases h0 : k = 0
  · subst h0
    have e : lateV ⟨0, n, d, x, t⟩ = 1 := rfl
    rw [e]
    go_enter Tryz.func90, Tryz.ntmps90
    go_wp2_with fail
    go_ret
    exact ⟨rfl, X0⟩
  · have h0b : (k == 0) = false := by simpa using h0
    by_cases h4 : k = 4
    · subst h4
      have e : lateV ⟨4, n, d, x, t⟩ = 2 := rfl
      rw [e]
      go_enter Tryz.func90, Tryz.ntmps90
      go_wp2_with fail
      go_ret
      exact ⟨rfl, X0⟩
    · have h4b : (k == 4) = false := by simpa using h4
      have e : lateV ⟨k, n, d, x, t⟩ = 0 := by unfold lateV; rw [if_neg h0, if_neg h4]
      rw [e]
      go_enter Tryz.func90, Tryz.ntmps90
      go_wp2_with fail
      go_ret
      exact ⟨rfl, X0⟩
theorem cmpI_bd3 (a b : Int) : -1 ≤ cmpI a b ∧ cmpI a b ≤ 1 := by unfold cmpI; split <;> (try split) <;> omega
theorem cmpR_bd (k : Int) (n : Bool) (d x : Int) (t : List UInt8) (k' : Int) (n' : Bool) (d' x' : Int) (t' : List UInt8) : -1 ≤ cmpR k n d x t k' n' d' x' t' ∧ cmpR k n d x t k' n' d' x' t' ≤ 1 := by
  unfold cmpR
  split
  · split <;> omega
  · split
    · exact cmpI_bd3 _ _
    · split
      · rcases cmp_three (t.map upC) (t'.map upC) with h | h | h <;> rw [h] <;> decide
      · split
        · rcases cmp_three t t' with h | h | h <;> rw [h] <;> decide
        · decide
theorem cmpQ_bd (a b : VT) : -1 ≤ cmpQ a b ∧ cmpQ a b ≤ 2 := by
  unfold cmpQ compareV
  split
  · have := cmpR_bd (bk a.k b.k) a.n a.d a.x (bt a.k a.t b.k) (bk b.k a.k) b.n b.d b.x (bt b.k b.t a.k)
    omega
  · decide
theorem late_bd (e : VT) : 0 ≤ lateV e ∧ lateV e ≤ 2 := by unfold lateV; split <;> (try split) <;> omega
set_option maxRecDepth 8000 in
set_option maxHeartbeats 4000000 in
theorem standI (a b : VT) (s : Int) (hs : s = 1 ∨ s = -1) (w : World) (ha : a.room) (hb : b.room) (hT : Tens w) (hE : ErrTab w) :
    Calls Tryz.prog 52 #[a.val, b.val, .int .i64 s] w fun e w' => e = .returned (.int .i64 (standB a b s)) ∧ Ext w w' := by
  have CA := fun W => classI a W
  have CB := fun W => classI b W
  have CC : Hid (∀ W, Ext w W → Calls Tryz.prog 45 #[a.val, b.val] W fun e w' => e = .returned (.int .i64 (cmpQ a b)) ∧ Ext W w') := fun W hW => compareI a.k a.n a.d a.x a.t b.k b.n b.d b.x b.t W ha.1 hb.1 ha.2.1 ha.2.2 hb.2.1 hb.2.2 (hT.later hW) (hE.later hW)
  have bd := cmpQ_bd a b
  have la := late_bd a
  have lb := late_bd b
  have HS : Hid (standB a b s = if lateV a ≠ lateV b ∨ lateV a ≠ 0 then cmpI (lateV a) (lateV b) else cmpQ a b * s) := rfl
  obtain ⟨k, n, d, x, t⟩ := a
  obtain ⟨k', n', d', x', t'⟩ := b
  obtain ⟨A, hA⟩ : ∃ A, lateV ⟨k, n, d, x, t⟩ = A := ⟨_, rfl⟩
  obtain ⟨B, hB⟩ : ∃ B, lateV ⟨k', n', d', x', t'⟩ = B := ⟨_, rfl⟩
  obtain ⟨R, hR⟩ : ∃ R, cmpQ ⟨k, n, d, x, t⟩ ⟨k', n', d', x', t'⟩ = R := ⟨_, rfl⟩
  obtain ⟨Q, hQ⟩ : ∃ Q, standB ⟨k, n, d, x, t⟩ ⟨k', n', d', x', t'⟩ s = Q := ⟨_, rfl⟩
  rw [hA] at CA HS la
  rw [hB] at CB HS lb
  rw [hR] at CC HS bd
  rw [hQ] at HS ⊢
  obtain ⟨u0, u1, h0, h1, s0', s1', B0, B1, X⟩ := mkB2 w (valL k n d x t) (valL k' n' d' x' t') 50 50
  obtain ⟨a0, a1, a2, a3, a4⟩ := Vec.five B0
  obtain ⟨a5, a6, a7, a8, a9⟩ := Vec.five B1
  have CI := fun W => compare_int A B W
  clear hA hB hR hQ ha hb hT hE
  by_cases hAB : A = B
  · subst hAB
    by_cases hA0 : A = 0
    · subst hA0
      have HF : Hid (R * s = Q) := by show _ = _; rw [HS.out, if_neg (by omega)]
      clear CI HS
      go_enter Tryz.func52, Tryz.ntmps52
      go_upto_region 1 with fail
      go_cut [16] (fun q wc => q = .bool false ∧ Hid (Ext u1 wc))
      case first =>
        go_region_held3 (fun w' => w'.cell? ⟨w.heap.size, 0, none⟩ = some (.int .i64 k) ∧ w'.cell? ⟨w.heap.size, 1, none⟩ = some (.bool n) ∧ w'.cell? ⟨w.heap.size, 2, none⟩ = some (.int .i64 d) ∧ w'.cell? ⟨w.heap.size, 3, none⟩ = some (.int .i64 x) ∧ w'.cell? ⟨w.heap.size, 4, none⟩ = some (sV t) ∧ w'.cell? ⟨w.heap.size + 1, 0, none⟩ = some (.int .i64 k') ∧ w'.cell? ⟨w.heap.size + 1, 1, none⟩ = some (.bool n') ∧ w'.cell? ⟨w.heap.size + 1, 2, none⟩ = some (.int .i64 d') ∧ w'.cell? ⟨w.heap.size + 1, 3, none⟩ = some (.int .i64 x') ∧ w'.cell? ⟨w.heap.size + 1, 4, none⟩ = some (sV t')) (go_keep)
      (first
        | (go_at_call 90; first | (refine (CA _).mono ?_; rintro e w' ⟨rfl, E⟩; first | (have Y4 := xt Y3 E; have u0 := cell_later E t0; have u1 := cell_later E t1; have u2 := cell_later E t2; have u3 := cell_later E t3; have u4 := cell_later E t4; have u5 := cell_later E t5; have u6 := cell_later E t6; have u7 := cell_later E t7; have u8 := cell_later E t8; have u9 := cell_later E t9) | (have Y3 := xt Y2 E; have t0 := cell_later E s0; have t1 := cell_later E s1; have t2 := cell_later E s2; have t3 := cell_later E s3; have t4 := cell_later E s4; have t5 := cell_later E s5; have t6 := cell_later E s6; have t7 := cell_later E s7; have t8 := cell_later E s8; have t9 := cell_later E s9) | (have Y2 := xt Y E; have s0 := cell_later E r0; have s1 := cell_later E r1; have s2 := cell_later E r2; have s3 := cell_later E r3; have s4 := cell_later E r4; have s5 := cell_later E r5; have s6 := cell_later E r6; have s7 := cell_later E r7; have s8 := cell_later E r8; have s9 := cell_later E r9) | (have Y := xt (xd (xr _)) E; have r0 := cell_later Y a0; have r1 := cell_later Y a1; have r2 := cell_later Y a2; have r3 := cell_later Y a3; have r4 := cell_later Y a4; have r5 := cell_later Y a5; have r6 := cell_later Y a6; have r7 := cell_later Y a7; have r8 := cell_later Y a8; have r9 := cell_later Y a9)) | (refine (CB _).mono ?_; rintro e w' ⟨rfl, E⟩; first | (have Y4 := xt Y3 E; have u0 := cell_later E t0; have u1 := cell_later E t1; have u2 := cell_later E t2; have u3 := cell_later E t3; have u4 := cell_later E t4; have u5 := cell_later E t5; have u6 := cell_later E t6; have u7 := cell_later E t7; have u8 := cell_later E t8; have u9 := cell_later E t9) | (have Y3 := xt Y2 E; have t0 := cell_later E s0; have t1 := cell_later E s1; have t2 := cell_later E s2; have t3 := cell_later E s3; have t4 := cell_later E s4; have t5 := cell_later E s5; have t6 := cell_later E s6; have t7 := cell_later E s7; have t8 := cell_later E s8; have t9 := cell_later E s9) | (have Y2 := xt Y E; have s0 := cell_later E r0; have s1 := cell_later E r1; have s2 := cell_later E r2; have s3 := cell_later E r3; have s4 := cell_later E r4; have s5 := cell_later E r5; have s6 := cell_later E r6; have s7 := cell_later E r7; have s8 := cell_later E r8; have s9 := cell_later E r9) | (have Y := xt (xd (xr _)) E; have r0 := cell_later Y a0; have r1 := cell_later Y a1; have r2 := cell_later Y a2; have r3 := cell_later Y a3; have r4 := cell_later Y a4; have r5 := cell_later Y a5; have r6 := cell_later Y a6; have r7 := cell_later Y a7; have r8 := cell_later Y a8; have r9 := cell_later Y a9))))
        all_goals
          go_wp2_with fail
          go_meet
          exact ⟨rfl, Y3⟩
      case rest =>
        obtain ⟨rfl, HX⟩ := hcut
        have YY := xt X HX.out
        have D0 := B0.later HX.out
        have D1 := B1.later HX.out
        clear a0 a1 a2 a3 a4 a5 a6 a7 a8 a9 CA CB
        obtain ⟨a0, a1, a2, a3, a4⟩ := Vec.five D0
        obtain ⟨a5, a6, a7, a8, a9⟩ := Vec.five D1
        have C0 := CC.out _ YY
        have hw9 : IntKind.i64.wrap (R * s) = R * s := by rcases hs with rfl | rfl <;> rw [IntKind.wrap_i64] <;> omega
        go_wp2_with (go_at_call 45; refine C0.mono ?_; rintro e w9 ⟨rfl, e9⟩)
        go_ret
        exact ⟨ret_int HF.out, xt YY e9⟩
    · have HF : Hid (cmpI A A = Q) := by show _ = _; rw [HS.out, if_pos (Or.inr hA0)]
      have hA0b : (A == 0) = false := by simpa using hA0
      clear HS CC
      go_enter Tryz.func52, Tryz.ntmps52
      go_upto_region 1 with fail
      go_cut [16] (fun q wc => q = .bool true ∧ Hid (Ext u1 wc))
      case first =>
        go_region_held3 (fun w' => w'.cell? ⟨w.heap.size, 0, none⟩ = some (.int .i64 k) ∧ w'.cell? ⟨w.heap.size, 1, none⟩ = some (.bool n) ∧ w'.cell? ⟨w.heap.size, 2, none⟩ = some (.int .i64 d) ∧ w'.cell? ⟨w.heap.size, 3, none⟩ = some (.int .i64 x) ∧ w'.cell? ⟨w.heap.size, 4, none⟩ = some (sV t) ∧ w'.cell? ⟨w.heap.size + 1, 0, none⟩ = some (.int .i64 k') ∧ w'.cell? ⟨w.heap.size + 1, 1, none⟩ = some (.bool n') ∧ w'.cell? ⟨w.heap.size + 1, 2, none⟩ = some (.int .i64 d') ∧ w'.cell? ⟨w.heap.size + 1, 3, none⟩ = some (.int .i64 x') ∧ w'.cell? ⟨w.heap.size + 1, 4, none⟩ = some (sV t')) (go_keep)
      (first
        | (go_at_call 90; first | (refine (CA _).mono ?_; rintro e w' ⟨rfl, E⟩; first | (have Y4 := xt Y3 E; have u0 := cell_later E t0; have u1 := cell_later E t1; have u2 := cell_later E t2; have u3 := cell_later E t3; have u4 := cell_later E t4; have u5 := cell_later E t5; have u6 := cell_later E t6; have u7 := cell_later E t7; have u8 := cell_later E t8; have u9 := cell_later E t9) | (have Y3 := xt Y2 E; have t0 := cell_later E s0; have t1 := cell_later E s1; have t2 := cell_later E s2; have t3 := cell_later E s3; have t4 := cell_later E s4; have t5 := cell_later E s5; have t6 := cell_later E s6; have t7 := cell_later E s7; have t8 := cell_later E s8; have t9 := cell_later E s9) | (have Y2 := xt Y E; have s0 := cell_later E r0; have s1 := cell_later E r1; have s2 := cell_later E r2; have s3 := cell_later E r3; have s4 := cell_later E r4; have s5 := cell_later E r5; have s6 := cell_later E r6; have s7 := cell_later E r7; have s8 := cell_later E r8; have s9 := cell_later E r9) | (have Y := xt (xd (xr _)) E; have r0 := cell_later Y a0; have r1 := cell_later Y a1; have r2 := cell_later Y a2; have r3 := cell_later Y a3; have r4 := cell_later Y a4; have r5 := cell_later Y a5; have r6 := cell_later Y a6; have r7 := cell_later Y a7; have r8 := cell_later Y a8; have r9 := cell_later Y a9)) | (refine (CB _).mono ?_; rintro e w' ⟨rfl, E⟩; first | (have Y4 := xt Y3 E; have u0 := cell_later E t0; have u1 := cell_later E t1; have u2 := cell_later E t2; have u3 := cell_later E t3; have u4 := cell_later E t4; have u5 := cell_later E t5; have u6 := cell_later E t6; have u7 := cell_later E t7; have u8 := cell_later E t8; have u9 := cell_later E t9) | (have Y3 := xt Y2 E; have t0 := cell_later E s0; have t1 := cell_later E s1; have t2 := cell_later E s2; have t3 := cell_later E s3; have t4 := cell_later E s4; have t5 := cell_later E s5; have t6 := cell_later E s6; have t7 := cell_later E s7; have t8 := cell_later E s8; have t9 := cell_later E s9) | (have Y2 := xt Y E; have s0 := cell_later E r0; have s1 := cell_later E r1; have s2 := cell_later E r2; have s3 := cell_later E r3; have s4 := cell_later E r4; have s5 := cell_later E r5; have s6 := cell_later E r6; have s7 := cell_later E r7; have s8 := cell_later E r8; have s9 := cell_later E r9) | (have Y := xt (xd (xr _)) E; have r0 := cell_later Y a0; have r1 := cell_later Y a1; have r2 := cell_later Y a2; have r3 := cell_later Y a3; have r4 := cell_later Y a4; have r5 := cell_later Y a5; have r6 := cell_later Y a6; have r7 := cell_later Y a7; have r8 := cell_later Y a8; have r9 := cell_later Y a9))))
        all_goals
          go_wp2_with fail
          go_meet
          exact ⟨by first | rfl | simp [hA0], Y3⟩
      case rest =>
        obtain ⟨rfl, HX⟩ := hcut
        have YY := xt X HX.out
        have D0 := B0.later HX.out
        have D1 := B1.later HX.out
        clear a0 a1 a2 a3 a4 a5 a6 a7 a8 a9
        obtain ⟨a0, a1, a2, a3, a4⟩ := Vec.five D0
        obtain ⟨a5, a6, a7, a8, a9⟩ := Vec.five D1
        go_wp2_with fail
        go_region_held3 (fun w' => w'.cell? ⟨w.heap.size, 0, none⟩ = some (.int .i64 k) ∧ w'.cell? ⟨w.heap.size, 1, none⟩ = some (.bool n) ∧ w'.cell? ⟨w.heap.size, 2, none⟩ = some (.int .i64 d) ∧ w'.cell? ⟨w.heap.size, 3, none⟩ = some (.int .i64 x) ∧ w'.cell? ⟨w.heap.size, 4, none⟩ = some (sV t) ∧ w'.cell? ⟨w.heap.size + 1, 0, none⟩ = some (.int .i64 k') ∧ w'.cell? ⟨w.heap.size + 1, 1, none⟩ = some (.bool n') ∧ w'.cell? ⟨w.heap.size + 1, 2, none⟩ = some (.int .i64 d') ∧ w'.cell? ⟨w.heap.size + 1, 3, none⟩ = some (.int .i64 x') ∧ w'.cell? ⟨w.heap.size + 1, 4, none⟩ = some (sV t')) (go_keep)
      (first
        | (go_at_call 90; first | (refine (CA _).mono ?_; rintro e w' ⟨rfl, E⟩; first | (have Y4 := xt Y3 E; have u0 := cell_later E t0; have u1 := cell_later E t1; have u2 := cell_later E t2; have u3 := cell_later E t3; have u4 := cell_later E t4; have u5 := cell_later E t5; have u6 := cell_later E t6; have u7 := cell_later E t7; have u8 := cell_later E t8; have u9 := cell_later E t9) | (have Y3 := xt Y2 E; have t0 := cell_later E s0; have t1 := cell_later E s1; have t2 := cell_later E s2; have t3 := cell_later E s3; have t4 := cell_later E s4; have t5 := cell_later E s5; have t6 := cell_later E s6; have t7 := cell_later E s7; have t8 := cell_later E s8; have t9 := cell_later E s9) | (have Y2 := xt Y E; have s0 := cell_later E r0; have s1 := cell_later E r1; have s2 := cell_later E r2; have s3 := cell_later E r3; have s4 := cell_later E r4; have s5 := cell_later E r5; have s6 := cell_later E r6; have s7 := cell_later E r7; have s8 := cell_later E r8; have s9 := cell_later E r9) | (have Y := xt (xd (xr _)) E; have r0 := cell_later Y a0; have r1 := cell_later Y a1; have r2 := cell_later Y a2; have r3 := cell_later Y a3; have r4 := cell_later Y a4; have r5 := cell_later Y a5; have r6 := cell_later Y a6; have r7 := cell_later Y a7; have r8 := cell_later Y a8; have r9 := cell_later Y a9)) | (refine (CB _).mono ?_; rintro e w' ⟨rfl, E⟩; first | (have Y4 := xt Y3 E; have u0 := cell_later E t0; have u1 := cell_later E t1; have u2 := cell_later E t2; have u3 := cell_later E t3; have u4 := cell_later E t4; have u5 := cell_later E t5; have u6 := cell_later E t6; have u7 := cell_later E t7; have u8 := cell_later E t8; have u9 := cell_later E t9) | (have Y3 := xt Y2 E; have t0 := cell_later E s0; have t1 := cell_later E s1; have t2 := cell_later E s2; have t3 := cell_later E s3; have t4 := cell_later E s4; have t5 := cell_later E s5; have t6 := cell_later E s6; have t7 := cell_later E s7; have t8 := cell_later E s8; have t9 := cell_later E s9) | (have Y2 := xt Y E; have s0 := cell_later E r0; have s1 := cell_later E r1; have s2 := cell_later E r2; have s3 := cell_later E r3; have s4 := cell_later E r4; have s5 := cell_later E r5; have s6 := cell_later E r6; have s7 := cell_later E r7; have s8 := cell_later E r8; have s9 := cell_later E r9) | (have Y := xt (xd (xr _)) E; have r0 := cell_later Y a0; have r1 := cell_later Y a1; have r2 := cell_later Y a2; have r3 := cell_later Y a3; have r4 := cell_later Y a4; have r5 := cell_later Y a5; have r6 := cell_later Y a6; have r7 := cell_later Y a7; have r8 := cell_later Y a8; have r9 := cell_later Y a9)))
        | (go_at_call 53; refine (CI _).mono ?_; rintro e w' ⟨rfl, rfl⟩))
        all_goals
          go_wp2_with fail
          go_ret
          exact ⟨ret_int HF.out, xt YY Y2⟩
  · have HF : Hid (cmpI A B = Q) := by show _ = _; rw [HS.out, if_pos (Or.inl hAB)]
    have hABb : (A == B) = false := by simpa using hAB
    have hABn : (A != B) = true := by simpa using hAB
    have hABd : decide (A = B) = false := decide_eq_false hAB
    clear HS CC
    go_enter Tryz.func52, Tryz.ntmps52
    go_upto_region 1 with fail
    go_cut [16] (fun q wc => q = .bool true ∧ Hid (Ext u1 wc))
    case first =>
      go_region_with (first
        | (go_at_call 90; first | (refine (CA _).mono ?_; rintro e w' ⟨rfl, E⟩; first | (have Y4 := xt Y3 E; have u0 := cell_later E t0; have u1 := cell_later E t1; have u2 := cell_later E t2; have u3 := cell_later E t3; have u4 := cell_later E t4; have u5 := cell_later E t5; have u6 := cell_later E t6; have u7 := cell_later E t7; have u8 := cell_later E t8; have u9 := cell_later E t9) | (have Y3 := xt Y2 E; have t0 := cell_later E s0; have t1 := cell_later E s1; have t2 := cell_later E s2; have t3 := cell_later E s3; have t4 := cell_later E s4; have t5 := cell_later E s5; have t6 := cell_later E s6; have t7 := cell_later E s7; have t8 := cell_later E s8; have t9 := cell_later E s9) | (have Y2 := xt Y E; have s0 := cell_later E r0; have s1 := cell_later E r1; have s2 := cell_later E r2; have s3 := cell_later E r3; have s4 := cell_later E r4; have s5 := cell_later E r5; have s6 := cell_later E r6; have s7 := cell_later E r7; have s8 := cell_later E r8; have s9 := cell_later E r9) | (have Y := xt (xd (xr _)) E; have r0 := cell_later Y a0; have r1 := cell_later Y a1; have r2 := cell_later Y a2; have r3 := cell_later Y a3; have r4 := cell_later Y a4; have r5 := cell_later Y a5; have r6 := cell_later Y a6; have r7 := cell_later Y a7; have r8 := cell_later Y a8; have r9 := cell_later Y a9)) | (refine (CB _).mono ?_; rintro e w' ⟨rfl, E⟩; first | (have Y4 := xt Y3 E; have u0 := cell_later E t0; have u1 := cell_later E t1; have u2 := cell_later E t2; have u3 := cell_later E t3; have u4 := cell_later E t4; have u5 := cell_later E t5; have u6 := cell_later E t6; have u7 := cell_later E t7; have u8 := cell_later E t8; have u9 := cell_later E t9) | (have Y3 := xt Y2 E; have t0 := cell_later E s0; have t1 := cell_later E s1; have t2 := cell_later E s2; have t3 := cell_later E s3; have t4 := cell_later E s4; have t5 := cell_later E s5; have t6 := cell_later E s6; have t7 := cell_later E s7; have t8 := cell_later E s8; have t9 := cell_later E s9) | (have Y2 := xt Y E; have s0 := cell_later E r0; have s1 := cell_later E r1; have s2 := cell_later E r2; have s3 := cell_later E r3; have s4 := cell_later E r4; have s5 := cell_later E r5; have s6 := cell_later E r6; have s7 := cell_later E r7; have s8 := cell_later E r8; have s9 := cell_later E r9) | (have Y := xt (xd (xr _)) E; have r0 := cell_later Y a0; have r1 := cell_later Y a1; have r2 := cell_later Y a2; have r3 := cell_later Y a3; have r4 := cell_later Y a4; have r5 := cell_later Y a5; have r6 := cell_later Y a6; have r7 := cell_later Y a7; have r8 := cell_later Y a8; have r9 := cell_later Y a9))))
      all_goals
        go_wp2_with fail
        go_meet
        exact ⟨rfl, Y2⟩
    case rest =>
      obtain ⟨rfl, HX⟩ := hcut
      have YY := xt X HX.out
      have D0 := B0.later HX.out
      have D1 := B1.later HX.out
      clear a0 a1 a2 a3 a4 a5 a6 a7 a8 a9 hABb hABn hABd hAB
      obtain ⟨a0, a1, a2, a3, a4⟩ := Vec.five D0
      obtain ⟨a5, a6, a7, a8, a9⟩ := Vec.five D1
      go_wp2_with fail
      go_region_held3 (fun w' => w'.cell? ⟨w.heap.size, 0, none⟩ = some (.int .i64 k) ∧ w'.cell? ⟨w.heap.size, 1, none⟩ = some (.bool n) ∧ w'.cell? ⟨w.heap.size, 2, none⟩ = some (.int .i64 d) ∧ w'.cell? ⟨w.heap.size, 3, none⟩ = some (.int .i64 x) ∧ w'.cell? ⟨w.heap.size, 4, none⟩ = some (sV t) ∧ w'.cell? ⟨w.heap.size + 1, 0, none⟩ = some (.int .i64 k') ∧ w'.cell? ⟨w.heap.size + 1, 1, none⟩ = some (.bool n') ∧ w'.cell? ⟨w.heap.size + 1, 2, none⟩ = some (.int .i64 d') ∧ w'.cell? ⟨w.heap.size + 1, 3, none⟩ = some (.int .i64 x') ∧ w'.cell? ⟨w.heap.size + 1, 4, none⟩ = some (sV t')) (go_keep)
      (first
        | (go_at_call 90; first | (refine (CA _).mono ?_; rintro e w' ⟨rfl, E⟩; first | (have Y4 := xt Y3 E; have u0 := cell_later E t0; have u1 := cell_later E t1; have u2 := cell_later E t2; have u3 := cell_later E t3; have u4 := cell_later E t4; have u5 := cell_later E t5; have u6 := cell_later E t6; have u7 := cell_later E t7; have u8 := cell_later E t8; have u9 := cell_later E t9) | (have Y3 := xt Y2 E; have t0 := cell_later E s0; have t1 := cell_later E s1; have t2 := cell_later E s2; have t3 := cell_later E s3; have t4 := cell_later E s4; have t5 := cell_later E s5; have t6 := cell_later E s6; have t7 := cell_later E s7; have t8 := cell_later E s8; have t9 := cell_later E s9) | (have Y2 := xt Y E; have s0 := cell_later E r0; have s1 := cell_later E r1; have s2 := cell_later E r2; have s3 := cell_later E r3; have s4 := cell_later E r4; have s5 := cell_later E r5; have s6 := cell_later E r6; have s7 := cell_later E r7; have s8 := cell_later E r8; have s9 := cell_later E r9) | (have Y := xt (xd (xr _)) E; have r0 := cell_later Y a0; have r1 := cell_later Y a1; have r2 := cell_later Y a2; have r3 := cell_later Y a3; have r4 := cell_later Y a4; have r5 := cell_later Y a5; have r6 := cell_later Y a6; have r7 := cell_later Y a7; have r8 := cell_later Y a8; have r9 := cell_later Y a9)) | (refine (CB _).mono ?_; rintro e w' ⟨rfl, E⟩; first | (have Y4 := xt Y3 E; have u0 := cell_later E t0; have u1 := cell_later E t1; have u2 := cell_later E t2; have u3 := cell_later E t3; have u4 := cell_later E t4; have u5 := cell_later E t5; have u6 := cell_later E t6; have u7 := cell_later E t7; have u8 := cell_later E t8; have u9 := cell_later E t9) | (have Y3 := xt Y2 E; have t0 := cell_later E s0; have t1 := cell_later E s1; have t2 := cell_later E s2; have t3 := cell_later E s3; have t4 := cell_later E s4; have t5 := cell_later E s5; have t6 := cell_later E s6; have t7 := cell_later E s7; have t8 := cell_later E s8; have t9 := cell_later E s9) | (have Y2 := xt Y E; have s0 := cell_later E r0; have s1 := cell_later E r1; have s2 := cell_later E r2; have s3 := cell_later E r3; have s4 := cell_later E r4; have s5 := cell_later E r5; have s6 := cell_later E r6; have s7 := cell_later E r7; have s8 := cell_later E r8; have s9 := cell_later E r9) | (have Y := xt (xd (xr _)) E; have r0 := cell_later Y a0; have r1 := cell_later Y a1; have r2 := cell_later Y a2; have r3 := cell_later Y a3; have r4 := cell_later Y a4; have r5 := cell_later Y a5; have r6 := cell_later Y a6; have r7 := cell_later Y a7; have r8 := cell_later Y a8; have r9 := cell_later Y a9)))
        | (go_at_call 53; refine (CI _).mono ?_; rintro e w' ⟨rfl, rfl⟩))
      all_goals
        go_wp2_with fail
        go_ret
        exact ⟨ret_int HF.out, xt YY Y2⟩

set_option maxRecDepth 8000 in
set_option maxHeartbeats 2000000 in
theorem rankI (a b : VT) (w : World) (ha : a.room) (hb : b.room) (hT : Tens w) (hE : ErrTab w) :
    Calls Tryz.prog 61 #[a.val, b.val] w fun e w' => e = .returned (.int .i64 (rankB a b)) ∧ Ext w w' := by
  have CS : Hid (∀ W, Ext w W → Calls Tryz.prog 52 #[a.val, b.val, .int .i64 1] W fun e w' => e = .returned (.int .i64 (standB a b 1)) ∧ Ext W w') := fun W hW => standI a b 1 (Or.inl rfl) W ha hb (hT.later hW) (hE.later hW)
  have HL : Hid (rankB a b = if a.k = 4 ∧ b.k = 4 then Lib.compareBytes a.t b.t else standB a b 1) := rfl
  obtain ⟨k, n, d, x, t⟩ := a
  obtain ⟨k', n', d', x', t'⟩ := b
  have CC := fun W => strCmpI t t' W
  obtain ⟨u0, u1, h0, h1, s0, s1, B0, B1, X⟩ := mkB2 w (valL k n d x t) (valL k' n' d' x' t') 50 50
  obtain ⟨S, hS⟩ : ∃ S, standB ⟨k, n, d, x, t⟩ ⟨k', n', d', x', t'⟩ 1 = S := ⟨_, rfl⟩
  obtain ⟨R, hR⟩ : ∃ R, Lib.compareBytes t t' = R := ⟨_, rfl⟩
  obtain ⟨Q, hQ⟩ : ∃ Q, rankB ⟨k, n, d, x, t⟩ ⟨k', n', d', x', t'⟩ = Q := ⟨_, rfl⟩
  simp only at HL
  rw [hS] at CS HL
  rw [hR] at CC HL
  rw [hQ] at HL ⊢
  have CE := fun W => isErrI k n d x t W
  have CF := fun W => isErrI k' n' d' x' t' W
  clear hS hR hQ hT hE ha hb
  obtain ⟨a0, a1, a2, a3, a4⟩ := Vec.five B0
  obtain ⟨b0, b1, b2, b3, b4⟩ := Vec.five B1
  by_cases hk : k = 4
  · rw [decide_eq_true hk] at CE
    by_cases hk' : k' = 4
    · have HF : Hid (R = Q) := by show _ = _; rw [HL.out, if_pos ⟨hk, hk'⟩]
      rw [decide_eq_true hk'] at CF
      subst hk hk'
      clear HL CS
      go_enter Tryz.func61, Tryz.ntmps61
      go_wp2_with fail
      refine (CE _).mono ?_
      rintro e w1 ⟨rfl, e1⟩
      obtain ⟨a0, a1, a2, a3, a4⟩ := Vec.five (B0.later e1)
      obtain ⟨b0, b1, b2, b3, b4⟩ := Vec.five (B1.later e1)
      go_wp2_with fail
      refine (CF _).mono ?_
      rintro e w2 ⟨rfl, e2⟩
      obtain ⟨a0, a1, a2, a3, a4⟩ := Vec.five (B0.later (xt e1 e2))
      obtain ⟨b0, b1, b2, b3, b4⟩ := Vec.five (B1.later (xt e1 e2))
      go_wp2_with fail
      refine (CC _).mono ?_
      rintro e w3 ⟨rfl, rfl⟩
      go_wp2_with fail
      go_ret
      exact ⟨ret_int HF.out, xt X (xt e1 e2)⟩
    · have HF : Hid (S = Q) := by show _ = _; rw [HL.out, if_neg (fun q => hk' q.2)]
      rw [decide_eq_false hk'] at CF
      subst hk
      clear HL CC
      go_enter Tryz.func61, Tryz.ntmps61
      go_wp2_with fail
      refine (CE _).mono ?_
      rintro e w1 ⟨rfl, e1⟩
      obtain ⟨a0, a1, a2, a3, a4⟩ := Vec.five (B0.later e1)
      obtain ⟨b0, b1, b2, b3, b4⟩ := Vec.five (B1.later e1)
      go_wp2_with fail
      refine (CF _).mono ?_
      rintro e w2 ⟨rfl, e2⟩
      obtain ⟨a0, a1, a2, a3, a4⟩ := Vec.five (B0.later (xt e1 e2))
      obtain ⟨b0, b1, b2, b3, b4⟩ := Vec.five (B1.later (xt e1 e2))
      have C0 := CS.out w2 (xt X (xt e1 e2))
      go_wp2_with fail
      refine C0.mono ?_
      rintro e w3 ⟨rfl, e3⟩
      go_wp2_with fail
      go_ret
      exact ⟨ret_int HF.out, xt X (xt (xt e1 e2) e3)⟩
  · have HF : Hid (S = Q) := by show _ = _; rw [HL.out, if_neg (fun q => hk q.1)]
    rw [decide_eq_false hk] at CE
    clear HL CC
    go_enter Tryz.func61, Tryz.ntmps61
    go_wp2_with fail
    refine (CE _).mono ?_
    rintro e w1 ⟨rfl, e1⟩
    obtain ⟨a0, a1, a2, a3, a4⟩ := Vec.five (B0.later e1)
    obtain ⟨b0, b1, b2, b3, b4⟩ := Vec.five (B1.later e1)
    have C0 := CS.out w1 (xt X e1)
    go_wp2_with fail
    refine C0.mono ?_
    rintro e w3 ⟨rfl, e3⟩
    go_wp2_with fail
    go_ret
    exact ⟨ret_int HF.out, xt X (xt e1 e3)⟩

theorem enter_rank : ∀ ar w, (callFunc 61 ar).run Tryz.prog w = .ok (.enter 61 ar) w := fun ar w => by kernel_rfl
theorem lexG_step {la lb : List VT} {k : Nat} {a b : VT} (ha : la[k]? = some a) (hb : lb[k]? = some b) : lexG (la.drop k) (lb.drop k) = if rankB a b ≠ 0 then rankB a b else lexG (la.drop (k + 1)) (lb.drop (k + 1)) := by
  obtain ⟨h1, rfl⟩ := List.getElem?_eq_some_iff.1 ha
  obtain ⟨h2, rfl⟩ := List.getElem?_eq_some_iff.1 hb
  rw [List.drop_eq_getElem_cons h1, List.drop_eq_getElem_cons h2]
  rfl
theorem lexG_more {la lb : List VT} {k : Nat} (h1 : k < la.length) (h2 : lb.length ≤ k) : lexG (la.drop k) (lb.drop k) = 1 := by
  rw [List.drop_eq_getElem_cons h1, List.drop_eq_nil_of_le h2]
  rfl
theorem lexG_less {la lb : List VT} {k : Nat} (h1 : la.length ≤ k) (h2 : k < lb.length) : lexG (la.drop k) (lb.drop k) = -1 := by
  rw [List.drop_eq_getElem_cons h2, List.drop_eq_nil_of_le h1]
  rfl
theorem lexG_end {la lb : List VT} {k : Nat} (h1 : la.length ≤ k) (h2 : lb.length ≤ k) : lexG (la.drop k) (lb.drop k) = 0 := by
  rw [List.drop_eq_nil_of_le h1, List.drop_eq_nil_of_le h2]
  rfl
set_option maxRecDepth 8000 in
set_option maxHeartbeats 4000000 in
theorem cmpListI (va vb : Value) (la lb : List VT) (w : World) (ha : ValsIn w va la) (hb : ValsIn w vb lb) (ra : ∀ e ∈ la, e.room) (rb : ∀ e ∈ lb, e.room) (l1 : la.length ≤ 2000) (l2 : lb.length ≤ 2000) (hT : Tens w) (hE : ErrTab w) :
    Calls Tryz.prog 60 #[va, vb, .func (.func 61) #[] #[]] w fun e w' => e = .returned (.int .i64 (lexG la lb)) ∧ Ext w w' := by
  have CR : Hid (∀ a b W, Ext w W → a ∈ la → b ∈ lb → Calls Tryz.prog 61 #[a.val, b.val] W fun e w' => e = .returned (.int .i64 (rankB a b)) ∧ Ext W w') := fun a b W hW h1 h2 => rankI a b W (ra a h1) (rb b h2) (hT.later hW) (hE.later hW)
  obtain ⟨pa, ca, rfl, hca, hra⟩ := ha
  obtain ⟨pb, cb, rfl, hcb, hrb⟩ := hb
  have HA : Hid (0 < la.length → ∃ b o, pa = some ⟨b, o, none⟩ ∧ RowV w b o la) := hra
  have HB : Hid (0 < lb.length → ∃ b o, pb = some ⟨b, o, none⟩ ∧ RowV w b o lb) := hrb
  obtain ⟨n, hn⟩ : ∃ n, la.length = n := ⟨_, rfl⟩
  obtain ⟨m, hm⟩ : ∃ m, lb.length = m := ⟨_, rfl⟩
  have HN : Hid (la.length = n ∧ lb.length = m) := ⟨hn, hm⟩
  rw [hn] at hca l1 HA ⊢
  rw [hm] at hcb l2 HB ⊢
  obtain ⟨Q, hQ⟩ : ∃ Q, lexG la lb = Q := ⟨_, rfl⟩
  have HQ : Hid (lexG (la.drop 0) (lb.drop 0) = Q) := hQ
  rw [hQ]
  have ent := enter_rank
  clear hra hrb hn hm hQ ra rb hT hE
  go_enter Tryz.func60, Tryz.ntmps60
  go_wp2_with fail
  go_loopw [13] (fun i wr => ∃ k : Nat, k ≤ n ∧ k ≤ m ∧ i = .int .i64 k ∧ Hid (Ext w wr ∧ lexG (la.drop k) (lb.drop k) = Q)) (fun i _ => n - (intOf i).toNat)
  case atStart => exact ⟨0, by omega, by omega, rfl, xr _, HQ.out⟩
  case round =>
    obtain ⟨k, hk, hk2, rfl, HO⟩ := hrel
    by_cases hlt : k < n
    · have i2 : (k : Int) < (n : Int) := by omega
      obtain ⟨⟨vk, vn, vd, vx, vt⟩, hx⟩ : ∃ x, la[k]? = some x := ⟨_, List.getElem?_eq_getElem (by rw [HN.out.1]; exact hlt)⟩
      obtain ⟨b, o, rfl, RW⟩ := HA.out (by omega)
      obtain ⟨a0, a1, a2, a3, a4⟩ := (RW.later HO.out.1).five hx
      simp only at a0 a1 a2 a3 a4
      by_cases hlm : k < m
      · have i3 : ¬ (k : Int) ≥ (m : Int) := by omega
        have i4 : (k : Int) < (m : Int) := by omega
        obtain ⟨⟨uk, un, ud, ux, ut⟩, hy⟩ : ∃ x, lb[k]? = some x := ⟨_, List.getElem?_eq_getElem (by rw [HN.out.2]; exact hlm)⟩
        obtain ⟨b', o', rfl, RW'⟩ := HB.out (by omega)
        have HS : Hid (lexG (la.drop k) (lb.drop k) = if rankB ⟨vk, vn, vd, vx, vt⟩ ⟨uk, un, ud, ux, ut⟩ ≠ 0 then rankB ⟨vk, vn, vd, vx, vt⟩ ⟨uk, un, ud, ux, ut⟩ else lexG (la.drop (k + 1)) (lb.drop (k + 1))) := lexG_step hx hy
        have CC := fun W hW => CR.out ⟨vk, vn, vd, vx, vt⟩ ⟨uk, un, ud, ux, ut⟩ W hW (List.mem_of_getElem? hx) (List.mem_of_getElem? hy)
        obtain ⟨R, hR⟩ : ∃ R, rankB ⟨vk, vn, vd, vx, vt⟩ ⟨uk, un, ud, ux, ut⟩ = R := ⟨_, rfl⟩
        rw [hR] at HS CC
        obtain ⟨u0, u1, e0, e1, z0, z1, B0, B1, X⟩ := mkB2 wr (valL vk vn vd vx vt) (valL uk un ud ux ut) 50 50
        have X0 : Ext wr u0 := by rw [← e0]; exact x1 wr _
        obtain ⟨b0, b1, b2, b3, b4⟩ := (RW'.later (xt HO.out.1 X0)).five hy
        simp only at b0 b1 b2 b3 b4
        obtain ⟨c0, c1, c2, c3, c4⟩ := Vec.five B0
        obtain ⟨d0, d1, d2, d3, d4⟩ := Vec.five B1
        have C0 := CC u1 (xt HO.out.1 X)
        clear CC hR hx hy RW RW' B0 B1
        by_cases hR0 : R = 0
        · have HM : Hid (lexG (la.drop (k + 1)) (lb.drop (k + 1)) = Q) := by
            have h2 := HS.out
            rw [HO.out.2, if_neg (fun h => h hR0)] at h2
            exact h2.symm
          subst hR0
          go_wp2_with (go_at_fn 61; refine C0.mono ?_; rintro e w1 ⟨rfl, ee⟩)
          have HW : Hid (Ext w w1 ∧ lexG (la.drop (k + 1)) (lb.drop (k + 1)) = Q) := ⟨xt (xt HO.out.1 X) ee, HM.out⟩
          go_roundw
          case rel => exact ⟨k + 1, by omega, by omega, by go_num, HW⟩
          case measure => simp [intOf]; omega
        · have HM : Hid (R = Q) := by
            have h2 := HS.out
            rw [HO.out.2, if_pos hR0] at h2
            exact h2.symm
          have hRb : (R == 0) = false := by simpa using hR0
          go_wp2_with (go_at_fn 61; refine C0.mono ?_; rintro e w1 ⟨rfl, ee⟩)
          go_ret
          exact ⟨ret_int HM.out, xt (xt HO.out.1 X) ee⟩
      · obtain rfl : k = m := by omega
        have i3 : (k : Int) ≥ (k : Int) := by omega
        have HM : Hid ((1 : Int) = Q) := by
          show _ = _
          rw [← HO.out.2]
          exact (lexG_more (by rw [HN.out.1]; exact hlt) (by rw [HN.out.2]; exact Nat.le_refl _)).symm
        have X0 := x1 wr (.cells #[.int .i64 vk, .bool vn, .int .i64 vd, .int .i64 vx, sV vt] 50)
        clear hx RW
        go_wp2_with fail
        go_ret
        exact ⟨ret_int HM.out, xt HO.out.1 X0⟩
    · obtain rfl : k = n := by omega
      have i2 : ¬ (k : Int) < (k : Int) := by omega
      by_cases hlm : k < m
      · have i4 : (k : Int) < (m : Int) := by omega
        have HM : Hid ((-1 : Int) = Q) := by
          show _ = _
          rw [← HO.out.2]
          exact (lexG_less (by rw [HN.out.1]; exact Nat.le_refl _) (by rw [HN.out.2]; exact hlm)).symm
        go_wp2_with fail
        go_ret
        exact ⟨ret_int HM.out, HO.out.1⟩
      · obtain rfl : k = m := by omega
        have HM : Hid ((0 : Int) = Q) := by
          show _ = _
          rw [← HO.out.2]
          exact (lexG_end (by rw [HN.out.1]; exact Nat.le_refl _) (by rw [HN.out.2]; exact Nat.le_refl _)).symm
        go_wp2_with fail
        go_ret
        exact ⟨ret_int HM.out, HO.out.1⟩

end Go.Proofs.YtbomplppgobkdaaGreatDoor

