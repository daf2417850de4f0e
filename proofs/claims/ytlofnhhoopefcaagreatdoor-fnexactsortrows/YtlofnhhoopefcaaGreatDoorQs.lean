/-
  Chapter 11: how cells and rows stand to each other, of the specification.
-/
import Derived.Test.YtlofnhhoopefcaaGreatDoorQl
import Derived.Test.YtlofnhhoopefcaaGreatDoorQh
namespace Go.Proofs.YtlofnhhoopefcaaGreatDoor
open Go.RowKit

set_option maxHeartbeats 1000000 in
theorem lateS (e : VT) (w : World) : Calls Tryz.prog 64 #[e.val] w fun z w' => z = .returned (.int .i64 (lateV e)) ∧ Ext w w' := by
 obtain ⟨k, n, d, x, t⟩ := e
 have X0 := x1 w (.cells #[.int .i64 k, .bool n, .int .i64 d, .int .i64 x, sV t] 70)
 by_cases h0 : k = 0
 ·
  subst h0
  have e : lateV ⟨0, n, d, x, t⟩ = 1 := rfl
  rw [e]
  go_enter Tryz.func64, Tryz.ntmps64
  go_wp2_with fail
  go_ret
  exact ⟨rfl, X0⟩
 ·
  have h0b : (k == 0) = false := by simpa using h0
  by_cases h4 : k = 4
  ·
   subst h4
   have e : lateV ⟨4, n, d, x, t⟩ = 2 := rfl
   rw [e]
   go_enter Tryz.func64, Tryz.ntmps64
   go_wp2_with fail
   go_ret
   exact ⟨rfl, X0⟩
  ·
   have h4b : (k == 4) = false := by simpa using h4
   have e : lateV ⟨k, n, d, x, t⟩ = 0 := by unfold lateV; rw [if_neg h0, if_neg h4]
   rw [e]
   go_enter Tryz.func64, Tryz.ntmps64
   go_wp2_with fail
   go_ret
   exact ⟨rfl, X0⟩
theorem cmpI_lt0 (a b : Int) : cmpI a b < 0 ↔ a < b := by unfold cmpI; split <;> (try split) <;> constructor <;> intro <;> omega
set_option maxRecDepth 8000 in
set_option maxHeartbeats 4000000 in
theorem aheadS (a b : VT) (s : Int) (hs : s = 1 ∨ s = -1) (w : World) (ha : a.room) (hb : b.room) (ga : a.good = true) (gb : b.good = true) :
  Calls Tryz.prog 41 #[a.val, b.val, .int .i64 s] w fun e w' => e = .returned (.bool (decide (standB a b s < 0))) ∧ Ext w w' := by
 have CA := fun W => lateS a W
 have CB := fun W => lateS b W
 have CC : lateV a = 0 → lateV b = 0 → Hid (∀ W, Calls Tryz.prog 53 #[a.val, b.val] W fun e w' => e = .returned (.int .i64 (cmpQ a b)) ∧ Ext W w') := fun h1 h2 W => by
  have k1 := late_good ga h1
  have k2 := late_good gb h2
  exact cmpSQ a b W ha.1 hb.1 ga gb (by omega) (by omega)
 have bd := cmpQ_bd a b
 have la := late_bd a
 have lb := late_bd b
 have HS : Hid (standB a b s = if lateV a ≠ lateV b ∨ lateV a ≠ 0 then cmpI (lateV a) (lateV b) else cmpQ a b * s) := rfl
 obtain ⟨k, n, d, x, t⟩ := a
 obtain ⟨k', n', d', x', t'⟩ := b
 obtain ⟨A, hA⟩ : ∃ A, lateV ⟨k, n, d, x, t⟩ = A := ⟨_, rfl⟩
 obtain ⟨B, hB⟩ : ∃ B, lateV ⟨k', n', d', x', t'⟩ = B := ⟨_, rfl⟩
 obtain ⟨R, hR⟩ : ∃ R, cmpQ ⟨k, n, d, x, t⟩ ⟨k', n', d', x', t'⟩ = R := ⟨_, rfl⟩
 obtain ⟨Q, hQ⟩ : ∃ Q, standB ⟨k, n, d, x, t⟩ ⟨k', n', d', x', t'⟩ s = Q := ⟨_, rfl⟩
 rw [hA] at CA HS la CC
 rw [hB] at CB HS lb CC
 rw [hR] at CC HS bd
 rw [hQ] at HS ⊢
 obtain ⟨u0, u1, h0, h1, s0', s1', B0, B1, X⟩ := mkB2 w (valL k n d x t) (valL k' n' d' x' t') 70 70
 obtain ⟨a0, a1, a2, a3, a4⟩ := Vec.five B0
 obtain ⟨a5, a6, a7, a8, a9⟩ := Vec.five B1
 clear hA hB hR hQ ha hb ga gb
 by_cases hL : A = 0 ∧ B = 0
 ·
  obtain ⟨rfl, rfl⟩ := hL
  have HF : Hid (decide (R * s < 0) = decide (Q < 0)) := by show _ = _; rw [HS.out, if_neg (by omega)]
  have C0 := CC rfl rfl
  have hw9 : IntKind.i64.wrap (R * s) = R * s := by rcases hs with rfl | rfl <;> rw [IntKind.wrap_i64] <;> omega
  obtain ⟨Z, hZ⟩ : ∃ Z, R * s = Z := ⟨_, rfl⟩
  rw [hZ] at hw9 HF
  go_enter Tryz.func41, Tryz.ntmps41
  go_wp2_with (first
   | (go_at_call 64; first | (refine (CA u1).mono ?_; rintro e w1 ⟨rfl, e1⟩; obtain ⟨a0, a1, a2, a3, a4⟩ := Vec.five (B0.later e1); obtain ⟨a5, a6, a7, a8, a9⟩ := Vec.five (B1.later e1)) | (refine (CB w1).mono ?_; rintro e w2 ⟨rfl, e2⟩; obtain ⟨a0, a1, a2, a3, a4⟩ := Vec.five (B0.later (xt e1 e2)); obtain ⟨a5, a6, a7, a8, a9⟩ := Vec.five (B1.later (xt e1 e2))))
   | (go_at_call 53; refine (C0.out w2).mono ?_; rintro e w3 ⟨rfl, e3⟩))
  go_ret
  exact ⟨ret_bool HF.out, xt X (xt e1 (xt e2 e3))⟩
 ·
  have HF : Hid (decide (A < B) = decide (Q < 0)) := by
   show _ = _
   rw [HS.out]
   by_cases h2 : A ≠ B ∨ A ≠ 0
   ·
    rw [if_pos h2]; exact decide_eq_decide.2 (cmpI_lt0 A B).symm
   ·
    exact absurd (show A = 0 ∧ B = 0 by omega) hL
  by_cases hA0 : A > 0
  ·
   have f1 : decide (A > 0) = true := decide_eq_true hA0
   clear CC
   go_enter Tryz.func41, Tryz.ntmps41
   go_wp2_with (first
    | (go_at_call 64; first | (refine (CA u1).mono ?_; rintro e w1 ⟨rfl, e1⟩; obtain ⟨a0, a1, a2, a3, a4⟩ := Vec.five (B0.later e1); obtain ⟨a5, a6, a7, a8, a9⟩ := Vec.five (B1.later e1)) | (refine (CB w1).mono ?_; rintro e w2 ⟨rfl, e2⟩)))
   go_ret
   exact ⟨ret_bool HF.out, xt X (xt e1 e2)⟩
  ·
   have hB0 : B > 0 := by omega
   obtain rfl : A = 0 := by omega
   have f2 : decide (B > 0) = true := decide_eq_true hB0
   have HF : Hid (true = decide (Q < 0)) := by show _ = _; rw [← HF.out]; exact (decide_eq_true (by omega)).symm
   clear CC
   go_enter Tryz.func41, Tryz.ntmps41
   go_wp2_with (first
    | (go_at_call 64; first | (refine (CA u1).mono ?_; rintro e w1 ⟨rfl, e1⟩; obtain ⟨a0, a1, a2, a3, a4⟩ := Vec.five (B0.later e1); obtain ⟨a5, a6, a7, a8, a9⟩ := Vec.five (B1.later e1)) | (refine (CB w1).mono ?_; rintro e w2 ⟨rfl, e2⟩)))
   go_ret
   exact ⟨ret_bool HF.out, xt X (xt e1 e2)⟩

end Go.Proofs.YtlofnhhoopefcaaGreatDoor

