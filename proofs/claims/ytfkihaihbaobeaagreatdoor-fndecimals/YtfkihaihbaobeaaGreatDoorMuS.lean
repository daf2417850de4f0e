/-
  The specification's DecMul, DecOf.
-/
import Derived.Test.YtfkihaihbaobeaaGreatDoorPutZ
import Derived.Test.YtfkihaihbaobeaaGreatDoorMuI
namespace Go.Proofs.YtfkihaihbaobeaaGreatDoor
open Go.RowKit

theorem sgn_abs (n : Bool) (d : Int) : (sgn n d).natAbs = d.natAbs := by cases n <;> simp [sgn]
theorem sgn_mul_sign {na nb : Bool} {a b : Int} (ha : 0 ≤ a) (hb : 0 ≤ b) (h : sgn na a * sgn nb b ≠ 0) : decide (sgn na a * sgn nb b < 0) = (na != nb) := by
  have hab : 0 < a * b := by
    have h1 : a ≠ 0 := fun e => h (by subst e; cases na <;> simp [sgn])
    have h2 : b ≠ 0 := fun e => h (by subst e; cases nb <;> simp [sgn])
    exact Int.mul_pos (by omega) (by omega)
  cases na <;> cases nb <;> simp [sgn, Int.neg_mul, Int.mul_neg] <;> omega
theorem lt_k {x : Int} (k : Nat) (hk : 2 ≤ k) (h : x < 1000000000000000000) : x < 1000000000 ^ k := by
  have h2 : (1000000000 : Int) ^ 2 ≤ 1000000000 ^ k := pow_le_pow hk
  have e : (1000000000 : Int) ^ 2 = 1000000000000000000 := by decide
  omega

set_option maxRecDepth 4000 in
set_option maxHeartbeats 2000000 in
theorem mulS (na nb : Bool) (da ea db eb : Int) (w : World) :
    Calls Tryz.prog 8 #[.agg #[.bool na, .int .i64 da, .int .i64 ea], .agg #[.bool nb, .int .i64 db, .int .i64 eb]] w fun r w' => r = .returned (resV (mulR na da ea nb db eb)) ∧ Ext w w' := by
  obtain ⟨R, hR⟩ : ∃ R, mulR na da ea nb db eb = R := ⟨_, rfl⟩
  rw [hR]
  have X0 := xa (xa (x1 w (.cells #[.bool na, .int .i64 da, .int .i64 ea] 24)) (.cells #[.bool nb, .int .i64 db, .int .i64 eb] 24)) (.cells #[.bool false, .bool false, .int .i64 0, .int .i64 0] 28)
  have Ba := (Box3.made w (.bool na) (.int .i64 da) (.int .i64 ea) 24).later (xa (x1 _ (.cells #[.bool nb, .int .i64 db, .int .i64 eb] 24)) (.cells #[.bool false, .bool false, .int .i64 0, .int .i64 0] 28))
  have Bb := (Box3.made (w.alloc (.cells #[.bool na, .int .i64 da, .int .i64 ea] 24)) (.bool nb) (.int .i64 db) (.int .i64 eb) 24).later (x1 _ (.cells #[.bool false, .bool false, .int .i64 0, .int .i64 0] 28))
  have Br := Box4.made ((w.alloc (.cells #[.bool na, .int .i64 da, .int .i64 ea] 24)).alloc (.cells #[.bool nb, .int .i64 db, .int .i64 eb] 24)) (.bool false) (.bool false) (.int .i64 0) (.int .i64 0) 28
  simp only [World.size_alloc] at Bb Br
  go_enter Tryz.func8, Tryz.ntmps8
  go_wp2_with fail
  cases ga : goodB na da ea
  · have HR : Hid (R = ⟨false, false, 0, 0⟩) := by rw [← hR]; unfold mulR; rw [ga]; rfl
    refine (good_is false na da ea _ ga).mono ?_
    rintro r w1 ⟨rfl, x1'⟩
    obtain ⟨⟨m0, m1, m2, m3⟩, n0, n1, n2, n3⟩ := Br.later x1'
    clear ga hR
    go_wp2_with fail
    exact bodyPost_ret (v := .agg #[.bool false, .bool false, .int .i64 0, .int .i64 0]) (by simp [results, Tryz.results8, go_sem, m0, m1, m2, m3]) rfl ⟨by rw [HR.out], xset (xset (xset (xset (xt X0 x1') (by simp only; omega) _) (by simp only; omega) _) (by simp only; omega) _) (by simp only; omega) _⟩
  · refine (good_is true na da ea _ ga).mono ?_
    rintro r w1 ⟨rfl, x1'⟩
    have Bb1 := Bb.later x1'
    have Bb1' := Bb1
    obtain ⟨⟨q0, q1, q2⟩, _⟩ := Bb1'
    go_wp2_with fail
    cases gb : goodB nb db eb
    · have HR : Hid (R = ⟨false, false, 0, 0⟩) := by rw [← hR]; unfold mulR; rw [ga, gb]; rfl
      refine (good_is false nb db eb _ gb).mono ?_
      rintro r w2 ⟨rfl, x2'⟩
      obtain ⟨⟨m0, m1, m2, m3⟩, n0, n1, n2, n3⟩ := (Br.later x1').later x2'
      clear ga gb hR q0 q1 q2
      go_wp2_with fail
      exact bodyPost_ret (v := .agg #[.bool false, .bool false, .int .i64 0, .int .i64 0]) (by simp [results, Tryz.results8, go_sem, m0, m1, m2, m3]) rfl ⟨by rw [HR.out], xset (xset (xset (xset (xt (xt X0 x1') x2') (by simp only; omega) _) (by simp only; omega) _) (by simp only; omega) _) (by simp only; omega) _⟩
    · refine (good_is true nb db eb _ gb).mono ?_
      rintro r w2 ⟨rfl, x2'⟩
      obtain ⟨ga0, ga1, ga2, ga3⟩ := good_bd ga
      obtain ⟨gb0, gb1, gb2, gb3⟩ := good_bd gb
      have HR : Hid (putR (na != nb) (da.toNat * db.toNat) (ea + eb) false = R) := by rw [← hR]; unfold mulR; rw [ga, gb]; rfl
      have OA : Hid (∀ w2, Calls Tryz.prog 24 #[.agg #[.bool na, .int .i64 da, .int .i64 ea]] w2 fun e w' => ∃ v', e = .returned v' ∧ ZV w' v' (sgn na da) ∧ Ext w2 w') := fun w2 => of_any na da ea w2 (by omega) (by omega)
      have OB : Hid (∀ w2, Calls Tryz.prog 24 #[.agg #[.bool nb, .int .i64 db, .int .i64 eb]] w2 fun e w' => ∃ v', e = .returned v' ∧ ZV w' v' (sgn nb db) ∧ Ext w2 w') := fun w2 => of_any nb db eb w2 (by omega) (by omega)
      have MU : Hid (∀ (w2 : World) (va vb : Value), ZV w2 va (sgn na da) → ZV w2 vb (sgn nb db) → Calls Tryz.prog 23 #[va, vb] w2 fun e w' => ∃ v', e = .returned v' ∧ ZV w' v' (sgn na da * sgn nb db) ∧ Ext w2 w') := fun w2 va vb h1 h2 => mul_any w2 h1 h2 2 (by decide) (by rw [sgn_abs]; omega) (by rw [sgn_abs]; omega)
      have PB : Hid (((sgn na da * sgn nb db).natAbs : Int) < 1000000000 ^ 4 ∧ (sgn na da * sgn nb db).natAbs = da.toNat * db.toNat) := by
        have e1 : (sgn na da * sgn nb db).natAbs = da.toNat * db.toNat := by rw [Int.natAbs_mul, sgn_abs, sgn_abs]; congr 1 <;> omega
        refine ⟨?_, e1⟩
        rw [e1]
        have h3 : da.toNat * db.toNat ≤ 1000000000000000 * 1000000000000000 := Nat.mul_le_mul (by omega) (by omega)
        have e4 : (1000000000 : Int) ^ 4 = 1000000000000000000000000000000000000 := by decide
        rw [e4]
        omega
      have SG : Hid (sgn na da * sgn nb db ≠ 0 → decide (sgn na da * sgn nb db < 0) = (na != nb)) := fun h => sgn_mul_sign ga0 gb0 h
      have PU : Hid (∀ (w2 : World) (v : Value), ZV w2 v (sgn na da * sgn nb db) → Calls Tryz.prog 22 #[v, .int .i64 (ea + eb), .bool false] w2 fun r w' => r = .returned (resV R) ∧ Ext w2 w') := fun w2 v hv => by
        rw [← HR.out]; exact put_spec _ _ w2 hv 4 (by decide) PB.out.1 (by omega) (by omega) _ _ PB.out.2 SG.out
      have wE : IntKind.i64.wrap (ea + eb) = ea + eb := by rw [IntKind.wrap_i64]; omega
      have Ba2 := (Ba.later x1').later x2'
      have Bb2 := Bb1.later x2'
      have Br2 := (Br.later x1').later x2'
      have X2 := xt (xt X0 x1') x2'
      have Ba2' := Ba2
      have Bb2' := Bb2
      obtain ⟨⟨p0, p1, p2⟩, _⟩ := Ba2'
      obtain ⟨⟨p3, p4, p5⟩, _⟩ := Bb2'
      have nz0 : w.heap.size + 1 + 1 ≠ w.heap.size := by omega
      have nz1 : w.heap.size + 1 + 1 ≠ w.heap.size + 1 := by omega
      clear ga gb hR q0 q1 q2 Ba Bb Bb1 Br X0 x1' x2' ga0 ga1 gb0 gb1 HR PB SG
      go_upto_region 3 with fail
      go_region_held3 (fun w' => (w'.cell? ⟨w.heap.size, 0, none⟩ = some (.bool na) ∧ w'.cell? ⟨w.heap.size, 1, none⟩ = some (.int .i64 da) ∧ w'.cell? ⟨w.heap.size, 2, none⟩ = some (.int .i64 ea)) ∧ w'.cell? ⟨w.heap.size + 1, 0, none⟩ = some (.bool nb) ∧ w'.cell? ⟨w.heap.size + 1, 1, none⟩ = some (.int .i64 db) ∧ w'.cell? ⟨w.heap.size + 1, 2, none⟩ = some (.int .i64 eb)) (go_keep) (first
        | (go_at_call_of 24 (Value.agg #[.bool na, .int .i64 da, .int .i64 ea]); refine (OA.out _).mono ?_; rintro r w3 ⟨v3, rfl, z3, e3⟩; have X3 : Ext w2 w3 := xt (xd (xr _)) e3; obtain ⟨⟨a30, a31, a32⟩, _⟩ := Ba2.later X3; obtain ⟨⟨b30, b31, b32⟩, _⟩ := Bb2.later X3)
        | (go_at_call_of 24 (Value.agg #[.bool nb, .int .i64 db, .int .i64 eb]); refine (OB.out _).mono ?_; rintro r w4 ⟨v4, rfl, z4, e4⟩; have X4 : Ext w2 w4 := xt X3 e4; obtain ⟨⟨a40, a41, a42⟩, _⟩ := Ba2.later X4; obtain ⟨⟨b40, b41, b42⟩, _⟩ := Bb2.later X4)
        | (go_at_call 23; refine (MU.out _ _ _ (z3.later e4) z4).mono ?_; rintro r w5 ⟨v5, rfl, z5, e5⟩; have X5 : Ext w2 w5 := xt X4 e5; obtain ⟨⟨a50, a51, a52⟩, _⟩ := Ba2.later X5; obtain ⟨⟨b50, b51, b52⟩, _⟩ := Bb2.later X5)
        | (go_at_call 22; refine (PU.out _ _ z5).mono ?_; rintro r w6 ⟨rfl, e6⟩; have X6 : Ext w2 w6 := xt X5 e6; obtain ⟨⟨a60, a61, a62⟩, _⟩ := Ba2.later X6; obtain ⟨⟨b60, b61, b62⟩, _⟩ := Bb2.later X6; obtain ⟨⟨m0, m1, m2, m3⟩, n0, n1, n2, n3⟩ := Br2.later X6))
      all_goals
        go_wp2_with fail
        exact bodyPost_ret (v := resV R) (by simp [results, Tryz.results8, go_sem, m0, m1, m2, m3]) rfl ⟨rfl, xset (xset (xset (xset (xt X2 X6) (by simp only; omega) _) (by simp only; omega) _) (by simp only; omega) _) (by simp only; omega) _⟩

end Go.Proofs.YtfkihaihbaobeaaGreatDoor

