/-
  The specification's DecOf.
-/
import Derived.Test.YtpoihneecafijaaDoorMuS
namespace Go.Proofs.YtpoihneecafijaaDoor
open Go.RowKit

set_option maxRecDepth 4000 in
set_option maxHeartbeats 2000000 in
theorem ofS (d e : Int) (w : World) (a1 : -9223372036854775808 ≤ d) (a2 : d ≤ 9223372036854775807) :
    Calls Tryd.prog 19 #[.int .i64 d, .int .i64 e] w fun r w' => r = .returned (resV (ofR d e)) ∧ Ext w w' := by
  obtain ⟨R, hR⟩ : ∃ R, ofR d e = R := ⟨_, rfl⟩
  rw [hR]
  have X0 := x1 w (.cells #[.bool false, .bool false, .int .i64 0, .int .i64 0] 29)
  have Br := Box4.made w (.bool false) (.bool false) (.int .i64 0) (.int .i64 0) 29
  by_cases he : -1000 ≤ e ∧ e ≤ 1000
  · have HR : Hid (putR (decide (d < 0)) d.natAbs e false = R) := by rw [← hR]; unfold ofR; rw [if_pos he]; rfl
    obtain ⟨he0, he1⟩ := he
    have he0' : ¬ e < -1000 := by omega
    have he1' : ¬ 1000 < e := by omega
    obtain ⟨q, hq⟩ : ∃ q, d.tdiv 10 = q := ⟨_, rfl⟩
    obtain ⟨m, hm⟩ : ∃ m, d.tmod 10 = m := ⟨_, rfl⟩
    have hqm : q * 10 + m = d := by rw [← hq, ← hm, Int.mul_comm]; exact Int.mul_tdiv_add_tmod d 10
    have hm0 : -10 < m ∧ m < 10 := by
      rw [← hm]
      by_cases h : 0 ≤ d
      · rw [Int.tmod_eq_emod_of_nonneg h]; omega
      · obtain ⟨n, rfl⟩ : ∃ n, d = -n := ⟨-d, by omega⟩
        rw [Int.neg_tmod, Int.tmod_eq_emod_of_nonneg (by omega)]; omega
    have hq0 : -922337203685477581 ≤ q ∧ q ≤ 922337203685477581 := by omega
    obtain ⟨hm1, hm2⟩ := hm0
    obtain ⟨hq1, hq2⟩ := hq0
    have SQ : Hid (∀ w2, Calls Tryd.prog 45 #[.int .i64 q] w2 fun e w' => ∃ z0 z1 p n c, e = .returned (.agg #[.int .i64 z0, .bool z1, .slice p n c]) ∧ ZV w' (.agg #[.int .i64 z0, .bool z1, .slice p n c]) q ∧ Ext w2 w') := fun w2 => by
      refine (small_any q w2 (by omega) (by omega)).mono ?_
      rintro e w' ⟨v', rfl, hz, hx⟩
      obtain ⟨z0, z1, p, n, c, rfl⟩ := hz.shape
      exact ⟨z0, z1, p, n, c, rfl, hz, hx⟩
    have SM : Hid (∀ w2, Calls Tryd.prog 45 #[.int .i64 m] w2 fun e w' => ∃ v', e = .returned v' ∧ ZV w' v' m ∧ Ext w2 w') := fun w2 => small_any m w2 (by omega) (by omega)
    have S10 : Hid (∀ w2, Calls Tryd.prog 45 #[.int .i64 10] w2 fun e w' => ∃ v', e = .returned v' ∧ ZV w' v' 10 ∧ Ext w2 w') := fun w2 => small_any 10 w2 (by omega) (by omega)
    have MU : Hid (∀ (w2 : World) (va vb : Value), ZV w2 va q → ZV w2 vb 10 → Calls Tryd.prog 47 #[va, vb] w2 fun e w' => ∃ v', e = .returned v' ∧ ZV w' v' (q * 10) ∧ Ext w2 w') := fun w2 va vb h1 h2 => mul_any w2 h1 h2 3 (by decide) (by omega) (by omega)
    have AD : Hid (∀ (w2 : World) (va vb : Value), ZV w2 va (q * 10) → ZV w2 vb m → Calls Tryd.prog 46 #[va, vb] w2 fun e w' => ∃ z0 z1 p n c, e = .returned (.agg #[.int .i64 z0, .bool z1, .slice p n c]) ∧ ZV w' (.agg #[.int .i64 z0, .bool z1, .slice p n c]) d ∧ Ext w2 w') := fun w2 va vb h1 h2 => by
      refine (add_any w2 h1 h2 3 (by decide) (by omega) (by omega)).mono ?_
      rintro e w' ⟨v', rfl, hz, hx⟩
      rw [hqm] at hz
      obtain ⟨z0, z1, p, n, c, rfl⟩ := hz.shape
      exact ⟨z0, z1, p, n, c, rfl, hz, hx⟩
    have PU : Hid (∀ (w2 : World) (v : Value), ZV w2 v d → Calls Tryd.prog 48 #[v, .int .i64 e, .bool false] w2 fun r w' => r = .returned (resV R) ∧ Ext w2 w') := fun w2 v hv => by
      rw [← HR.out]; exact put_spec _ _ w2 hv 3 (by decide) (by omega) (by omega) (by omega) _ _ rfl (fun _ => rfl)
    clear HR hR hqm a1 a2
    go_enter Tryd.func19, Tryd.ntmps19
    go_wp2_with fail
    refine (SQ.out _).mono ?_
    rintro r w1 ⟨z0, z1, z2, z3, z4, rfl, hz1, x1'⟩
    have Z5 := ZIn.made 50 hz1
    have x2' := xa x1' (.cells #[.int .i64 z0, .bool z1, .slice z2 z3 z4] 50)
    have y2' := x1 w1 (.cells #[.int .i64 z0, .bool z1, .slice z2 z3 z4] 50)
    obtain ⟨w2, hw2⟩ : ∃ u, w1.alloc (.cells #[.int .i64 z0, .bool z1, .slice z2 z3 z4] 50) = u := ⟨_, rfl⟩
    rw [hw2] at Z5 x2' y2'
    obtain ⟨b5, hb5⟩ : ∃ b, w1.heap.size = b := ⟨_, rfl⟩
    rw [hb5] at Z5
    have l5 : w1.heap.size ≤ b5 := by omega
    clear hz1 SQ
    go_upto_region 4 with fail
    clear hw2 hb5 hq
    have Z5' := Z5
    obtain ⟨y0, y1, y2, y3, y4, ⟨⟨i0, i1, i2⟩, _⟩, hy⟩ := Z5'
    have X1w := xt X0 x1'
    go_cut [] (fun wc => ZIn wc b5 d ∧ Ext w1 wc)
    case first =>
      go_region_with (first
        | (go_at_call_of 45 (Value.int .i64 10); refine (S10.out _).mono ?_; rintro rr w3 ⟨v3, rfl, hz3, e3⟩; have X3 : Ext w2 w3 := xt (xd (xr _)) e3; have k0 := cell_later X3 i0; have k1 := cell_later X3 i1; have k2 := cell_later X3 i2)
        | (go_at_call 47; refine (MU.out _ _ _ (hy.later X3) hz3).mono ?_; rintro rr w4 ⟨v4, rfl, hz4, e4⟩; have X4 : Ext w2 w4 := xt X3 e4)
        | (go_at_call 45; refine (SM.out _).mono ?_; rintro rr w5 ⟨v5, rfl, hz5, e5⟩; have X5 : Ext w2 w5 := xt X4 e5)
        | (go_at_call 46; refine (AD.out _ _ _ (hz4.later e5) hz5).mono ?_; rintro rr w6 ⟨q0, q1, q2, q3, q4, rfl, hz6, e6⟩; have X6 : Ext w2 w6 := xt X5 e6; have ZZ := Z5.later X6; have ZZ' := ZZ; obtain ⟨g0, g1, g2, g3, g4, ⟨⟨k0', k1', k2'⟩, jj0, jj1, jj2⟩, _⟩ := ZZ'))
      all_goals
        go_wp2_with fail
        go_meet
        case rel => exact ⟨ZZ.put hz6, Ext.set3 (xt y2' X6) l5 _ _ _⟩
    case rest =>
      obtain ⟨Z6, x6⟩ := hcut
      rename World => w6
      obtain ⟨y0', y1', y2'', y3', y4', ⟨⟨k0, k1, k2⟩, _⟩, hy6⟩ := Z6
      have Br6 := (Br.later x1').later x6
      have X6 := xt X1w x6
      clear i0 i1 i2 hy Z5
      go_wp2_with fail
      refine (PU.out _ _ hy6).mono ?_
      rintro r w7 ⟨rfl, x7⟩
      obtain ⟨⟨m0, m1, m2, m3⟩, n0, n1, n2, n3⟩ := Br6.later x7
      clear k0 k1 k2 hy6
      go_wp2_with fail
      exact bodyPost_ret (v := resV R) (by simp [results, Tryd.results19, go_sem, m0, m1, m2, m3]) rfl ⟨rfl, xset (xset (xset (xset (xt X6 x7) (Nat.le_refl _) _) (Nat.le_refl _) _) (Nat.le_refl _) _) (Nat.le_refl _) _⟩
  · have HR : Hid (R = ⟨false, false, 0, 0⟩) := by rw [← hR]; unfold ofR; rw [if_neg he]; rfl
    clear hR
    by_cases he0 : e < -1000
    · clear he
      go_enter Tryd.func19, Tryd.ntmps19
      go_wp2_with fail
      exact bodyPost_ret (v := .agg #[.bool false, .bool false, .int .i64 0, .int .i64 0]) (by simp [results, Tryd.results19, go_sem]) rfl ⟨by rw [HR.out], X0⟩
    · have he1 : 1000 < e := by omega
      clear he
      go_enter Tryd.func19, Tryd.ntmps19
      go_wp2_with fail
      exact bodyPost_ret (v := .agg #[.bool false, .bool false, .int .i64 0, .int .i64 0]) (by simp [results, Tryd.results19, go_sem]) rfl ⟨by rw [HR.out], X0⟩

end Go.Proofs.YtpoihneecafijaaDoor
