/-
  The specification's turns of a row or column, and of a run of them.
-/
import Derived.Test.YtjoalcnedehfgaaTp
namespace Go.Proofs.Ytjoalcnedehfgaa
open Go.RowKit

set_option maxRecDepth 8000 in
set_option maxHeartbeats 2000000 in
theorem turnS (k a m : Int) (d : Bool) (n l : Int) (w : World) (hl : limT k = l) (hm : 1 ≤ m ∧ m ≤ 100) (ha : 1 ≤ a ∧ a ≤ 1000) (hn : 1 ≤ n ∧ n ≤ 1000) :
    Calls Try.prog 28 #[tuV k a m d, .int .i64 n] w fun e w' => e = .returned (.int .i64 (tN l a m d n)) ∧ Ext w w' := by
  have L : ∀ w, Calls Try.prog 25 #[.int .i64 k] w fun e w' => e = .returned (.int .i64 l) ∧ w' = w := fun w => by rw [← hl]; exact limitS k w
  obtain ⟨V, hV⟩ : ∃ V, tN l a m d n = V := ⟨_, rfl⟩
  rw [hV]
  have hVd : Hid ((n < a ∧ V = n) ∨ (a ≤ n ∧ d = true ∧ n < a + m ∧ V = 0) ∨ (a ≤ n ∧ d = true ∧ a + m ≤ n ∧ V = n - m) ∨ (a ≤ n ∧ d = false ∧ l < n + m ∧ V = 0) ∨ (a ≤ n ∧ d = false ∧ n + m ≤ l ∧ V = n + m)) := by
    have := tN_is l a m d n
    rw [hV] at this
    exact this
  clear hV hl
  have e1 : IntKind.i64.wrap (a + m) = a + m := by rw [IntKind.wrap_i64]; omega
  have e2 : IntKind.i64.wrap (n - m) = n - m := by rw [IntKind.wrap_i64]; omega
  have e3 : IntKind.i64.wrap (n + m) = n + m := by rw [IntKind.wrap_i64]; omega
  have X := x1 w (.cells #[.int .i64 k, .int .i64 a, .int .i64 m, .bool d] 25)
  obtain ⟨⟨q0, q1, q2, q3⟩, _⟩ := Box4.made w (.int .i64 k) (.int .i64 a) (.int .i64 m) (.bool d) 25
  go_enter Try.func28, Try.ntmps28
  go_upto_region 1 with fail
  obtain ⟨w0, hw0⟩ : ∃ u, w.alloc (.cells #[.int .i64 k, .int .i64 a, .int .i64 m, .bool d] 25) = u := ⟨_, rfl⟩
  rw [hw0] at X q0 q1 q2 q3 ⊢
  clear hw0
  by_cases h1 : n < a
  · go_wp2
    all_goals go_ret
    all_goals exact ⟨ret_int (by have := hVd.out; omega), X⟩
  · have f1 : decide (n < a) = false := decide_eq_false h1
    cases d
    · have hVd' : Hid ((l < n + m ∧ V = 0) ∨ (n + m ≤ l ∧ V = n + m)) := by
        have := hVd.out
        simp at this
        show _ ∨ _
        omega
      clear hVd
      go_upto_region 7 with fail
      go_quiet ((go_at_call 25; refine Calls.quiet_of_same (L _)))
      go_wp2
      all_goals go_ret
      all_goals exact ⟨ret_int (by have := hVd'.out; omega), xdNt X _⟩
    · have hVd' : Hid ((n < a + m ∧ V = 0) ∨ (a + m ≤ n ∧ V = n - m)) := by
        have := hVd.out
        simp at this
        show _ ∨ _
        omega
      clear hVd
      go_wp2
      all_goals go_ret
      all_goals exact ⟨ret_int (by have := hVd'.out; omega), X⟩

set_option maxRecDepth 8000 in
set_option maxHeartbeats 2000000 in
theorem endsS (k a m : Int) (d : Bool) (A B l : Int) (w : World) (hl : limT k = l) (hm : 1 ≤ m ∧ m ≤ 100) (ha : 1 ≤ a ∧ a ≤ l) (hd : d = true → a + m - 1 ≤ l) (hA : 1 ≤ A) (hAB : A ≤ B) (hB : B ≤ l) :
    Calls Try.prog 30 #[tuV k a m d, .int .i64 A, .int .i64 B] w fun e w' => e = .returned (.tuple #[.int .i64 (stF l a m d A B), .int .i64 (stT l a m d A B), .bool (decide (0 < stF l a m d A B))]) ∧ Ext w w' := by
  have hl0 : l ≤ 1000 := by obtain ⟨x, e, h⟩ := limT_is k; rw [hl] at e; omega
  have T : Hid (∀ n w, 1 ≤ n → n ≤ l → Calls Try.prog 28 #[tuV k a m d, .int .i64 n] w fun e w' => e = .returned (.int .i64 (tN l a m d n)) ∧ Ext w w') := fun n w h1 h2 => turnS k a m d n l w hl hm (by omega) (by omega)
  have S0 := st_start hm.1 ha.1 ha.2 hd hA (show A ≤ l by omega)
  have S1 : Hid (∀ n, A ≤ n → n ≤ l → (0 < tN l a m d n → stF l a m d A n = (if stF l a m d A (n - 1) = 0 then tN l a m d n else stF l a m d A (n - 1)) ∧ stT l a m d A n = tN l a m d n) ∧ (tN l a m d n ≤ 0 → stF l a m d A n = stF l a m d A (n - 1) ∧ stT l a m d A n = stT l a m d A (n - 1))) := fun n h1 h2 => st_step hm.1 ha.1 ha.2 hd hA h1 h2
  clear hl hm ha hd
  have X := x1 w (.cells #[.int .i64 k, .int .i64 a, .int .i64 m, .bool d] 25)
  have BX := Box4.made w (.int .i64 k) (.int .i64 a) (.int .i64 m) (.bool d) 25
  go_enter Try.func30, Try.ntmps30
  go_wp2_with fail
  obtain ⟨w0, hw0⟩ : ∃ u, w.alloc (.cells #[.int .i64 k, .int .i64 a, .int .i64 m, .bool d] 25) = u := ⟨_, rfl⟩
  rw [hw0] at X BX ⊢
  clear hw0
  go_loopw [9, 10, 11] (fun f t i wr => ∃ n : Int, i = .int .i64 n ∧ A ≤ n ∧ n ≤ B + 1 ∧ f = .int .i64 (stF l a m d A (n - 1)) ∧ t = .int .i64 (stT l a m d A (n - 1)) ∧ Ext w0 wr) (fun _ _ i _ => (B + 1 - intOf i).toNat)
  case atStart => exact ⟨A, rfl, by omega, by omega, by rw [S0.1], by rw [S0.2], xr _⟩
  case round =>
    obtain ⟨n, rfl, n0, n1, rfl, rfl, xr'⟩ := hrel
    rename World => wr
    obtain ⟨⟨q0, q1, q2, q3⟩, _⟩ := BX.later xr'
    by_cases hn : n ≤ B
    · obtain ⟨s1, s2⟩ := S1.out n n0 (by omega)
      obtain ⟨v, hv⟩ : ∃ v, tN l a m d n = v := ⟨_, rfl⟩
      obtain ⟨f, hf⟩ : ∃ v, stF l a m d A (n - 1) = v := ⟨_, rfl⟩
      obtain ⟨t, ht⟩ : ∃ v, stT l a m d A (n - 1) = v := ⟨_, rfl⟩
      obtain ⟨f', hf'⟩ : ∃ v, stF l a m d A n = v := ⟨_, rfl⟩
      obtain ⟨t', ht'⟩ : ∃ v, stT l a m d A n = v := ⟨_, rfl⟩
      have T1 := fun w => T.out n w (by omega) (by omega)
      rw [hv] at T1 s1 s2
      rw [hf, hf'] at s1 s2
      rw [ht', ht] at s2
      rw [ht'] at s1
      rw [hf, ht]
      have S2 : Hid ((0 < v → f' = (if f = 0 then v else f) ∧ t' = v) ∧ (v ≤ 0 → f' = f ∧ t' = t)) := ⟨s1, s2⟩
      have HF : Hid (stF l a m d A n = f') := hf'
      have HT : Hid (stT l a m d A n = t') := ht'
      have wn : IntKind.i64.wrap (n + 1) = n + 1 := by rw [IntKind.wrap_i64]; omega
      clear s1 s2 hf ht hf' ht' hv S0
      go_wp2_with fail
      refine (T1 _).mono ?_
      rintro e w2 ⟨rfl, x2⟩
      clear q0 q1 q2 q3
      by_cases hv : 0 < v
      · have S3 := S2.out.1 hv
        by_cases h0 : f = 0
        · rw [if_pos h0] at S3
          subst h0
          obtain ⟨rfl, rfl⟩ := S3
          go_wp2_with fail
          go_round
          case rel => exact ⟨n + 1, rfl, by omega, by omega, by rw [Int.add_sub_cancel, HF.out], by rw [Int.add_sub_cancel, HT.out], xt xr' x2⟩
          case measure => simp [intOf]; omega
        · rw [if_neg h0] at S3
          obtain ⟨rfl, rfl⟩ := S3
          have g0 : decide (f' = 0) = false := decide_eq_false h0
          have g1 : (f' == 0) = false := beq_eq_false_iff_ne.2 h0
          go_wp2_with fail
          go_round
          case rel => exact ⟨n + 1, rfl, by omega, by omega, by rw [Int.add_sub_cancel, HF.out], by rw [Int.add_sub_cancel, HT.out], xt xr' x2⟩
          case measure => simp [intOf]; omega
      · obtain ⟨rfl, rfl⟩ := S2.out.2 (by omega)
        have g0 : decide (0 < v) = false := decide_eq_false hv
        go_wp2_with fail
        go_round
        case rel => exact ⟨n + 1, rfl, by omega, by omega, by rw [Int.add_sub_cancel, HF.out], by rw [Int.add_sub_cancel, HT.out], xt xr' x2⟩
        case measure => simp [intOf]; omega
    · obtain rfl : n = B + 1 := by omega
      rw [Int.add_sub_cancel]
      clear T S0 S1
      obtain ⟨f, hf⟩ : ∃ v, stF l a m d A B = v := ⟨_, rfl⟩
      obtain ⟨t, ht⟩ : ∃ v, stT l a m d A B = v := ⟨_, rfl⟩
      have HF : Hid (stF l a m d A B = f) := hf
      have HT : Hid (stT l a m d A B = t) := ht
      rw [hf, ht]
      clear hf ht
      go_wp2_with fail
      exact bodyPost_ret (v := .tuple #[.int .i64 f, .int .i64 t, .bool (decide (0 < f))]) (by simp [results, Try.results30, go_sem]) rfl ⟨by rw [HF.out, HT.out], xt X xr'⟩

end Go.Proofs.Ytjoalcnedehfgaa
