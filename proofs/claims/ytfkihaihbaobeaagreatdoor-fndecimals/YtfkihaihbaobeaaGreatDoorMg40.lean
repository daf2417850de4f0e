/-
  Several texts in one: DrM, Dd0.
-/
import Derived.Test.YtfkihaihbaobeaaGreatDoorDrA
import Derived.Test.YtfkihaihbaobeaaGreatDoorSuM
namespace Go.Proofs.YtfkihaihbaobeaaGreatDoor
open Go.RowKit

theorem good_nought' {n : Bool} {d e : Int} (h : goodB n d e = true) (hd : d = 0) : e = 0 ∧ n = false := by
  unfold goodB at h
  rw [if_pos hd] at h
  simp at h
  exact ⟨h.2, h.1⟩
theorem rnd_nought (k c : Nat) : rndM k 0 c false = 0 := by
  have t0 := ten_pow_pos c
  have hr : restN 0 c false = 0 := by
    unfold restN
    rw [Nat.zero_mod]
    simp
    omega
  unfold rndM
  rw [hr, Nat.zero_div]
  have : goesOn k (decide (0 % 2 = 1)) 0 = false := by unfold goesOn; simp
  rw [this]
  simp

set_option maxRecDepth 4000 in
set_option maxHeartbeats 4000000 in
theorem roundS_bad (n : Bool) (d e p m : Int) (w : World) (hb : (goodB n d e && decide (-300 ≤ p ∧ p ≤ 300) && decide (0 ≤ m ∧ m ≤ 3)) = false) :
    Calls Tryz.prog 15 #[.agg #[.bool n, .int .i64 d, .int .i64 e], .int .i64 p, .int .i64 m] w fun r w' => r = .returned (resV badR) ∧ Ext w w' := by
  show Calls _ _ _ _ fun r w' => r = .returned (.agg #[.bool false, .bool false, .int .i64 0, .int .i64 0]) ∧ Ext w w'
  have X0 := xa (x1 w (.cells #[.bool n, .int .i64 d, .int .i64 e] 24)) (.cells #[.bool false, .bool false, .int .i64 0, .int .i64 0] 28)
  have Ba := (Box3.made w (.bool n) (.int .i64 d) (.int .i64 e) 24).later (x1 _ (.cells #[.bool false, .bool false, .int .i64 0, .int .i64 0] 28))
  have Br := Box4.made (w.alloc (.cells #[.bool n, .int .i64 d, .int .i64 e] 24)) (.bool false) (.bool false) (.int .i64 0) (.int .i64 0) 28
  simp only [World.size_alloc] at Br
  cases ga : goodB n d e
  · have GA : Hid (∀ w2, Calls Tryz.prog 10 #[.agg #[.bool n, .int .i64 d, .int .i64 e]] w2 fun e w' => e = .returned (.bool false) ∧ Ext w2 w') := fun w2 => good_is false n d e w2 ga
    clear ga hb
    go_enter Tryz.func15, Tryz.ntmps15
    go_wp2_with fail
    refine (GA.out _).mono ?_
    rintro rr w1 ⟨rfl, x1'⟩
    obtain ⟨⟨m0, m1, m2, m3⟩, n0, n1, n2, n3⟩ := Br.later x1'
    go_wp2_with fail
    exact bodyPost_ret (v := .agg #[.bool false, .bool false, .int .i64 0, .int .i64 0]) (by simp [results, Tryz.results15, go_sem, m0, m1, m2, m3]) rfl ⟨rfl, xset (xset (xset (xset (xt X0 x1') (by simp only; omega) _) (by simp only; omega) _) (by simp only; omega) _) (by simp only; omega) _⟩
  · have GA : Hid (∀ w2, Calls Tryz.prog 10 #[.agg #[.bool n, .int .i64 d, .int .i64 e]] w2 fun e w' => e = .returned (.bool true) ∧ Ext w2 w') := fun w2 => good_is true n d e w2 ga
    rw [ga, Bool.true_and] at hb
    clear ga
    by_cases h1 : p < -300
    · clear hb
      go_enter Tryz.func15, Tryz.ntmps15
      go_wp2_with fail
      refine (GA.out _).mono ?_
      rintro rr w1 ⟨rfl, x1'⟩
      obtain ⟨⟨m0, m1, m2, m3⟩, n0, n1, n2, n3⟩ := Br.later x1'
      go_wp2_with fail
      exact bodyPost_ret (v := .agg #[.bool false, .bool false, .int .i64 0, .int .i64 0]) (by simp [results, Tryz.results15, go_sem, m0, m1, m2, m3]) rfl ⟨rfl, xset (xset (xset (xset (xt X0 x1') (by simp only; omega) _) (by simp only; omega) _) (by simp only; omega) _) (by simp only; omega) _⟩
    · by_cases h2 : p > 300
      · clear hb
        go_enter Tryz.func15, Tryz.ntmps15
        go_wp2_with fail
        refine (GA.out _).mono ?_
        rintro rr w1 ⟨rfl, x1'⟩
        obtain ⟨⟨m0, m1, m2, m3⟩, n0, n1, n2, n3⟩ := Br.later x1'
        go_wp2_with fail
        exact bodyPost_ret (v := .agg #[.bool false, .bool false, .int .i64 0, .int .i64 0]) (by simp [results, Tryz.results15, go_sem, m0, m1, m2, m3]) rfl ⟨rfl, xset (xset (xset (xset (xt X0 x1') (by simp only; omega) _) (by simp only; omega) _) (by simp only; omega) _) (by simp only; omega) _⟩
      · by_cases h3 : m < 0
        · clear hb
          go_enter Tryz.func15, Tryz.ntmps15
          go_wp2_with fail
          refine (GA.out _).mono ?_
          rintro rr w1 ⟨rfl, x1'⟩
          obtain ⟨⟨m0, m1, m2, m3⟩, n0, n1, n2, n3⟩ := Br.later x1'
          go_wp2_with fail
          exact bodyPost_ret (v := .agg #[.bool false, .bool false, .int .i64 0, .int .i64 0]) (by simp [results, Tryz.results15, go_sem, m0, m1, m2, m3]) rfl ⟨rfl, xset (xset (xset (xset (xt X0 x1') (by simp only; omega) _) (by simp only; omega) _) (by simp only; omega) _) (by simp only; omega) _⟩
        · have h4 : m > 3 := by
            rw [decide_eq_true (⟨by omega, by omega⟩ : -300 ≤ p ∧ p ≤ 300), Bool.true_and, decide_eq_false_iff_not] at hb
            omega
          clear hb
          go_enter Tryz.func15, Tryz.ntmps15
          go_wp2_with fail
          refine (GA.out _).mono ?_
          rintro rr w1 ⟨rfl, x1'⟩
          obtain ⟨⟨m0, m1, m2, m3⟩, n0, n1, n2, n3⟩ := Br.later x1'
          go_wp2_with fail
          exact bodyPost_ret (v := .agg #[.bool false, .bool false, .int .i64 0, .int .i64 0]) (by simp [results, Tryz.results15, go_sem, m0, m1, m2, m3]) rfl ⟨rfl, xset (xset (xset (xset (xt X0 x1') (by simp only; omega) _) (by simp only; omega) _) (by simp only; omega) _) (by simp only; omega) _⟩

set_option maxRecDepth 4000 in
set_option maxHeartbeats 4000000 in
theorem roundS_same (n : Bool) (d e p m : Int) (w : World) (ga : goodB n d e = true) (h1 : ¬ p < -300) (h2 : ¬ p > 300) (h3 : ¬ m < 0) (h4 : ¬ m > 3) (hc : d = 0 ∨ -p - e ≤ 0) :
    Calls Tryz.prog 15 #[.agg #[.bool n, .int .i64 d, .int .i64 e], .int .i64 p, .int .i64 m] w fun r w' => r = .returned (resV ⟨true, n, d, e⟩) ∧ Ext w w' := by
  show Calls _ _ _ _ fun r w' => r = .returned (.agg #[.bool true, .bool n, .int .i64 d, .int .i64 e]) ∧ Ext w w'
  have X0 := xa (x1 w (.cells #[.bool n, .int .i64 d, .int .i64 e] 24)) (.cells #[.bool false, .bool false, .int .i64 0, .int .i64 0] 28)
  have Ba := (Box3.made w (.bool n) (.int .i64 d) (.int .i64 e) 24).later (x1 _ (.cells #[.bool false, .bool false, .int .i64 0, .int .i64 0] 28))
  have Br := Box4.made (w.alloc (.cells #[.bool n, .int .i64 d, .int .i64 e] 24)) (.bool false) (.bool false) (.int .i64 0) (.int .i64 0) 28
  simp only [World.size_alloc] at Br
  have GA : Hid (∀ w2, Calls Tryz.prog 10 #[.agg #[.bool n, .int .i64 d, .int .i64 e]] w2 fun e w' => e = .returned (.bool true) ∧ Ext w2 w') := fun w2 => good_is true n d e w2 ga
  obtain ⟨ga0, ga1, ga2, ga3⟩ := good_bd ga
  have wP : IntKind.i64.wrap (-p) = -p := by rw [IntKind.wrap_i64]; omega
  have wC : IntKind.i64.wrap (-p - e) = -p - e := by rw [IntKind.wrap_i64]; omega
  clear ga
  by_cases hd : d = 0
  · have hd' : (d == 0) = true := by rw [hd]; rfl
    clear hc
    subst hd
    go_enter Tryz.func15, Tryz.ntmps15
    go_wp2_with fail
    refine (GA.out _).mono ?_
    rintro rr w1 ⟨rfl, x1'⟩
    obtain ⟨⟨p0, p1, p2⟩, _⟩ := Ba.later x1'
    obtain ⟨⟨m0, m1, m2, m3⟩, n0, n1, n2, n3⟩ := Br.later x1'
    go_wp2_with fail
    exact bodyPost_ret (v := .agg #[.bool true, .bool n, .int .i64 0, .int .i64 e]) (by simp [results, Tryz.results15, go_sem, m0, m1, m2, m3]) rfl ⟨rfl, xset (xset (xset (xset (xt X0 x1') (by simp only; omega) _) (by simp only; omega) _) (by simp only; omega) _) (by simp only; omega) _⟩
  · have hd' : (d == 0) = false := by rw [beq_eq_false_iff_ne]; exact hd
    have hc' : -p - e ≤ 0 := by omega
    clear hc hd
    go_enter Tryz.func15, Tryz.ntmps15
    go_wp2_with fail
    refine (GA.out _).mono ?_
    rintro rr w1 ⟨rfl, x1'⟩
    obtain ⟨⟨p0, p1, p2⟩, _⟩ := Ba.later x1'
    obtain ⟨⟨m0, m1, m2, m3⟩, n0, n1, n2, n3⟩ := Br.later x1'
    go_wp2_with fail
    exact bodyPost_ret (v := .agg #[.bool true, .bool n, .int .i64 d, .int .i64 e]) (by simp [results, Tryz.results15, go_sem, m0, m1, m2, m3]) rfl ⟨rfl, xset (xset (xset (xset (xt X0 x1') (by simp only; omega) _) (by simp only; omega) _) (by simp only; omega) _) (by simp only; omega) _⟩

theorem roundS (n : Bool) (d e p m : Int) (w : World) :
    Calls Tryz.prog 15 #[.agg #[.bool n, .int .i64 d, .int .i64 e], .int .i64 p, .int .i64 m] w fun r w' => r = .returned (resV (roundR n d e p m)) ∧ Ext w w' := by
  cases hb : (goodB n d e && decide (-300 ≤ p ∧ p ≤ 300) && decide (0 ≤ m ∧ m ≤ 3))
  · have hR : roundR n d e p m = badR := by unfold roundR; rw [hb]; rfl
    rw [hR]
    exact roundS_bad n d e p m w hb
  · have hR : roundR n d e p m = rndR n d e p m.toNat := by unfold roundR; rw [hb]; rfl
    rw [hR]
    simp only [Bool.and_eq_true, decide_eq_true_eq] at hb
    obtain ⟨⟨ga, hp0, hp1⟩, hm0, hm1⟩ := hb
    by_cases hc : -p - e ≤ 0
    · unfold rndR
      rw [if_pos hc]
      exact roundS_same n d e p m w ga (by omega) (by omega) (by omega) (by omega) (Or.inr hc)
    · obtain ⟨c, hcc⟩ : ∃ c : Nat, -p - e = (c : Int) := ⟨(-p - e).toNat, by omega⟩
      obtain ⟨A, rfl⟩ := Int.eq_ofNat_of_zero_le (good_bd ga).1
      by_cases hd : (A : Int) = 0
      · have hz : rndR n A e p m.toNat = ⟨true, n, A, e⟩ := by
          unfold rndR
          obtain ⟨he, hn⟩ := good_nought' ga hd
          rw [if_neg hc, hd, show (0 : Int).toNat = 0 from rfl, rnd_nought, put_zero, he, hn]
        rw [hz]
        exact roundS_same n A e p m w ga (by omega) (by omega) (by omega) (by omega) (Or.inl hd)
      · unfold rndR
        rw [if_neg hc, hcc, Int.toNat_natCast, Int.toNat_natCast]
        exact roundS_cut n A e p m c w ga (by omega) (by omega) (by omega) (by omega) (by omega) hcc (by omega)

end Go.Proofs.YtfkihaihbaobeaaGreatDoor

namespace Go.Proofs.YtfkihaihbaobeaaGreatDoor

/-- A product does not hang on the order. -/
theorem mulR_comm (na : Bool) (da ea : Int) (nb : Bool) (db eb : Int) : mulR na da ea nb db eb = mulR nb db eb na da ea := by
  unfold mulR
  rw [Bool.and_comm, Nat.mul_comm, Int.add_comm ea eb]
  have : (na != nb) = (nb != na) := by cases na <;> cases nb <;> rfl
  rw [this]
theorem sumI_comm (na : Bool) (da ea : Int) (nb : Bool) (db eb : Int) : sumI na da ea nb db eb = sumI nb db eb na da ea := by
  unfold sumI
  rw [Int.min_comm ea eb, Int.add_comm]
theorem sumZ_comm (na : Bool) (da ea : Int) (nb : Bool) (db eb : Int) : sumZ na da ea nb db eb = sumZ nb db eb na da ea := by
  unfold sumZ
  rw [sumI_comm, Int.min_comm ea eb]
theorem put_nought (n : Bool) (e : Int) (m : Bool) : putR n 0 e m = ⟨true, false, 0, 0⟩ := by
  unfold putR
  rw [nd_zero, if_neg (by decide)]
  unfold fitR
  rfl
/-- A sum does not hang on the order. -/
theorem addR_comm (na : Bool) (da ea : Int) (nb : Bool) (db eb : Int) : addR na da ea nb db eb = addR nb db eb na da ea := by
  unfold addR
  rw [Bool.and_comm]
  split
  · unfold sumE
    by_cases h1 : da = 0
    · by_cases h2 : db = 0
      · subst h1 h2
        have z : ∀ (x y : Int), sumI na 0 x nb 0 y = 0 := fun x y => by unfold sumI sgn; simp
        have z' : ∀ (x y : Int), sumI nb 0 x na 0 y = 0 := fun x y => by unfold sumI sgn; simp
        unfold sumZ
        rw [z, z']
        simp only [Int.natAbs_zero]
        rw [put_nought, put_nought]
      · simp only [h1, h2, if_true, if_false]
        rw [sumZ_comm]
    · by_cases h2 : db = 0
      · simp only [h1, h2, if_true, if_false]
        rw [sumZ_comm]
      · simp only [h1, h2, if_false]
        rw [sumZ_comm]
  · rfl
/-- A number less itself. -/
theorem subR_self (n : Bool) (d e : Int) : subR n d e n d e = ⟨goodB n d e, false, 0, 0⟩ := by
  unfold subR addR
  by_cases h : d = 0
  · subst h
    simp only [if_true, Bool.and_self]
    split
    · rename_i hg
      rw [hg]
      unfold sumE sumZ
      have z : ∀ (x y : Int), sumI n 0 x n 0 y = 0 := fun x y => by unfold sumI sgn; simp
      rw [z]
      simp only [Int.natAbs_zero]
      rw [put_nought]
    · rename_i hg
      have : goodB n 0 e = false := by simpa using hg
      rw [this]
      rfl
  · simp only [h, if_false]
    have hn : goodB (!n) d e = goodB n d e := by unfold goodB; simp only [h, if_false]
    rw [hn, Bool.and_self]
    split
    · rename_i hg
      rw [hg]
      unfold sumE sumZ
      simp only [h, if_false]
      have z : sumI n d e (!n) d e = 0 := by
        unfold sumI sgn
        cases n <;> simp <;> omega
      rw [z]
      simp only [Int.natAbs_zero]
      rw [put_nought]
    · rename_i hg
      have : goodB n d e = false := by simpa using hg
      rw [this]
      rfl
theorem rnd_nought2 (k c : Nat) : rndM k 0 c false = 0 := by
  unfold rndM restN goesOn
  have h := ten_pow_pos c
  have h0 : ¬ (10 ^ c < 0) := by omega
  have h1 : ¬ (0 = 10 ^ c) := by omega
  simp [h1]
/-- What is rounded is rounded to the same. -/
theorem round_again (n : Bool) (d e p m : Int) (h : (roundR n d e p m).ok = true) : roundR (roundR n d e p m).neg (roundR n d e p m).d (roundR n d e p m).e p m = roundR n d e p m := by
  unfold roundR at h ⊢
  by_cases hg : (goodB n d e && decide (-300 ≤ p ∧ p ≤ 300) && decide (0 ≤ m ∧ m ≤ 3)) = true
  · simp only [hg, if_true] at h ⊢
    have hg' := hg
    simp only [Bool.and_eq_true, decide_eq_true_eq] at hg'
    obtain ⟨⟨g, hp⟩, hm⟩ := hg'
    have fp : decide (-300 ≤ p ∧ p ≤ 300) = true := decide_eq_true hp
    have fm : decide (0 ≤ m ∧ m ≤ 3) = true := decide_eq_true hm
    unfold rndR at h ⊢
    by_cases hc : -p - e ≤ 0
    · simp only [hc, if_true]
      rw [if_pos hg]
    · simp only [hc, if_false] at h ⊢
      have hd : d < 1000000000000000 := by
        unfold goodB at g
        split at g
        · omega
        · simp only [decide_eq_true_eq] at g; omega
      obtain ⟨c, hcc⟩ : ∃ c : Nat, (-p - e).toNat = c + 1 := ⟨(-p - e).toNat - 1, by omega⟩
      have hb : rndM m.toNat d.toNat (-p - e).toNat false < 1000000000000000 := by
        rw [hcc]
        have h1 : d.toNat / 10 ^ (c + 1) ≤ d.toNat / 10 := by
          rw [Nat.pow_succ, Nat.mul_comm, ← Nat.div_div_eq_div_mul]
          exact Nat.div_le_self _ _
        unfold rndM
        split <;> omega
      obtain ⟨P, hP⟩ : ∃ P, rndM m.toNat d.toNat (-p - e).toNat false = P := ⟨_, rfl⟩
      rw [hP] at h hb ⊢
      have hf : putR n P (-p) false = fitR n P (-p) := by
        unfold putR
        have : nd P ≤ 15 := nd_le (by omega)
        rw [if_neg (by omega)]
      rw [hf] at h ⊢
      by_cases p0 : P = 0
      · subst p0
        have e0 : fitR n 0 (-p) = ⟨true, false, 0, 0⟩ := rfl
        rw [e0]
        simp only [fp, fm]
        have gz : goodB false 0 0 = true := by decide
        rw [gz]
        simp only [Bool.and_self, if_true]
        split
        · rfl
        · have : (0 : Int).toNat = 0 := rfl
          rw [this, rnd_nought2, put_nought]
      · have hs := strip_le P (-p)
        have ho : fitR n P (-p) = ⟨true, n, (strip P (-p)).1, (strip P (-p)).2⟩ := by
          unfold fitR at h ⊢
          rw [if_neg p0] at h ⊢
          by_cases h3 : 300 < (strip P (-p)).2
          · rw [if_pos h3] at h; cases h
          · rw [if_neg h3, if_neg (by omega)]
        have h3 : ¬ 300 < (strip P (-p)).2 := by
          intro h3
          unfold fitR at h
          rw [if_neg p0, if_pos h3] at h
          cases h
        rw [ho]
        have gs := strip_good P (-p) p0
        have gg : goodB n ((strip P (-p)).1 : Int) (strip P (-p)).2 = true := by
          unfold goodB
          have : ((strip P (-p)).1 : Int) ≠ 0 := by omega
          simp only [this, if_false, decide_eq_true_eq]
          omega
        simp only [fp, fm, gg, Bool.and_self, if_true]
        rw [if_pos (by omega)]
  · simp only [hg] at h
    simp [badR] at h

end Go.Proofs.YtfkihaihbaobeaaGreatDoor

