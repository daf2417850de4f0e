/-
  FnRoots: the law's own function.
-/
import Derived.Test.YtpeobfkenekmhaaDoorCd3
import Derived.Test.YtpeobfkenekmhaaDoorRt0
import Derived.Test.YtpeobfkenekmhaaDoorRt2
namespace Go.Proofs.YtpeobfkenekmhaaDoor
open Go.RowKit

theorem steps_d (a : DR) (k : Nat) : 0 ≤ (stepsR a k).d ∧ (stepsR a k).d < 1000000000000000 := by
  cases k with
  | zero => exact ⟨show (0 : Int) ≤ 1 by decide, show (1 : Int) < 1000000000000000 by decide⟩
  | succ k =>
    rw [stepsR]
    unfold mulD2 mulR
    split
    · exact put_d _ _ _ _
    · constructor <;> decide

theorem CodeIn.laterR {w w' : World} {v : Value} {n : Nat} (h : CodeIn w w.heap.size v n) (x : Ext w w') : CodeIn w' w'.heap.size v n := by
  rcases h with h | ⟨pb, po, cap, h1, h2, h3, h4⟩
  · exact .inl h
  · refine .inr ⟨pb, po, cap, Nat.lt_of_lt_of_le h1 x.size, h2, h3, fun i hi => ?_⟩
    obtain ⟨z, z0, z1, hz⟩ := h4 i hi
    exact ⟨z, z0, z1, cell_later x hz⟩
theorem lawRoots_big (p : Option Addr) (n cap : Nat) (w : World) (hb : ¬ n ≤ 1048576) :
    Calls Tryd.prog 3 #[.slice p n cap] w fun e w' => e = .returned (.bool true) ∧ Ext w w' := by
  have fl : decide ((n : Int) > 1048576) = true := by simp; omega
  go_enter Tryd.func3, Tryd.ntmps3
  go_wp2_with fail
  go_ret
  exact ⟨rfl, xr _⟩

set_option maxRecDepth 8000 in
set_option maxHeartbeats 16000000 in
theorem lawRoots_p (p : Option Addr) (k cap : Nat) (w : World) (hc : CodeIn w w.heap.size (.slice p k cap) k) (hb : k ≤ 1048576) (hT : Tens w) :
    Calls Tryd.prog 3 #[.slice p k cap] w fun e w' => e = .returned (.bool true) ∧ Ext w w' := by
  have CD := drawSqrt _ k w hc hb
  have CA : Hid (∀ w', Ext w w' → Calls Tryd.prog 8 #[.slice p k cap] w' fun e w'' => (∃ n d x m, e = .returned (.tuple #[decV n d x, .int .i64 m]) ∧ -1000000000000000000 ≤ d ∧ d ≤ 1000000000000000000 ∧ -2000 ≤ m ∧ m ≤ 2000) ∧ Ext w' w'') := fun w' x => drawPow _ k w' (hc.laterR x) hb
  have fl : decide ((k : Int) > 1048576) = false := by simp; omega
  have HT : Hid (∀ V, Ext w V → Tens V) := fun V x => hT.later x
  clear hc hT hb
  go_enter Tryd.func3, Tryd.ntmps3
  go_wp2_with fail
  refine CD.mono ?_
  clear CD
  rintro e w1 ⟨⟨n, d, x, rfl, d0, d1⟩, e1⟩
  obtain ⟨R, hok, CS0, CI0⟩ := sqrt4 n d x (by omega) (by omega)
  have CS : Hid (∀ w2, Calls Tryd.prog 6 #[.agg #[.bool n, .int .i64 d, .int .i64 x]] w2 fun r w' => r = .returned (.agg #[.bool R.ok, .bool R.neg, .int .i64 R.d, .int .i64 R.e]) ∧ Ext w2 w') := CS0
  have CI : Hid (∀ w2, Tens w2 → Calls Tryd.prog 5 #[.agg #[.bool n, .int .i64 d, .int .i64 x]] w2 fun r w' => r = .returned (.agg #[.bool R.ok, .bool R.neg, .int .i64 R.d, .int .i64 R.e]) ∧ Ext w2 w') := CI0
  have CG : Hid (∀ w2, Calls Tryd.prog 7 #[.agg #[.bool n, .int .i64 d, .int .i64 x]] w2 fun r w' => r = .returned (.bool (goodB n d x)) ∧ Ext w2 w') := fun w2 => goodS n d x w2
  clear CS0 CI0 d0 d1
  obtain ⟨Ro, Rn, Rd, Re⟩ := R
  simp only at CS CI hok
  obtain ⟨G, hG⟩ : ∃ G, goodB n d x = G := ⟨_, rfl⟩
  rw [hG] at hok CG
  subst hok
  clear hG
  have A1 := vec_made w1 [.bool n, .int .i64 d, .int .i64 x] 24
  change Vec (w1.alloc (.cells #[.bool n, .int .i64 d, .int .i64 x] 24)) _ _ at A1
  have Y1 := x1 w1 (.cells #[.bool n, .int .i64 d, .int .i64 x] 24)
  obtain ⟨a0, a1, a2⟩ := A1.three
  have CI := CI.out _ (HT.out _ (xt e1 Y1))
  have X1 := xt e1 Y1
  go_wp2_with fail
  refine CI.mono ?_
  clear CI a0 a1 a2
  rintro e w2 ⟨rfl, e2⟩
  have A2 := A1.later e2
  have l12 : w1.heap.size < w2.heap.size := World.block_lt_of_cell? _ _ A2.three.1
  have B2 := vec_made w2 [.bool (G && !n), .bool Rn, .int .i64 Rd, .int .i64 Re] 27
  change Vec (w2.alloc (.cells #[.bool (G && !n), .bool Rn, .int .i64 Rd, .int .i64 Re] 27)) _ _ at B2
  have Y2 := x1 w2 (.cells #[.bool (G && !n), .bool Rn, .int .i64 Rd, .int .i64 Re] 27)
  have A2 := A2.later Y2
  have X2 := xt X1 (xt e2 Y2)
  clear A1 X1 Y1 e1 e2 Y2
  go_upto_region 5 with fail
  go_cut [32] (fun v wc => v = .bool false ∧ Ext (w2.alloc (.cells #[.bool (G && !n), .bool Rn, .int .i64 Rd, .int .i64 Re] 27)) wc)
  case first =>
    clear CA HT
    obtain ⟨w3, hw3⟩ : ∃ u, w2.alloc (.cells #[.bool (G && !n), .bool Rn, .int .i64 Rd, .int .i64 Re] 27) = u := ⟨_, rfl⟩
    rw [hw3] at A2 B2 X2 ⊢
    have HAB : Hid (Vec w3 w1.heap.size [.bool n, .int .i64 d, .int .i64 x] ∧ Vec w3 w2.heap.size [.bool (G && !n), .bool Rn, .int .i64 Rd, .int .i64 Re]) := ⟨A2, B2⟩
    clear A2 B2
    cases G <;> cases n
    all_goals simp only [Bool.false_and, Bool.true_and, Bool.not_true, Bool.not_false] at HAB CS ⊢
    · obtain ⟨a0, a1, a2⟩ := HAB.out.1.three
      obtain ⟨b0, b1, b2, b3⟩ := HAB.out.2.four
      first | (go_region_with (first
        | (go_at_call 6; refine (CS.out _).mono ?_; rintro e w7 ⟨rfl, e7⟩; have Y7 : Ext w3 w7 := (by first | exact e7 | exact xt (xd (xr _)) e7); obtain ⟨k0, k1, k2⟩ := (HAB.out.1.later Y7).three; obtain ⟨j0, j1, j2, j3⟩ := (HAB.out.2.later Y7).four)
        | (go_at_call 7; refine (CG.out _).mono ?_; rintro e w8 ⟨rfl, e8⟩; have Y8 : Ext w3 w8 := (by first | exact xt Y7 e8 | exact xt (xd Y7) e8); obtain ⟨m0, m1, m2⟩ := (HAB.out.1.later Y8).three; obtain ⟨q0, q1, q2, q3⟩ := (HAB.out.2.later Y8).four))) | fail
      all_goals go_wp2_with fail
      all_goals
        go_meet
        case rel => rw [hw3]; exact ⟨rfl, by first | exact Y8 | exact xd Y8⟩
    · obtain ⟨a0, a1, a2⟩ := HAB.out.1.three
      obtain ⟨b0, b1, b2, b3⟩ := HAB.out.2.four
      first | (go_region_with (first
        | (go_at_call 6; refine (CS.out _).mono ?_; rintro e w7 ⟨rfl, e7⟩; have Y7 : Ext w3 w7 := (by first | exact e7 | exact xt (xd (xr _)) e7); obtain ⟨k0, k1, k2⟩ := (HAB.out.1.later Y7).three; obtain ⟨j0, j1, j2, j3⟩ := (HAB.out.2.later Y7).four)
        | (go_at_call 7; refine (CG.out _).mono ?_; rintro e w8 ⟨rfl, e8⟩; have Y8 : Ext w3 w8 := (by first | exact xt Y7 e8 | exact xt (xd Y7) e8); obtain ⟨m0, m1, m2⟩ := (HAB.out.1.later Y8).three; obtain ⟨q0, q1, q2, q3⟩ := (HAB.out.2.later Y8).four))) | fail
      all_goals go_wp2_with fail
      all_goals
        go_meet
        case rel => rw [hw3]; exact ⟨rfl, by first | exact Y8 | exact xd Y8⟩
    · obtain ⟨a0, a1, a2⟩ := HAB.out.1.three
      obtain ⟨b0, b1, b2, b3⟩ := HAB.out.2.four
      go_region_held3 (fun w' => w'.cell? ⟨w1.heap.size, 0, none⟩ = some (.bool false) ∧ w'.cell? ⟨w1.heap.size, 1, none⟩ = some (.int .i64 d) ∧ w'.cell? ⟨w1.heap.size, 2, none⟩ = some (.int .i64 x) ∧ w'.cell? ⟨w2.heap.size, 0, none⟩ = some (.bool true) ∧ w'.cell? ⟨w2.heap.size, 1, none⟩ = some (.bool Rn) ∧ w'.cell? ⟨w2.heap.size, 2, none⟩ = some (.int .i64 Rd) ∧ w'.cell? ⟨w2.heap.size, 3, none⟩ = some (.int .i64 Re)) (go_keep) (first
        | (go_at_call 6; refine (CS.out _).mono ?_; rintro e w7 ⟨rfl, e7⟩; have Y7 : Ext w3 w7 := (by first | exact e7 | exact xt (xd (xr _)) e7); obtain ⟨k0, k1, k2⟩ := (HAB.out.1.later Y7).three; obtain ⟨j0, j1, j2, j3⟩ := (HAB.out.2.later Y7).four)
        | (go_at_call 7; refine (CG.out _).mono ?_; rintro e w8 ⟨rfl, e8⟩; have Y8 : Ext w3 w8 := (by first | exact xt Y7 e8 | exact xt (xd Y7) e8); obtain ⟨m0, m1, m2⟩ := (HAB.out.1.later Y8).three; obtain ⟨q0, q1, q2, q3⟩ := (HAB.out.2.later Y8).four))
      all_goals go_wp2_with fail
      all_goals
        go_meet
        case rel => rw [hw3]; exact ⟨rfl, by first | exact Y8 | exact xd Y8⟩
    · obtain ⟨a0, a1, a2⟩ := HAB.out.1.three
      obtain ⟨b0, b1, b2, b3⟩ := HAB.out.2.four
      go_region_held3 (fun w' => w'.cell? ⟨w1.heap.size, 0, none⟩ = some (.bool true) ∧ w'.cell? ⟨w1.heap.size, 1, none⟩ = some (.int .i64 d) ∧ w'.cell? ⟨w1.heap.size, 2, none⟩ = some (.int .i64 x) ∧ w'.cell? ⟨w2.heap.size, 0, none⟩ = some (.bool false) ∧ w'.cell? ⟨w2.heap.size, 1, none⟩ = some (.bool Rn) ∧ w'.cell? ⟨w2.heap.size, 2, none⟩ = some (.int .i64 Rd) ∧ w'.cell? ⟨w2.heap.size, 3, none⟩ = some (.int .i64 Re)) (go_keep) (first
        | (go_at_call 6; refine (CS.out _).mono ?_; rintro e w7 ⟨rfl, e7⟩; have Y7 : Ext w3 w7 := (by first | exact e7 | exact xt (xd (xr _)) e7); obtain ⟨k0, k1, k2⟩ := (HAB.out.1.later Y7).three; obtain ⟨j0, j1, j2, j3⟩ := (HAB.out.2.later Y7).four)
        | (go_at_call 7; refine (CG.out _).mono ?_; rintro e w8 ⟨rfl, e8⟩; have Y8 : Ext w3 w8 := (by first | exact xt Y7 e8 | exact xt (xd Y7) e8); obtain ⟨m0, m1, m2⟩ := (HAB.out.1.later Y8).three; obtain ⟨q0, q1, q2, q3⟩ := (HAB.out.2.later Y8).four))
      all_goals go_wp2_with fail
      all_goals
        go_meet
        case rel => rw [hw3]; exact ⟨rfl, by first | exact Y8 | exact xd Y8⟩
  case rest =>
    obtain ⟨rfl, x2⟩ := hcut
    rename World => w3
    have X3 := xt X2 x2
    clear A2 B2 X2 x2 CS CG l12
    have CA := CA.out w3 X3
    go_wp2_with fail
    refine CA.mono ?_
    clear CA
    rintro e w4 ⟨⟨n, d, x, m, rfl, d0, d1, m0, m1⟩, e4⟩
    obtain ⟨R, hR⟩ : ∃ R, powR n d x m = R := ⟨_, rfl⟩
    have SP : Hid (R.ok = true → 1 ≤ m → m ≤ 12 → d ≤ 9 → (stepsR ⟨true, n, d, x⟩ m.toNat).neg = R.neg ∧ (stepsR ⟨true, n, d, x⟩ m.toNat).d = R.d ∧ (stepsR ⟨true, n, d, x⟩ m.toNat).e = R.e) := fun h1 h2 h3 h4 => by rw [← hR] at h1 ⊢; exact steps_pow h1 h2 h3 h4
    have CS : Hid (∀ w2, Calls Tryd.prog 10 #[.agg #[.bool n, .int .i64 d, .int .i64 x], .int .i64 m] w2 fun r w' => r = .returned (.agg #[.bool R.ok, .bool R.neg, .int .i64 R.d, .int .i64 R.e]) ∧ Ext w2 w') := fun w2 => by rw [← hR]; exact powS' n d x m w2
    have CI : Hid (∀ w2, Tens w2 → Calls Tryd.prog 9 #[.agg #[.bool n, .int .i64 d, .int .i64 x], .int .i64 m] w2 fun r w' => r = .returned (.agg #[.bool R.ok, .bool R.neg, .int .i64 R.d, .int .i64 R.e]) ∧ Ext w2 w') := fun w2 h => by rw [← hR]; exact powI n d x m w2 (by omega) (by omega) h
    obtain ⟨Ro, Rn, Rd, Re⟩ := R
    simp only at CS CI SP
    clear hR
    have A1 := vec_made w4 [.bool n, .int .i64 d, .int .i64 x] 24
    change Vec (w4.alloc (.cells #[.bool n, .int .i64 d, .int .i64 x] 24)) _ _ at A1
    have Y1 := x1 w4 (.cells #[.bool n, .int .i64 d, .int .i64 x] 24)
    obtain ⟨a0, a1, a2⟩ := A1.three
    have X4 := xt X3 (xt e4 Y1)
    have CI := CI.out _ (HT.out _ X4)
    go_wp2_with fail
    refine CI.mono ?_
    clear CI a0 a1 a2
    rintro e w5 ⟨rfl, e5⟩
    have A2 := A1.later e5
    have l45 : w4.heap.size < w5.heap.size := World.block_lt_of_cell? _ _ A2.three.1
    have B2 := vec_made w5 [.bool Ro, .bool Rn, .int .i64 Rd, .int .i64 Re] 27
    change Vec (w5.alloc (.cells #[.bool Ro, .bool Rn, .int .i64 Rd, .int .i64 Re] 27)) _ _ at B2
    have Y2 := x1 w5 (.cells #[.bool Ro, .bool Rn, .int .i64 Rd, .int .i64 Re] 27)
    have A2 := A2.later Y2
    have X5 := xt X4 (xt e5 Y2)
    clear A1 X3 X4 Y1 e4 e5 Y2
    go_upto_region 9 with fail
    go_cut [45] (fun v wc => v = .bool false ∧ Ext (w5.alloc (.cells #[.bool Ro, .bool Rn, .int .i64 Rd, .int .i64 Re] 27)) wc)
    case first =>
      clear HT SP
      obtain ⟨w6, hw6⟩ : ∃ u, w5.alloc (.cells #[.bool Ro, .bool Rn, .int .i64 Rd, .int .i64 Re] 27) = u := ⟨_, rfl⟩
      rw [hw6] at A2 B2 X5 ⊢
      have HAB : Hid (Vec w6 w4.heap.size [.bool n, .int .i64 d, .int .i64 x] ∧ Vec w6 w5.heap.size [.bool Ro, .bool Rn, .int .i64 Rd, .int .i64 Re]) := ⟨A2, B2⟩
      obtain ⟨a0, a1, a2⟩ := A2.three
      obtain ⟨b0, b1, b2, b3⟩ := B2.four
      clear A2 B2
      go_region_held3 (fun w' => w'.cell? ⟨w4.heap.size, 0, none⟩ = some (.bool n) ∧ w'.cell? ⟨w4.heap.size, 1, none⟩ = some (.int .i64 d) ∧ w'.cell? ⟨w4.heap.size, 2, none⟩ = some (.int .i64 x) ∧ w'.cell? ⟨w5.heap.size, 0, none⟩ = some (.bool Ro) ∧ w'.cell? ⟨w5.heap.size, 1, none⟩ = some (.bool Rn) ∧ w'.cell? ⟨w5.heap.size, 2, none⟩ = some (.int .i64 Rd) ∧ w'.cell? ⟨w5.heap.size, 3, none⟩ = some (.int .i64 Re)) (go_keep) (first
        | (go_at_call 10; refine (CS.out _).mono ?_; rintro e w7 ⟨rfl, e7⟩; have Y7 : Ext w6 w7 := (by first | exact e7 | exact xt (xd (xr _)) e7); obtain ⟨k0, k1, k2⟩ := (HAB.out.1.later Y7).three; obtain ⟨j0, j1, j2, j3⟩ := (HAB.out.2.later Y7).four))
      all_goals go_wp2_with fail
      all_goals
        go_meet
        case rel => rw [hw6]; exact ⟨rfl, by first | exact Y7 | exact xd Y7⟩
    case rest =>
      obtain ⟨rfl, x5⟩ := hcut
      rename World => w6
      have A3 := A2.later x5
      have B3 := B2.later x5
      have X6 := xt X5 x5
      clear A2 B2 X5 x5 CS
      obtain ⟨a0, a1, a2⟩ := A3.three
      obtain ⟨b0, b1, b2, b3⟩ := B3.four
      cases Ro
      · go_wp2_with fail
        go_ret
        exact ⟨rfl, X6⟩
      · by_cases hm1 : m < 1
        · have fm : decide (m < 1) = true := decide_eq_true hm1
          go_wp2_with fail
          go_ret
          exact ⟨rfl, X6⟩
        · by_cases hm2 : m > 12
          · have fm : decide (m < 1) = false := decide_eq_false hm1
            have fm2 : decide (m > 12) = true := decide_eq_true hm2
            go_wp2_with fail
            go_ret
            exact ⟨rfl, X6⟩
          · by_cases hd9 : d > 9
            · have fm : decide (m < 1) = false := decide_eq_false hm1
              have fm2 : decide (m > 12) = false := decide_eq_false hm2
              have fd : decide (d > 9) = true := decide_eq_true hd9
              go_wp2_with fail
              go_ret
              exact ⟨rfl, X6⟩
            · have fm : decide (m < 1) = false := decide_eq_false hm1
              have fm2 : decide (m > 12) = false := decide_eq_false hm2
              have fd : decide (d > 9) = false := decide_eq_false hd9
              have SQ : Hid ((stepsR ⟨true, n, d, x⟩ m.toNat).neg = Rn ∧ (stepsR ⟨true, n, d, x⟩ m.toNat).d = Rd ∧ (stepsR ⟨true, n, d, x⟩ m.toNat).e = Re) := SP.out rfl (by omega) (by omega) (by omega)
              clear SP
              have l56 : w5.heap.size < w6.heap.size := World.block_lt_of_cell? _ _ b0
              have Y6 := x1 w6 (.cells #[.bool false, .int .i64 1, .int .i64 0] 24)
              have Z6 := vec_made w6 [.bool false, .int .i64 1, .int .i64 0] 24
              change Vec (w6.alloc (.cells #[.bool false, .int .i64 1, .int .i64 0] 24)) _ _ at Z6
              have A3 := A3.later Y6
              have B3 := B3.later Y6
              have HX6 : Hid (Ext w w6) := X6
              have X6 := xt X6 Y6
              have HA : Hid (Vec (w6.alloc (.cells #[.bool false, .int .i64 1, .int .i64 0] 24)) w6.heap.size [.bool false, .int .i64 1, .int .i64 0] ∧ Vec (w6.alloc (.cells #[.bool false, .int .i64 1, .int .i64 0] 24)) w4.heap.size [.bool n, .int .i64 d, .int .i64 x] ∧ Vec (w6.alloc (.cells #[.bool false, .int .i64 1, .int .i64 0] 24)) w5.heap.size [.bool true, .bool Rn, .int .i64 Rd, .int .i64 Re]) := ⟨Z6, A3, B3⟩
              clear Z6 A3 B3 Y6
              go_wp2_with fail
              clear a0 a1 a2 b0 b1 b2 b3 fm fm2 fd
              have Hsz : Hid (w.heap.size ≤ w6.heap.size) := by have := X6.size; simp at this; unfold Hid; have := HX6.out.size; omega
              go_loopw [9] (fun s wr => ∃ i : Nat, (i : Int) ≤ m ∧ s = .int .i64 i ∧ Hid (Vec wr w6.heap.size [.bool (stepsR ⟨true, n, d, x⟩ i).neg, .int .i64 (stepsR ⟨true, n, d, x⟩ i).d, .int .i64 (stepsR ⟨true, n, d, x⟩ i).e] ∧ Vec wr w4.heap.size [.bool n, .int .i64 d, .int .i64 x] ∧ Vec wr w5.heap.size [.bool true, .bool Rn, .int .i64 Rd, .int .i64 Re]) ∧ Ext w wr) (fun s _ => m.toNat - (intOf s).toNat)
              case atStart => exact ⟨0, by omega, rfl, HA, X6⟩
              case round =>
                obtain ⟨i, hi, rfl, HV, X⟩ := hrel
                obtain ⟨VY, VA, VB⟩ := HV.out
                clear HV HA
                by_cases him : (i : Int) < m
                · have fi : decide ((i : Int) < m) = true := decide_eq_true him
                  obtain ⟨sd0, sd1⟩ := steps_d ⟨true, n, d, x⟩ i
                  obtain ⟨S, hS⟩ : ∃ S, stepsR ⟨true, n, d, x⟩ i = S := ⟨_, rfl⟩
                  rw [hS] at VY sd0 sd1
                  obtain ⟨T, hT⟩ : ∃ T, mulR S.neg S.d S.e n d x = T := ⟨_, rfl⟩
                  have HN : Hid (stepsR ⟨true, n, d, x⟩ (i + 1) = T) := by
                    show stepsR _ _ = _
                    rw [stepsR, hS, ← hT]
                    rfl
                  have CM := mulI S.neg n S.d S.e d x wr (by omega) (by omega) (by omega) (by omega) (HT.out wr X)
                  rw [hT] at CM
                  obtain ⟨So, Sn, Sd, Se⟩ := S
                  obtain ⟨To, Tn, Td, Te⟩ := T
                  simp only at VY sd0 sd1 CM
                  obtain ⟨y0, y1, y2⟩ := VY.three
                  obtain ⟨c0, c1, c2⟩ := VA.three
                  clear hS hT sd0 sd1
                  go_wp2_with fail
                  refine CM.mono ?_
                  clear CM y0 y1 y2 c0 c1 c2
                  rintro e w7 ⟨rfl, e7⟩
                  have VY := VY.later e7
                  have VA := VA.later e7
                  have VB := VB.later e7
                  have X7 := xt X e7
                  have FD := fun W => field_dec To Tn Td Te W
                  obtain ⟨y0, y1, y2⟩ := VY.three
                  obtain ⟨f0, f1, f2⟩ := VY.threeF
                  obtain ⟨wz, hz⟩ : ∃ wz, ((w7.setCell ⟨w6.heap.size, 0, none⟩ (.bool Tn)).setCell ⟨w6.heap.size, 1, none⟩ (.int .i64 Td)).setCell ⟨w6.heap.size, 2, none⟩ (.int .i64 Te) = wz := ⟨_, rfl⟩
                  have HZ : Hid ((Vec wz w6.heap.size [.bool Tn, .int .i64 Td, .int .i64 Te] ∧ Vec wz w4.heap.size [.bool n, .int .i64 d, .int .i64 x] ∧ Vec wz w5.heap.size [.bool true, .bool Rn, .int .i64 Rd, .int .i64 Re]) ∧ Ext w wz) := by
                    rw [← hz]
                    exact ⟨⟨((VY.put 0 (by simp) (.bool Tn)).put 1 (by simp) (.int .i64 Td)).put 2 (by simp) (.int .i64 Te), ((VA.far (by show w6.heap.size ≠ w4.heap.size; omega) _).far (by show w6.heap.size ≠ w4.heap.size; omega) _).far (by show w6.heap.size ≠ w4.heap.size; omega) _, ((VB.far (by show w6.heap.size ≠ w5.heap.size; omega) _).far (by show w6.heap.size ≠ w5.heap.size; omega) _).far (by show w6.heap.size ≠ w5.heap.size; omega) _⟩, xset (p := ⟨w6.heap.size, 2, none⟩) (xset (p := ⟨w6.heap.size, 1, none⟩) (xset (p := ⟨w6.heap.size, 0, none⟩) X7 Hsz.out _) Hsz.out _) Hsz.out _⟩
                  clear VY VA VB X7 X
                  go_wp2_with fail
                  go_roundw
                  case rel =>
                    obtain ⟨⟨z1, z2, z3⟩, z4⟩ := HZ.out
                    refine ⟨i + 1, by omega, by go_num, ⟨?_, z2, z3⟩, z4⟩
                    rw [HN.out]
                    exact z1
                  case measure => simp [intOf]; omega
                · have fi : decide ((i : Int) < m) = false := decide_eq_false him
                  obtain ⟨s1, s2, s3⟩ := SQ.out
                  have him2 : i = m.toNat := by omega
                  rw [him2, s1, s2, s3] at VY
                  obtain ⟨y0, y1, y2⟩ := VY.three
                  obtain ⟨b0, b1, b2, b3⟩ := VB.four
                  clear SQ s1 s2 s3 VY VA VB
                  go_wp2_with fail
                  go_ret
                  exact ⟨rfl, X⟩

theorem lawRoots (v : Value) (n : Nat) (w : World) (hc : CodeIn w w.heap.size v n) (hT : Tens w) :
    Calls Tryd.prog 3 #[v] w fun e w' => e = .returned (.bool true) ∧ Ext w w' := by
  have hv : ∃ p cap, v = .slice p n cap := by
    rcases hc with ⟨⟨p, cap, h⟩, rfl⟩ | ⟨pb, po, cap, _, h, _⟩
    · exact ⟨p, cap, h⟩
    · exact ⟨_, cap, h⟩
  obtain ⟨p, cap, rfl⟩ := hv
  by_cases hb : n ≤ 1048576
  · exact lawRoots_p p n cap w hc hb hT
  · exact lawRoots_big p n cap w hb

end Go.Proofs.YtpeobfkenekmhaaDoor

