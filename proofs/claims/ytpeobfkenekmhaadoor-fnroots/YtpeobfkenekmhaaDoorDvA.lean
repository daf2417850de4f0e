/-
  DvI, DvR, DvS in one.
-/
import Derived.Test.YtpeobfkenekmhaaDoorMuI
import Derived.Test.YtpeobfkenekmhaaDoorWideE
import Derived.Test.YtpeobfkenekmhaaDoorDivZ
import Derived.Test.YtpeobfkenekmhaaDoorMg14
import Derived.Test.YtpeobfkenekmhaaDoorMg32
import Derived.Test.YtpeobfkenekmhaaDoorMuS
namespace Go.Proofs.YtpeobfkenekmhaaDoor
open Go.RowKit

/-- What DecDiv answers. -/
def quoR (na : Bool) (A : Nat) (ea : Int) (nb : Bool) (B : Nat) (eb : Int) : DR := putR (na != nb) (A * 10 ^ 32 / B) (ea - eb - 32) (decide (A * 10 ^ 32 % B ≠ 0))
def divR (na : Bool) (da ea : Int) (nb : Bool) (db eb : Int) : DR := if (goodB na da ea && goodB nb db eb && !(db == 0)) = true then quoR na da.toNat ea nb db.toNat eb else badR

theorem quo_big {A B u k : Nat} (h : 10 ^ (k + 15) ≤ A * 10 ^ u) (hB : 0 < B) (hB1 : B < 1000000000000000) : k < nd (A * 10 ^ u / B) := by
  apply nd_ge
  refine (Nat.le_div_iff_mul_le hB).2 ?_
  have e15 : (10 : Nat) ^ 15 = 1000000000000000 := by decide
  have h1 : 10 ^ k * B ≤ 10 ^ k * 10 ^ 15 := Nat.mul_le_mul_left _ (by omega)
  rw [← Nat.pow_add] at h1
  omega
theorem quo_up {na nb : Bool} {A B : Nat} {ea eb : Int} (hA1 : A < 1000000000000000) (hB : 0 < B) (hB1 : B < 1000000000000000) :
    putR (na != nb) (A * 10 ^ (38 - nd A) / B) (ea - eb - ((38 - nd A : Nat) : Int)) (decide (A * 10 ^ (38 - nd A) % B ≠ 0)) = quoR na A ea nb B eb := by
  unfold quoR
  by_cases h0 : A = 0
  · subst h0
    simp only [Nat.zero_mul, Nat.zero_div, Nat.zero_mod]
    unfold putR fitR
    simp [nd_zero]
  · have n15 : nd A ≤ 15 := nd_le (by omega)
    have n1 : 0 < nd A := by rw [nd_pos h0]; omega
    have hup : nd (A * 10 ^ (38 - nd A)) = 38 := by rw [nd_mul A _ h0]; omega
    by_cases hle : 38 - nd A ≤ 32
    · have := put_div (na != nb) A B (38 - nd A) 32 (ea - eb) (quo_big (k := 15) (Nat.le_trans (pow10_le (by omega)) (nd_lt (k := 37) (by omega))) hB hB1) hle
      exact this.symm
    · have h32 : 10 ^ (15 + 15) ≤ A * 10 ^ 32 := by
        have : nd (A * 10 ^ 32) = nd A + 32 := nd_mul A 32 h0
        exact nd_lt (by omega)
      exact put_div (na != nb) A B 32 (38 - nd A) (ea - eb) (quo_big h32 hB hB1) (by omega)

set_option maxRecDepth 4000 in
set_option maxHeartbeats 4000000 in
theorem divI_good (na nb : Bool) (A B : Nat) (ea eb : Int) (w : World) (ga : goodB na A ea = true) (gb : goodB nb B eb = true) (hB : B ≠ 0) (hT : Tens w) :
    Calls Tryd.prog 32 #[.agg #[.bool na, .int .i64 A, .int .i64 ea], .agg #[.bool nb, .int .i64 B, .int .i64 eb]] w fun r w' => r = .returned (resV (quoR na A ea nb B eb)) ∧ Ext w w' := by
  obtain ⟨R, hR⟩ : ∃ R, quoR na A ea nb B eb = R := ⟨_, rfl⟩
  rw [hR]
  obtain ⟨ga0, ga1, ga2, ga3⟩ := good_bd ga
  obtain ⟨gb0, gb1, gb2, gb3⟩ := good_bd gb
  have X0 := xa (xa (x1 w (.cells #[.bool na, .int .i64 A, .int .i64 ea] 24)) (.cells #[.bool nb, .int .i64 B, .int .i64 eb] 24)) (.cells #[.bool false, .bool false, .int .i64 0, .int .i64 0] 27)
  have Ba := (Box3.made w (.bool na) (.int .i64 A) (.int .i64 ea) 24).later (xa (x1 _ (.cells #[.bool nb, .int .i64 B, .int .i64 eb] 24)) (.cells #[.bool false, .bool false, .int .i64 0, .int .i64 0] 27))
  have Bb := (Box3.made (w.alloc (.cells #[.bool na, .int .i64 A, .int .i64 ea] 24)) (.bool nb) (.int .i64 B) (.int .i64 eb) 24).later (x1 _ (.cells #[.bool false, .bool false, .int .i64 0, .int .i64 0] 27))
  have Br := Box4.made ((w.alloc (.cells #[.bool na, .int .i64 A, .int .i64 ea] 24)).alloc (.cells #[.bool nb, .int .i64 B, .int .i64 eb] 24)) (.bool false) (.bool false) (.int .i64 0) (.int .i64 0) 27
  simp only [World.size_alloc] at Bb Br
  have T := hT.later X0
  have n15 : nd A ≤ 15 := nd_le (by omega)
  obtain ⟨u, hu⟩ : ∃ u : Nat, 38 - nd A = u := ⟨_, rfl⟩
  have hu' : (38 : Int) - (nd A : Int) = (u : Int) := by omega
  obtain ⟨X, hX⟩ : ∃ X : Nat, A * 10 ^ u = X := ⟨_, rfl⟩
  have XB : X < 100000000000000000000000000000000000000 := by
    rw [← hX]
    by_cases h0 : A = 0
    · subst h0; simp
    · have h1 := nd_mul A u h0
      have h2 := (nd_dig (A * 10 ^ u)).1
      have h3 := pow10_le (show nd (A * 10 ^ u) ≤ 38 by omega)
      have := far_pow
      omega
  have HR : Hid (putR (na != nb) (X / B) (ea - (u : Int) - eb) (decide (X % B ≠ 0)) = R) := by
    have := quo_up (na := na) (nb := nb) (A := A) (B := B) (ea := ea) (eb := eb) (by omega) (by omega) (by omega)
    rw [hu, hX, hR, show ea - eb - (u : Int) = ea - (u : Int) - eb by omega] at this
    exact this
  have GA : Hid (∀ w2, Tens w2 → Calls Tryd.prog 16 #[.agg #[.bool na, .int .i64 A, .int .i64 ea]] w2 fun e w' => e = .returned (.bool true) ∧ Ext w2 w') := fun w2 hT => goodI_is true na A ea w2 (by omega) (by omega) hT ga
  have GB : Hid (∀ w2, Tens w2 → Calls Tryd.prog 16 #[.agg #[.bool nb, .int .i64 B, .int .i64 eb]] w2 fun e w' => e = .returned (.bool true) ∧ Ext w2 w') := fun w2 hT => goodI_is true nb B eb w2 (by omega) (by omega) hT gb
  have SZ : Hid (∀ w2, Calls Tryd.prog 17 #[.agg #[.bool na, .int .i64 A, .int .i64 ea]] w2 fun e w' => ∃ v, e = .returned v ∧ WV v A ∧ Ext w2 w') := fun w2 => sizeOf_any na A ea w2 (by omega)
  have LN : Hid (∀ w2 v, WV v A → Tens w2 → Calls Tryd.prog 18 #[v] w2 fun e w' => e = .returned (.int .i64 (nd A)) ∧ Ext w2 w') := fun w2 v hv hT => by
    refine (length_any w2 hv hT).mono ?_
    rintro e w' ⟨k, rfl, hk, _, hx⟩
    rw [hk.nd]
    exact ⟨rfl, hx⟩
  have RA : Hid (∀ w2 v, WV v A → Tens w2 → Calls Tryd.prog 19 #[v, .int .i64 u] w2 fun e w' => ∃ v', e = .returned v' ∧ WV v' X ∧ Ext w2 w') := fun w2 v hv hT => by
    have := raised_any u (by omega) w2 hv hT (by rw [hX]; omega)
    rw [hX] at this
    exact this
  have OV : Hid (∀ w2 v, WV v X → Calls Tryd.prog 59 #[v, .int .u64 B] w2 fun e w' => ∃ h l : Nat, e = .returned (.tuple #[.agg #[.int .u64 h, .int .u64 l], .int .u64 ((X % B : Nat) : Int)]) ∧ WV (.agg #[.int .u64 h, .int .u64 l]) (X / B) ∧ Ext w2 w') := fun w2 v hv => by
    refine (over_any B w2 hv (by omega) (by omega)).mono ?_
    rintro e w' ⟨v', rfl, hv', hx⟩
    have hv'' := hv'
    obtain ⟨h, l, rfl, _⟩ := hv''
    exact ⟨h, l, rfl, hv', hx⟩
  obtain ⟨rs, hrs⟩ : ∃ r : Nat, X % B = r := ⟨_, rfl⟩
  rw [hrs] at OV HR
  have PU : Hid (∀ w2 h l c, Tens w2 → WV (.agg #[.int .u64 h, .int .u64 l]) (X / B) → c = decide (rs ≠ 0) → Calls Tryd.prog 21 #[.bool (na != nb), .agg #[.int .u64 h, .int .u64 l], .int .i64 (ea - (u : Int) - eb), .bool c] w2 fun r w' => r = .returned (resV R) ∧ Ext w2 w') := fun w2 h l c hT hv hc => by
    rw [← HR.out, hc]; exact put_any _ _ _ w2 hv (by omega) (by omega) hT
  have wB : IntKind.u64.wrap (B : Int) = (B : Int) := by rw [IntKind.wrap_u64]; omega
  have u38 : (u : Int) ≤ 38 := by omega
  have hB' : ((B : Int) == 0) = false := by rw [beq_eq_false_iff_ne]; omega
  clear ga gb ga0 ga1 gb0 gb1 hR hX XB HR hu hrs hT hB
  go_enter Tryd.func32, Tryd.ntmps32
  go_upto_region 1 with fail
  obtain ⟨w0, hw0⟩ : ∃ u, ((w.alloc (.cells #[.bool na, .int .i64 A, .int .i64 ea] 24)).alloc (.cells #[.bool nb, .int .i64 B, .int .i64 eb] 24)).alloc (.cells #[.bool false, .bool false, .int .i64 0, .int .i64 0] 27) = u := ⟨_, rfl⟩
  rw [hw0] at X0 Ba Bb Br T ⊢
  clear hw0
  go_cut [20] (fun v wc => v = .bool false ∧ Ext w0 wc)
  case first =>
    obtain ⟨⟨p0, p1, p2⟩, _⟩ := Ba
    go_wp2_with fail
    refine (GA.out _ T).mono ?_
    rintro rr w1 ⟨rfl, x1'⟩
    obtain ⟨⟨q0, q1, q2⟩, _⟩ := Bb.later x1'
    go_wp2_with fail
    refine (GB.out _ (T.later x1')).mono ?_
    rintro rr w2 ⟨rfl, x2'⟩
    obtain ⟨⟨g0, g1, g2⟩, _⟩ := (Bb.later x1').later x2'
    clear q0 q1 q2 p0 p1 p2
    cases nb
    all_goals
      go_wp2_with fail
      go_meet
      case rel => exact ⟨rfl, xt x1' x2'⟩
  case rest =>
    obtain ⟨rfl, x1'⟩ := hcut
    rename World => w1
    replace Ba := Ba.later x1'
    replace Bb := Bb.later x1'
    replace Br := Br.later x1'
    replace T := T.later x1'
    replace X0 := xt X0 x1'
    clear x1' GA GB
    have Ba' := Ba
    obtain ⟨⟨p0, p1, p2⟩, _⟩ := Ba'
    go_wp2_with fail
    refine (SZ.out _).mono ?_
    rintro rr w2 ⟨v2, rfl, hW2, x2'⟩
    go_wp2_with fail
    refine (LN.out _ _ hW2 (T.later x2')).mono ?_
    rintro rr w3 ⟨rfl, x3'⟩
    have X3 := xt x2' x3'
    replace Ba := Ba.later X3
    replace Bb := Bb.later X3
    replace Br := Br.later X3
    replace T := T.later X3
    replace X0 := xt X0 X3
    clear p0 p1 p2 hW2 x2' x3' X3 LN
    have Ba' := Ba
    have Bb' := Bb
    obtain ⟨⟨p0, p1, p2⟩, _⟩ := Ba'
    obtain ⟨⟨p3, p4, p5⟩, _⟩ := Bb'
    go_upto_region 4 with fail
    go_cut [6, 7] (fun v x wc => ∃ b h l : Nat, v = .pointer (some ⟨b, 0, none⟩) ∧ x = .int .u64 rs ∧ Box2 wc b (.int .u64 h) (.int .u64 l) ∧ WV (.agg #[.int .u64 h, .int .u64 l]) (X / B) ∧ Ext w3 wc)
    case first =>
      have ne0 := World.new_ne w3 _ p0
      have ne1 := World.new_ne w3 _ p3
      go_region_held3 (fun w' => (w'.cell? ⟨w.heap.size, 0, none⟩ = some (.bool na) ∧ w'.cell? ⟨w.heap.size, 1, none⟩ = some (.int .i64 A) ∧ w'.cell? ⟨w.heap.size, 2, none⟩ = some (.int .i64 ea)) ∧ w'.cell? ⟨w.heap.size + 1, 0, none⟩ = some (.bool nb) ∧ w'.cell? ⟨w.heap.size + 1, 1, none⟩ = some (.int .i64 B) ∧ w'.cell? ⟨w.heap.size + 1, 2, none⟩ = some (.int .i64 eb)) (go_keep) (first
        | (go_at_call 17; refine (SZ.out _).mono ?_; rintro rr w4 ⟨v4, rfl, h4, e4⟩; have X4 : Ext w3 w4 := xt (by first | exact xd (xr _) | exact xd (xa (xr _) _)) e4; obtain ⟨⟨a40, a41, a42⟩, _⟩ := Ba.later X4; obtain ⟨⟨b40, b41, b42⟩, _⟩ := Bb.later X4; have na4 := World.new_ne w4 _ a40; have nb4 := World.new_ne w4 _ b40; (first | (have RB4 : Box2 w4 w3.heap.size (.int .u64 0) (.int .u64 0) := (by exact (Box2.made w3 (.int .u64 0) (.int .u64 0) 43).later (xt (xd (xr _)) e4))) | skip))
        | (go_at_call 19; refine (RA.out _ _ h4 (T.later (by first | exact X4 | exact xa X4 _))).mono ?_; rintro rr w5 ⟨v5, rfl, h5, e5⟩; have X5 : Ext w3 w5 := xt (by first | exact X4 | exact xa X4 _) e5; obtain ⟨⟨a50, a51, a52⟩, _⟩ := Ba.later X5; obtain ⟨⟨b50, b51, b52⟩, _⟩ := Bb.later X5; have na5 := World.new_ne w5 _ a50; have nb5 := World.new_ne w5 _ b50; (first | (have RB5 : Box2 w5 w3.heap.size (.int .u64 0) (.int .u64 0) := (by exact RB4.later e5)) | (have RB5 : Box2 w5 w4.heap.size (.int .u64 0) (.int .u64 0) := (by exact (Box2.made w4 (.int .u64 0) (.int .u64 0) 43).later e5)) | skip))
        | (go_at_call 59; refine (OV.out _ _ h5).mono ?_; rintro rr w6 ⟨h, l, rfl, h6, e6⟩; have X6 : Ext w3 w6 := xt (by first | exact X5 | exact xa X5 _) e6; obtain ⟨⟨a60, a61, a62⟩, _⟩ := Ba.later X6; obtain ⟨⟨b60, b61, b62⟩, _⟩ := Bb.later X6; have na6 := World.new_ne w6 _ a60; have nb6 := World.new_ne w6 _ b60; (first | (have RB6 : Box2 w6 w3.heap.size (.int .u64 0) (.int .u64 0) := (by exact RB5.later e6)) | (have RB6 : Box2 w6 w4.heap.size (.int .u64 0) (.int .u64 0) := (by exact RB5.later e6)) | (have RB6 : Box2 w6 w5.heap.size (.int .u64 0) (.int .u64 0) := (by exact (Box2.made w5 (.int .u64 0) (.int .u64 0) 43).later e6)) | skip); (try have RK := RB6; try obtain ⟨⟨z0, z1⟩, y0, y1⟩ := RK)))
      all_goals
        have S4 := X4.size
        have S5 := X5.size
        go_wp2_with fail
        go_meet
        case rel =>
          first
          | (refine ⟨w6.heap.size, h, l, rfl, rfl, ?_, h6, ?_⟩; exact Box2.made w6 _ _ _; exact xa X6 _)
          | (refine ⟨w3.heap.size, h, l, rfl, rfl, ?_, h6, ?_⟩; exact RB6.put _ _; exact xset (xset X6 (Nat.le_refl _) _) (Nat.le_refl _) _)
          | (refine ⟨w4.heap.size, h, l, rfl, rfl, ?_, h6, ?_⟩; exact RB6.put _ _; exact xset (xset X6 S4 _) S4 _)
          | (refine ⟨w5.heap.size, h, l, rfl, rfl, ?_, h6, ?_⟩; exact RB6.put _ _; exact xset (xset X6 S5 _) S5 _)
    case rest =>
      obtain ⟨b6, h, l, rfl, rfl, D6, W6, x6⟩ := hcut
      rename World => w6
      replace Ba := Ba.later x6
      replace Bb := Bb.later x6
      replace Br := Br.later x6
      replace T := T.later x6
      replace X0 := xt X0 x6
      clear p0 p1 p2 p3 p4 p5 SZ RA OV
      obtain ⟨⟨p0, p1, p2⟩, _⟩ := Ba
      obtain ⟨⟨p3, p4, p5⟩, _⟩ := Bb
      obtain ⟨⟨q0, q1⟩, _⟩ := D6
      have CR : Hid (((rs : Int) != 0) = decide (rs ≠ 0)) := by
        show _ = _
        rw [Bool.eq_iff_iff, bne_iff_ne, decide_eq_true_eq]
        omega
      go_wp2_with fail
      refine (PU.out _ _ _ _ T W6 CR.out).mono ?_
      rintro rr w7 ⟨rfl, x7⟩
      obtain ⟨⟨m0, m1, m2, m3⟩, n0, n1, n2, n3⟩ := Br.later x7
      clear p0 p1 p2 p3 p4 p5 q0 q1
      go_wp2_with fail
      exact bodyPost_ret (v := resV R) (by simp [results, Tryd.results32, go_sem, m0, m1, m2, m3]) rfl ⟨rfl, xset (xset (xset (xset (xt X0 x7) (by simp only; omega) _) (by simp only; omega) _) (by simp only; omega) _) (by simp only; omega) _⟩

/-- A box of a number that is made, perhaps not filled yet. -/
def Bx (made stored : Bool) (v : Value) (z : Int) (w3 w : World) : Prop :=
  made = true → ∃ b, v = .pointer (some ⟨b, 0, none⟩) ∧ w3.heap.size ≤ b ∧ (stored = true → ZIn w b z) ∧ (stored = false → Box3 w b (.int .i64 0) (.bool false) (.slice none 0 0))
theorem Bx.later {made stored : Bool} {v : Value} {z : Int} {w3 w w' : World} (h : Bx made stored v z w3 w) (hx : Ext w w') : Bx made stored v z w3 w' := fun hm => by
  obtain ⟨b, h1, h2, h3, h4⟩ := h hm
  exact ⟨b, h1, h2, fun h => (h3 h).later hx, fun h => (h4 h).later hx⟩
theorem Bx.zin {made stored : Bool} {v : Value} {z : Int} {w3 w : World} (h : Bx made stored v z w3 w) (hm : made = true) {b : Nat} (hv : v = .pointer (some ⟨b, 0, none⟩)) : ∃ y, ZIn w b y := by
  obtain ⟨b', h1, h2, h3, h4⟩ := h hm
  rw [hv] at h1
  cases h1
  cases stored
  · exact ⟨0, (h4 rfl).zin⟩
  · exact ⟨z, h3 rfl⟩
/-- The other box is filled. -/
theorem Bx.far {made stored : Bool} {v : Value} {z y : Int} {w3 w : World} {k : Nat} (h : Bx made stored v z w3 w) (hk : ZIn w k y) (hne : made = true → v ≠ .pointer (some ⟨k, 0, none⟩)) (c0 c1 c2 : Value) : Bx made stored v z w3 (set3 w k c0 c1 c2) := fun hm => by
  obtain ⟨b, h1, h2, h3, h4⟩ := h hm
  have hb : k ≠ b := fun e => hne hm (by rw [h1, e])
  exact ⟨b, h1, h2, fun h => (h3 h).far hk hb _ _ _, fun h => (h4 h).far3 hb _ _ _⟩
/-- Two numbers that a call gave together. -/
def QR (w : World) (v : Value) (q r : Int) : Prop := ∃ u v', v = .tuple #[u, v'] ∧ ZV w u q ∧ ZV w v' r
theorem QR.to {w w' : World} {v : Value} {q r : Int} (h : QR w v q r) (hz : ∀ v z, ZV w v z → ZV w' v z) : QR w' v q r := by
  obtain ⟨a, b, h1, h2, h3⟩ := h
  exact ⟨a, b, h1, hz _ _ h2, hz _ _ h3⟩

/-- By what has come up. -/
def R3I (VA VB : Value) (zA zB A B T Y Q Rm : Int) (w3 : World) (L : Nat → Bool) (x : Nat → Value) (w : World) : Prop :=
  Ext w3 w ∧ (L 0 = true → x 22 = VA) ∧ (L 1 = true → ZV w (x 23) zA) ∧ (L 2 = true → ZV w (x 24) A) ∧ (L 3 = true → ZV w (x 25) T) ∧ (L 4 = true → ZV w (x 26) Y) ∧ (L 5 = true → x 27 = VB) ∧ (L 6 = true → ZV w (x 28) zB) ∧ (L 7 = true → ZV w (x 29) B) ∧
  (L 8 = true → QR w (x 30) Q Rm) ∧ (L 9 = true → QR w (x 21) Q Rm) ∧ (L 10 = true → ZV w (x 31) Q) ∧ (L 11 = true → ZV w (x 32) Rm) ∧ Bx (L 12) (L 14) (x 5) Q w3 w ∧ Bx (L 13) (L 15) (x 6) Rm w3 w ∧ (L 12 = true → L 13 = true → x 5 ≠ x 6) ∧ (L 14 = true → L 12 = true ∧ L 13 = true) ∧ (L 15 = true → L 12 = true ∧ L 13 = true)
theorem R3I.to {VA VB : Value} {zA zB A B T Y Q Rm : Int} {w3 : World} {L : Nat → Bool} {x : Nat → Value} {w w' : World} (h : R3I VA VB zA zB A B T Y Q Rm w3 L x w) (hx : Ext w3 w') (hz : ∀ v z, ZV w v z → ZV w' v z)
    (h1 : Bx (L 12) (L 14) (x 5) Q w3 w') (h2 : Bx (L 13) (L 15) (x 6) Rm w3 w') : R3I VA VB zA zB A B T Y Q Rm w3 L x w' := by
  obtain ⟨_, f0, f1, f2, f3, f4, f5, f6, f7, f8, f9, f10, f11, _, _, f14, f15, f16⟩ := h
  exact ⟨hx, f0, fun h => hz _ _ (f1 h), fun h => hz _ _ (f2 h), fun h => hz _ _ (f3 h), fun h => hz _ _ (f4 h), f5, fun h => hz _ _ (f6 h), fun h => hz _ _ (f7 h), fun h => (f8 h).to hz, fun h => (f9 h).to hz, fun h => hz _ _ (f10 h), fun h => hz _ _ (f11 h), h1, h2, f14, f15, f16⟩
theorem R3I.later {VA VB : Value} {zA zB A B T Y Q Rm : Int} {w3 : World} {L : Nat → Bool} {x : Nat → Value} {w w' : World} (h : R3I VA VB zA zB A B T Y Q Rm w3 L x w) (hx : Ext w w') : R3I VA VB zA zB A B T Y Q Rm w3 L x w' :=
  h.to (xt h.1 hx) (fun _ _ hz => hz.later hx) (h.2.2.2.2.2.2.2.2.2.2.2.2.2.1.later hx) (h.2.2.2.2.2.2.2.2.2.2.2.2.2.2.1.later hx)
theorem R3I.start {VA VB : Value} {zA zB A B T Y Q Rm : Int} {w3 : World} {x : Nat → Value} : R3I VA VB zA zB A B T Y Q Rm w3 (fun _ => false) x { w3 with drawn := w3.drawn + 1 } := by
  refine ⟨xd (xr _), ?_, ?_, ?_, ?_, ?_, ?_, ?_, ?_, ?_, ?_, ?_, ?_, ?_, ?_, ?_, ?_, ?_⟩
  all_goals (intro h; cases h)

set_option maxRecDepth 4000 in
set_option maxHeartbeats 20000000 in
theorem divS_good (na nb : Bool) (A B : Nat) (ea eb : Int) (w : World) (ga : goodB na A ea = true) (gb : goodB nb B eb = true) (hB : B ≠ 0) :
    Calls Tryd.prog 34 #[.agg #[.bool na, .int .i64 A, .int .i64 ea], .agg #[.bool nb, .int .i64 B, .int .i64 eb]] w fun r w' => r = .returned (resV (quoR na A ea nb B eb)) ∧ Ext w w' := by
  obtain ⟨R, hR⟩ : ∃ R, quoR na A ea nb B eb = R := ⟨_, rfl⟩
  rw [hR]
  obtain ⟨ga0, ga1, ga2, ga3⟩ := good_bd ga
  obtain ⟨gb0, gb1, gb2, gb3⟩ := good_bd gb
  obtain ⟨Y, hY⟩ : ∃ Y : Nat, A * 10 ^ 32 = Y := ⟨_, rfl⟩
  have YB : Y < 100000000000000000000000000000000000000000000000 := by
    rw [← hY]
    have e32 : (10 : Nat) ^ 32 = 100000000000000000000000000000000 := by decide
    rw [e32]
    omega
  obtain ⟨Q, hQ⟩ : ∃ Q : Nat, Y / B = Q := ⟨_, rfl⟩
  obtain ⟨Rm, hRm⟩ : ∃ Q : Nat, Y % B = Q := ⟨_, rfl⟩
  have QY : Q ≤ Y := by rw [← hQ]; exact Nat.div_le_self _ _
  have RmB : Rm < B := by rw [← hRm]; exact Nat.mod_lt _ (by omega)
  have HR : Hid (putR (na != nb) Q (ea - eb - 32) (decide (Rm ≠ 0)) = R) := by rw [← hR]; unfold quoR; rw [hY, hQ, hRm]; rfl
  have e6 : (1000000000 : Int) ^ 6 = 1000000000000000000000000000000000000000000000000000000 := by decide
  have OA : Hid (∀ w2, Calls Tryd.prog 23 #[.agg #[.bool na, .int .i64 A, .int .i64 ea]] w2 fun e w' => ∃ v', e = .returned v' ∧ ZV w' v' (sgn na A) ∧ Ext w2 w') := fun w2 => of_any na A ea w2 (by omega) (by omega)
  have OB : Hid (∀ w2, Calls Tryd.prog 23 #[.agg #[.bool nb, .int .i64 B, .int .i64 eb]] w2 fun e w' => ∃ v', e = .returned v' ∧ ZV w' v' (sgn nb B) ∧ Ext w2 w') := fun w2 => of_any nb B eb w2 (by omega) (by omega)
  have AA : Hid (∀ (w2 : World) (v : Value), ZV w2 v (sgn na A) → Calls Tryd.prog 55 #[v] w2 fun e w' => ∃ v', e = .returned v' ∧ ZV w' v' (A : Int) ∧ Ext w2 w') := fun w2 v hv => by
    have := abs_any w2 hv
    rw [sgn_abs, Int.natAbs_natCast] at this
    exact this
  have AB : Hid (∀ (w2 : World) (v : Value), ZV w2 v (sgn nb B) → Calls Tryd.prog 55 #[v] w2 fun e w' => ∃ v', e = .returned v' ∧ ZV w' v' (B : Int) ∧ Ext w2 w') := fun w2 v hv => by
    have := abs_any w2 hv
    rw [sgn_abs, Int.natAbs_natCast] at this
    exact this
  have TT : Hid (∀ w2, Calls Tryd.prog 27 #[.int .i64 32] w2 fun e w' => ∃ v', e = .returned v' ∧ ZV w' v' (10 ^ 32) ∧ Ext w2 w') := fun w2 => ten_any 32 w2 (by decide)
  have MU : Hid (∀ (w2 : World) (va vb : Value), ZV w2 va (A : Int) → ZV w2 vb (10 ^ 32) → Calls Tryd.prog 24 #[va, vb] w2 fun e w' => ∃ v', e = .returned v' ∧ ZV w' v' (Y : Int) ∧ Ext w2 w') := fun w2 va vb h1 h2 => by
    have e32 : (((10 : Int) ^ 32).natAbs : Int) = 100000000000000000000000000000000 := by decide
    have := mul_any w2 h1 h2 6 (by decide) (by rw [e6]; omega) (by rw [e6, e32]; decide)
    have e : (A : Int) * 10 ^ 32 = (Y : Int) := by rw [← hY, Int.natCast_mul, Int.natCast_pow]; rfl
    rw [e] at this
    exact this
  have DV : Hid (∀ (w2 : World) (va vb : Value), ZV w2 va (Y : Int) → ZV w2 vb (B : Int) → Calls Tryd.prog 51 #[va, vb] w2 fun e w' => ∃ q0 q1 q2 q3 q4 r0 r1 r2 r3 r4, e = .returned (.tuple #[.agg #[.int .i64 q0, .bool q1, .slice q2 q3 q4], .agg #[.int .i64 r0, .bool r1, .slice r2 r3 r4]]) ∧ ZV w' (.agg #[.int .i64 q0, .bool q1, .slice q2 q3 q4]) (Q : Int) ∧ ZV w' (.agg #[.int .i64 r0, .bool r1, .slice r2 r3 r4]) (Rm : Int) ∧ Ext w2 w') := fun w2 va vb h1 h2 => by
    refine (div_any w2 h1 h2 (by omega) (by omega) 6 (by decide) (by rw [e6]; omega) (by rw [e6]; omega)).mono ?_
    rintro e w' ⟨vq, vr, rfl, hq, hr, hx⟩
    rw [← Int.natCast_ediv, hQ] at hq
    rw [← Int.natCast_emod, hRm] at hr
    obtain ⟨q0, q1, q2, q3, q4, rfl⟩ := hq.shape
    obtain ⟨r0, r1, r2, r3, r4, rfl⟩ := hr.shape
    exact ⟨q0, q1, q2, q3, q4, r0, r1, r2, r3, r4, rfl, hq, hr, hx⟩
  have PU : Hid (∀ (w2 : World) (v : Value) (z : Int) (c : Bool), ZV w2 v z → z = sgn (na != nb) Q → c = decide (Rm ≠ 0) → Calls Tryd.prog 28 #[v, .int .i64 (ea - eb - 32), .bool c] w2 fun r w' => r = .returned (resV R) ∧ Ext w2 w') := fun w2 v z c hv hz hc => by
    rw [← HR.out, hc]
    subst hz
    refine put_spec _ _ w2 hv 6 (by decide) (by rw [sgn_abs, e6]; omega) (by omega) (by omega) _ _ (by rw [sgn_abs, Int.natAbs_natCast]) (fun h => ?_)
    cases hn : (na != nb) <;> rw [hn] at h <;> simp [sgn] at h ⊢ <;> omega
  have GA : Hid (∀ w2, Calls Tryd.prog 7 #[.agg #[.bool na, .int .i64 A, .int .i64 ea]] w2 fun e w' => e = .returned (.bool true) ∧ Ext w2 w') := fun w2 => good_is true na A ea w2 ga
  have GB : Hid (∀ w2, Calls Tryd.prog 7 #[.agg #[.bool nb, .int .i64 B, .int .i64 eb]] w2 fun e w' => e = .returned (.bool true) ∧ Ext w2 w') := fun w2 => good_is true nb B eb w2 gb
  have hB' : ((B : Int) == 0) = false := by rw [beq_eq_false_iff_ne]; omega
  have wE : IntKind.i64.wrap (ea - eb) = ea - eb := by rw [IntKind.wrap_i64]; omega
  have wF : IntKind.i64.wrap (ea - eb - 32) = ea - eb - 32 := by rw [IntKind.wrap_i64]; omega
  have X0 := xa (xa (x1 w (.cells #[.bool na, .int .i64 A, .int .i64 ea] 24)) (.cells #[.bool nb, .int .i64 B, .int .i64 eb] 24)) (.cells #[.bool false, .bool false, .int .i64 0, .int .i64 0] 27)
  have Ba := (Box3.made w (.bool na) (.int .i64 A) (.int .i64 ea) 24).later (xa (x1 _ (.cells #[.bool nb, .int .i64 B, .int .i64 eb] 24)) (.cells #[.bool false, .bool false, .int .i64 0, .int .i64 0] 27))
  have Bb := (Box3.made (w.alloc (.cells #[.bool na, .int .i64 A, .int .i64 ea] 24)) (.bool nb) (.int .i64 B) (.int .i64 eb) 24).later (x1 _ (.cells #[.bool false, .bool false, .int .i64 0, .int .i64 0] 27))
  have Br := Box4.made ((w.alloc (.cells #[.bool na, .int .i64 A, .int .i64 ea] 24)).alloc (.cells #[.bool nb, .int .i64 B, .int .i64 eb] 24)) (.bool false) (.bool false) (.int .i64 0) (.int .i64 0) 27
  simp only [World.size_alloc] at Bb Br
  clear ga gb ga0 ga1 gb0 gb1 hR hY YB hQ hRm QY RmB HR e6 hB
  go_enter Tryd.func34, Tryd.ntmps34
  go_upto_region 1 with fail
  obtain ⟨w0, hw0⟩ : ∃ u, ((w.alloc (.cells #[.bool na, .int .i64 A, .int .i64 ea] 24)).alloc (.cells #[.bool nb, .int .i64 B, .int .i64 eb] 24)).alloc (.cells #[.bool false, .bool false, .int .i64 0, .int .i64 0] 27) = u := ⟨_, rfl⟩
  rw [hw0] at X0 Ba Bb Br ⊢
  clear hw0
  go_cut [19] (fun v wc => v = .bool false ∧ Ext w0 wc)
  case first =>
    obtain ⟨⟨p0, p1, p2⟩, _⟩ := Ba
    go_wp2_with fail
    refine (GA.out _).mono ?_
    rintro rr w1 ⟨rfl, x1'⟩
    obtain ⟨⟨q0, q1, q2⟩, _⟩ := Bb.later x1'
    go_wp2_with fail
    refine (GB.out _).mono ?_
    rintro rr w2 ⟨rfl, x2'⟩
    obtain ⟨⟨g0, g1, g2⟩, _⟩ := (Bb.later x1').later x2'
    clear q0 q1 q2 p0 p1 p2
    go_wp2_with fail
    go_meet
    case rel => exact ⟨rfl, xt x1' x2'⟩
  case rest =>
    obtain ⟨rfl, x1'⟩ := hcut
    rename World => w3
    replace Ba := Ba.later x1'
    replace Bb := Bb.later x1'
    replace Br := Br.later x1'
    replace X0 := xt X0 x1'
    clear x1' GA GB
    go_upto_region 3 with fail
    go_cut [5, 6] (fun v x wc => ∃ bq br, v = .pointer (some ⟨bq, 0, none⟩) ∧ x = .pointer (some ⟨br, 0, none⟩) ∧ Two w3 wc bq br (Q : Int) (Rm : Int))
    case first =>
      refine wp_region_letters (fun x : Nat → Value => { tmps := #[(Value.agg #[.bool na, .int .i64 A, .int .i64 ea]), (Value.agg #[.bool nb, .int .i64 B, .int .i64 eb]), Value.pointer (some ⟨w.heap.size, 0, none⟩), Value.pointer (some ⟨w.heap.size + 1, 0, none⟩), Value.pointer (some ⟨w.heap.size + 1 + 1, 0, none⟩), x 5, x 6, u7, u8, u9, u10, u11, u12, u13, u14, u15, u16, u17, u18, Value.bool false, u20, x 21, x 22, x 23, x 24, x 25, x 26, x 27, x 28, x 29, x 30, x 31, x 32, u33, u34, u35, u36, u37, u38, u39, u40, u41, u42, u43, u44, u45, u46, u47, u48, u49, u50], defers := [] }) (R3I (Value.agg #[.bool na, .int .i64 A, .int .i64 ea]) (Value.agg #[.bool nb, .int .i64 B, .int .i64 eb]) (sgn na A) (sgn nb B) A B (10 ^ 32) Y Q Rm w3) rfl (by kernel_rfl) (fun n => if n = 5 then undef else if n = 6 then undef else if n = 21 then u21 else if n = 22 then u22 else if n = 23 then u23 else if n = 24 then u24 else if n = 25 then u25 else if n = 26 then u26 else if n = 27 then u27 else if n = 28 then u28 else if n = 29 then u29 else if n = 30 then u30 else if n = 31 then u31 else if n = 32 then u32 else undef) rfl R3I.start ?_ ?_
      · intro L x wl i o K hK ho hL haf hI
        obtain ⟨X, f0, f1, f2, f3, f4, f5, f6, f7, f8, f9, f10, f11, f12, f13, f14, f15, f16⟩ := id hI
        have Ba' := Ba.later X
        have Bb' := Bb.later X
        clear Ba Bb
        match i, ho, hL, haf, hK with
        | 0, ho, hL, haf, hK =>
          simp only [List.getElem?_toArray, List.getElem?_cons_zero, Option.some.injEq] at ho
          subst ho
          dsimp only
          obtain ⟨⟨p0, p1, p2⟩, _⟩ := Ba'
          have hN := hI
          obtain ⟨Y0, g0, g1, g2, g3, g4, g5, g6, g7, g8, g9, g10, g11, g12, g13, g14, g15, g16⟩ := hN
          go_wp2_with fail
          exact hK (fun n => if n = 22 then (Value.agg #[.bool na, .int .i64 A, .int .i64 ea]) else x n) _ ⟨Y0, (fun _ => rfl), g1, g2, g3, g4, g5, g6, g7, g8, g9, g10, g11, g12, g13, g14, g15, g16⟩
        | 1, ho, hL, haf, hK =>
          simp only [List.getElem?_toArray, List.getElem?_cons_zero, List.getElem?_cons_succ, Option.some.injEq] at ho
          subst ho
          dsimp only
          rw [f0 (haf ⟨0, .data⟩ (by simp) rfl)]
          go_wp2_with fail
          refine (OA.out _).mono ?_
          rintro rr w' ⟨v', rfl, z', E⟩
          have hN := hI.later E
          clear hI
          obtain ⟨Y0, g0, g1, g2, g3, g4, g5, g6, g7, g8, g9, g10, g11, g12, g13, g14, g15, g16⟩ := hN
          go_wp2_with fail
          exact hK (fun n => if n = 23 then v' else if n = 22 then (Value.agg #[.bool na, .int .i64 A, .int .i64 ea]) else x n) _ ⟨Y0, (fun _ => rfl), (fun _ => z'), g2, g3, g4, g5, g6, g7, g8, g9, g10, g11, g12, g13, g14, g15, g16⟩
        | 2, ho, hL, haf, hK =>
          simp only [List.getElem?_toArray, List.getElem?_cons_zero, List.getElem?_cons_succ, Option.some.injEq] at ho
          subst ho
          dsimp only
          go_wp2_with fail
          refine (AA.out _ _ (f1 (haf ⟨1, .data⟩ (by simp) rfl))).mono ?_
          rintro rr w' ⟨v', rfl, z', E⟩
          have hN := hI.later E
          clear hI
          obtain ⟨Y0, g0, g1, g2, g3, g4, g5, g6, g7, g8, g9, g10, g11, g12, g13, g14, g15, g16⟩ := hN
          go_wp2_with fail
          exact hK (fun n => if n = 24 then v' else x n) _ ⟨Y0, g0, g1, (fun _ => z'), g3, g4, g5, g6, g7, g8, g9, g10, g11, g12, g13, g14, g15, g16⟩
        | 3, ho, hL, haf, hK =>
          simp only [List.getElem?_toArray, List.getElem?_cons_zero, List.getElem?_cons_succ, Option.some.injEq] at ho
          subst ho
          dsimp only
          go_wp2_with fail
          refine (TT.out _).mono ?_
          rintro rr w' ⟨v', rfl, z', E⟩
          have hN := hI.later E
          clear hI
          obtain ⟨Y0, g0, g1, g2, g3, g4, g5, g6, g7, g8, g9, g10, g11, g12, g13, g14, g15, g16⟩ := hN
          go_wp2_with fail
          exact hK (fun n => if n = 25 then v' else x n) _ ⟨Y0, g0, g1, g2, (fun _ => z'), g4, g5, g6, g7, g8, g9, g10, g11, g12, g13, g14, g15, g16⟩
        | 4, ho, hL, haf, hK =>
          simp only [List.getElem?_toArray, List.getElem?_cons_zero, List.getElem?_cons_succ, Option.some.injEq] at ho
          subst ho
          dsimp only
          go_wp2_with fail
          refine (MU.out _ _ _ (f2 (haf ⟨2, .data⟩ (by simp) rfl)) (f3 (haf ⟨3, .data⟩ (by simp) rfl))).mono ?_
          rintro rr w' ⟨v', rfl, z', E⟩
          have hN := hI.later E
          clear hI
          obtain ⟨Y0, g0, g1, g2, g3, g4, g5, g6, g7, g8, g9, g10, g11, g12, g13, g14, g15, g16⟩ := hN
          go_wp2_with fail
          exact hK (fun n => if n = 26 then v' else x n) _ ⟨Y0, g0, g1, g2, g3, (fun _ => z'), g5, g6, g7, g8, g9, g10, g11, g12, g13, g14, g15, g16⟩
        | 5, ho, hL, haf, hK =>
          simp only [List.getElem?_toArray, List.getElem?_cons_zero, List.getElem?_cons_succ, Option.some.injEq] at ho
          subst ho
          dsimp only
          obtain ⟨⟨p0, p1, p2⟩, _⟩ := Bb'
          have hN := hI
          obtain ⟨Y0, g0, g1, g2, g3, g4, g5, g6, g7, g8, g9, g10, g11, g12, g13, g14, g15, g16⟩ := hN
          go_wp2_with fail
          exact hK (fun n => if n = 27 then (Value.agg #[.bool nb, .int .i64 B, .int .i64 eb]) else x n) _ ⟨Y0, g0, g1, g2, g3, g4, (fun _ => rfl), g6, g7, g8, g9, g10, g11, g12, g13, g14, g15, g16⟩
        | 6, ho, hL, haf, hK =>
          simp only [List.getElem?_toArray, List.getElem?_cons_zero, List.getElem?_cons_succ, Option.some.injEq] at ho
          subst ho
          dsimp only
          rw [f5 (haf ⟨5, .data⟩ (by simp) rfl)]
          go_wp2_with fail
          refine (OB.out _).mono ?_
          rintro rr w' ⟨v', rfl, z', E⟩
          have hN := hI.later E
          clear hI
          obtain ⟨Y0, g0, g1, g2, g3, g4, g5, g6, g7, g8, g9, g10, g11, g12, g13, g14, g15, g16⟩ := hN
          go_wp2_with fail
          exact hK (fun n => if n = 28 then v' else if n = 27 then (Value.agg #[.bool nb, .int .i64 B, .int .i64 eb]) else x n) _ ⟨Y0, g0, g1, g2, g3, g4, (fun _ => rfl), (fun _ => z'), g7, g8, g9, g10, g11, g12, g13, g14, g15, g16⟩
        | 7, ho, hL, haf, hK =>
          simp only [List.getElem?_toArray, List.getElem?_cons_zero, List.getElem?_cons_succ, Option.some.injEq] at ho
          subst ho
          dsimp only
          go_wp2_with fail
          refine (AB.out _ _ (f6 (haf ⟨6, .data⟩ (by simp) rfl))).mono ?_
          rintro rr w' ⟨v', rfl, z', E⟩
          have hN := hI.later E
          clear hI
          obtain ⟨Y0, g0, g1, g2, g3, g4, g5, g6, g7, g8, g9, g10, g11, g12, g13, g14, g15, g16⟩ := hN
          go_wp2_with fail
          exact hK (fun n => if n = 29 then v' else x n) _ ⟨Y0, g0, g1, g2, g3, g4, g5, g6, (fun _ => z'), g8, g9, g10, g11, g12, g13, g14, g15, g16⟩
        | 8, ho, hL, haf, hK =>
          simp only [List.getElem?_toArray, List.getElem?_cons_zero, List.getElem?_cons_succ, Option.some.injEq] at ho
          subst ho
          dsimp only
          go_wp2_with fail
          refine (DV.out _ _ _ (f4 (haf ⟨4, .data⟩ (by simp) rfl)) (f7 (haf ⟨7, .data⟩ (by simp) rfl))).mono ?_
          rintro rr w' ⟨q0, q1, q2, q3, q4, r0, r1, r2, r3, r4, rfl, hq, hr, E⟩
          have hN := hI.later E
          clear hI
          obtain ⟨Y0, g0, g1, g2, g3, g4, g5, g6, g7, g8, g9, g10, g11, g12, g13, g14, g15, g16⟩ := hN
          go_wp2_with fail
          exact hK (fun n => if n = 30 then (.tuple #[.agg #[.int .i64 q0, .bool q1, .slice q2 q3 q4], .agg #[.int .i64 r0, .bool r1, .slice r2 r3 r4]]) else x n) _ ⟨Y0, g0, g1, g2, g3, g4, g5, g6, g7, (fun _ => ⟨_, _, rfl, hq, hr⟩), g9, g10, g11, g12, g13, g14, g15, g16⟩
        | 9, ho, hL, haf, hK =>
          simp only [List.getElem?_toArray, List.getElem?_cons_zero, List.getElem?_cons_succ, Option.some.injEq] at ho
          subst ho
          dsimp only
          have f8' := f8 (haf ⟨8, .data⟩ (by simp) rfl)
          have hN := hI
          obtain ⟨Y0, g0, g1, g2, g3, g4, g5, g6, g7, g8, g9, g10, g11, g12, g13, g14, g15, g16⟩ := hN
          go_wp2_with fail
          exact hK (fun n => if n = 21 then x 30 else x n) _ ⟨Y0, g0, g1, g2, g3, g4, g5, g6, g7, g8, (fun _ => f8'), g10, g11, g12, g13, g14, g15, g16⟩
        | 10, ho, hL, haf, hK =>
          simp only [List.getElem?_toArray, List.getElem?_cons_zero, List.getElem?_cons_succ, Option.some.injEq] at ho
          subst ho
          dsimp only
          obtain ⟨uq, ur, e21, hq, hr⟩ := f9 (haf ⟨9, .data⟩ (by simp) rfl)
          rw [e21]
          have hN := hI
          obtain ⟨Y0, g0, g1, g2, g3, g4, g5, g6, g7, g8, g9, g10, g11, g12, g13, g14, g15, g16⟩ := hN
          go_wp2_with fail
          exact hK (fun n => if n = 31 then uq else if n = 21 then .tuple #[uq, ur] else x n) _ ⟨Y0, g0, g1, g2, g3, g4, g5, g6, g7, g8, (fun _ => ⟨_, _, rfl, hq, hr⟩), (fun _ => hq), g11, g12, g13, g14, g15, g16⟩
        | 11, ho, hL, haf, hK =>
          simp only [List.getElem?_toArray, List.getElem?_cons_zero, List.getElem?_cons_succ, Option.some.injEq] at ho
          subst ho
          dsimp only
          obtain ⟨uq, ur, e21, hq, hr⟩ := f9 (haf ⟨9, .data⟩ (by simp) rfl)
          rw [e21]
          have hN := hI
          obtain ⟨Y0, g0, g1, g2, g3, g4, g5, g6, g7, g8, g9, g10, g11, g12, g13, g14, g15, g16⟩ := hN
          go_wp2_with fail
          exact hK (fun n => if n = 32 then ur else if n = 21 then .tuple #[uq, ur] else x n) _ ⟨Y0, g0, g1, g2, g3, g4, g5, g6, g7, g8, (fun _ => ⟨_, _, rfl, hq, hr⟩), g10, (fun _ => hr), g12, g13, g14, g15, g16⟩
        | 12, ho, hL, haf, hK =>
          simp only [List.getElem?_toArray, List.getElem?_cons_zero, List.getElem?_cons_succ, Option.some.injEq] at ho
          subst ho
          dsimp only
          have hst : L 14 = true → False := fun h => by have := (f15 h).1; rw [hL] at this; cases this
          have hne : L 13 = true → Value.pointer (some ⟨wl.heap.size, 0, none⟩) ≠ x 6 := fun h e => by obtain ⟨y, _, _, _, _, _, k, _⟩ := Bx.zin f13 h e.symm; exact absurd k.lt (Nat.lt_irrefl _)
          have hN := hI.later (x1 wl (.cells #[.int .i64 0, .bool false, .slice none 0 0] 52))
          obtain ⟨Y0, g0, g1, g2, g3, g4, g5, g6, g7, g8, g9, g10, g11, g12, g13, g14, g15, g16⟩ := hN
          go_wp2_with fail
          exact hK (fun n => if n = 5 then Value.pointer (some ⟨wl.heap.size, 0, none⟩) else x n) _ ⟨Y0, g0, g1, g2, g3, g4, g5, g6, g7, g8, g9, g10, g11, (fun _ => ⟨wl.heap.size, rfl, X.size, fun h => (hst h).elim, fun _ => Box3.made wl _ _ _ _⟩), g13, (fun h h' e => hne h' e), (fun h => ⟨rfl, (g15 h).2⟩), (fun h => ⟨rfl, (g16 h).2⟩)⟩
        | 13, ho, hL, haf, hK =>
          simp only [List.getElem?_toArray, List.getElem?_cons_zero, List.getElem?_cons_succ, Option.some.injEq] at ho
          subst ho
          dsimp only
          have hst : L 15 = true → False := fun h => by have := (f16 h).2; rw [hL] at this; cases this
          have hne : L 12 = true → Value.pointer (some ⟨wl.heap.size, 0, none⟩) ≠ x 5 := fun h e => by obtain ⟨y, _, _, _, _, _, k, _⟩ := Bx.zin f12 h e.symm; exact absurd k.lt (Nat.lt_irrefl _)
          have hN := hI.later (x1 wl (.cells #[.int .i64 0, .bool false, .slice none 0 0] 52))
          obtain ⟨Y0, g0, g1, g2, g3, g4, g5, g6, g7, g8, g9, g10, g11, g12, g13, g14, g15, g16⟩ := hN
          go_wp2_with fail
          exact hK (fun n => if n = 6 then Value.pointer (some ⟨wl.heap.size, 0, none⟩) else x n) _ ⟨Y0, g0, g1, g2, g3, g4, g5, g6, g7, g8, g9, g10, g11, g12, (fun _ => ⟨wl.heap.size, rfl, X.size, fun h => (hst h).elim, fun _ => Box3.made wl _ _ _ _⟩), (fun h h' e => hne h e.symm), (fun h => ⟨(g15 h).1, rfl⟩), (fun h => ⟨(g16 h).1, rfl⟩)⟩
        | 14, ho, hL, haf, hK =>
          simp only [List.getElem?_toArray, List.getElem?_cons_zero, List.getElem?_cons_succ, Option.some.injEq] at ho
          subst ho
          dsimp only
          have h12 : L 12 = true := haf ⟨12, .data⟩ (by simp) rfl
          have h13 : L 13 = true := haf ⟨13, .phase⟩ (by simp) rfl
          obtain ⟨b, eb', hb, _, hz⟩ := f12 h12
          have hbx := hz hL
          have hv := f10 (haf ⟨10, .data⟩ (by simp) rfl)
          obtain ⟨a0, a1, a2, a3, a4, ev⟩ := hv.shape
          have hne := f14 h12 h13
          rw [eb'] at hne
          rw [eb', ev]
          rw [ev] at hv
          obtain ⟨⟨c0, c1, c2⟩, c3, c4, c5⟩ := id hbx
          have hk : ∀ v z, ZV wl v z → ZV (set3 wl b (.int .i64 a0) (.bool a1) (.slice a2 a3 a4)) v z := fun v z h => h.set3 hbx _ _ _
          have hX := Ext.set3 X hb (.int .i64 a0) (.bool a1) (.slice a2 a3 a4)
          have hB := hbx.zin.put hv
          have hF := f13.far hbx.zin (fun _ e => hne (e.symm)) (.int .i64 a0) (.bool a1) (.slice a2 a3 a4)
          go_wp2_with fail
          exact hK (fun n => if n = 5 then .pointer (some ⟨b, 0, none⟩) else if n = 31 then .agg #[.int .i64 a0, .bool a1, .slice a2 a3 a4] else x n) _ ⟨hX, f0, fun h => hk _ _ (f1 h), fun h => hk _ _ (f2 h), fun h => hk _ _ (f3 h), fun h => hk _ _ (f4 h), f5, fun h => hk _ _ (f6 h), fun h => hk _ _ (f7 h), fun h => (f8 h).to hk, fun h => (f9 h).to hk, fun _ => hk _ _ hv, fun h => hk _ _ (f11 h), fun _ => ⟨b, rfl, hb, fun _ => hB, fun h => by cases h⟩, hF, fun _ _ => hne, fun _ => ⟨h12, h13⟩, f16⟩
        | 15, ho, hL, haf, hK =>
          simp only [List.getElem?_toArray, List.getElem?_cons_zero, List.getElem?_cons_succ, Option.some.injEq] at ho
          subst ho
          dsimp only
          have h12 : L 12 = true := haf ⟨12, .phase⟩ (by simp) rfl
          have h13 : L 13 = true := haf ⟨13, .data⟩ (by simp) rfl
          obtain ⟨b, eb', hb, _, hz⟩ := f13 h13
          have hbx := hz hL
          have hv := f11 (haf ⟨11, .data⟩ (by simp) rfl)
          obtain ⟨a0, a1, a2, a3, a4, ev⟩ := hv.shape
          have hne := f14 h12 h13
          rw [eb'] at hne
          rw [eb', ev]
          rw [ev] at hv
          obtain ⟨⟨c0, c1, c2⟩, c3, c4, c5⟩ := id hbx
          have hk : ∀ v z, ZV wl v z → ZV (set3 wl b (.int .i64 a0) (.bool a1) (.slice a2 a3 a4)) v z := fun v z h => h.set3 hbx _ _ _
          have hX := Ext.set3 X hb (.int .i64 a0) (.bool a1) (.slice a2 a3 a4)
          have hB := hbx.zin.put hv
          have hF := f12.far hbx.zin (fun _ e => hne e) (.int .i64 a0) (.bool a1) (.slice a2 a3 a4)
          go_wp2_with fail
          exact hK (fun n => if n = 6 then .pointer (some ⟨b, 0, none⟩) else if n = 32 then .agg #[.int .i64 a0, .bool a1, .slice a2 a3 a4] else x n) _ ⟨hX, f0, fun h => hk _ _ (f1 h), fun h => hk _ _ (f2 h), fun h => hk _ _ (f3 h), fun h => hk _ _ (f4 h), f5, fun h => hk _ _ (f6 h), fun h => hk _ _ (f7 h), fun h => (f8 h).to hk, fun h => (f9 h).to hk, fun h => hk _ _ (f10 h), fun _ => hk _ _ hv, hF, fun _ => ⟨b, rfl, hb, fun _ => hB, fun h => by cases h⟩, fun _ _ => hne, f15, fun _ => ⟨h12, h13⟩⟩
        | k + 16, ho, _, _, _ => simp at ho
      · intro L x wl hall hI
        obtain ⟨X, f0, f1, f2, f3, f4, f5, f6, f7, f8, f9, f10, f11, f12, f13, f14, f15, f16⟩ := hI
        have h12 := hall 12 (by simp)
        have h13 := hall 13 (by simp)
        obtain ⟨b, eb', hb, hz, _⟩ := f12 h12
        obtain ⟨c, ec', hc, hy, _⟩ := f13 h13
        have hne := f14 h12 h13
        have h14 := hz (hall 14 (by simp))
        have h15 := hy (hall 15 (by simp))
        dsimp only
        clear f0 f1 f2 f3 f4 f5 f6 f7 f8 f9 f10 f11 f12 f13 f14 f15 f16 hz hy
        go_wp2_with fail
        go_meet
        case rel => exact ⟨b, c, eb', ec', hb, hc, fun e => hne (by rw [eb', ec', e]), h14, h15, X⟩
    case rest =>
      obtain ⟨b5, b6, rfl, rfl, l5, l6, ne56, Z5, Z6, x4⟩ := hcut
      rename World => w4
      have lt3 : w.heap.size + 1 + 1 < w3.heap.size := World.block_lt_of_cell? _ _ Br.1.1
      replace Ba := Ba.later x4
      replace Bb := Bb.later x4
      replace Br := Br.later x4
      replace X0 := xt X0 x4
      clear OA OB AA AB TT MU DV x4
      have Ba' := Ba
      have Bb' := Bb
      obtain ⟨⟨p0, p1, p2⟩, _⟩ := Ba'
      obtain ⟨⟨p3, p4, p5⟩, _⟩ := Bb'
      go_upto_region 4 with fail
      go_cut [37] (fun v wc => v = .bool (na != nb) ∧ wc = w4)
      case first =>
        go_wp2_with fail
        go_meet
        case rel => exact ⟨rfl, rfl⟩
      case rest =>
        obtain ⟨rfl, hwc⟩ := hcut
        rw [hwc]
        clear hwc
        go_upto_if 37 with fail
        go_cut [] (fun wc => ZIn wc b5 (sgn (na != nb) Q) ∧ ZIn wc b6 Rm ∧ Box3 wc w.heap.size (.bool na) (.int .i64 A) (.int .i64 ea) ∧ Box3 wc (w.heap.size + 1) (.bool nb) (.int .i64 B) (.int .i64 eb) ∧ Box4 wc (w.heap.size + 1 + 1) (.bool false) (.bool false) (.int .i64 0) (.int .i64 0) ∧ Ext w wc)
        case first =>
          clear p0 p1 p2 p3 p4 p5
          obtain ⟨nn, hnn⟩ : ∃ n, (na != nb) = n := ⟨_, rfl⟩
          rw [hnn]
          clear PU
          cases nn
          · go_wp2_with fail
            go_meet
            case rel => exact ⟨by rw [hnn]; exact Z5, Z6, Ba, Bb, Br, X0⟩
          · have Z5' := Z5
            obtain ⟨z0, z1, z2, z3, z4, ⟨⟨j0, j1, j2⟩, _⟩, hy5⟩ := Z5'
            go_wp2_with fail
            refine (minus_any _ hy5).mono ?_
            rintro rr w8 ⟨v8, rfl, hz8, x8⟩
            obtain ⟨f0, f1, f2, f3, f4, rfl⟩ := hz8.shape
            replace Z5 := Z5.later x8
            replace Z6 := Z6.later x8
            replace Ba := Ba.later x8
            replace Bb := Bb.later x8
            replace Br := Br.later x8
            have ZN := Z5.put hz8
            have Z6N := Z6.far Z5 (show b5 ≠ b6 by omega) (.int .i64 f0) (.bool f1) (.slice f2 f3 f4)
            have BaN := Ba.far3 (k := b5) (by omega) (.int .i64 f0) (.bool f1) (.slice f2 f3 f4)
            have BbN := Bb.far3 (k := b5) (by omega) (.int .i64 f0) (.bool f1) (.slice f2 f3 f4)
            have BrN : Box4 (set3 w8 b5 (.int .i64 f0) (.bool f1) (.slice f2 f3 f4)) (w.heap.size + 1 + 1) (.bool false) (.bool false) (.int .i64 0) (.int .i64 0) :=
              ((Br.far (p := ⟨b5, 0, none⟩) (by simp only; omega) _).far (p := ⟨b5, 1, none⟩) (by simp only; omega) _).far (p := ⟨b5, 2, none⟩) (by simp only; omega) _
            have XN := Ext.set3 (xt X0 x8) (b := b5) (by omega) (.int .i64 f0) (.bool f1) (.slice f2 f3 f4)
            obtain ⟨_, _, _, _, _, ⟨⟨g0, g1, g2⟩, k0, k1, k2⟩, _⟩ := Z5
            clear j0 j1 j2 hy5 hz8
            go_wp2_with fail
            go_meet
            case rel => exact ⟨by rw [hnn]; exact ZN, Z6N, BaN, BbN, BrN, XN⟩
        case rest =>
          clear p0 p1 p2 p3 p4 p5 Z5 Z6 Ba Bb Br X0
          obtain ⟨Z5, Z6, Ba, Bb, Br, X0⟩ := hcut
          rename World => w6
          have Ba' := Ba
          have Bb' := Bb
          obtain ⟨⟨p0, p1, p2⟩, _⟩ := Ba'
          obtain ⟨⟨p3, p4, p5⟩, _⟩ := Bb'
          obtain ⟨y0, y1, y2, y3, y4, D5, hy5⟩ := Z5
          obtain ⟨z0, z1, z2, z3, z4, D6, hz6⟩ := Z6
          have D5' := D5
          have D6' := D6
          obtain ⟨⟨i0, i1, i2⟩, _⟩ := D5'
          obtain ⟨⟨j0, j1, j2⟩, _⟩ := D6'
          have CR : Hid ((!((Rm : Int) == 0)) = decide (Rm ≠ 0)) := by
            show _ = _
            rw [Bool.eq_iff_iff, Bool.not_eq_true', beq_eq_false_iff_ne, decide_eq_true_eq]
            omega
          have nz0 : w.heap.size + 1 + 1 ≠ w.heap.size := by omega
          have nz1 : w.heap.size + 1 + 1 ≠ w.heap.size + 1 := by omega
          have nz2 : w.heap.size + 1 + 1 ≠ b5 := by omega
          have nz3 : w.heap.size + 1 + 1 ≠ b6 := by omega
          go_upto_region 6 with fail
          go_region_held3 (fun w' => ((w'.cell? ⟨w.heap.size, 0, none⟩ = some (.bool na) ∧ w'.cell? ⟨w.heap.size, 1, none⟩ = some (.int .i64 A) ∧ w'.cell? ⟨w.heap.size, 2, none⟩ = some (.int .i64 ea)) ∧ w'.cell? ⟨w.heap.size + 1, 0, none⟩ = some (.bool nb) ∧ w'.cell? ⟨w.heap.size + 1, 1, none⟩ = some (.int .i64 B) ∧ w'.cell? ⟨w.heap.size + 1, 2, none⟩ = some (.int .i64 eb)) ∧ (w'.cell? ⟨b5, 0, none⟩ = some (.int .i64 y0) ∧ w'.cell? ⟨b5, 1, none⟩ = some (.bool y1) ∧ w'.cell? ⟨b5, 2, none⟩ = some (.slice y2 y3 y4)) ∧ w'.cell? ⟨b6, 0, none⟩ = some (.int .i64 z0) ∧ w'.cell? ⟨b6, 1, none⟩ = some (.bool z1) ∧ w'.cell? ⟨b6, 2, none⟩ = some (.slice z2 z3 z4)) (go_keep) (first
            | (go_at_call 49; refine (zero_any _ (hz6.later (xd (xr _)))).mono ?_; rintro rr w6a ⟨rfl, e8⟩; have X8 : Ext w6 w6a := xt (xd (xr _)) e8; obtain ⟨⟨ga0, ga1, ga2⟩, _⟩ := Ba.later X8; obtain ⟨⟨ha0, ha1, ha2⟩, _⟩ := Bb.later X8; obtain ⟨⟨ia0, ia1, ia2⟩, _⟩ := D5.later X8; obtain ⟨⟨ja0, ja1, ja2⟩, _⟩ := D6.later X8)
            | (go_at_call 28; refine (PU.out _ _ _ _ (hy5.later X8) rfl CR.out).mono ?_; rintro rr w6b ⟨rfl, e9⟩; have X9 : Ext w6 w6b := xt X8 e9; obtain ⟨⟨gb0, gb1, gb2⟩, _⟩ := Ba.later X9; obtain ⟨⟨hb0, hb1, hb2⟩, _⟩ := Bb.later X9; obtain ⟨⟨ib0, ib1, ib2⟩, _⟩ := D5.later X9; obtain ⟨⟨jb0, jb1, jb2⟩, _⟩ := D6.later X9; obtain ⟨⟨m0, m1, m2, m3⟩, k0, k1, k2, k3⟩ := Br.later X9))
          all_goals
            go_wp2_with fail
            exact bodyPost_ret (v := resV R) (by simp [results, Tryd.results34, go_sem, m0, m1, m2, m3]) rfl ⟨rfl, xset (xset (xset (xset (xt X0 X9) (by simp only; omega) _) (by simp only; omega) _) (by simp only; omega) _) (by simp only; omega) _⟩

end Go.Proofs.YtpeobfkenekmhaaDoor

