/-
  The program's numbers of two words: over a word, without their last digits, put.
-/
import Derived.Test.YtfkihaihbaobeaaGreatDoorMg18
import Derived.Test.YtfkihaihbaobeaaGreatDoorImB
import Derived.Test.YtfkihaihbaobeaaGreatDoorWideC
import Derived.Test.YtfkihaihbaobeaaGreatDoorMg5
import Derived.Deep.RegionHeld3
import Derived.Deep.DeepCutAuto
import Derived.Deep.CutBlock
namespace Go.Proofs.YtfkihaihbaobeaaGreatDoor
open Go.RowKit

set_option maxRecDepth 4000 in
set_option maxHeartbeats 1000000 in
theorem div64_zero (lo y : Nat) (w : World) (y0 : 0 < y) (y1 : y < 18446744073709551616) (l1 : lo < 18446744073709551616) :
    Calls Tryz.prog 104 #[.int .u64 0, .int .u64 lo, .int .u64 y] w fun e w' => e = .returned (.tuple #[.int .u64 ((lo : Int) / y), .int .u64 ((lo : Int) % y)]) ∧ Ext w w' := by
  have hy0 : (((y : Int) == 0)) = false := by rw [beq_eq_false_iff_ne]; omega
  have hy1 : ¬ (y : Int) ≤ 0 := by omega
  have hy2 : (0 : Int) < (y : Int) := by omega
  have hw : IntKind.u64.wrap ((lo : Int) / (y : Int)) = (lo : Int) / (y : Int) := by
    rw [IntKind.wrap_u64]
    have := Int.ediv_nonneg (show (0 : Int) ≤ (lo : Int) by omega) (show (0 : Int) ≤ (y : Int) by omega)
    have := Int.ediv_le_self (y : Int) (show (0 : Int) ≤ (lo : Int) by omega)
    omega
  go_enter Tryz.func104, Tryz.ntmps104
  go_wp2_with fail
  go_quiet (fail)
  go_wp2
  go_ret2
  exact ⟨rfl, xdrewN (xr _) _⟩

theorem div64_any (hi lo y : Nat) (w : World) (h1 : hi < y) (y1 : y < 18446744073709551616) (l1 : lo < 18446744073709551616) :
    Calls Tryz.prog 104 #[.int .u64 hi, .int .u64 lo, .int .u64 y] w fun e w' => ∃ q r : Nat, e = .returned (.tuple #[.int .u64 q, .int .u64 r]) ∧ q * y + r = hi * 18446744073709551616 + lo ∧ r < y ∧ q < 18446744073709551616 ∧ Ext w w' := by
  have key : (hi * 18446744073709551616 + lo) / y * y + (hi * 18446744073709551616 + lo) % y = hi * 18446744073709551616 + lo := Nat.div_add_mod' _ _
  have kr : (hi * 18446744073709551616 + lo) % y < y := Nat.mod_lt _ (by omega)
  have kq : (hi * 18446744073709551616 + lo) / y < 18446744073709551616 := by
    refine Nat.div_lt_of_lt_mul ?_
    have : (hi + 1) * 18446744073709551616 ≤ y * 18446744073709551616 := Nat.mul_le_mul_right _ h1
    omega
  by_cases h0 : hi = 0
  · subst h0
    refine (div64_zero lo y w (by omega) y1 l1).mono ?_
    rintro e w' ⟨rfl, hx⟩
    refine ⟨lo / y, lo % y, by rw [Int.natCast_ediv, Int.natCast_emod], ?_, Nat.mod_lt _ (by omega), ?_, hx⟩
    · have := Nat.div_add_mod' lo y; omega
    · exact Nat.lt_of_le_of_lt (Nat.div_le_self _ _) l1
  · refine (div64_go hi lo y w (by omega) h1 y1 l1).mono ?_
    rintro e w' ⟨q, r, rfl, rfl, rfl, rfl⟩
    refine ⟨_, _, ?_, key, kr, kq, xr _⟩
    rw [Int.natCast_ediv, Int.natCast_emod]
    rfl

theorem over_lin {A B C q r l a : Nat} (e : A + l = a) (h : A = B + C) (k : q + r = C + l) : a = r + (B + q) := by omega
theorem over_fit {h l n H R q r a : Nat} (e : h * 18446744073709551616 + l = a) (e1 : n * H + R = h) (e2 : q * n + r = R * 18446744073709551616 + l) (hr : r < n) : H * 18446744073709551616 + q = a / n ∧ r = a % n := by
  have e3 : a = r + n * (H * 18446744073709551616 + q) := by
    rw [Nat.mul_add, ← Nat.mul_assoc, Nat.mul_comm n q]
    exact over_lin e (by rw [← e1, Nat.add_mul]) e2
  constructor
  · rw [e3, Nat.add_mul_div_left _ _ (by omega), Nat.div_eq_of_lt hr, Nat.zero_add]
  · rw [e3, Nat.add_mul_mod_self_left, Nat.mod_eq_of_lt hr]

set_option maxRecDepth 4000 in
set_option maxHeartbeats 1000000 in
theorem over_any {v : Value} {a : Nat} (n : Nat) (w : World) (hv : WV v a) (n0 : 0 < n) (n1 : n < 18446744073709551616) :
    Calls Tryz.prog 76 #[v, .int .u64 n] w fun e w' => ∃ v', e = .returned (.tuple #[v', .int .u64 ((a % n : Nat) : Int)]) ∧ WV v' (a / n) ∧ Ext w w' := by
  obtain ⟨h, l, rfl, h1, h2, e1⟩ := hv
  have DV : Hid (∀ w, Calls Tryz.prog 104 #[.int .u64 ((h : Int) % (n : Int)), .int .u64 l, .int .u64 n] w fun e w' => ∃ q : Nat, e = .returned (.tuple #[.int .u64 q, .int .u64 ((a % n : Nat) : Int)]) ∧ WV (.agg #[.int .u64 ((h : Int) / (n : Int)), .int .u64 q]) (a / n) ∧ Ext w w') := fun w => by
    rw [← Int.natCast_emod, ← Int.natCast_ediv]
    refine (div64_any (h % n) l n w (Nat.mod_lt _ n0) n1 h2).mono ?_
    rintro e w' ⟨q, r, rfl, hq, hr, hq1, hx⟩
    obtain ⟨f1, f2⟩ := over_fit e1 (Nat.div_add_mod h n) hq hr
    subst f2
    exact ⟨q, rfl, ⟨h / n, q, rfl, Nat.lt_of_le_of_lt (Nat.div_le_self _ _) h1, hq1, f1⟩, hx⟩
  have hn0 : (0 : Int) < (n : Int) := by omega
  have hw : IntKind.u64.wrap ((h : Int) / (n : Int)) = (h : Int) / (n : Int) := by
    rw [IntKind.wrap_u64]
    have := Int.ediv_nonneg (show (0 : Int) ≤ (h : Int) by omega) (show (0 : Int) ≤ (n : Int) by omega)
    have := Int.ediv_le_self (n : Int) (show (0 : Int) ≤ (h : Int) by omega)
    omega
  have B := (Box2.made w (.int .u64 h) (.int .u64 l) 40).later (x1 _ (.cells #[.int .u64 0, .int .u64 0] 40))
  have Br := Box2.made (w.alloc (.cells #[.int .u64 h, .int .u64 l] 40)) (.int .u64 0) (.int .u64 0) 40
  simp only [World.size_alloc] at Br
  clear e1
  go_enter Tryz.func76, Tryz.ntmps76
  go_wp2_with fail
  go_quiet (fail)
  go_wp2_with fail
  refine (DV.out _).mono ?_
  rintro e w1 ⟨q, rfl, hW, e2⟩
  have HW : Hid (WV (.agg #[.int .u64 ((h : Int) / (n : Int)), .int .u64 q]) (a / n)) := hW
  clear hW
  have X := xt (xdrewN (xr _) _) e2
  obtain ⟨⟨r0, r1⟩, s0, s1⟩ := Br.later X
  go_wp2
  exact bodyPost_ret (v := .tuple #[.agg #[.int .u64 ((h : Int) / (n : Int)), .int .u64 q], .int .u64 ((a % n : Nat) : Int)]) (by simp [results, Tryz.results76, go_sem, r0, r1]) rfl ⟨_, rfl, HW.out, xset (xset (xt (xa (x1 _ _) _) X) (Nat.le_succ _) _) (Nat.le_succ _) _⟩

theorem Box2.far {w : World} {b : Nat} {v0 v1 : Value} (h : Box2 w b v0 v1) {p : Addr} (hp : p.block ≠ b) (u : Value) : Box2 (w.setCell p u) b v0 v1 := by
  obtain ⟨⟨h0, h1⟩, h2, h3⟩ := h
  refine ⟨⟨?_, ?_⟩, by rw [World.frozen?_setCell]; exact h2, by rw [World.frozen?_setCell]; exact h3⟩
  · rw [World.cell?_setCell_other _ _ _ _ (fun e => hp (congrArg Addr.block e))]; exact h0
  · rw [World.cell?_setCell_other _ _ _ _ (fun e => hp (congrArg Addr.block e))]; exact h1
theorem Box2.put {w : World} {b : Nat} {v0 v1 : Value} (h : Box2 w b v0 v1) (u0 u1 : Value) : Box2 ((w.setCell ⟨b, 0, none⟩ u0).setCell ⟨b, 1, none⟩ u1) b u0 u1 := by
  obtain ⟨⟨h0, h1⟩, h2, h3⟩ := h
  have ne : (⟨b, 1, none⟩ : Addr) ≠ ⟨b, 0, none⟩ := fun e => by have := congrArg Addr.off e; simp at this
  have k1 : (w.setCell ⟨b, 0, none⟩ u0).cell? ⟨b, 1, none⟩ = some v1 := by rw [World.cell?_setCell_other _ _ _ _ ne.symm]; exact h1
  refine ⟨⟨?_, World.cell?_setCell_same _ _ _ k1⟩, by rw [World.frozen?_setCell, World.frozen?_setCell]; exact h2, by rw [World.frozen?_setCell, World.frozen?_setCell]; exact h3⟩
  rw [World.cell?_setCell_other _ _ _ _ ne]
  exact World.cell?_setCell_same _ _ _ h0

/-- Some digits taken off: how many are left, and whether one that was taken is not 0. -/
theorem low_step (P i j : Nat) : P / 10 ^ i / 10 ^ j = P / 10 ^ (i + j) ∧ (decide (P % 10 ^ (i + j) ≠ 0) = (decide (P % 10 ^ i ≠ 0) || decide (P / 10 ^ i % 10 ^ j ≠ 0))) := by
  refine ⟨div_pow P i j, ?_⟩
  rw [Bool.eq_iff_iff]
  simp only [Bool.or_eq_true, decide_eq_true_eq]
  exact mod_pow_zero P i j
theorem low_zero {P i : Nat} (n : Nat) (h : P / 10 ^ i = 0) (hi : i ≤ n) : P / 10 ^ n = 0 ∧ decide (P % 10 ^ n ≠ 0) = decide (P % 10 ^ i ≠ 0) := by
  obtain ⟨j, rfl⟩ : ∃ j, n = i + j := ⟨n - i, by omega⟩
  obtain ⟨h1, h2⟩ := low_step P i j
  rw [← h1, h2, h]
  simp

set_option maxRecDepth 4000 in
set_option maxHeartbeats 2000000 in
theorem lowered_any {v : Value} {a : Nat} (n : Nat) (w : World) (hv : WV v a) (hn : n ≤ 100000) (hT : Tens w) :
    Calls Tryz.prog 75 #[v, .int .i64 n] w fun e w' => ∃ v', e = .returned (.tuple #[v', .bool (decide (a % 10 ^ n ≠ 0))]) ∧ WV v' (a / 10 ^ n) ∧ Ext w w' := by
  obtain ⟨h, l, rfl, h1, h2, e1⟩ := hv
  have HE1 : Hid (h * 18446744073709551616 + l = a) := e1
  have B := (Box2.made w (.int .u64 h) (.int .u64 l) 40).later (x1 _ (.cells #[.int .u64 0, .int .u64 0] 40))
  have Br := Box2.made (w.alloc (.cells #[.int .u64 h, .int .u64 l] 40)) (.int .u64 0) (.int .u64 0) 40
  simp only [World.size_alloc] at Br
  have T := hT.later (xa (x1 w (.cells #[.int .u64 h, .int .u64 l] 40)) (.cells #[.int .u64 0, .int .u64 0] 40))
  clear e1 T
  go_enter Tryz.func75, Tryz.ntmps75
  go_wp2_with fail
  go_loopw [1, 6] (fun x m wr => ∃ (k i : Nat) (h l : Nat), k + i = n ∧ x = .int .i64 k ∧ m = .bool (decide (a % 10 ^ i ≠ 0)) ∧ Box2 wr w.heap.size (.int .u64 h) (.int .u64 l) ∧ Box2 wr (w.heap.size + 1) (.int .u64 0) (.int .u64 0) ∧ h < 18446744073709551616 ∧ l < 18446744073709551616 ∧ h * 18446744073709551616 + l = a / 10 ^ i ∧ Ext w wr) (fun x _ _ => (intOf x).toNat)
  case atStart => exact ⟨n, 0, h, l, rfl, rfl, by simp [Nat.mod_one], B, Br, h1, h2, by rw [Nat.pow_zero, Nat.div_one]; exact HE1.out, xa (x1 _ _) _⟩
  case round =>
    clear B Br HE1 h1 h2
    obtain ⟨k, i, h, l, hk, rfl, rfl, B, Br, h1, h2, e1, X⟩ := hrel
    have B' := B
    have Br' := Br
    obtain ⟨⟨p0, p1⟩, f0, f1⟩ := B'
    obtain ⟨⟨r0, r1⟩, s0, s1⟩ := Br'
    obtain ⟨m, hm⟩ : ∃ m : Bool, decide (a % 10 ^ i ≠ 0) = m := ⟨_, rfl⟩
    rw [hm]
    have HM : Hid (decide (a % 10 ^ i ≠ 0) = m) := hm
    have E1 : Hid (h * 18446744073709551616 + l = a / 10 ^ i) := e1
    have WVh : Hid (WV (.agg #[.int .u64 h, .int .u64 l]) (a / 10 ^ i)) := ⟨h, l, rfl, h1, h2, e1⟩
    clear hm e1
    have K0 : k = 0 ∨ 0 < k := by omega
    rcases K0 with rfl | k0
    · obtain rfl : i = n := by omega
      go_wp2_with fail
      exact bodyPost_ret (v := .tuple #[.agg #[.int .u64 h, .int .u64 l], .bool m]) (by simp [results, Tryz.results75, go_sem, r0, r1]) rfl ⟨_, by rw [HM.out], WVh.out, xset (xset X (Nat.le_succ _) _) (Nat.le_succ _) _⟩
    · by_cases hz : h = 0 ∧ l = 0
      · obtain ⟨rfl, rfl⟩ := hz
        have H0 : Hid (a / 10 ^ n = 0 ∧ decide (a % 10 ^ n ≠ 0) = m) := by
          have e2 : a / 10 ^ i = 0 := by rw [← E1.out]
          have := low_zero n e2 (by omega)
          rw [HM.out] at this
          exact this
        have WV0 : Hid (WV (.agg #[.int .u64 ((0 : Nat) : Int), .int .u64 ((0 : Nat) : Int)]) (a / 10 ^ n)) := by rw [H0.out.1]; exact ⟨0, 0, rfl, by decide, by decide, rfl⟩
        go_wp2_with fail
        exact bodyPost_ret (v := .tuple #[.agg #[.int .u64 ((0 : Nat) : Int), .int .u64 ((0 : Nat) : Int)], .bool m]) (by simp [results, Tryz.results75, go_sem, r0, r1]) rfl ⟨_, by rw [H0.out.2], WV0.out, xset (xset X (Nat.le_succ _) _) (Nat.le_succ _) _⟩
      · have kk : (0 : Int) < (k : Int) := by omega
        go_upto_region 2 with fail
        go_cut [16] (fun v wc => v = .bool true ∧ wc = wr)
        case first =>
          by_cases hh : h = 0
          · subst hh
            have hl : ¬ l = 0 := fun e => hz ⟨rfl, e⟩
            clear hz
            go_wp2_with fail
            go_meet
            case rel => exact ⟨rfl, rfl⟩
          · clear hz
            go_wp2_with fail
            go_meet
            case rel => exact ⟨rfl, rfl⟩
        case rest =>
          obtain ⟨rfl, hwc⟩ := hcut
          rw [hwc]
          clear hwc
          clear hz
          go_upto_region 3 with fail
          go_cut [7] (fun v wd => ∃ st : Nat, v = .int .i64 st ∧ 1 ≤ st ∧ st ≤ 19 ∧ st ≤ k ∧ wd = wr)
          case first =>
            by_cases h19 : (k : Int) ≤ 19
            · go_wp2_with fail
              go_meet
              case rel => exact ⟨k, by rw [Int.min_eq_left (by omega)], by omega, by omega, by omega, rfl⟩
            · go_wp2_with fail
              go_meet
              case rel => exact ⟨19, by rw [Int.min_eq_right (by omega)]; rfl, by omega, by omega, by omega, rfl⟩
          case rest =>
            obtain ⟨st, rfl, st0, st1, st2, hwd⟩ := hcut
            rw [hwd]
            clear hwd
            obtain ⟨t, et, t1, ct⟩ := (hT.later X).at (i := st) (by omega)
            have st3 : (st : Int) < 20 := by omega
            have t0 : 0 < t := by rw [← et]; exact ten_pow_pos st
            have ne0 := World.new_ne wr _ p0
            have ne1 := World.new_ne wr _ p1
            have ne2 := World.new_ne wr _ ct
            have CT : ∀ {w2 : World}, Ext wr w2 → w2.cell? ⟨0, st, none⟩ = some (.int .u64 t) := fun x => cell_later x ct
            have hwk : IntKind.i64.wrap ((k : Int) - (st : Int)) = (k : Int) - (st : Int) := by rw [IntKind.wrap_i64]; omega
            have OV : Hid (∀ w, Calls Tryz.prog 76 #[.agg #[.int .u64 h, .int .u64 l], .int .u64 t] w fun e w' => ∃ h' l' r : Nat, e = .returned (.tuple #[.agg #[.int .u64 h', .int .u64 l'], .int .u64 r]) ∧ h' < 18446744073709551616 ∧ l' < 18446744073709551616 ∧ Hid (h' * 18446744073709551616 + l' = a / 10 ^ (i + st) ∧ decide (a % 10 ^ (i + st) ≠ 0) = (m || decide (r ≠ 0))) ∧ Ext w w') := fun w => by
              refine (over_any t w WVh.out t0 t1).mono ?_
              rintro e w' ⟨v', rfl, ⟨h', l', rfl, k1, k2, k3⟩, hx⟩
              obtain ⟨g1, g2⟩ := low_step a i st
              refine ⟨h', l', a / 10 ^ i % t, rfl, k1, k2, ⟨?_, ?_⟩, hx⟩
              · rw [k3, ← et, g1]
              · rw [g2, HM.out, et]
            go_upto_region 4 with fail
            go_cut [8, 9] (fun v x we => ∃ b h' l' r : Nat, v = .pointer (some ⟨b, 0, none⟩) ∧ x = .int .u64 r ∧ wr.heap.size ≤ b ∧ Box2 we b (.int .u64 h') (.int .u64 l') ∧ h' < 18446744073709551616 ∧ l' < 18446744073709551616 ∧ Hid (h' * 18446744073709551616 + l' = a / 10 ^ (i + st) ∧ decide (a % 10 ^ (i + st) ≠ 0) = (m || decide (r ≠ 0))) ∧ Ext wr we)
            case first =>
              go_region_held3 (fun w' => w'.cell? ⟨w.heap.size, 0, none⟩ = some (.int .u64 h) ∧ w'.cell? ⟨w.heap.size, 1, none⟩ = some (.int .u64 l) ∧ w'.cell? ⟨0, st, none⟩ = some (.int .u64 t)) (go_keep) (first
                | (go_at_call 76; refine (OV.out _).mono ?_; rintro e w2 ⟨h', l', r, rfl, k1, k2, K3, e2⟩; have X2 : Ext wr w2 := xt (by first | exact xd (xr _) | exact xa (xd (xr _)) _ | exact xd (xa (xr _) _) | exact xa (xr _) _ | exact xr _) e2; obtain ⟨⟨q0, q1⟩, _⟩ := B.later X2; have q3 := CT X2; (first | (have RB : Box2 w2 wr.heap.size (.int .u64 0) (.int .u64 0) := (by exact (Box2.made wr (.int .u64 0) (.int .u64 0) 40).later (xt (xd (xr _)) e2)); obtain ⟨⟨z0, z1⟩, y0, y1⟩ := RB) | skip)))
              · go_wp2_with fail
                go_meet
                case rel => exact ⟨_, h', l', r, rfl, rfl, X2.size, Box2.made w2 _ _ _, k1, k2, K3, xa X2 _⟩
              · go_wp2_with fail
                go_meet
                case rel =>
                  refine ⟨_, h', l', r, rfl, rfl, Nat.le_refl _, ?_, k1, k2, K3, xset (xset X2 (Nat.le_refl _) _) (Nat.le_refl _) _⟩
                  refine ⟨⟨?_, ?_⟩, ?_, ?_⟩ <;> simp [go_sem, z0, z1, y0, y1]
            case rest =>
              obtain ⟨b, h', l', r, rfl, rfl, hb, Bn, k1, k2, K3, X3⟩ := hcut
              rename World => wz
              obtain ⟨⟨b0, b1⟩, _⟩ := Bn
              have B3 := B.later X3
              have Br3 := Br.later X3
              have B3' := B3
              obtain ⟨⟨g0, g1⟩, j0, j1⟩ := B3'
              have NB : Hid (Box2 ((wz.setCell ⟨w.heap.size, 0, none⟩ (.int .u64 h')).setCell ⟨w.heap.size, 1, none⟩ (.int .u64 l')) w.heap.size (.int .u64 h') (.int .u64 l') ∧ Box2 ((wz.setCell ⟨w.heap.size, 0, none⟩ (.int .u64 h')).setCell ⟨w.heap.size, 1, none⟩ (.int .u64 l')) (w.heap.size + 1) (.int .u64 0) (.int .u64 0)) :=
                ⟨B3.put _ _, (Br3.far (p := ⟨w.heap.size, 0, none⟩) (show w.heap.size ≠ w.heap.size + 1 by omega) _).far (p := ⟨w.heap.size, 1, none⟩) (show w.heap.size ≠ w.heap.size + 1 by omega) _⟩
              have ek : ((k : Int) - (st : Int)) = ((k - st : Nat) : Int) := by omega
              have EK : Hid (((k : Int) - (st : Int)) = ((k - st : Nat) : Int)) := ek
              clear ek B Br B3 Br3 p0 p1 f0 f1 r0 r1 s0 s1 ct CT ne0 ne1 ne2 OV et
              cases m
              · by_cases hr : r = 0
                · subst hr
                  have HD : Hid (decide (a % 10 ^ (i + st) ≠ 0) = false) := K3.out.2.trans (by simp)
                  go_wp2_with fail
                  go_roundw
                  case rel => exact ⟨k - st, i + st, h', l', by omega, by rw [← EK.out], by rw [HD.out], NB.out.1, NB.out.2, k1, k2, K3.out.1, xset (xset (xt X X3) (Nat.le_refl _) _) (Nat.le_refl _) _⟩
                  case measure => simp [intOf]; omega
                · have hr' : (((r : Int)) != 0) = true := by rw [bne_iff_ne]; omega
                  have HD : Hid (decide (a % 10 ^ (i + st) ≠ 0) = true) := K3.out.2.trans (by simp [hr])
                  go_wp2_with fail
                  go_roundw
                  case rel => exact ⟨k - st, i + st, h', l', by omega, by rw [← EK.out], by rw [HD.out], NB.out.1, NB.out.2, k1, k2, K3.out.1, xset (xset (xt X X3) (Nat.le_refl _) _) (Nat.le_refl _) _⟩
                  case measure => simp [intOf]; omega
              · have HD : Hid (decide (a % 10 ^ (i + st) ≠ 0) = true) := K3.out.2.trans (by simp)
                go_wp2_with fail
                go_roundw
                case rel => exact ⟨k - st, i + st, h', l', by omega, by rw [← EK.out], by rw [HD.out], NB.out.1, NB.out.2, k1, k2, K3.out.1, xset (xset (xt X X3) (Nat.le_refl _) _) (Nat.le_refl _) _⟩
                case measure => simp [intOf]; omega

end Go.Proofs.YtfkihaihbaobeaaGreatDoor

