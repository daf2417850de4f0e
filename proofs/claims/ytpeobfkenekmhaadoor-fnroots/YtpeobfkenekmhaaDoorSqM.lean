/-
  SqN, SqS, SqD, SqI, SqJ, SqK in one.
-/
import Derived.Test.YtpeobfkenekmhaaDoorMg13
import Derived.Test.YtpeobfkenekmhaaDoorMg14
import Derived.Test.YtpeobfkenekmhaaDoorMg12
import Derived.Test.YtpeobfkenekmhaaDoorPutZ
import Derived.Deep.LoopGhost
import Derived.Deep.RegionHeld3
import Derived.Test.YtpeobfkenekmhaaDoorDvM
namespace Go.Proofs.YtpeobfkenekmhaaDoor
open Go.RowKit

theorem root_is (X : Nat) : ∃ R, IsRoot R X := by
  induction X with
  | zero => exact ⟨0, by unfold IsRoot; omega⟩
  | succ X ih =>
    obtain ⟨R, h1, h2⟩ := ih
    by_cases h : (R + 1) * (R + 1) ≤ X + 1
    · refine ⟨R + 1, h, ?_⟩
      have : (R + 1) * (R + 1) < (R + 1 + 1) * (R + 1 + 1) := Nat.mul_lt_mul'' (by omega) (by omega)
      have e : X + 1 = (R + 1) * (R + 1) := by omega
      omega
    · exact ⟨R, by omega, by omega⟩
theorem sq_part (k r : Nat) (h : r ≤ 2 * k) : (2 * k - r) * r ≤ k * k := by
  rcases Nat.lt_or_ge k r with hk | hk
  · obtain ⟨t, rfl⟩ : ∃ t, r = k + t := ⟨r - k, by omega⟩
    obtain ⟨j, rfl⟩ : ∃ j, k = j + t := ⟨k - t, by omega⟩
    rw [show 2 * (j + t) - (j + t + t) = j by omega, show (j + t) * (j + t) = j * (j + t + t) + t * t by simp only [Nat.mul_add, Nat.add_mul, Nat.mul_comm t j]; omega]
    omega
  · obtain ⟨t, rfl⟩ : ∃ t, k = r + t := ⟨k - r, by omega⟩
    rw [show 2 * (r + t) - r = r + t + t by omega, show (r + t) * (r + t) = (r + t + t) * r + t * t by simp only [Nat.mul_add, Nat.add_mul, Nat.mul_comm t r]; omega]
    omega
/-- A step of Newton's stays above the root. -/
theorem newton_ge {k x r : Nat} (h : IsRoot k x) (hr : 0 < r) : k ≤ (r + x / r) / 2 := by
  by_cases h2 : 2 * k ≤ r
  · have : 0 ≤ x / r := Nat.zero_le _
    omega
  · have h3 : (2 * k - r) * r ≤ x := Nat.le_trans (sq_part k r (by omega)) h.1
    have h4 : 2 * k - r ≤ x / r := (Nat.le_div_iff_mul_le hr).2 h3
    omega
/-- Where it does not fall, the root is reached. -/
theorem newton_stop {k x r : Nat} (h : IsRoot k x) (hr : 0 < r) (hk : k ≤ r) (hs : r ≤ (r + x / r) / 2) : r = k := by
  have h1 : r ≤ x / r := by omega
  have h2 : r * r ≤ x := (Nat.le_div_iff_mul_le hr).1 h1
  have h3 : r * r < (k + 1) * (k + 1) := Nat.lt_of_le_of_lt h2 h.2
  have := sq_lt h3
  omega
theorem newton_start {k x n : Nat} (h : IsRoot k x) (hx : x < 10 ^ n) : k ≤ 10 ^ ((n + 1) / 2) := by
  have h1 : k * k < 10 ^ ((n + 1) / 2) * 10 ^ ((n + 1) / 2) := by
    rw [← Nat.pow_add]
    exact Nat.lt_of_le_of_lt h.1 (Nat.lt_of_lt_of_le hx (Nat.pow_le_pow_right (by decide) (by omega)))
  exact Nat.le_of_lt (sq_lt h1)

set_option maxRecDepth 4000 in
set_option maxHeartbeats 8000000 in
theorem rootS {v : Value} {x N : Nat} (w : World) (hv : ZV w v (x : Int)) (hN : IsRoot N x) (hx : x < 10 ^ 57) :
    Calls Tryd.prog 26 #[v] w fun e w' => (∃ v', e = .returned (.tuple #[v', .bool (decide (N * N ≠ x))]) ∧ ZV w' v' (N : Int)) ∧ Ext w w' := by
  obtain ⟨x0, x1', x2, x3, x4, rfl⟩ := hv.shape
  have X0 := xa (x1 w (.cells #[.int .i64 x0, .bool x1', .slice x2 x3 x4] 52)) (.cells #[.int .i64 0, .bool false, .slice none 0 0] 52)
  have B1 : ZIn (w.alloc (.cells #[.int .i64 x0, .bool x1', .slice x2 x3 x4] 52)) w.heap.size (x : Int) := ZIn.made 52 hv
  have B2 := Box3.made (w.alloc (.cells #[.int .i64 x0, .bool x1', .slice x2 x3 x4] 52)) (.int .i64 0) (.bool false) (.slice none 0 0) 52
  have B1' := B1.later (x1 _ (.cells #[.int .i64 0, .bool false, .slice none 0 0] 52))
  rw [World.size_alloc] at B2
  clear B1
  go_enter Tryd.func26, Tryd.ntmps26
  go_upto_region 1 with fail
  obtain ⟨w0, hw0⟩ : ∃ u, (w.alloc (.cells #[.int .i64 x0, .bool x1', .slice x2 x3 x4] 52)).alloc (.cells #[.int .i64 0, .bool false, .slice none 0 0] 52) = u := ⟨_, rfl⟩
  rw [hw0] at X0 B2 B1' ⊢
  clear hw0
  have hv0 := hv.later X0
  have K1 := B1'
  obtain ⟨y0, y1, y2, y3, y4, ⟨⟨j0, j1, j2⟩, _⟩, hz⟩ := K1
  go_wp2_with fail
  refine (zero_any _ hz).mono ?_
  rintro rr w1 ⟨rfl, e1⟩
  have K1 := B1'.later e1
  obtain ⟨k0, k1, k2, k3, k4, ⟨⟨l0, l1, l2⟩, _⟩, hz1⟩ := id K1
  have C2 := B2.later e1
  have XW := xt X0 e1
  by_cases hx0 : x = 0
  · have N0 : N = 0 := by
      subst hx0
      have h1 := hN.1
      rcases Nat.eq_zero_or_pos N with h | h
      · exact h
      · have := Nat.mul_pos h h
        omega
    have hb : ((x : Int) == 0) = true := by rw [beq_iff_eq]; omega
    have hd : decide (N * N ≠ x) = false := by rw [decide_eq_false_iff_not]; rw [N0, hx0]; simp
    rw [hb]
    have HD : Hid (decide (N * N ≠ x) = false ∧ (x : Int) = (N : Int)) := ⟨hd, by omega⟩
    clear hb hd hx0 N0 hN hx
    obtain ⟨⟨m0, m1, m2⟩, m3, m4, m5⟩ := id C2
    go_wp2
    exact bodyPost_ret (v := .tuple #[.agg #[.int .i64 k0, .bool k1, .slice k2 k3 k4], .bool false]) (by simp [results, Tryd.results26, go_sem, m0, m1, m2]) rfl ⟨⟨_, by rw [HD.out.1], by rw [← HD.out.2]; exact hz1.set3 C2 _ _ _⟩, Ext.set3 XW (by omega) _ _ _⟩
  · have hb : ((x : Int) == 0) = false := by rw [beq_eq_false_iff_ne]; omega
    rw [hb]
    clear hb
    have e7 : (1000000000 : Int) ^ 7 = 1000000000000000000000000000000000000000000000000000000000000000 := by decide
    have e57 : (10 : Nat) ^ 57 = 1000000000000000000000000000000000000000000000000000000000 := by decide
    rw [e57] at hx
    have DG := fun w' (h : ZV w' (.agg #[.int .i64 k0, .bool k1, .slice k2 k3 k4]) (x : Int)) => digits_any w' h (by omega) 7 (by decide) (by rw [e7]; omega)
    obtain ⟨n, hn⟩ : ∃ n, ndZ (x : Int).toNat = n := ⟨_, rfl⟩
    have hn' : nd x = n := by rw [← hn, Int.toNat_natCast]; unfold ndZ; rw [if_neg hx0]
    have n58 : n ≤ 57 := by rw [← hn']; exact nd_le (by rw [e57]; exact hx)
    have NS := newton_start (n := n) hN (by rw [← hn']; exact (nd_dig x).1)
    rw [hn] at DG
    have wn : IntKind.i64.wrap ((n : Int) + 1) = (n : Int) + 1 := by rw [IntKind.wrap_i64]; omega
    have wq' : ((n : Int) + 1).tdiv 2 = (((n + 1) / 2 : Nat) : Int) := by
      rw [Int.tdiv_eq_ediv_of_nonneg (by omega)]
      omega
    have P29 : 10 ^ ((n + 1) / 2) ≤ 10 ^ 29 := Nat.pow_le_pow_right (by decide) (by omega)
    have e29 : (10 : Nat) ^ 29 = 100000000000000000000000000000 := by decide
    rw [e29] at P29
    have P0 : 0 < 10 ^ ((n + 1) / 2) := Nat.pow_pos (by decide)
    have TE := fun w => ten_any ((n + 1) / 2) w (by omega)
    obtain ⟨n2, hn2⟩ : ∃ m : Nat, (n + 1) / 2 = m := ⟨_, rfl⟩
    have wn2 : IntKind.i64.wrap (n2 : Int) = (n2 : Int) := by rw [IntKind.wrap_i64]; omega
    rw [hn2] at wq' TE P29 P0 NS
    obtain ⟨r0, hr0⟩ : ∃ r0 : Nat, 10 ^ n2 = r0 := ⟨_, rfl⟩
    have hr0' : (10 : Int) ^ n2 = (r0 : Int) := by rw [← hr0, Int.natCast_pow]; rfl
    rw [hr0'] at TE
    rw [hr0] at P29 P0 NS
    have HA0 : Hid (N ≤ r0 ∧ 0 < r0 ∧ r0 ≤ 100000000000000000000000000000) := ⟨NS, P0, P29⟩
    have HX : Hid (IsRoot N x ∧ x < 1000000000000000000000000000000000000000000000000000000000 ∧ x ≠ 0) := ⟨hN, hx, hx0⟩
    have E7 : Hid ((1000000000 : Int) ^ 7 = 1000000000000000000000000000000000000000000000000000000000000000) := e7
    clear hN hx hx0 e57 e7 hn hn' hn2 hr0 hr0' P29 P0 NS e29 n58
    go_wp2_with fail
    refine (DG _ hz1).mono ?_
    rintro rr w2 ⟨rfl, e2⟩
    go_wp2_with fail
    refine (TE _).mono ?_
    rintro rr w3 ⟨v3, rfl, h3, e3⟩
    obtain ⟨t0, t1, t2, t3, t4, rfl⟩ := h3.shape
    have e23 := xt e2 e3
    replace K1 := K1.later e23
    replace C2 := C2.later e23
    replace XW := xt XW e23
    have lt2 : w.heap.size + 1 < w3.heap.size := World.block_lt_of_cell? _ _ C2.1.1
    clear e2 e3 e23 hz hz1 hv hv0 j0 j1 j2 l0 l1 l2 B1' B2 X0 e1 DG TE wn wq' wn2
    go_wp2_with fail
    have Z4 : ZIn (w3.alloc (.cells #[.int .i64 t0, .bool t1, .slice t2 t3 t4] 52)) w3.heap.size (r0 : Int) := ZIn.made 52 h3
    have xx := x1 w3 (.cells #[.int .i64 t0, .bool t1, .slice t2 t3 t4] 52)
    obtain ⟨w4, hw4⟩ : ∃ u, w3.alloc (.cells #[.int .i64 t0, .bool t1, .slice t2 t3 t4] 52) = u := ⟨_, rfl⟩
    rw [hw4] at Z4 xx ⊢
    obtain ⟨b4, hb4⟩ : ∃ b, w3.heap.size = b := ⟨_, rfl⟩
    rw [hb4] at Z4 lt2 ⊢
    replace K1 := K1.later xx
    replace C2 := C2.later xx
    replace XW := xt XW xx
    clear hw4 xx h3 hb4
    go_loopg [] r0 (fun gk wr => ∃ r : Nat, Hid (gk = r ∧ N ≤ r ∧ 0 < r ∧ r ≤ 100000000000000000000000000000) ∧ ZIn wr w.heap.size (x : Int) ∧ ZIn wr b4 (r : Int) ∧ Box3 wr (w.heap.size + 1) (.int .i64 0) (.bool false) (.slice none 0 0) ∧ Ext w wr)
    case atStart => exact ⟨r0, ⟨rfl, HA0.out.1, HA0.out.2.1, HA0.out.2.2⟩, K1, Z4, C2, XW⟩
    case round =>
      clear K1 Z4 C2 XW HA0
      obtain ⟨r, HA, Z1, Z4, C2, XW⟩ := hrel
      obtain ⟨a0, a1, a2, a3, a4, ⟨⟨p0, p1, p2⟩, _⟩, h1⟩ := id Z1
      obtain ⟨d0, d1, d2, d3, d4, ⟨⟨q0, q1, q2⟩, _⟩, h4⟩ := id Z4
      go_wp2_with fail
      refine (div_any _ h1 h4 (by omega) (by have := HA.out; omega) 7 (by decide) (by rw [E7.out]; have := HX.out; omega) (by rw [E7.out]; have := HA.out; omega)).mono ?_
      rintro rr w5 ⟨vq, vr, rfl, hq, hr, e5⟩
      obtain ⟨u0, u1, u2, u3, u4, rfl⟩ := hq.shape
      obtain ⟨s0, s1, s2, s3, s4, rfl⟩ := hr.shape
      clear p0 p1 p2 q0 q1 q2 h1 h4
      rw [← Int.natCast_ediv] at hq
      obtain ⟨q, hqq⟩ : ∃ q : Nat, x / r = q := ⟨_, rfl⟩
      rw [hqq] at hq
      have HQ : Hid (x / r = q ∧ q ≤ x) := ⟨hqq, by rw [← hqq]; exact Nat.div_le_self _ _⟩
      clear hqq hr
      go_upto_region 5 with fail
      have x6 := xa (x1 w5 (.cells #[.int .i64 u0, .bool u1, .slice u2 u3 u4] 52)) (.cells #[.int .i64 s0, .bool s1, .slice s2 s3 s4] 52)
      have Z5 := (ZIn.made 52 hq).later (x1 _ (.cells #[.int .i64 s0, .bool s1, .slice s2 s3 s4] 52))
      obtain ⟨w6, hw6⟩ : ∃ u, (w5.alloc (.cells #[.int .i64 u0, .bool u1, .slice u2 u3 u4] 52)).alloc (.cells #[.int .i64 s0, .bool s1, .slice s2 s3 s4] 52) = u := ⟨_, rfl⟩
      rw [hw6] at x6 Z5 ⊢
      have e6 := xt e5 x6
      replace Z1 := Z1.later e6
      replace Z4 := Z4.later e6
      replace C2 := C2.later e6
      replace XW := xt XW e6
      clear hw6 x6 e5 e6 hq
      obtain ⟨d0, d1, d2, d3, d4, ⟨⟨q0, q1, q2⟩, _⟩, h4⟩ := id Z4
      obtain ⟨f0, f1, f2, f3, f4, ⟨⟨p0, p1, p2⟩, _⟩, h5⟩ := id Z5
      go_wp2_with fail
      refine (add_any _ h4 h5 7 (by decide) (by rw [E7.out, Int.natAbs_natCast]; have := HA.out; omega) (by rw [E7.out, Int.natAbs_natCast]; have := HX.out; have := HQ.out; omega)).mono ?_
      rintro rr w7 ⟨va, rfl, hva, e7⟩
      clear p0 p1 p2 q0 q1 q2 h4 h5 Z5
      go_wp2_with fail
      refine (small_any 2 _ (by decide) (by decide)).mono ?_
      rintro rr w8 ⟨v2, rfl, hv2, e8⟩
      go_wp2_with fail
      refine (div_any _ (hva.later e8) hv2 (by omega) (by decide) 7 (by decide) (by rw [E7.out]; have := HX.out; have := HQ.out; have := HA.out; omega) (by rw [E7.out]; decide)).mono ?_
      rintro rr w9 ⟨vs, vt, rfl, hs, ht, e9⟩
      obtain ⟨u0, u1, u2, u3, u4, rfl⟩ := hs.shape
      obtain ⟨s0, s1, s2, s3, s4, rfl⟩ := ht.shape
      obtain ⟨sn, hsn⟩ : ∃ m : Nat, (r + q) / 2 = m := ⟨_, rfl⟩
      rw [show ((r : Int) + (q : Int)) / 2 = (sn : Int) by omega] at hs
      have HS : Hid ((r + q) / 2 = sn) := hsn
      have e79 := xt (xt e7 e8) e9
      clear hsn ht hva hv2
      go_upto_region 6 with fail
      have xB := xa (x1 w9 (.cells #[.int .i64 u0, .bool u1, .slice u2 u3 u4] 52)) (.cells #[.int .i64 s0, .bool s1, .slice s2 s3 s4] 52)
      have Z7 := (ZIn.made 52 hs).later (x1 _ (.cells #[.int .i64 s0, .bool s1, .slice s2 s3 s4] 52))
      obtain ⟨wB, hwB⟩ : ∃ u, (w9.alloc (.cells #[.int .i64 u0, .bool u1, .slice u2 u3 u4] 52)).alloc (.cells #[.int .i64 s0, .bool s1, .slice s2 s3 s4] 52) = u := ⟨_, rfl⟩
      rw [hwB] at xB Z7 ⊢
      have eB := xt e79 xB
      have lt9 : b4 < w9.heap.size := by
        obtain ⟨_, _, _, _, _, k, _⟩ := Z4.later e79
        exact k.lt
      replace Z1 := Z1.later eB
      replace Z4 := Z4.later eB
      replace C2 := C2.later eB
      replace XW := xt XW eB
      clear hwB xB e7 e8 e9 e79 eB hs
      obtain ⟨d0, d1, d2, d3, d4, ⟨⟨q0, q1, q2⟩, _⟩, h4⟩ := id Z4
      obtain ⟨f0, f1, f2, f3, f4, ⟨⟨p0, p1, p2⟩, _⟩, h7⟩ := id Z7
      go_wp2_with fail
      refine (cmp_any _ h7 h4).mono ?_
      rintro rr wC ⟨rfl, eC⟩
      clear p0 p1 p2 q0 q1 q2 h4 h7
      replace Z1 := Z1.later eC
      replace Z4 := Z4.later eC
      replace Z7 := Z7.later eC
      replace C2 := C2.later eC
      replace XW := xt XW eC
      clear eC
      by_cases hsr : sn < r
      · rw [cmpI_lt (by omega)]
        obtain ⟨f0, f1, f2, f3, f4, ⟨⟨p0, p1, p2⟩, _⟩, h7⟩ := id Z7
        obtain ⟨d0, d1, d2, d3, d4, ⟨⟨q0, q1, q2⟩, q3, q4, q5⟩, h4⟩ := id Z4
        have N4 := Z4.put h7
        have N1 := Z1.far Z4 (show b4 ≠ w.heap.size by omega) (.int .i64 f0) (.bool f1) (.slice f2 f3 f4)
        have N2 := C2.far3 (k := b4) (by omega) (.int .i64 f0) (.bool f1) (.slice f2 f3 f4)
        have NX := Ext.set3 (b := b4) XW (by omega) (.int .i64 f0) (.bool f1) (.slice f2 f3 f4)
        have HH : Hid (sn < r ∧ N ≤ sn ∧ 0 < sn) := by
          obtain ⟨ha1, ha2, ha3, ha4⟩ := HA.out
          have g := newton_ge HX.out.1 ha3
          rw [HQ.out.1, HS.out] at g
          refine ⟨hsr, g, ?_⟩
          rcases Nat.eq_zero_or_pos N with h | h
          · exfalso
            have h1 := HX.out.1.2
            have h2 := HX.out.2.2
            rw [h] at h1
            omega
          · omega
        clear hsr
        go_wp2_with fail
        go_roundg sn
        case measure => have := HA.out; have := HH.out; omega
        case rel => exact ⟨sn, ⟨rfl, HH.out.2.1, HH.out.2.2, by have := HA.out; have := HH.out; omega⟩, N1, N4, N2, NX⟩
      · have hc : 0 ≤ cmpI (sn : Int) (r : Int) := by unfold cmpI; split; omega; split <;> decide
        obtain ⟨cc, hcc⟩ : ∃ c, cmpI (sn : Int) (r : Int) = c := ⟨_, rfl⟩
        rw [hcc] at hc ⊢
        have HR : Hid (r = N) := by
          obtain ⟨ha1, ha2, ha3, ha4⟩ := HA.out
          exact newton_stop HX.out.1 ha3 ha2 (by rw [HQ.out.1, HS.out]; omega)
        clear hsr hcc
        go_upto_region 8 with fail
        obtain rfl := HR.out
        have HM : Hid (decide (r * r ≠ x) = !(cmpI ((r * r : Nat) : Int) (x : Int) == 0)) := by
          show _ = _
          rcases Nat.lt_trichotomy (r * r) x with h | h | h
          · rw [cmpI_lt (by omega)]; simp; omega
          · rw [h, cmpI_eq]; simp
          · rw [cmpI_gt (by omega)]; simp; omega
        have MU := fun w2 v (hv : ZV w2 v (r : Int)) => mul_any w2 hv hv 7 (by decide) (by rw [E7.out, Int.natAbs_natCast]; have := HA.out; omega) (by rw [E7.out, Int.natAbs_natCast]; have := HA.out; omega)
        rw [show (r : Int) * (r : Int) = ((r * r : Nat) : Int) from (Int.natCast_mul r r).symm] at MU
        obtain ⟨rr2, hrr2⟩ : ∃ m : Nat, r * r = m := ⟨_, rfl⟩
        rw [hrr2] at MU
        have HM' : Hid (decide (r * r ≠ x) = !(cmpI (rr2 : Int) (x : Int) == 0)) := by
          have := HM.out
          rw [← hrr2]
          exact this
        have MUH : Hid (∀ w2 v, ZV w2 v (r : Int) → Calls Tryd.prog 24 #[v, v] w2 fun e w' => ∃ v', e = .returned v' ∧ ZV w' v' (rr2 : Int) ∧ Ext w2 w') := MU
        clear MU HX HQ HS HA HR HM hrr2 Z7 E7
        obtain ⟨d0, d1, d2, d3, d4, Q4, h4⟩ := id Z4
        obtain ⟨a0, a1, a2, a3, a4, Q1, h1⟩ := id Z1
        obtain ⟨⟨q0, q1, q2⟩, _⟩ := id Q4
        obtain ⟨⟨p0, p1, p2⟩, _⟩ := id Q1
        obtain ⟨⟨m0, m1, m2⟩, m3, m4, m5⟩ := id C2
        have n1 : w.heap.size + 1 ≠ b4 := by omega
        have n2 : b4 ≠ w.heap.size + 1 := by omega
        go_region_held3 (fun w' => (w'.cell? ⟨b4, 0, none⟩ = some (.int .i64 d0) ∧ w'.cell? ⟨b4, 1, none⟩ = some (.bool d1) ∧ w'.cell? ⟨b4, 2, none⟩ = some (.slice d2 d3 d4)) ∧ w'.cell? ⟨w.heap.size, 0, none⟩ = some (.int .i64 a0) ∧ w'.cell? ⟨w.heap.size, 1, none⟩ = some (.bool a1) ∧ w'.cell? ⟨w.heap.size, 2, none⟩ = some (.slice a2 a3 a4)) (go_keep) (first
          | (go_at_call 24; refine (MUH.out _ _ (h4.later (xd (xr _)))).mono ?_; rintro rx wD ⟨vm, rfl, hm, eD⟩; have eD' : Ext wC wD := xt (xd (xr _)) eD; clear q0 q1 q2 p0 p1 p2 m0 m1 m2 m3 m4 m5; obtain ⟨⟨q0, q1, q2⟩, _⟩ := Q4.later eD'; obtain ⟨⟨p0, p1, p2⟩, _⟩ := Q1.later eD')
          | (go_at_call 53; refine (cmp_any _ hm (h1.later eD')).mono ?_; rintro rx wE ⟨rfl, eE⟩; have eE' : Ext wC wE := xt eD' eE; clear q0 q1 q2 p0 p1 p2; obtain ⟨⟨q0, q1, q2⟩, _⟩ := Q4.later eE'; obtain ⟨⟨p0, p1, p2⟩, _⟩ := Q1.later eE'; obtain ⟨⟨m0, m1, m2⟩, m3, m4, m5⟩ := C2.later eE'))
        all_goals go_wp2_with fail
        all_goals exact bodyPost_ret (v := .tuple #[.agg #[.int .i64 d0, .bool d1, .slice d2 d3 d4], .bool (cmpI (rr2 : Int) (x : Int) != 0)]) (by simp [results, Tryd.results26, go_sem, m0, m1, m2]) rfl ⟨⟨_, by rw [HM'.out]; rfl, (h4.later eE').set3 (C2.later eE') _ _ _⟩, Ext.set3 (xt XW eE') (by omega) _ _ _⟩

/-- By what has come up, in the region that takes the root. -/
def R8I (xo X N : Int) (mo : Bool) (w3 : World) (L : Nat → Bool) (x : Nat → Value) (w : World) : Prop :=
  Ext w3 w ∧ (L 0 = true → ZV w (x 28) xo) ∧ (L 1 = true → ZV w (x 29) (10 ^ 40)) ∧ (L 2 = true → ZV w (x 30) X) ∧ (L 3 = true → ∃ u, x 31 = .tuple #[u, .bool mo] ∧ ZV w u N) ∧ (L 4 = true → ∃ u, x 27 = .tuple #[u, .bool mo] ∧ ZV w u N) ∧ (L 5 = true → ZV w (x 32) N) ∧ (L 6 = true → x 33 = .bool mo) ∧
  Bx (L 7) (L 8) (x 5) N w3 w ∧ (L 9 = true → x 6 = .bool mo) ∧ (L 8 = true → L 7 = true)
theorem R8I.later {xo X N : Int} {mo : Bool} {w3 : World} {L : Nat → Bool} {x : Nat → Value} {w w' : World} (h : R8I xo X N mo w3 L x w) (hx : Ext w w') : R8I xo X N mo w3 L x w' := by
  obtain ⟨X', f0, f1, f2, f3, f4, f5, f6, f7, f8, f9⟩ := h
  refine ⟨xt X' hx, fun h => (f0 h).later hx, fun h => (f1 h).later hx, fun h => (f2 h).later hx, fun h => ?_, fun h => ?_, fun h => (f5 h).later hx, f6, f7.later hx, f8, f9⟩
  · obtain ⟨u, e, z⟩ := f3 h; exact ⟨u, e, z.later hx⟩
  · obtain ⟨u, e, z⟩ := f4 h; exact ⟨u, e, z.later hx⟩
theorem R8I.start {xo X N : Int} {mo : Bool} {w3 : World} {x : Nat → Value} : R8I xo X N mo w3 (fun _ => false) x { w3 with drawn := w3.drawn + 1 } := by
  refine ⟨xd (xr _), ?_, ?_, ?_, ?_, ?_, ?_, ?_, ?_, ?_, ?_⟩
  all_goals (intro h; cases h)

set_option maxRecDepth 4000 in
set_option maxHeartbeats 20000000 in
theorem sqrtS_good (A : Nat) (e eo : Int) (xo N : Nat) (w : World) (ga : goodB false A e = true) (ho : (e % 2 = 0 ∧ eo = e ∧ xo = A) ∨ (e % 2 ≠ 0 ∧ eo = e - 1 ∧ xo = A * 10)) (hN : IsRoot N (xo * 10 ^ 40)) :
    Calls Tryd.prog 6 #[.agg #[.bool false, .int .i64 A, .int .i64 e]] w fun r w' => r = .returned (resV (putR false N (eo / 2 - 20) (decide (N * N ≠ xo * 10 ^ 40)))) ∧ Ext w w' := by
  obtain ⟨mo, hmo⟩ : ∃ b, decide (N * N ≠ xo * 10 ^ 40) = b := ⟨_, rfl⟩
  obtain ⟨R, hR⟩ : ∃ R, putR false N (eo / 2 - 20) mo = R := ⟨_, rfl⟩
  rw [hmo, hR]
  show Calls _ _ _ _ fun r w' => r = .returned (.agg #[.bool R.ok, .bool R.neg, .int .i64 R.d, .int .i64 R.e]) ∧ Ext w w'
  obtain ⟨ga0, ga1, ga2, ga3⟩ := good_bd ga
  have e6 : (1000000000 : Int) ^ 7 = 1000000000000000000000000000000000000000000000000000000000000000 := by decide
  have e40 : (10 : Nat) ^ 40 = 10000000000000000000000000000000000000000 := by decide
  have e57 : (10 : Nat) ^ 57 = 1000000000000000000000000000000000000000000000000000000000 := by decide
  have xb : xo < 10000000000000000 := by omega
  obtain ⟨X, hX⟩ : ∃ X : Nat, xo * 10 ^ 40 = X := ⟨_, rfl⟩
  have X57 : X < 10 ^ 57 := by rw [← hX, e40, e57]; omega
  rw [hX] at hN hmo
  have NB : N < 1000000000000000000000000000000 := by
    have h1 := hN.1
    have h2 : N * N < 1000000000000000000000000000000 * 1000000000000000000000000000000 := by rw [e57] at X57; omega
    exact sq_lt h2
  have TT : Hid (∀ w2, Calls Tryd.prog 27 #[.int .i64 40] w2 fun e w' => ∃ v', e = .returned v' ∧ ZV w' v' (10 ^ 40) ∧ Ext w2 w') := fun w2 => ten_any 40 w2 (by decide)
  have MU : Hid (∀ (w2 : World) (va vb : Value), ZV w2 va (xo : Int) → ZV w2 vb (10 ^ 40) → Calls Tryd.prog 24 #[va, vb] w2 fun e w' => ∃ v', e = .returned v' ∧ ZV w' v' (X : Int) ∧ Ext w2 w') := fun w2 va vb h1 h2 => by
    have e40' : (((10 : Int) ^ 40).natAbs : Int) = 10000000000000000000000000000000000000000 := by decide
    have := mul_any w2 h1 h2 7 (by decide) (by rw [e6, Int.natAbs_natCast]; omega) (by rw [e6, e40']; decide)
    have e : (xo : Int) * 10 ^ 40 = (X : Int) := by rw [← hX, Int.natCast_mul, Int.natCast_pow]; rfl
    rw [e] at this
    exact this
  have RO : Hid (∀ (w2 : World) (va : Value), ZV w2 va (X : Int) → Calls Tryd.prog 26 #[va] w2 fun e w' => (∃ v', e = .returned (.tuple #[v', .bool mo]) ∧ ZV w' v' (N : Int)) ∧ Ext w2 w') := fun w2 va h => by
    rw [← hmo]
    exact rootS w2 h hN X57
  have SM : Hid (∀ w2, Calls Tryd.prog 25 #[.int .i64 10] w2 fun e w' => ∃ v', e = .returned v' ∧ ZV w' v' 10 ∧ Ext w2 w') := fun w2 => small_any 10 w2 (by decide) (by decide)
  have M10 : Hid (∀ (w2 : World) (va vb : Value), ZV w2 va (A : Int) → ZV w2 vb 10 → Calls Tryd.prog 24 #[va, vb] w2 fun e w' => ∃ v', e = .returned v' ∧ ZV w' v' ((A * 10 : Nat) : Int) ∧ Ext w2 w') := fun w2 va vb h1 h2 => by
    have := mul_any w2 h1 h2 7 (by decide) (by rw [e6, Int.natAbs_natCast]; omega) (by rw [e6]; decide)
    rw [Int.natCast_mul]
    exact this
  have PU : Hid (∀ (w2 : World) (v : Value), ZV w2 v (N : Int) → Calls Tryd.prog 28 #[v, .int .i64 (eo / 2 - 20), .bool mo] w2 fun r w' => r = .returned (.agg #[.bool R.ok, .bool R.neg, .int .i64 R.d, .int .i64 R.e]) ∧ Ext w2 w') := fun w2 v hv => by
    rw [← hR]
    exact put_spec _ _ w2 hv 7 (by decide) (by rw [e6, Int.natAbs_natCast]; omega) (by omega) (by omega) false N (Int.natAbs_natCast N) (fun h => by simp)
  have OA : Hid (∀ w2, Calls Tryd.prog 23 #[.agg #[.bool false, .int .i64 A, .int .i64 e]] w2 fun e w' => ∃ v', e = .returned v' ∧ ZV w' v' (A : Int) ∧ Ext w2 w') := fun w2 => by
    have := of_any false A e w2 (by omega) (by omega)
    exact this
  have GA : Hid (∀ w2, Calls Tryd.prog 7 #[.agg #[.bool false, .int .i64 A, .int .i64 e]] w2 fun e w' => e = .returned (.bool true) ∧ Ext w2 w') := fun w2 => good_is true false A e w2 ga
  have X0 := xa (x1 w (.cells #[.bool false, .int .i64 A, .int .i64 e] 24)) (.cells #[.bool false, .bool false, .int .i64 0, .int .i64 0] 27)
  have Ba := (Box3.made w (.bool false) (.int .i64 A) (.int .i64 e) 24).later (x1 _ (.cells #[.bool false, .bool false, .int .i64 0, .int .i64 0] 27))
  have Br := Box4.made (w.alloc (.cells #[.bool false, .int .i64 A, .int .i64 e] 24)) (.bool false) (.bool false) (.int .i64 0) (.int .i64 0) 27
  simp only [World.size_alloc] at Br
  clear ga ga0 ga1 hX X57 hN hmo NB e6 e40 e57 xb hR
  go_enter Tryd.func6, Tryd.ntmps6
  go_upto_region 1 with fail
  obtain ⟨w0, hw0⟩ : ∃ u, (w.alloc (.cells #[.bool false, .int .i64 A, .int .i64 e] 24)).alloc (.cells #[.bool false, .bool false, .int .i64 0, .int .i64 0] 27) = u := ⟨_, rfl⟩
  rw [hw0] at X0 Ba Br ⊢
  clear hw0
  obtain ⟨⟨p0, p1, p2⟩, _⟩ := id Ba
  go_wp2_with fail
  refine (GA.out _).mono ?_
  rintro rr w1 ⟨rfl, e1⟩
  clear p0 p1 p2
  replace Ba := Ba.later e1
  replace Br := Br.later e1
  replace X0 := xt X0 e1
  clear e1 GA
  obtain ⟨⟨p0, p1, p2⟩, _⟩ := id Ba
  go_wp2_with fail
  refine (OA.out _).mono ?_
  rintro rr w2' ⟨v4, rfl, h4, e2⟩
  obtain ⟨y0, y1, y2, y3, y4, rfl⟩ := h4.shape
  clear p0 p1 p2 OA
  replace Ba := Ba.later e2
  replace Br := Br.later e2
  replace X0 := xt X0 e2
  clear e2
  go_upto_region 5 with fail
  have Z4 := ZIn.made 52 h4
  have x4 := x1 w2' (.cells #[.int .i64 y0, .bool y1, .slice y2 y3 y4] 52)
  obtain ⟨w2, hw2⟩ : ∃ u, w2'.alloc (.cells #[.int .i64 y0, .bool y1, .slice y2 y3 y4] 52) = u := ⟨_, rfl⟩
  have l4 : w.heap.size + 1 < w2'.heap.size := World.block_lt_of_cell? _ _ Br.1.1
  rw [hw2] at Z4 x4 ⊢
  obtain ⟨b4, hb4⟩ : ∃ b, w2'.heap.size = b := ⟨_, rfl⟩
  rw [hb4] at Z4 l4 ⊢
  replace Ba := Ba.later x4
  replace Br := Br.later x4
  replace X0 := xt X0 x4
  clear hw2 x4 h4 hb4
  rcases ho with ⟨h1, rfl, rfl⟩ | ⟨h1, rfl, rfl⟩
  · have hm : eo.tmod 2 = 0 := by rw [Int.tmod_eq_emod]; split <;> omega
    have hq : eo.tdiv 2 = eo / 2 := by rw [Int.tdiv_eq_ediv]; split <;> omega
    have hw : IntKind.i64.wrap (eo / 2 - 20) = eo / 2 - 20 := by rw [IntKind.wrap_i64]; omega
    have hw' : IntKind.i64.wrap (eo / 2) = eo / 2 := by rw [IntKind.wrap_i64]; omega
    clear h1 SM M10
    go_upto_region 8 with fail
    go_cut [5, 6] (fun v u wc => ∃ b, v = .pointer (some ⟨b, 0, none⟩) ∧ u = .bool mo ∧ w2.heap.size ≤ b ∧ ZIn wc b (N : Int) ∧ Ext w2 wc)
    case first =>
      refine wp_region_letters (fun lx : Nat → Value => { tmps := #[Value.agg #[.bool false, .int .i64 xo, .int .i64 eo], Value.pointer (some ⟨w.heap.size, 0, none⟩), Value.pointer (some ⟨w.heap.size + 1, 0, none⟩), Value.int .i64 eo, Value.pointer (some ⟨b4, 0, none⟩), lx 5, lx 6, Value.agg #[.bool false, .int .i64 xo, .int .i64 eo], Value.bool true, Value.bool false, Value.bool false, Value.pointer (some ⟨w.heap.size, 0, none⟩), Value.bool false, Value.bool false, undef, Value.pointer (some ⟨w.heap.size, 2, none⟩), Value.int .i64 eo, Value.agg #[.bool false, .int .i64 xo, .int .i64 eo], Value.agg #[.int .i64 y0, .bool y1, .slice y2 y3 y4], Value.int .i64 eo, Value.int .i64 0, Value.bool false, undef, undef, undef, undef, undef, lx 27, lx 28, lx 29, lx 30, lx 31, lx 32, lx 33, undef, undef, undef, undef, undef, undef], defers := [] }) (R8I (xo : Int) (X : Int) (N : Int) mo w2) rfl (by kernel_rfl) (fun n => if n = 5 then undef else if n = 6 then undef else if n = 27 then undef else if n = 28 then undef else if n = 29 then undef else if n = 30 then undef else if n = 31 then undef else if n = 32 then undef else if n = 33 then undef else undef) rfl R8I.start ?_ ?_
      · intro L lx wl i o K hK ho hL haf hI
        obtain ⟨XX, f0, f1, f2, f3, f4, f5, f6, f7, f8, f9⟩ := id hI
        have Z4' := Z4.later XX
        match i, ho, hL, haf, hK with
        | 0, ho, hL, haf, hK =>
          simp only [List.getElem?_toArray, List.getElem?_cons_zero, Option.some.injEq] at ho
          subst ho
          (try dsimp only)
          obtain ⟨a0, a1, a2, a3, a4, ⟨⟨p0, p1, p2⟩, _⟩, hz⟩ := Z4'
          have hN := hI
          obtain ⟨Y0, g0, g1, g2, g3, g4, g5, g6, g7, g8, g9⟩ := hN
          go_wp2_with fail
          exact hK (fun n => if n = 28 then .agg #[.int .i64 a0, .bool a1, .slice a2 a3 a4] else lx n) _ ⟨Y0, (fun _ => hz), g1, g2, g3, g4, g5, g6, g7, g8, g9⟩
        | 1, ho, hL, haf, hK =>
          simp only [List.getElem?_toArray, List.getElem?_cons_zero, List.getElem?_cons_succ, Option.some.injEq] at ho
          subst ho
          (try dsimp only)
          go_wp2_with fail
          refine (TT.out _).mono ?_
          rintro rr w' ⟨v', rfl, z', E⟩
          have hN := hI.later E
          clear hI
          obtain ⟨Y0, g0, g1, g2, g3, g4, g5, g6, g7, g8, g9⟩ := hN
          go_wp2_with fail
          exact hK (fun n => if n = 29 then v' else lx n) _ ⟨Y0, g0, (fun _ => z'), g2, g3, g4, g5, g6, g7, g8, g9⟩
        | 2, ho, hL, haf, hK =>
          simp only [List.getElem?_toArray, List.getElem?_cons_zero, List.getElem?_cons_succ, Option.some.injEq] at ho
          subst ho
          (try dsimp only)
          go_wp2_with fail
          refine (MU.out _ _ _ (f0 (haf ⟨0, .data⟩ (by simp) rfl)) (f1 (haf ⟨1, .data⟩ (by simp) rfl))).mono ?_
          rintro rr w' ⟨v', rfl, z', E⟩
          have hN := hI.later E
          clear hI
          obtain ⟨Y0, g0, g1, g2, g3, g4, g5, g6, g7, g8, g9⟩ := hN
          go_wp2_with fail
          exact hK (fun n => if n = 30 then v' else lx n) _ ⟨Y0, g0, g1, (fun _ => z'), g3, g4, g5, g6, g7, g8, g9⟩
        | 3, ho, hL, haf, hK =>
          simp only [List.getElem?_toArray, List.getElem?_cons_zero, List.getElem?_cons_succ, Option.some.injEq] at ho
          subst ho
          (try dsimp only)
          go_wp2_with fail
          refine (RO.out _ _ (f2 (haf ⟨2, .data⟩ (by simp) rfl))).mono ?_
          rintro rr w' ⟨⟨v', rfl, z'⟩, E⟩
          have hN := hI.later E
          clear hI
          obtain ⟨Y0, g0, g1, g2, g3, g4, g5, g6, g7, g8, g9⟩ := hN
          go_wp2_with fail
          exact hK (fun n => if n = 31 then .tuple #[v', .bool mo] else lx n) _ ⟨Y0, g0, g1, g2, (fun _ => ⟨_, rfl, z'⟩), g4, g5, g6, g7, g8, g9⟩
        | 4, ho, hL, haf, hK =>
          simp only [List.getElem?_toArray, List.getElem?_cons_zero, List.getElem?_cons_succ, Option.some.injEq] at ho
          subst ho
          (try dsimp only)
          have f3' := f3 (haf ⟨3, .data⟩ (by simp) rfl)
          have hN := hI
          obtain ⟨Y0, g0, g1, g2, g3, g4, g5, g6, g7, g8, g9⟩ := hN
          go_wp2_with fail
          exact hK (fun n => if n = 27 then lx 31 else lx n) _ ⟨Y0, g0, g1, g2, g3, (fun _ => f3'), g5, g6, g7, g8, g9⟩
        | 5, ho, hL, haf, hK =>
          simp only [List.getElem?_toArray, List.getElem?_cons_zero, List.getElem?_cons_succ, Option.some.injEq] at ho
          subst ho
          (try dsimp only)
          obtain ⟨uq, e27, hq⟩ := f4 (haf ⟨4, .data⟩ (by simp) rfl)
          rw [e27]
          have hN := hI
          obtain ⟨Y0, g0, g1, g2, g3, g4, g5, g6, g7, g8, g9⟩ := hN
          go_wp2_with fail
          exact hK (fun n => if n = 32 then uq else if n = 27 then .tuple #[uq, .bool mo] else lx n) _ ⟨Y0, g0, g1, g2, g3, (fun _ => ⟨_, rfl, hq⟩), (fun _ => hq), g6, g7, g8, g9⟩
        | 6, ho, hL, haf, hK =>
          simp only [List.getElem?_toArray, List.getElem?_cons_zero, List.getElem?_cons_succ, Option.some.injEq] at ho
          subst ho
          (try dsimp only)
          obtain ⟨uq, e27, hq⟩ := f4 (haf ⟨4, .data⟩ (by simp) rfl)
          rw [e27]
          have hN := hI
          obtain ⟨Y0, g0, g1, g2, g3, g4, g5, g6, g7, g8, g9⟩ := hN
          go_wp2_with fail
          exact hK (fun n => if n = 33 then .bool mo else if n = 27 then .tuple #[uq, .bool mo] else lx n) _ ⟨Y0, g0, g1, g2, g3, (fun _ => ⟨_, rfl, hq⟩), g5, (fun _ => rfl), g7, g8, g9⟩
        | 7, ho, hL, haf, hK =>
          simp only [List.getElem?_toArray, List.getElem?_cons_zero, List.getElem?_cons_succ, Option.some.injEq] at ho
          subst ho
          (try dsimp only)
          have hst : L 8 = true → False := fun h => by have := f9 h; rw [hL] at this; cases this
          have hN := hI.later (x1 wl (.cells #[.int .i64 0, .bool false, .slice none 0 0] 52))
          obtain ⟨Y0, g0, g1, g2, g3, g4, g5, g6, g7, g8, g9⟩ := hN
          go_wp2_with fail
          exact hK (fun n => if n = 5 then Value.pointer (some ⟨wl.heap.size, 0, none⟩) else lx n) _ ⟨Y0, g0, g1, g2, g3, g4, g5, g6, (fun _ => ⟨wl.heap.size, rfl, XX.size, fun h => (hst h).elim, fun _ => Box3.made wl _ _ _ _⟩), g8, (fun _ => rfl)⟩
        | 8, ho, hL, haf, hK =>
          simp only [List.getElem?_toArray, List.getElem?_cons_zero, List.getElem?_cons_succ, Option.some.injEq] at ho
          subst ho
          (try dsimp only)
          have h7 : L 7 = true := haf ⟨7, .data⟩ (by simp) rfl
          obtain ⟨b, eb', hb, _, hz⟩ := f7 h7
          have hbx := hz hL
          have hv := f5 (haf ⟨5, .data⟩ (by simp) rfl)
          obtain ⟨a0, a1, a2, a3, a4, ev⟩ := hv.shape
          rw [eb', ev]
          rw [ev] at hv
          obtain ⟨⟨c0, c1, c2⟩, c3, c4, c5⟩ := id hbx
          have hk : ∀ v z, ZV wl v z → ZV (set3 wl b (.int .i64 a0) (.bool a1) (.slice a2 a3 a4)) v z := fun v z h => h.set3 hbx _ _ _
          have hX := Ext.set3 XX hb (.int .i64 a0) (.bool a1) (.slice a2 a3 a4)
          have hB := hbx.zin.put hv
          have H7 : Hid (L 7 = true) := h7
          clear h7
          go_wp2_with fail
          exact hK (fun n => if n = 5 then .pointer (some ⟨b, 0, none⟩) else if n = 32 then .agg #[.int .i64 a0, .bool a1, .slice a2 a3 a4] else lx n) _ ⟨hX, fun h => hk _ _ (f0 h), fun h => hk _ _ (f1 h), fun h => hk _ _ (f2 h), fun h => by obtain ⟨u, e, z⟩ := f3 h; exact ⟨u, e, hk _ _ z⟩, fun h => by obtain ⟨u, e, z⟩ := f4 h; exact ⟨u, e, hk _ _ z⟩, fun _ => hk _ _ hv, f6, fun _ => ⟨b, rfl, hb, fun _ => hB, fun h => by cases h⟩, f8, fun _ => H7.out⟩
        | 9, ho, hL, haf, hK =>
          simp only [List.getElem?_toArray, List.getElem?_cons_zero, List.getElem?_cons_succ, Option.some.injEq] at ho
          subst ho
          (try dsimp only)
          rw [f6 (haf ⟨6, .data⟩ (by simp) rfl)]
          have hN := hI
          obtain ⟨Y0, g0, g1, g2, g3, g4, g5, g6, g7, g8, g9⟩ := hN
          go_wp2_with fail
          exact hK (fun n => if n = 6 then .bool mo else if n = 33 then .bool mo else lx n) _ ⟨Y0, g0, g1, g2, g3, g4, g5, (fun _ => rfl), g7, (fun _ => rfl), g9⟩
        | k + 10, ho, _, _, _ => simp at ho
      · intro L lx wl hall hI
        obtain ⟨XX, f0, f1, f2, f3, f4, f5, f6, f7, f8, f9⟩ := hI
        obtain ⟨b, eb', hb, hz, _⟩ := f7 (hall 7 (by simp))
        have h8 := hz (hall 8 (by simp))
        have h9 := f8 (hall 9 (by simp))
        (try dsimp only)
        clear f0 f1 f2 f3 f4 f5 f6 f7 f8 f9 hz
        go_wp2_with fail
        go_meet
        case rel => exact ⟨b, eb', h9, hb, h8, XX⟩
    case rest =>
      obtain ⟨b5, rfl, rfl, hb5, Z5, e8⟩ := hcut
      rename World => w8
      replace Br := Br.later e8
      replace X0 := xt X0 e8
      clear e8 TT MU RO
      obtain ⟨a0, a1, a2, a3, a4, ⟨⟨p0, p1, p2⟩, _⟩, hz⟩ := id Z5
      go_wp2_with fail
      refine (PU.out _ _ hz).mono ?_
      rintro rr w9 ⟨rfl, e9⟩
      obtain ⟨⟨m0, m1, m2, m3⟩, m4, m5, m6, m7⟩ := Br.later e9
      go_wp2
      exact bodyPost_ret (v := .agg #[.bool R.ok, .bool R.neg, .int .i64 R.d, .int .i64 R.e]) (by simp [results, Tryd.results6, go_sem, m0, m1, m2, m3]) rfl ⟨rfl, xset (xset (xset (xset (xt X0 e9) (by simp only; omega) _) (by simp only; omega) _) (by simp only; omega) _) (by simp only; omega) _⟩
  · obtain ⟨t, ht⟩ : ∃ t, e.tmod 2 = t := ⟨_, rfl⟩
    have ht0 : t ≠ 0 := by rw [← ht, Int.tmod_eq_emod]; split <;> omega
    have htb : (t == 0) = false := beq_eq_false_iff_ne.2 ht0
    have htd : decide (t = 0) = false := decide_eq_false ht0
    have hq : (e - 1).tdiv 2 = (e - 1) / 2 := by rw [Int.tdiv_eq_ediv]; split <;> omega
    have hw0 : IntKind.i64.wrap (e - 1) = e - 1 := by rw [IntKind.wrap_i64]; omega
    have hw : IntKind.i64.wrap ((e - 1) / 2 - 20) = (e - 1) / 2 - 20 := by rw [IntKind.wrap_i64]; omega
    have hw' : IntKind.i64.wrap ((e - 1) / 2) = (e - 1) / 2 := by rw [IntKind.wrap_i64]; omega
    clear h1
    obtain ⟨a0, a1, a2, a3, a4, P4, hz⟩ := id Z4
    obtain ⟨⟨p0, p1, p2⟩, p3, p4, p5⟩ := id P4
    go_upto_region 6 with fail
    obtain ⟨tb, htb'⟩ : ∃ b, Value.bool (t != 0) = b := ⟨_, rfl⟩
    rw [htb']
    clear htb' htb htd ht0
    go_cut [] (fun wc => ZIn wc b4 ((A * 10 : Nat) : Int) ∧ Box3 wc w.heap.size (.bool false) (.int .i64 A) (.int .i64 e) ∧ Box4 wc (w.heap.size + 1) (.bool false) (.bool false) (.int .i64 0) (.int .i64 0) ∧ Ext w wc)
    case first =>
      refine wp_region_letters (fun lx : Nat → Value => { tmps := #[Value.agg #[.bool false, .int .i64 A, .int .i64 e], Value.pointer (some ⟨w.heap.size, 0, none⟩), Value.pointer (some ⟨w.heap.size + 1, 0, none⟩), Value.int .i64 e, Value.pointer (some ⟨b4, 0, none⟩), undef, undef, Value.agg #[.bool false, .int .i64 A, .int .i64 e], Value.bool true, Value.bool false, Value.bool false, Value.pointer (some ⟨w.heap.size, 0, none⟩), Value.bool false, Value.bool false, undef, Value.pointer (some ⟨w.heap.size, 2, none⟩), Value.int .i64 e, Value.agg #[.bool false, .int .i64 A, .int .i64 e], Value.agg #[.int .i64 y0, .bool y1, .slice y2 y3 y4], Value.int .i64 e, Value.int .i64 t, tb, lx 22, lx 23, lx 24, undef, undef, undef, undef, undef, undef, undef, undef, undef, undef, undef, undef, undef, undef, undef], defers := [] }) (fun L lx lw => Hid ((L 3 = false → Ext w2 lw) ∧ (L 0 = true → L 3 = false → ZV lw (lx 22) (A : Int)) ∧ (L 1 = true → L 3 = false → ZV lw (lx 23) 10) ∧ (L 2 = true → L 3 = false → ZV lw (lx 24) ((A * 10 : Nat) : Int)) ∧ (L 3 = true → ZIn lw b4 ((A * 10 : Nat) : Int) ∧ Box3 lw w.heap.size (.bool false) (.int .i64 A) (.int .i64 e) ∧ Box4 lw (w.heap.size + 1) (.bool false) (.bool false) (.int .i64 0) (.int .i64 0) ∧ Ext w lw) ∧ (L 3 = true → L 2 = true ∧ L 1 = true ∧ L 0 = true))) rfl (by kernel_rfl) (fun _ => undef) rfl ⟨fun _ => xd (xr _), fun h => (by cases h), fun h => (by cases h), fun h => (by cases h), fun h => (by cases h), fun h => (by cases h)⟩ ?_ ?_
      · intro L lx wl i o K hK ho hL haf hI
        obtain ⟨f0, f1, f2, f3, f4, f5⟩ := hI.out
        match i, ho, hL, haf, hK with
        | 0, ho, hL, haf, hK =>
          simp only [List.getElem?_toArray, List.getElem?_cons_zero, Option.some.injEq] at ho
          subst ho
          (try dsimp only)
          by_cases h3 : L 3 = false
          · have XX := f0 h3
            obtain ⟨c0, c1, c2, c3, c4, ⟨⟨p0, p1, p2⟩, _⟩, hz'⟩ := Z4.later XX
            clear h3
            go_wp2_with fail
            exact hK (fun n => if n = 22 then .agg #[.int .i64 c0, .bool c1, .slice c2 c3 c4] else lx n) _ ⟨f0, fun _ _ => hz', f2, f3, f4, fun h => ⟨(f5 h).1, (f5 h).2.1, rfl⟩⟩
          · obtain ⟨z4, _⟩ := f4 (by cases h : L 3; exact absurd h h3; rfl)
            obtain ⟨c0, c1, c2, c3, c4, ⟨⟨p0, p1, p2⟩, _⟩, hz'⟩ := z4
            have H3 : Hid (¬ L 3 = false) := h3
            clear h3
            go_wp2_with fail
            exact hK (fun n => if n = 22 then .agg #[.int .i64 c0, .bool c1, .slice c2 c3 c4] else lx n) _ ⟨f0, fun _ h => absurd h H3.out, f2, f3, f4, fun h => ⟨(f5 h).1, (f5 h).2.1, rfl⟩⟩
        | 1, ho, hL, haf, hK =>
          simp only [List.getElem?_toArray, List.getElem?_cons_zero, List.getElem?_cons_succ, Option.some.injEq] at ho
          subst ho
          (try dsimp only)
          go_wp2_with fail
          refine (SM.out _).mono ?_
          rintro rr w' ⟨v', rfl, z', E⟩
          go_wp2_with fail
          exact hK (fun n => if n = 23 then v' else lx n) _ ⟨fun h => xt (f0 h) E, fun h h' => (f1 h h').later E, fun _ _ => z', fun h h' => (f3 h h').later E, fun h => by obtain ⟨k1, k2, k3, k4⟩ := f4 h; exact ⟨k1.later E, k2.later E, k3.later E, xt k4 E⟩, fun h => ⟨(f5 h).1, rfl, (f5 h).2.2⟩⟩
        | 2, ho, hL, haf, hK =>
          simp only [List.getElem?_toArray, List.getElem?_cons_zero, List.getElem?_cons_succ, Option.some.injEq] at ho
          subst ho
          (try dsimp only)
          have h3 : L 3 = false := by cases h : L 3; rfl; have := (f5 h).1; rw [hL] at this; cases this
          go_wp2_with fail
          refine (M10.out _ _ _ (f1 (haf ⟨0, .data⟩ (by simp) rfl) h3) (f2 (haf ⟨1, .data⟩ (by simp) rfl) h3)).mono ?_
          rintro rr w' ⟨v', rfl, z', E⟩
          clear h3
          go_wp2_with fail
          exact hK (fun n => if n = 24 then v' else lx n) _ ⟨fun h => xt (f0 h) E, fun h h' => (f1 h h').later E, fun h h' => (f2 h h').later E, fun _ _ => z', fun h => by obtain ⟨k1, k2, k3, k4⟩ := f4 h; exact ⟨k1.later E, k2.later E, k3.later E, xt k4 E⟩, fun h => ⟨rfl, (f5 h).2.1, (f5 h).2.2⟩⟩
        | 3, ho, hL, haf, hK =>
          simp only [List.getElem?_toArray, List.getElem?_cons_zero, List.getElem?_cons_succ, Option.some.injEq] at ho
          subst ho
          (try dsimp only)
          have XX := f0 hL
          have z3 := f3 (haf ⟨2, .data⟩ (by simp) rfl) hL
          obtain ⟨s0, s1, s2, s3, s4, ev⟩ := z3.shape
          rw [ev] at z3
          rw [ev]
          have Z4' := Z4.later XX
          obtain ⟨c0, c1, c2, c3, c4, ⟨⟨p0, p1, p2⟩, p3, p4, p5⟩, hz'⟩ := id Z4'
          have n1 := Z4'.put z3
          have n2 := (Ba.later XX).far3 (k := b4) (by omega) (.int .i64 s0) (.bool s1) (.slice s2 s3 s4)
          have n3 := (((Br.later XX).far (p := ⟨b4, 0, none⟩) (by simp only; omega) (.int .i64 s0)).far (p := ⟨b4, 1, none⟩) (by simp only; omega) (.bool s1)).far (p := ⟨b4, 2, none⟩) (by simp only; omega) (.slice s2 s3 s4)
          have n4 := Ext.set3 (b := b4) (xt X0 XX) (by omega) (.int .i64 s0) (.bool s1) (.slice s2 s3 s4)
          have H2 : Hid (L 2 = true) := haf ⟨2, .data⟩ (by simp) rfl
          have H1 : Hid (L 1 = true) := haf ⟨1, .phase⟩ (by simp) rfl
          have H0 : Hid (L 0 = true) := haf ⟨0, .phase⟩ (by simp) rfl
          clear hL
          go_wp2_with fail
          exact hK (fun n => if n = 24 then .agg #[.int .i64 s0, .bool s1, .slice s2 s3 s4] else lx n) _ ⟨fun h => (by cases h), fun _ h => (by cases h), fun _ h => (by cases h), fun _ h => (by cases h), fun _ => ⟨n1, n2, n3, n4⟩, fun _ => ⟨H2.out, H1.out, H0.out⟩⟩
        | k + 4, ho, _, _, _ => simp at ho
      · intro L lx wl hall hI
        have h4 := hI.out.2.2.2.2.1 (hall 3 (by simp))
        clear hI
        (try dsimp only)
        go_wp2_with fail
        go_meet
        case rel => exact h4
    case rest =>
      obtain ⟨Z4', Ba', Br', X0'⟩ := hcut
      rename World => w3
      clear Z4 Ba Br X0 P4 hz p0 p1 p2 p3 p4 p5 SM M10
      have Z4 := Z4'
      have Ba := Ba'
      have Br := Br'
      have X0 := X0'
      clear Z4' Ba' Br' X0'
      go_upto_region 8 with fail
      go_cut [5, 6] (fun v u wc => ∃ b, v = .pointer (some ⟨b, 0, none⟩) ∧ u = .bool mo ∧ w3.heap.size ≤ b ∧ ZIn wc b (N : Int) ∧ Ext w3 wc)
      case first =>
        refine wp_region_letters (fun lx : Nat → Value => { tmps := #[Value.agg #[.bool false, .int .i64 A, .int .i64 e], Value.pointer (some ⟨w.heap.size, 0, none⟩), Value.pointer (some ⟨w.heap.size + 1, 0, none⟩), Value.int .i64 (e - 1), Value.pointer (some ⟨b4, 0, none⟩), lx 5, lx 6, u7, u8, u9, u10, u11, u12, u13, u14, u15, u16, u17, u18, u19, u20, u21, u22, u23, u24, Value.int .i64 e, Value.int .i64 (e - 1), lx 27, lx 28, lx 29, lx 30, lx 31, lx 32, lx 33, u34, u35, u36, u37, u38, u39], defers := [] }) (R8I ((A * 10 : Nat) : Int) (X : Int) (N : Int) mo w3) rfl (by kernel_rfl) (fun n => if n = 5 then undef else if n = 6 then undef else if n = 27 then u27 else if n = 28 then u28 else if n = 29 then u29 else if n = 30 then u30 else if n = 31 then u31 else if n = 32 then u32 else if n = 33 then u33 else undef) rfl R8I.start ?_ ?_
        · intro L lx wl i o K hK ho hL haf hI
          obtain ⟨XX, f0, f1, f2, f3, f4, f5, f6, f7, f8, f9⟩ := id hI
          have Z4' := Z4.later XX
          match i, ho, hL, haf, hK with
          | 0, ho, hL, haf, hK =>
            simp only [List.getElem?_toArray, List.getElem?_cons_zero, Option.some.injEq] at ho
            subst ho
            (try dsimp only)
            obtain ⟨a0, a1, a2, a3, a4, ⟨⟨p0, p1, p2⟩, _⟩, hz⟩ := Z4'
            have hN := hI
            obtain ⟨Y0, g0, g1, g2, g3, g4, g5, g6, g7, g8, g9⟩ := hN
            go_wp2_with fail
            exact hK (fun n => if n = 28 then .agg #[.int .i64 a0, .bool a1, .slice a2 a3 a4] else lx n) _ ⟨Y0, (fun _ => hz), g1, g2, g3, g4, g5, g6, g7, g8, g9⟩
          | 1, ho, hL, haf, hK =>
            simp only [List.getElem?_toArray, List.getElem?_cons_zero, List.getElem?_cons_succ, Option.some.injEq] at ho
            subst ho
            (try dsimp only)
            go_wp2_with fail
            refine (TT.out _).mono ?_
            rintro rr w' ⟨v', rfl, z', E⟩
            have hN := hI.later E
            clear hI
            obtain ⟨Y0, g0, g1, g2, g3, g4, g5, g6, g7, g8, g9⟩ := hN
            go_wp2_with fail
            exact hK (fun n => if n = 29 then v' else lx n) _ ⟨Y0, g0, (fun _ => z'), g2, g3, g4, g5, g6, g7, g8, g9⟩
          | 2, ho, hL, haf, hK =>
            simp only [List.getElem?_toArray, List.getElem?_cons_zero, List.getElem?_cons_succ, Option.some.injEq] at ho
            subst ho
            (try dsimp only)
            go_wp2_with fail
            refine (MU.out _ _ _ (f0 (haf ⟨0, .data⟩ (by simp) rfl)) (f1 (haf ⟨1, .data⟩ (by simp) rfl))).mono ?_
            rintro rr w' ⟨v', rfl, z', E⟩
            have hN := hI.later E
            clear hI
            obtain ⟨Y0, g0, g1, g2, g3, g4, g5, g6, g7, g8, g9⟩ := hN
            go_wp2_with fail
            exact hK (fun n => if n = 30 then v' else lx n) _ ⟨Y0, g0, g1, (fun _ => z'), g3, g4, g5, g6, g7, g8, g9⟩
          | 3, ho, hL, haf, hK =>
            simp only [List.getElem?_toArray, List.getElem?_cons_zero, List.getElem?_cons_succ, Option.some.injEq] at ho
            subst ho
            (try dsimp only)
            go_wp2_with fail
            refine (RO.out _ _ (f2 (haf ⟨2, .data⟩ (by simp) rfl))).mono ?_
            rintro rr w' ⟨⟨v', rfl, z'⟩, E⟩
            have hN := hI.later E
            clear hI
            obtain ⟨Y0, g0, g1, g2, g3, g4, g5, g6, g7, g8, g9⟩ := hN
            go_wp2_with fail
            exact hK (fun n => if n = 31 then .tuple #[v', .bool mo] else lx n) _ ⟨Y0, g0, g1, g2, (fun _ => ⟨_, rfl, z'⟩), g4, g5, g6, g7, g8, g9⟩
          | 4, ho, hL, haf, hK =>
            simp only [List.getElem?_toArray, List.getElem?_cons_zero, List.getElem?_cons_succ, Option.some.injEq] at ho
            subst ho
            (try dsimp only)
            have f3' := f3 (haf ⟨3, .data⟩ (by simp) rfl)
            have hN := hI
            obtain ⟨Y0, g0, g1, g2, g3, g4, g5, g6, g7, g8, g9⟩ := hN
            go_wp2_with fail
            exact hK (fun n => if n = 27 then lx 31 else lx n) _ ⟨Y0, g0, g1, g2, g3, (fun _ => f3'), g5, g6, g7, g8, g9⟩
          | 5, ho, hL, haf, hK =>
            simp only [List.getElem?_toArray, List.getElem?_cons_zero, List.getElem?_cons_succ, Option.some.injEq] at ho
            subst ho
            (try dsimp only)
            obtain ⟨uq, e27, hq⟩ := f4 (haf ⟨4, .data⟩ (by simp) rfl)
            rw [e27]
            have hN := hI
            obtain ⟨Y0, g0, g1, g2, g3, g4, g5, g6, g7, g8, g9⟩ := hN
            go_wp2_with fail
            exact hK (fun n => if n = 32 then uq else if n = 27 then .tuple #[uq, .bool mo] else lx n) _ ⟨Y0, g0, g1, g2, g3, (fun _ => ⟨_, rfl, hq⟩), (fun _ => hq), g6, g7, g8, g9⟩
          | 6, ho, hL, haf, hK =>
            simp only [List.getElem?_toArray, List.getElem?_cons_zero, List.getElem?_cons_succ, Option.some.injEq] at ho
            subst ho
            (try dsimp only)
            obtain ⟨uq, e27, hq⟩ := f4 (haf ⟨4, .data⟩ (by simp) rfl)
            rw [e27]
            have hN := hI
            obtain ⟨Y0, g0, g1, g2, g3, g4, g5, g6, g7, g8, g9⟩ := hN
            go_wp2_with fail
            exact hK (fun n => if n = 33 then .bool mo else if n = 27 then .tuple #[uq, .bool mo] else lx n) _ ⟨Y0, g0, g1, g2, g3, (fun _ => ⟨_, rfl, hq⟩), g5, (fun _ => rfl), g7, g8, g9⟩
          | 7, ho, hL, haf, hK =>
            simp only [List.getElem?_toArray, List.getElem?_cons_zero, List.getElem?_cons_succ, Option.some.injEq] at ho
            subst ho
            (try dsimp only)
            have hst : L 8 = true → False := fun h => by have := f9 h; rw [hL] at this; cases this
            have hN := hI.later (x1 wl (.cells #[.int .i64 0, .bool false, .slice none 0 0] 52))
            obtain ⟨Y0, g0, g1, g2, g3, g4, g5, g6, g7, g8, g9⟩ := hN
            go_wp2_with fail
            exact hK (fun n => if n = 5 then Value.pointer (some ⟨wl.heap.size, 0, none⟩) else lx n) _ ⟨Y0, g0, g1, g2, g3, g4, g5, g6, (fun _ => ⟨wl.heap.size, rfl, XX.size, fun h => (hst h).elim, fun _ => Box3.made wl _ _ _ _⟩), g8, (fun _ => rfl)⟩
          | 8, ho, hL, haf, hK =>
            simp only [List.getElem?_toArray, List.getElem?_cons_zero, List.getElem?_cons_succ, Option.some.injEq] at ho
            subst ho
            (try dsimp only)
            have h7 : L 7 = true := haf ⟨7, .data⟩ (by simp) rfl
            obtain ⟨b, eb', hb, _, hz⟩ := f7 h7
            have hbx := hz hL
            have hv := f5 (haf ⟨5, .data⟩ (by simp) rfl)
            obtain ⟨a0, a1, a2, a3, a4, ev⟩ := hv.shape
            rw [eb', ev]
            rw [ev] at hv
            obtain ⟨⟨c0, c1, c2⟩, c3, c4, c5⟩ := id hbx
            have hk : ∀ v z, ZV wl v z → ZV (set3 wl b (.int .i64 a0) (.bool a1) (.slice a2 a3 a4)) v z := fun v z h => h.set3 hbx _ _ _
            have hX := Ext.set3 XX hb (.int .i64 a0) (.bool a1) (.slice a2 a3 a4)
            have hB := hbx.zin.put hv
            have H7 : Hid (L 7 = true) := h7
            clear h7
            go_wp2_with fail
            exact hK (fun n => if n = 5 then .pointer (some ⟨b, 0, none⟩) else if n = 32 then .agg #[.int .i64 a0, .bool a1, .slice a2 a3 a4] else lx n) _ ⟨hX, fun h => hk _ _ (f0 h), fun h => hk _ _ (f1 h), fun h => hk _ _ (f2 h), fun h => by obtain ⟨u, e, z⟩ := f3 h; exact ⟨u, e, hk _ _ z⟩, fun h => by obtain ⟨u, e, z⟩ := f4 h; exact ⟨u, e, hk _ _ z⟩, fun _ => hk _ _ hv, f6, fun _ => ⟨b, rfl, hb, fun _ => hB, fun h => by cases h⟩, f8, fun _ => H7.out⟩
          | 9, ho, hL, haf, hK =>
            simp only [List.getElem?_toArray, List.getElem?_cons_zero, List.getElem?_cons_succ, Option.some.injEq] at ho
            subst ho
            (try dsimp only)
            rw [f6 (haf ⟨6, .data⟩ (by simp) rfl)]
            have hN := hI
            obtain ⟨Y0, g0, g1, g2, g3, g4, g5, g6, g7, g8, g9⟩ := hN
            go_wp2_with fail
            exact hK (fun n => if n = 6 then .bool mo else if n = 33 then .bool mo else lx n) _ ⟨Y0, g0, g1, g2, g3, g4, g5, (fun _ => rfl), g7, (fun _ => rfl), g9⟩
          | k + 10, ho, _, _, _ => simp at ho
        · intro L lx wl hall hI
          obtain ⟨XX, f0, f1, f2, f3, f4, f5, f6, f7, f8, f9⟩ := hI
          obtain ⟨b, eb', hb, hz, _⟩ := f7 (hall 7 (by simp))
          have h8 := hz (hall 8 (by simp))
          have h9 := f8 (hall 9 (by simp))
          (try dsimp only)
          clear f0 f1 f2 f3 f4 f5 f6 f7 f8 f9 hz
          go_wp2_with fail
          go_meet
          case rel => exact ⟨b, eb', h9, hb, h8, XX⟩
      case rest =>
        obtain ⟨b5, rfl, rfl, hb5, Z5, e8⟩ := hcut
        rename World => w8
        replace Br := Br.later e8
        replace X0 := xt X0 e8
        clear e8 TT MU RO
        obtain ⟨a0, a1, a2, a3, a4, ⟨⟨p0, p1, p2⟩, _⟩, hz⟩ := id Z5
        go_wp2_with fail
        refine (PU.out _ _ hz).mono ?_
        rintro rr w9 ⟨rfl, e9⟩
        obtain ⟨⟨m0, m1, m2, m3⟩, m4, m5, m6, m7⟩ := Br.later e9
        go_wp2
        exact bodyPost_ret (v := .agg #[.bool R.ok, .bool R.neg, .int .i64 R.d, .int .i64 R.e]) (by simp [results, Tryd.results6, go_sem, m0, m1, m2, m3]) rfl ⟨rfl, xset (xset (xset (xset (xt X0 e9) (by simp only; omega) _) (by simp only; omega) _) (by simp only; omega) _) (by simp only; omega) _⟩

theorem or_u64_nat (a b : Nat) (ha : a < 18446744073709551616) (hb : b < 18446744073709551616) : bits .or .u64 (a : Int) (b : Int) = ((a ||| b : Nat) : Int) := by
  have hx : a ||| b < 2 ^ 64 := Nat.or_lt_two_pow (by omega) (by omega)
  have h1 : (BitVec.ofInt 64 (a : Int)).toNat = a := by
    rw [BitVec.ofInt_natCast, BitVec.toNat_ofNat]; exact Nat.mod_eq_of_lt (by omega)
  have h2 : (BitVec.ofInt 64 (b : Int)).toNat = b := by
    rw [BitVec.ofInt_natCast, BitVec.toNat_ofNat]; exact Nat.mod_eq_of_lt (by omega)
  show IntKind.u64.wrap ((BitVec.ofInt 64 (a : Int) ||| BitVec.ofInt 64 (b : Int)).toNat : Int) = _
  rw [BitVec.toNat_or, h1, h2, IntKind.wrap_u64]
  omega
theorem or_bit {r i : Nat} (h : 2 ^ (i + 1) ∣ r) : r ||| 2 ^ i = r + 2 ^ i := by
  obtain ⟨q, rfl⟩ := h
  have := Nat.shiftLeft_add_eq_or_of_lt (b := 2 ^ i) (i := i + 1) (Nat.pow_lt_pow_right (by decide) (by omega)) q
  rw [Nat.shiftLeft_eq, Nat.mul_comm] at this
  exact this.symm
theorem dvd_room {r i : Nat} (h : 2 ^ (i + 1) ∣ r) (hi : i ≤ 63) (hr : r < 18446744073709551616) : r + 2 ^ (i + 1) ≤ 18446744073709551616 := by
  obtain ⟨q, rfl⟩ := h
  have e : 2 ^ (i + 1) * 2 ^ (63 - i) = 18446744073709551616 := by
    rw [← Nat.pow_add, show i + 1 + (63 - i) = 64 by omega]
  have hq : q < 2 ^ (63 - i) := by
    rcases Nat.lt_or_ge q (2 ^ (63 - i)) with h | h
    · exact h
    · have := Nat.mul_le_mul_left (2 ^ (i + 1)) h
      omega
  have := Nat.mul_le_mul_left (2 ^ (i + 1)) (show q + 1 ≤ 2 ^ (63 - i) by omega)
  rw [Nat.mul_add, Nat.mul_one, e] at this
  exact this
theorem sq_le {k x t : Nat} (h : IsRoot k x) : t * t ≤ x ↔ t ≤ k := by
  constructor
  · intro h1
    have := sq_lt (Nat.lt_of_le_of_lt h1 h.2)
    omega
  · intro h1
    exact Nat.le_trans (Nat.mul_le_mul h1 h1) h.1

set_option maxRecDepth 4000 in
set_option maxHeartbeats 8000000 in
theorem rootI {v : Value} {x N : Nat} (w : World) (hv : WV v x) (hN : IsRoot N x) (hx : N < 18446744073709551616) :
    Calls Tryd.prog 20 #[v] w fun e w' => e = .returned (.int .u64 N) ∧ Ext w w' := by
  obtain ⟨h, l, rfl, h1, h2, he⟩ := id hv
  have B1 := Box2.made w (.int .u64 h) (.int .u64 l) 43
  have X0 := x1 w (.cells #[.int .u64 h, .int .u64 l] 43)
  have LS : Hid (∀ (u : Value) (t : Nat) w2, WV u (t * t) → Calls Tryd.prog 36 #[.agg #[.int .u64 h, .int .u64 l], u] w2 fun e w' => e = .returned (.bool (decide (x < t * t))) ∧ Ext w2 w') := fun u t w2 hu => less_any w2 hv hu
  have HN : Hid (IsRoot N x ∧ N < 18446744073709551616) := ⟨hN, hx⟩
  clear hv h1 h2 he hN hx
  go_enter Tryd.func20, Tryd.ntmps20
  go_wp2_with fail
  obtain ⟨w0, hw0⟩ : ∃ u, w.alloc (.cells #[.int .u64 h, .int .u64 l] 43) = u := ⟨_, rfl⟩
  rw [hw0] at B1 X0 ⊢
  clear hw0
  go_loopw [3, 4] (fun y z wr => ∃ i r b : Nat, y = .int .u64 r ∧ z = .int .u64 b ∧ Hid (i ≤ 64 ∧ b = 2 ^ i / 2 ∧ 2 ^ i ∣ r ∧ r ≤ N ∧ N < r + 2 ^ i) ∧ Ext w0 wr) (fun _ z _ => (intOf z).toNat)
  case atStart => exact ⟨64, 0, 9223372036854775808, rfl, rfl, ⟨Nat.le_refl _, by decide, Nat.dvd_zero _, Nat.zero_le _, by have := HN.out.2; omega⟩, xr _⟩
  case round =>
    obtain ⟨i, r, b, rfl, rfl, HI, XR⟩ := hrel
    rename World => wr
    obtain ⟨⟨p0, p1⟩, _⟩ := B1.later XR
    cases i with
    | zero =>
      obtain ⟨_, i1, _, i3, i4⟩ := HI.out
      have b0 : b = 0 := i1
      have rN : r = N := by simp at i4; omega
      subst b0 rN
      clear i1 i3 i4 HI
      go_wp2_with fail
      go_ret
      exact ⟨rfl, xt X0 XR⟩
    | succ i =>
      obtain ⟨i0, i1, i2, i3, i4⟩ := HI.out
      have ib : b = 2 ^ i := by rw [i1, Nat.pow_succ]; omega
      have ip : 0 < 2 ^ i := Nat.pow_pos (by decide)
      have i63 : 2 ^ i ≤ 2 ^ 63 := Nat.pow_le_pow_right (by decide) (by omega)
      have hor := or_bit i2
      rw [← ib] at hor ip i63
      have e1 : 2 ^ (i + 1) = b + b := by rw [Nat.pow_succ, ← ib]; omega
      have rb : r + b < 18446744073709551616 := by
        have := dvd_room i2 (by omega) (by have := HN.out.2; omega)
        omega
      have OR : bits .or .u64 (r : Int) (b : Int) = ((r + b : Nat) : Int) := by rw [or_u64_nat r b (by omega) (by omega), hor]
      obtain ⟨t, ht⟩ : ∃ t, r + b = t := ⟨_, rfl⟩
      rw [ht] at OR rb
      have bp : (b : Int) > 0 := by omega
      have bp' : decide ((b : Int) > 0) = true := decide_eq_true bp
      have PR := fun w2 => product_any t t (by omega) (by omega) w2
      have HT : Hid (r + b = t ∧ b = 2 ^ i ∧ 2 ^ (i + 1) = b + b) := ⟨ht, ib, e1⟩
      clear i0 i1 i2 i3 i4 ib ip i63 hor e1 ht
      go_upto_region 6 with fail
      go_cut [18] (fun y wc => y = .bool (decide (t ≤ N)) ∧ Ext wr wc)
      case first =>
        have HL : Hid ((!decide (x < t * t)) = decide (t ≤ N)) := by
          show _ = _
          have := sq_le (t := t) HN.out.1
          rw [Bool.eq_iff_iff]
          simp only [Bool.not_eq_true', decide_eq_false_iff_not, decide_eq_true_eq]
          omega
        obtain ⟨dd, hdd⟩ : ∃ dd, decide (x < t * t) = dd := ⟨_, rfl⟩
        have LS' : Hid (∀ (u : Value) w2, WV u (t * t) → Calls Tryd.prog 36 #[.agg #[.int .u64 h, .int .u64 l], u] w2 fun e w' => e = .returned (.bool dd) ∧ Ext w2 w') := fun u w2 hu => by rw [← hdd]; exact LS.out u t w2 hu
        have HL' : Hid ((!dd) = decide (t ≤ N)) := by rw [← hdd]; exact HL
        have PR' : Hid (∀ w2, Calls Tryd.prog 22 #[.int .u64 t, .int .u64 t] w2 fun e w' => ∃ v, e = .returned v ∧ WV v (t * t) ∧ Ext w2 w') := PR
        clear HL hdd LS PR HT HI HN
        go_region_held3 (fun w' => w'.cell? ⟨w.heap.size, 0, none⟩ = some (.int .u64 h) ∧ w'.cell? ⟨w.heap.size, 1, none⟩ = some (.int .u64 l)) (go_keep) (first
          | (go_at_call 22; refine (PR'.out _).mono ?_; rintro rx wD ⟨vp, rfl, hp, eD⟩; have eD' : Ext wr wD := xt (xd (xr _)) eD; clear p0 p1; obtain ⟨⟨p0, p1⟩, _⟩ := (B1.later XR).later eD')
          | (go_at_call 36; refine (LS'.out _ _ hp).mono ?_; rintro rx wE ⟨rfl, eE⟩; have eE' : Ext wr wE := xt eD' eE; clear p0 p1; obtain ⟨⟨p0, p1⟩, _⟩ := (B1.later XR).later eE'))
        all_goals go_wp2_with fail
        all_goals go_meet
        all_goals exact ⟨congrArg Value.bool HL'.out, eE'⟩
      case rest =>
        obtain ⟨rfl, e6⟩ := hcut
        rename World => w6
        have X6 := xt XR e6
        by_cases hc : t ≤ N
        · have fc : decide (t ≤ N) = true := decide_eq_true hc
          rw [fc]
          have HH : Hid (i ≤ 64 ∧ b / 2 = 2 ^ i / 2 ∧ 2 ^ i ∣ t ∧ t ≤ N ∧ N < t + 2 ^ i) := by
            obtain ⟨i0, i1, i2, i3, i4⟩ := HI.out
            obtain ⟨t1, t2, t3⟩ := HT.out
            refine ⟨by omega, by rw [← t2], ?_, hc, by omega⟩
            rw [← t1, ← t2]
            exact Nat.dvd_add (by rw [t2]; exact Nat.dvd_trans (Nat.pow_dvd_pow 2 (by omega)) i2) (Nat.dvd_refl b)
          clear fc hc HI HT PR LS
          go_wp2_with fail
          go_round
          case rel => exact ⟨i, t, b / 2, rfl, congrArg (Value.int .u64) (by omega), HH, X6⟩
          case measure => simp [intOf]; omega
        · have fc : decide (t ≤ N) = false := decide_eq_false hc
          rw [fc]
          have HH : Hid (i ≤ 64 ∧ b / 2 = 2 ^ i / 2 ∧ 2 ^ i ∣ r ∧ r ≤ N ∧ N < r + 2 ^ i) := by
            obtain ⟨i0, i1, i2, i3, i4⟩ := HI.out
            obtain ⟨t1, t2, t3⟩ := HT.out
            exact ⟨by omega, by rw [← t2], Nat.dvd_trans (Nat.pow_dvd_pow 2 (by omega)) i2, i3, by omega⟩
          clear fc hc HI HT PR LS
          go_wp2_with fail
          go_round
          case rel => exact ⟨i, r, b / 2, rfl, congrArg (Value.int .u64) (by omega), HH, X6⟩
          case measure => simp [intOf]; omega

/-- Both sides put the same. -/
theorem sqrt_same {A N M u : Nat} {e eo : Int} {xo : Nat} (hA1 : A < 1000000000000000) (ga : A = 0 → e = 0) (ho : (e % 2 = 0 ∧ eo = e ∧ xo = A) ∨ (e % 2 ≠ 0 ∧ eo = e - 1 ∧ xo = A * 10))
    (hu : u = 38 - nd A ∨ u + 1 = 38 - nd A) (he : (e - u) % 2 = 0) (hN : IsRoot N (xo * 10 ^ 40)) (hM : IsRoot M (A * 10 ^ u)) :
    putR false N (eo / 2 - 20) (decide (N * N ≠ xo * 10 ^ 40)) = putR false M ((e - u) / 2) (decide (M * M ≠ A * 10 ^ u)) := by
  by_cases h0 : A = 0
  · have ez := ga h0
    subst h0
    have xz : xo = 0 := by omega
    subst xz
    have n0 : N = 0 := by
      rcases Nat.eq_zero_or_pos N with h | h
      · exact h
      · have := hN.1; have := Nat.mul_pos h h; omega
    have m0 : M = 0 := by
      rcases Nat.eq_zero_or_pos M with h | h
      · exact h
      · have := hM.1; have := Nat.mul_pos h h; omega
    subst n0 m0
    unfold putR fitR
    simp [nd_zero]
  · have n15 : nd A ≤ 15 := nd_le (by omega)
    have n1 : 0 < nd A := by rw [nd_pos h0]; omega
    have nW : nd (A * 10 ^ u) = nd A + u := nd_mul A u h0
    have W36 : 10 ^ 36 ≤ A * 10 ^ u := nd_lt (by omega)
    have M18 : 10 ^ 18 ≤ M := by
      have h1 : (10 ^ 18) * (10 ^ 18) < (M + 1) * (M + 1) := by
        rw [← Nat.pow_add]
        exact Nat.lt_of_le_of_lt W36 hM.2
      have := sq_lt h1
      omega
    have M15 : 15 < nd M := nd_ge (Nat.le_trans (Nat.pow_le_pow_right (by decide) (by omega)) M18)
    rcases ho with ⟨h1, rfl, rfl⟩ | ⟨h1, rfl, rfl⟩
    · obtain ⟨j, hj⟩ : ∃ j, 40 = u + (j + j) := ⟨(40 - u) / 2, by omega⟩
      have e40 : xo * 10 ^ 40 = xo * 10 ^ u * (10 ^ j * 10 ^ j) := by rw [hj, Nat.pow_add, Nat.pow_add, Nat.mul_assoc]
      rw [e40] at hN ⊢
      have := put_root false ((eo - u) / 2) hM hN M15
      rw [← this]
      congr 1
      omega
    · obtain ⟨j, hj⟩ : ∃ j, 41 = u + (j + j) := ⟨(41 - u) / 2, by omega⟩
      have e40 : A * 10 * 10 ^ 40 = A * 10 ^ u * (10 ^ j * 10 ^ j) := by
        rw [Nat.mul_assoc, show 10 * 10 ^ 40 = 10 ^ 41 by decide, hj, Nat.pow_add, Nat.pow_add, Nat.mul_assoc]
      rw [e40] at hN ⊢
      have := put_root false ((e - u) / 2) hM hN M15
      rw [← this]
      congr 1
      omega

set_option maxRecDepth 4000 in
set_option maxHeartbeats 8000000 in
theorem sqrtI_good (A u M : Nat) (e : Int) (w : World) (ga : goodB false A e = true) (hu : ((e - ((38 - nd A : Nat) : Int)) % 2 = 0 ∧ u = 38 - nd A) ∨ ((e - ((38 - nd A : Nat) : Int)) % 2 ≠ 0 ∧ u + 1 = 38 - nd A)) (hM : IsRoot M (A * 10 ^ u)) (hT : Tens w) :
    Calls Tryd.prog 5 #[.agg #[.bool false, .int .i64 A, .int .i64 e]] w fun r w' => r = .returned (resV (putR false M ((e - u) / 2) (decide (M * M ≠ A * 10 ^ u)))) ∧ Ext w w' := by
  obtain ⟨W, hW⟩ : ∃ W : Nat, A * 10 ^ u = W := ⟨_, rfl⟩
  rw [hW] at hM ⊢
  obtain ⟨R, hR⟩ : ∃ R, putR false M ((e - u) / 2) (decide (M * M ≠ W)) = R := ⟨_, rfl⟩
  rw [hR]
  show Calls _ _ _ _ fun r w' => r = .returned (.agg #[.bool R.ok, .bool R.neg, .int .i64 R.d, .int .i64 R.e]) ∧ Ext w w'
  obtain ⟨ga0, ga1, ga2, ga3⟩ := good_bd ga
  have n15 : nd A ≤ 15 := nd_le (by omega)
  have WB : W < 100000000000000000000000000000000000000 := by
    rw [← hW]
    by_cases h0 : A = 0
    · subst h0; simp
    · have h1 := nd_mul A u h0
      have h2 := (nd_dig (A * 10 ^ u)).1
      have h3 := pow10_le (show nd (A * 10 ^ u) ≤ 38 by omega)
      have := far_pow
      omega
  have MB : M < 10000000000000000000 := by
    have h1 := hM.1
    have h2 : M * M < 10000000000000000000 * 10000000000000000000 := by omega
    exact sq_lt h2
  have GA : Hid (∀ w2, Tens w2 → Calls Tryd.prog 16 #[.agg #[.bool false, .int .i64 A, .int .i64 e]] w2 fun e w' => e = .returned (.bool true) ∧ Ext w2 w') := fun w2 hT => goodI_is true false A e w2 (by omega) (by omega) hT ga
  have SZ : Hid (∀ w2, Calls Tryd.prog 17 #[.agg #[.bool false, .int .i64 A, .int .i64 e]] w2 fun e w' => ∃ v, e = .returned v ∧ WV v A ∧ Ext w2 w') := fun w2 => sizeOf_any false A e w2 (by omega)
  have LN : Hid (∀ w2 v, WV v A → Tens w2 → Calls Tryd.prog 18 #[v] w2 fun e w' => e = .returned (.int .i64 (nd A)) ∧ Ext w2 w') := fun w2 v hv hT => by
    refine (length_any w2 hv hT).mono ?_
    rintro e w' ⟨k, rfl, hk, _, hx⟩
    rw [hk.nd]
    exact ⟨rfl, hx⟩
  have RA : Hid (∀ w2 v, WV v A → Tens w2 → Calls Tryd.prog 19 #[v, .int .i64 u] w2 fun e w' => ∃ h l : Nat, e = .returned (.agg #[.int .u64 h, .int .u64 l]) ∧ WV (.agg #[.int .u64 h, .int .u64 l]) W ∧ Ext w2 w') := fun w2 v hv hT => by
    refine (raised_any u (by omega) w2 hv hT (by rw [hW]; omega)).mono ?_
    rintro e w' ⟨v', rfl, hv', hx⟩
    rw [hW] at hv'
    obtain ⟨h, l, rfl, _⟩ := id hv'
    exact ⟨h, l, rfl, hv', hx⟩
  have RT : Hid (∀ w2 v, WV v W → Calls Tryd.prog 20 #[v] w2 fun e w' => e = .returned (.int .u64 M) ∧ Ext w2 w') := fun w2 v hv => rootI w2 hv hM (by omega)
  obtain ⟨mh, hmh⟩ : ∃ m, M * M / 18446744073709551616 = m := ⟨_, rfl⟩
  obtain ⟨ml, hml⟩ : ∃ m, M * M % 18446744073709551616 = m := ⟨_, rfl⟩
  obtain ⟨MM, hMM⟩ : ∃ m, M * M = m := ⟨_, rfl⟩
  have PR : Hid (∀ w2, Calls Tryd.prog 22 #[.int .u64 M, .int .u64 M] w2 fun e w' => e = .returned (.agg #[.int .u64 mh, .int .u64 ml]) ∧ Ext w2 w') := fun w2 => by
    refine (product_any M M (by omega) (by omega) w2).mono ?_
    rintro e w' ⟨v', rfl, hv', hx⟩
    obtain ⟨h, l, rfl, h1, h2, h3⟩ := id hv'
    rw [hMM] at h3 hmh hml
    have a1 : h = mh := by omega
    have a2 : l = ml := by omega
    rw [a1, a2]
    exact ⟨rfl, hx⟩
  have HMM : Hid (∀ h l : Nat, WV (.agg #[.int .u64 h, .int .u64 l]) W → (decide (M * M ≠ W) = false ↔ mh = h ∧ ml = l)) := fun h l hw => by
    obtain ⟨h', l', e1, h1, h2, h3⟩ := hw
    simp only [Value.agg.injEq, Array.mk.injEq, List.cons.injEq, Value.int.injEq, true_and, and_true] at e1
    rw [hMM] at hmh hml ⊢
    rw [decide_eq_false_iff_not]
    omega
  have PU : Hid (∀ w2 c, Tens w2 → c = decide (M * M ≠ W) → Calls Tryd.prog 21 #[.bool false, .agg #[.int .u64 0, .int .u64 M], .int .i64 ((e - u) / 2), .bool c] w2 fun r w' => r = .returned (.agg #[.bool R.ok, .bool R.neg, .int .i64 R.d, .int .i64 R.e]) ∧ Ext w2 w') := fun w2 c hT hc => by
    rw [← hR, hc]
    exact put_any (P := M) false _ _ w2 ⟨0, M, rfl, by omega, by omega, by omega⟩ (by omega) (by omega) hT
  have X0 := xa (x1 w (.cells #[.bool false, .int .i64 A, .int .i64 e] 24)) (.cells #[.bool false, .bool false, .int .i64 0, .int .i64 0] 27)
  have Ba := (Box3.made w (.bool false) (.int .i64 A) (.int .i64 e) 24).later (x1 _ (.cells #[.bool false, .bool false, .int .i64 0, .int .i64 0] 27))
  have Br := Box4.made (w.alloc (.cells #[.bool false, .int .i64 A, .int .i64 e] 24)) (.bool false) (.bool false) (.int .i64 0) (.int .i64 0) 27
  simp only [World.size_alloc] at Br
  obtain ⟨u0, hu0⟩ : ∃ u0 : Nat, 38 - nd A = u0 := ⟨_, rfl⟩
  rw [hu0] at hu
  have wU : IntKind.i64.wrap (38 - (nd A : Int)) = (u0 : Int) := by rw [IntKind.wrap_i64]; omega
  have wU' : (38 : Int) - (nd A : Int) = (u0 : Int) := by omega
  have wE : IntKind.i64.wrap (e - (u0 : Int)) = e - (u0 : Int) := by rw [IntKind.wrap_i64]; omega
  have u00 : (23 : Int) ≤ (u0 : Int) ∧ (u0 : Int) ≤ 38 := by omega
  have wu0 : IntKind.i64.wrap (u0 : Int) = (u0 : Int) := by rw [IntKind.wrap_i64]; omega
  clear ga ga0 ga1 hW hM WB MB hR hu0 n15
  go_enter Tryd.func5, Tryd.ntmps5
  go_upto_region 1 with fail
  obtain ⟨w0, hw0⟩ : ∃ u, (w.alloc (.cells #[.bool false, .int .i64 A, .int .i64 e] 24)).alloc (.cells #[.bool false, .bool false, .int .i64 0, .int .i64 0] 27) = u := ⟨_, rfl⟩
  rw [hw0] at X0 Ba Br ⊢
  clear hw0
  obtain ⟨⟨p0, p1, p2⟩, _⟩ := id Ba
  go_wp2_with fail
  refine (GA.out _ (hT.later X0)).mono ?_
  rintro rr w1 ⟨rfl, e1⟩
  clear p0 p1 p2
  replace Ba := Ba.later e1
  replace Br := Br.later e1
  replace X0 := xt X0 e1
  clear e1 GA
  obtain ⟨⟨p0, p1, p2⟩, _⟩ := id Ba
  go_wp2_with fail
  refine (SZ.out _).mono ?_
  rintro rr w2 ⟨va, rfl, ha, e2⟩
  go_wp2_with fail
  refine (LN.out _ _ ha (hT.later (xt X0 e2))).mono ?_
  rintro rr w3 ⟨rfl, e3⟩
  clear p0 p1 p2
  have e23 := xt e2 e3
  replace Ba := Ba.later e23
  replace Br := Br.later e23
  replace X0 := xt X0 e23
  clear e2 e3 e23 LN ha
  obtain ⟨⟨p0, p1, p2⟩, _⟩ := id Ba
  go_upto_if 23 with fail
  obtain ⟨tb, htb⟩ : ∃ b, ((e - (u0 : Int)).tmod 2 != 0) = b := ⟨_, rfl⟩
  have HU : Hid ((tb = false ∧ u = u0) ∨ (tb = true ∧ (u : Int) = (u0 : Int) - 1)) := by
    rcases hu with ⟨h1, h2⟩ | ⟨h1, h2⟩
    · refine .inl ⟨?_, h2⟩
      rw [← htb]
      have : (e - (u0 : Int)).tmod 2 = 0 := by rw [Int.tmod_eq_emod]; split <;> omega
      rw [this]
      rfl
    · refine .inr ⟨?_, by omega⟩
      rw [← htb]
      have : (e - (u0 : Int)).tmod 2 ≠ 0 := by rw [Int.tmod_eq_emod]; split <;> omega
      simpa using this
  have HE : Hid ((e - (u : Int)) % 2 = 0 ∧ u ≤ 38) := by
    show _ ∧ _
    rcases hu with ⟨h1, h2⟩ | ⟨h1, h2⟩ <;> omega
  rw [htb]
  obtain ⟨tm, htm⟩ : ∃ b, (e - (u0 : Int)).tmod 2 = b := ⟨_, rfl⟩
  rw [htm]
  clear htb htm hu
  go_cut [3] (fun v wc => v = .int .i64 u ∧ wc = w3)
  case first =>
    rcases HU.out with ⟨rfl, h2⟩ | ⟨rfl, h2⟩
    · go_wp2_with fail
      go_meet
      case rel => exact ⟨by rw [h2], rfl⟩
    · have wd : IntKind.i64.wrap ((u0 : Int) - 1) = (u0 : Int) - 1 := by rw [IntKind.wrap_i64]; omega
      have H2 : Hid ((u : Int) = (u0 : Int) - 1) := h2
      clear h2
      go_wp2_with fail
      go_meet
      case rel => exact ⟨by rw [H2.out], rfl⟩
  case rest =>
    obtain ⟨rfl, hwc⟩ := hcut
    rw [hwc]
    clear hwc HU wU wU' wE u00 wu0
    have wq : (e - (u : Int)).tdiv 2 = (e - (u : Int)) / 2 := by
      have := HE.out
      rw [Int.tdiv_eq_ediv]
      split <;> omega
    have we : IntKind.i64.wrap (e - (u : Int)) = e - (u : Int) := by have := HE.out; rw [IntKind.wrap_i64]; omega
    have we' : IntKind.i64.wrap ((e - (u : Int)) / 2) = (e - (u : Int)) / 2 := by have := HE.out; rw [IntKind.wrap_i64]; omega
    go_wp2_with fail
    refine (SZ.out _).mono ?_
    rintro rr w4 ⟨vb, rfl, hb, e4⟩
    go_wp2_with fail
    refine (RA.out _ _ hb (hT.later (xt X0 e4))).mono ?_
    rintro rr w5 ⟨h, l, rfl, hl, e5⟩
    clear p0 p1 p2
    have e45 := xt e4 e5
    replace Ba := Ba.later e45
    replace Br := Br.later e45
    replace X0 := xt X0 e45
    clear e4 e5 e45 hb SZ RA
    go_upto_region 7 with fail
    have B4 := Box2.made w5 (.int .u64 h) (.int .u64 l) 43
    have x6 := x1 w5 (.cells #[.int .u64 h, .int .u64 l] 43)
    obtain ⟨w6, hw6⟩ : ∃ u, w5.alloc (.cells #[.int .u64 h, .int .u64 l] 43) = u := ⟨_, rfl⟩
    rw [hw6] at B4 x6 ⊢
    have l5 : w.heap.size + 1 < w5.heap.size := World.block_lt_of_cell? _ _ Br.1.1
    obtain ⟨b4, hb4⟩ : ∃ b, w5.heap.size = b := ⟨_, rfl⟩
    rw [hb4] at B4 l5 ⊢
    replace Ba := Ba.later x6
    replace Br := Br.later x6
    replace X0 := xt X0 x6
    clear hw6 x6 hb4
    obtain ⟨⟨q0, q1⟩, _⟩ := id B4
    go_wp2_with fail
    refine (RT.out _ _ hl).mono ?_
    rintro rr w7 ⟨rfl, e7⟩
    clear q0 q1 RT
    replace Ba := Ba.later e7
    replace Br := Br.later e7
    replace B4 := B4.later e7
    replace X0 := xt X0 e7
    clear e7
    obtain ⟨⟨q0, q1⟩, _⟩ := id B4
    obtain ⟨⟨p0, p1, p2⟩, _⟩ := id Ba
    obtain ⟨⟨m0, m1, m2, m3⟩, m4, m5, m6, m7⟩ := id Br
    go_upto_region 8 with fail
    have l4 : b4 ≠ w.heap.size + 1 := by omega
    have l4' : w.heap.size + 1 ≠ b4 := by omega
    clear l5
    by_cases c1 : mh = h
    · subst c1
      by_cases c2 : ml = l
      · subst c2
        have PUc : Hid (∀ w2, Tens w2 → Calls Tryd.prog 21 #[.bool false, .agg #[.int .u64 0, .int .u64 M], .int .i64 ((e - u) / 2), .bool false] w2 fun r w' => r = .returned (.agg #[.bool R.ok, .bool R.neg, .int .i64 R.d, .int .i64 R.e]) ∧ Ext w2 w') := fun w2 hT => PU.out w2 _ hT (((HMM.out _ _ hl).2 ⟨rfl, rfl⟩).symm)
        clear PU HMM hl
        go_region_held3 (fun w' => (w'.cell? ⟨w.heap.size, 0, none⟩ = some (.bool false) ∧ w'.cell? ⟨w.heap.size, 1, none⟩ = some (.int .i64 A) ∧ w'.cell? ⟨w.heap.size, 2, none⟩ = some (.int .i64 e)) ∧ w'.cell? ⟨b4, 0, none⟩ = some (.int .u64 mh) ∧ w'.cell? ⟨b4, 1, none⟩ = some (.int .u64 ml)) (go_keep) (first
          | (go_at_call 22; refine (PR.out _).mono ?_; rintro rx wD ⟨rfl, eD⟩; have eD' : Ext w7 wD := xt (xd (xr _)) eD; clear q0 q1 p0 p1 p2 m0 m1 m2 m3 m4 m5 m6 m7; obtain ⟨⟨q0, q1⟩, _⟩ := B4.later eD'; obtain ⟨⟨p0, p1, p2⟩, _⟩ := Ba.later eD'; obtain ⟨⟨m0, m1, m2, m3⟩, m4, m5, m6, m7⟩ := Br.later eD')
          | (go_at_call 21; refine (PUc.out _ (hT.later (xt X0 eD'))).mono ?_; rintro rx wE ⟨rfl, eE⟩; have eE' : Ext w7 wE := xt eD' eE; clear q0 q1 p0 p1 p2 m0 m1 m2 m3 m4 m5 m6 m7; obtain ⟨⟨q0, q1⟩, _⟩ := B4.later eE'; obtain ⟨⟨p0, p1, p2⟩, _⟩ := Ba.later eE'; obtain ⟨⟨m0, m1, m2, m3⟩, m4, m5, m6, m7⟩ := Br.later eE'))
        all_goals go_wp2_with fail
        all_goals exact bodyPost_ret (v := .agg #[.bool R.ok, .bool R.neg, .int .i64 R.d, .int .i64 R.e]) (by simp [results, Tryd.results5, go_sem, m0, m1, m2, m3]) rfl ⟨rfl, xset (xset (xset (xset (xt X0 eE') (by simp only; omega) _) (by simp only; omega) _) (by simp only; omega) _) (by simp only; omega) _⟩
      · have cn : ¬ ml = l := c2
        have ca : ((ml : Int) == (l : Int)) = false := beq_eq_false_iff_ne.2 (by omega)
        have cb : decide ((ml : Int) = (l : Int)) = false := decide_eq_false (by omega)
        have cc : decide (ml = l) = false := decide_eq_false cn
        have cd : (ml == l) = false := beq_eq_false_iff_ne.2 cn
        have ce : ((ml : Int) = (l : Int)) = False := eq_false (by omega)
        have cf : (ml = l) = False := eq_false cn
        have PUc : Hid (∀ w2, Tens w2 → Calls Tryd.prog 21 #[.bool false, .agg #[.int .u64 0, .int .u64 M], .int .i64 ((e - u) / 2), .bool true] w2 fun r w' => r = .returned (.agg #[.bool R.ok, .bool R.neg, .int .i64 R.d, .int .i64 R.e]) ∧ Ext w2 w') := fun w2 hT => PU.out w2 _ hT (by cases hc : decide (M * M ≠ W); exact absurd ((HMM.out _ _ hl).1 hc) (fun h => cn h.2); rfl)
        clear PU HMM hl
        go_region_held3 (fun w' => (w'.cell? ⟨w.heap.size, 0, none⟩ = some (.bool false) ∧ w'.cell? ⟨w.heap.size, 1, none⟩ = some (.int .i64 A) ∧ w'.cell? ⟨w.heap.size, 2, none⟩ = some (.int .i64 e)) ∧ w'.cell? ⟨b4, 0, none⟩ = some (.int .u64 mh) ∧ w'.cell? ⟨b4, 1, none⟩ = some (.int .u64 l)) (go_keep) (first
          | (go_at_call 22; refine (PR.out _).mono ?_; rintro rx wD ⟨rfl, eD⟩; have eD' : Ext w7 wD := xt (xd (xr _)) eD; clear q0 q1 p0 p1 p2 m0 m1 m2 m3 m4 m5 m6 m7; obtain ⟨⟨q0, q1⟩, _⟩ := B4.later eD'; obtain ⟨⟨p0, p1, p2⟩, _⟩ := Ba.later eD'; obtain ⟨⟨m0, m1, m2, m3⟩, m4, m5, m6, m7⟩ := Br.later eD')
          | (go_at_call 21; refine (PUc.out _ (hT.later (xt X0 eD'))).mono ?_; rintro rx wE ⟨rfl, eE⟩; have eE' : Ext w7 wE := xt eD' eE; clear q0 q1 p0 p1 p2 m0 m1 m2 m3 m4 m5 m6 m7; obtain ⟨⟨q0, q1⟩, _⟩ := B4.later eE'; obtain ⟨⟨p0, p1, p2⟩, _⟩ := Ba.later eE'; obtain ⟨⟨m0, m1, m2, m3⟩, m4, m5, m6, m7⟩ := Br.later eE'))
        all_goals go_wp2_with fail
        all_goals exact bodyPost_ret (v := .agg #[.bool R.ok, .bool R.neg, .int .i64 R.d, .int .i64 R.e]) (by simp [results, Tryd.results5, go_sem, m0, m1, m2, m3]) rfl ⟨rfl, xset (xset (xset (xset (xt X0 eE') (by simp only; omega) _) (by simp only; omega) _) (by simp only; omega) _) (by simp only; omega) _⟩
    · have cn : ¬ mh = h := c1
      have ca : ((mh : Int) == (h : Int)) = false := beq_eq_false_iff_ne.2 (by omega)
      have cb : decide ((mh : Int) = (h : Int)) = false := decide_eq_false (by omega)
      have cc : decide (mh = h) = false := decide_eq_false cn
      have cd : (mh == h) = false := beq_eq_false_iff_ne.2 cn
      have ce : ((mh : Int) = (h : Int)) = False := eq_false (by omega)
      have cf : (mh = h) = False := eq_false cn
      have PUc : Hid (∀ w2, Tens w2 → Calls Tryd.prog 21 #[.bool false, .agg #[.int .u64 0, .int .u64 M], .int .i64 ((e - u) / 2), .bool true] w2 fun r w' => r = .returned (.agg #[.bool R.ok, .bool R.neg, .int .i64 R.d, .int .i64 R.e]) ∧ Ext w2 w') := fun w2 hT => PU.out w2 _ hT (by cases hc : decide (M * M ≠ W); exact absurd ((HMM.out _ _ hl).1 hc) (fun h => cn h.1); rfl)
      clear PU HMM hl
      go_region_held3 (fun w' => (w'.cell? ⟨w.heap.size, 0, none⟩ = some (.bool false) ∧ w'.cell? ⟨w.heap.size, 1, none⟩ = some (.int .i64 A) ∧ w'.cell? ⟨w.heap.size, 2, none⟩ = some (.int .i64 e)) ∧ w'.cell? ⟨b4, 0, none⟩ = some (.int .u64 h) ∧ w'.cell? ⟨b4, 1, none⟩ = some (.int .u64 l)) (go_keep) (first
        | (go_at_call 22; refine (PR.out _).mono ?_; rintro rx wD ⟨rfl, eD⟩; have eD' : Ext w7 wD := xt (xd (xr _)) eD; clear q0 q1 p0 p1 p2 m0 m1 m2 m3 m4 m5 m6 m7; obtain ⟨⟨q0, q1⟩, _⟩ := B4.later eD'; obtain ⟨⟨p0, p1, p2⟩, _⟩ := Ba.later eD'; obtain ⟨⟨m0, m1, m2, m3⟩, m4, m5, m6, m7⟩ := Br.later eD')
        | (go_at_call 21; refine (PUc.out _ (hT.later (xt X0 eD'))).mono ?_; rintro rx wE ⟨rfl, eE⟩; have eE' : Ext w7 wE := xt eD' eE; clear q0 q1 p0 p1 p2 m0 m1 m2 m3 m4 m5 m6 m7; obtain ⟨⟨q0, q1⟩, _⟩ := B4.later eE'; obtain ⟨⟨p0, p1, p2⟩, _⟩ := Ba.later eE'; obtain ⟨⟨m0, m1, m2, m3⟩, m4, m5, m6, m7⟩ := Br.later eE'))
      all_goals go_wp2_with fail
      all_goals exact bodyPost_ret (v := .agg #[.bool R.ok, .bool R.neg, .int .i64 R.d, .int .i64 R.e]) (by simp [results, Tryd.results5, go_sem, m0, m1, m2, m3]) rfl ⟨rfl, xset (xset (xset (xset (xt X0 eE') (by simp only; omega) _) (by simp only; omega) _) (by simp only; omega) _) (by simp only; omega) _⟩

set_option maxRecDepth 4000 in
set_option maxHeartbeats 4000000 in
theorem sqrtS_bad (n : Bool) (d e : Int) (w : World) (hb : goodB n d e = false ∨ n = true) :
    Calls Tryd.prog 6 #[.agg #[.bool n, .int .i64 d, .int .i64 e]] w fun r w' => r = .returned (resV badR) ∧ Ext w w' := by
  show Calls _ _ _ _ fun r w' => r = .returned (.agg #[.bool false, .bool false, .int .i64 0, .int .i64 0]) ∧ Ext w w'
  have X0 := xa (x1 w (.cells #[.bool n, .int .i64 d, .int .i64 e] 24)) (.cells #[.bool false, .bool false, .int .i64 0, .int .i64 0] 27)
  have Ba := (Box3.made w (.bool n) (.int .i64 d) (.int .i64 e) 24).later (x1 _ (.cells #[.bool false, .bool false, .int .i64 0, .int .i64 0] 27))
  have Br := Box4.made (w.alloc (.cells #[.bool n, .int .i64 d, .int .i64 e] 24)) (.bool false) (.bool false) (.int .i64 0) (.int .i64 0) 27
  simp only [World.size_alloc] at Br
  cases ga : goodB n d e
  · have GA : Hid (∀ w2, Calls Tryd.prog 7 #[.agg #[.bool n, .int .i64 d, .int .i64 e]] w2 fun e w' => e = .returned (.bool false) ∧ Ext w2 w') := fun w2 => good_is false n d e w2 ga
    clear ga hb
    go_enter Tryd.func6, Tryd.ntmps6
    go_wp2_with fail
    refine (GA.out _).mono ?_
    rintro rr w1 ⟨rfl, x1'⟩
    obtain ⟨⟨m0, m1, m2, m3⟩, n0, n1, n2, n3⟩ := Br.later x1'
    go_wp2_with fail
    exact bodyPost_ret (v := .agg #[.bool false, .bool false, .int .i64 0, .int .i64 0]) (by simp [results, Tryd.results6, go_sem, m0, m1, m2, m3]) rfl ⟨rfl, xset (xset (xset (xset (xt X0 x1') (by simp only; omega) _) (by simp only; omega) _) (by simp only; omega) _) (by simp only; omega) _⟩
  · have GA : Hid (∀ w2, Calls Tryd.prog 7 #[.agg #[.bool n, .int .i64 d, .int .i64 e]] w2 fun e w' => e = .returned (.bool true) ∧ Ext w2 w') := fun w2 => good_is true n d e w2 ga
    obtain rfl : n = true := by rcases hb with h | h; rw [ga] at h; cases h; exact h
    clear ga hb
    go_enter Tryd.func6, Tryd.ntmps6
    go_wp2_with fail
    refine (GA.out _).mono ?_
    rintro rr w1 ⟨rfl, x1'⟩
    obtain ⟨⟨p0, p1, p2⟩, _⟩ := Ba.later x1'
    obtain ⟨⟨m0, m1, m2, m3⟩, n0, n1, n2, n3⟩ := Br.later x1'
    go_wp2_with fail
    exact bodyPost_ret (v := .agg #[.bool false, .bool false, .int .i64 0, .int .i64 0]) (by simp [results, Tryd.results6, go_sem, m0, m1, m2, m3]) rfl ⟨rfl, xset (xset (xset (xset (xt X0 x1') (by simp only; omega) _) (by simp only; omega) _) (by simp only; omega) _) (by simp only; omega) _⟩
set_option maxRecDepth 4000 in
set_option maxHeartbeats 4000000 in
theorem sqrtI_bad (n : Bool) (d e : Int) (w : World) (a1 : -9223372036854775808 ≤ d) (a2 : d ≤ 9223372036854775807) (hT : Tens w) (hb : goodB n d e = false ∨ n = true) :
    Calls Tryd.prog 5 #[.agg #[.bool n, .int .i64 d, .int .i64 e]] w fun r w' => r = .returned (resV badR) ∧ Ext w w' := by
  show Calls _ _ _ _ fun r w' => r = .returned (.agg #[.bool false, .bool false, .int .i64 0, .int .i64 0]) ∧ Ext w w'
  have X0 := xa (x1 w (.cells #[.bool n, .int .i64 d, .int .i64 e] 24)) (.cells #[.bool false, .bool false, .int .i64 0, .int .i64 0] 27)
  have Ba := (Box3.made w (.bool n) (.int .i64 d) (.int .i64 e) 24).later (x1 _ (.cells #[.bool false, .bool false, .int .i64 0, .int .i64 0] 27))
  have Br := Box4.made (w.alloc (.cells #[.bool n, .int .i64 d, .int .i64 e] 24)) (.bool false) (.bool false) (.int .i64 0) (.int .i64 0) 27
  simp only [World.size_alloc] at Br
  cases ga : goodB n d e
  · have GA : Hid (∀ w2, Tens w2 → Calls Tryd.prog 16 #[.agg #[.bool n, .int .i64 d, .int .i64 e]] w2 fun e w' => e = .returned (.bool false) ∧ Ext w2 w') := fun w2 hT => goodI_is false n d e w2 a1 a2 hT ga
    clear ga hb
    go_enter Tryd.func5, Tryd.ntmps5
    go_wp2_with fail
    refine (GA.out _ (hT.later X0)).mono ?_
    rintro rr w1 ⟨rfl, x1'⟩
    obtain ⟨⟨m0, m1, m2, m3⟩, n0, n1, n2, n3⟩ := Br.later x1'
    go_wp2_with fail
    exact bodyPost_ret (v := .agg #[.bool false, .bool false, .int .i64 0, .int .i64 0]) (by simp [results, Tryd.results5, go_sem, m0, m1, m2, m3]) rfl ⟨rfl, xset (xset (xset (xset (xt X0 x1') (by simp only; omega) _) (by simp only; omega) _) (by simp only; omega) _) (by simp only; omega) _⟩
  · have GA : Hid (∀ w2, Tens w2 → Calls Tryd.prog 16 #[.agg #[.bool n, .int .i64 d, .int .i64 e]] w2 fun e w' => e = .returned (.bool true) ∧ Ext w2 w') := fun w2 hT => goodI_is true n d e w2 a1 a2 hT ga
    obtain rfl : n = true := by rcases hb with h | h; rw [ga] at h; cases h; exact h
    clear ga hb
    go_enter Tryd.func5, Tryd.ntmps5
    go_wp2_with fail
    refine (GA.out _ (hT.later X0)).mono ?_
    rintro rr w1 ⟨rfl, x1'⟩
    obtain ⟨⟨p0, p1, p2⟩, _⟩ := Ba.later x1'
    obtain ⟨⟨m0, m1, m2, m3⟩, n0, n1, n2, n3⟩ := Br.later x1'
    go_wp2_with fail
    exact bodyPost_ret (v := .agg #[.bool false, .bool false, .int .i64 0, .int .i64 0]) (by simp [results, Tryd.results5, go_sem, m0, m1, m2, m3]) rfl ⟨rfl, xset (xset (xset (xset (xt X0 x1') (by simp only; omega) _) (by simp only; omega) _) (by simp only; omega) _) (by simp only; omega) _⟩

theorem sqrt_both (n : Bool) (d e : Int) (a1 : -9223372036854775808 ≤ d) (a2 : d ≤ 9223372036854775807) : ∃ R : DR,
    (∀ w, Calls Tryd.prog 6 #[.agg #[.bool n, .int .i64 d, .int .i64 e]] w fun r w' => r = .returned (resV R) ∧ Ext w w') ∧
    (∀ w, Tens w → Calls Tryd.prog 5 #[.agg #[.bool n, .int .i64 d, .int .i64 e]] w fun r w' => r = .returned (resV R) ∧ Ext w w') := by
  by_cases hg : goodB n d e = false ∨ n = true
  · exact ⟨badR, fun w => sqrtS_bad n d e w hg, fun w hT => sqrtI_bad n d e w a1 a2 hT hg⟩
  · have hg' : goodB n d e = true ∧ n = false := by
      cases h1 : goodB n d e
      · exact absurd (.inl h1) hg
      · cases h2 : n
        · exact ⟨rfl, rfl⟩
        · exact absurd (.inr h2) hg
    obtain ⟨ga, rfl⟩ := hg'
    obtain ⟨g0, g1, g2, g3⟩ := good_bd ga
    obtain ⟨A, rfl⟩ := Int.eq_ofNat_of_zero_le g0
    have n15 : nd A ≤ 15 := nd_le (by omega)
    obtain ⟨eo, xo, ho⟩ : ∃ (eo : Int) (xo : Nat), (e % 2 = 0 ∧ eo = e ∧ xo = A) ∨ (e % 2 ≠ 0 ∧ eo = e - 1 ∧ xo = A * 10) := by
      by_cases h : e % 2 = 0
      · exact ⟨e, A, .inl ⟨h, rfl, rfl⟩⟩
      · exact ⟨e - 1, A * 10, .inr ⟨h, rfl, rfl⟩⟩
    obtain ⟨u, hu⟩ : ∃ u : Nat, ((e - ((38 - nd A : Nat) : Int)) % 2 = 0 ∧ u = 38 - nd A) ∨ ((e - ((38 - nd A : Nat) : Int)) % 2 ≠ 0 ∧ u + 1 = 38 - nd A) := by
      by_cases h : (e - ((38 - nd A : Nat) : Int)) % 2 = 0
      · exact ⟨38 - nd A, .inl ⟨h, rfl⟩⟩
      · exact ⟨37 - nd A, .inr ⟨h, by omega⟩⟩
    obtain ⟨N, hN⟩ := root_is (xo * 10 ^ 40)
    obtain ⟨M, hM⟩ := root_is (A * 10 ^ u)
    refine ⟨putR false N (eo / 2 - 20) (decide (N * N ≠ xo * 10 ^ 40)), fun w => sqrtS_good A e eo xo N w ga ho hN, fun w hT => ?_⟩
    have hs := sqrt_same (A := A) (N := N) (M := M) (u := u) (e := e) (eo := eo) (xo := xo) (by omega) (fun h0 => ?_) ho (by omega) (by omega) hN hM
    · rw [hs]
      exact sqrtI_good A u M e w ga hu hM hT
    · exact (good_nought ga (by omega)).1

end Go.Proofs.YtpeobfkenekmhaaDoor

