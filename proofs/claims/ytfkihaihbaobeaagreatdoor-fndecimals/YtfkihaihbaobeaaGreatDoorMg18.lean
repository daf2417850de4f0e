/-
  Several texts in one: DvN, ImA.
-/
import Derived.Test.YtfkihaihbaobeaaGreatDoorMg4
import Derived.Test.YtfkihaihbaobeaaGreatDoorMg0
import Derived.Test.YtfkihaihbaobeaaGreatDoorMg17
import Derived.Laws.Externs
import Derived.Shelf.Spec.BitsCarry
namespace Go.Proofs.YtfkihaihbaobeaaGreatDoor

/-- In the search of half a quotient: Y = a * 2^32 + b, what is divided is u * 2^32 + n. -/
def HalfAt (a b u n q r : Int) : Prop :=
  q * a + r = u ∧ (∀ t, 0 ≤ t → t * (a * 4294967296 + b) ≤ u * 4294967296 + n → t ≤ q) ∧ 0 ≤ q ∧ q ≤ 4294967297 ∧ 0 ≤ r ∧ r < 4294967296
/-- What the search ends with. -/
def HalfDone (a b u n q : Int) : Prop := q = (u * 4294967296 + n) / (a * 4294967296 + b) ∧ 0 ≤ q ∧ q < 4294967296
def HalfIn (a b u n : Int) : Prop := 2147483648 ≤ a ∧ a < 4294967296 ∧ 0 ≤ b ∧ b < 4294967296 ∧ 0 ≤ u ∧ u < a * 4294967296 + b ∧ 0 ≤ n ∧ n < 4294967296

theorem HalfAt.start {a b u n : Int} (h : HalfIn a b u n) : HalfAt a b u n (u / a) (u % a) := by
  obtain ⟨a0, a1, b0, b1, u0, u1, n0, n1⟩ := h
  have hq : 0 ≤ u / a := Int.ediv_nonneg u0 (by omega)
  refine ⟨by rw [Int.mul_comm]; exact Int.mul_ediv_add_emod u a, ?_, hq, ?_, Int.emod_nonneg _ (by omega), Int.lt_trans (Int.emod_lt_of_pos _ (by omega)) a1⟩
  · intro t t0 ht
    refine (Int.le_ediv_iff_mul_le (by omega)).2 ?_
    have h1 : t * (a * 4294967296 + b) = t * a * 4294967296 + t * b := by rw [Int.mul_add, Int.mul_assoc]
    have h2 : 0 ≤ t * b := Int.mul_nonneg t0 b0
    generalize t * a = p at *
    omega
  · have h3 : u / a < 4294967298 := by
      refine (Int.ediv_lt_iff_lt_mul (by omega)).2 ?_
      omega
    omega
theorem HalfAt.pos {a b u n q r : Int} (h : HalfAt a b u n q r) (hi : HalfIn a b u n) (hc : 4294967296 ≤ q ∨ r * 4294967296 + n < q * b) : 1 ≤ q := by
  obtain ⟨h1, h2, h3, h4, h5, h6⟩ := h
  by_cases e : q = 0
  · subst e
    have := hi.2.2.2.2.2.2.1
    simp at hc
    omega
  · omega
theorem half_top {a b u n t : Int} (hi : HalfIn a b u n) (ht : t * (a * 4294967296 + b) ≤ u * 4294967296 + n) : t < 4294967296 := by
  obtain ⟨a0, a1, b0, b1, u0, u1, n0, n1⟩ := hi
  by_cases e : t < 4294967296
  · exact e
  · have h1 : 4294967296 * (a * 4294967296 + b) ≤ t * (a * 4294967296 + b) := Int.mul_le_mul_of_nonneg_right (by omega) (by omega)
    generalize t * (a * 4294967296 + b) = p at *
    omega
/-- One taken off. -/
theorem HalfAt.less {a b u n q r : Int} (h : HalfAt a b u n q r) (hi : HalfIn a b u n) (hc : 4294967296 ≤ q ∨ r * 4294967296 + n < q * b) : (q - 1) * a + (r + a) = u ∧ ∀ t, 0 ≤ t → t * (a * 4294967296 + b) ≤ u * 4294967296 + n → t ≤ q - 1 := by
  obtain ⟨h1, h2, h3, h4, h5, h6⟩ := h
  refine ⟨by rw [Int.sub_mul]; omega, ?_⟩
  intro t t0 ht
  have := h2 t t0 ht
  by_cases e : t = q
  · subst e
    exfalso
    rcases hc with hc | hc
    · have := half_top hi ht; omega
    · have e1 : t * (a * 4294967296 + b) = t * a * 4294967296 + t * b := by rw [Int.mul_add, Int.mul_assoc]
      generalize t * a = p at *
      generalize t * b = s at *
      omega
  · omega
theorem half_done {a b u n q : Int} (hi : HalfIn a b u n) (q0 : 0 ≤ q) (hub : ∀ t, 0 ≤ t → t * (a * 4294967296 + b) ≤ u * 4294967296 + n → t ≤ q) (hle : q * (a * 4294967296 + b) ≤ u * 4294967296 + n) : HalfDone a b u n q := by
  refine ⟨?_, q0, half_top hi hle⟩
  obtain ⟨a0, a1, b0, b1, u0, u1, n0, n1⟩ := hi
  have hY : 0 < a * 4294967296 + b := by omega
  have h1 : q ≤ (u * 4294967296 + n) / (a * 4294967296 + b) := (Int.le_ediv_iff_mul_le hY).2 hle
  have h2 := hub ((u * 4294967296 + n) / (a * 4294967296 + b)) (by omega) (Int.ediv_mul_le _ (by omega))
  omega
theorem HalfAt.stop {a b u n q r : Int} (h : HalfAt a b u n q r) (hi : HalfIn a b u n) (hc : ¬ (r * 4294967296 + n < q * b)) : HalfDone a b u n q := by
  obtain ⟨h1, h2, h3, h4, h5, h6⟩ := h
  refine half_done hi h3 h2 ?_
  have e1 : q * (a * 4294967296 + b) = q * a * 4294967296 + q * b := by rw [Int.mul_add, Int.mul_assoc]
  generalize q * a = p at *
  generalize q * b = s at *
  omega
theorem HalfAt.next {a b u n q r : Int} (h : HalfAt a b u n q r) (hi : HalfIn a b u n) (hc : 4294967296 ≤ q ∨ r * 4294967296 + n < q * b) (hr : r + a < 4294967296) : HalfAt a b u n (q - 1) (r + a) := by
  have hp := h.pos hi hc
  obtain ⟨l1, l2⟩ := h.less hi hc
  have := hi.1
  have h3 := h.2.2.2
  exact ⟨l1, l2, by omega, by omega, by omega, hr⟩
theorem HalfAt.last {a b u n q r : Int} (h : HalfAt a b u n q r) (hi : HalfIn a b u n) (hc : 4294967296 ≤ q ∨ r * 4294967296 + n < q * b) (hr : 4294967296 ≤ r + a) : HalfDone a b u n (q - 1) := by
  have hp := h.pos hi hc
  obtain ⟨l1, l2⟩ := h.less hi hc
  refine half_done hi (by omega) l2 ?_
  obtain ⟨a0, a1, b0, b1, u0, u1, n0, n1⟩ := hi
  have h4 := h.2.2.2.1
  have e1 : (q - 1) * (a * 4294967296 + b) = (q - 1) * a * 4294967296 + (q - 1) * b := by rw [Int.mul_add, Int.mul_assoc]
  have e2 : (q - 1) * b ≤ 4294967296 * b := Int.mul_le_mul_of_nonneg_right (by omega) b0
  generalize (q - 1) * a = p at *
  generalize (q - 1) * b = s at *
  omega

/-- The rest of one half. -/
theorem HalfDone.rest {a b u n q : Int} (h : HalfDone a b u n q) (hi : HalfIn a b u n) : 0 ≤ u * 4294967296 + n - q * (a * 4294967296 + b) ∧ u * 4294967296 + n - q * (a * 4294967296 + b) < a * 4294967296 + b := by
  obtain ⟨rfl, _, _⟩ := h
  obtain ⟨a0, a1, b0, b1, u0, u1, n0, n1⟩ := hi
  have hY : 0 < a * 4294967296 + b := by omega
  have e := Int.mul_ediv_add_emod (u * 4294967296 + n) (a * 4294967296 + b)
  have := Int.emod_nonneg (u * 4294967296 + n) (b := a * 4294967296 + b) (by omega)
  have := Int.emod_lt_of_pos (u * 4294967296 + n) hY
  rw [Int.mul_comm] at e
  omega

/-- The whole: two halves, and the shift taken back. -/
theorem div_halves {V y S a b u n1 n0 q1 q0 u' : Int} (hS : 0 < S) (hy : 0 < y) (hY : y * S = a * 4294967296 + b) (hU : V * S = u * 18446744073709551616 + n1 * 4294967296 + n0)
    (hu' : u' = u * 4294967296 + n1 - q1 * (a * 4294967296 + b)) (hi' : HalfIn a b u' n0) (h2 : HalfDone a b u' n0 q0) :
    q1 * 4294967296 + q0 = V / y ∧ (u' * 4294967296 + n0 - q0 * (a * 4294967296 + b)) / S = V % y := by
  obtain ⟨r0, r1⟩ := h2.rest hi'
  obtain ⟨R, hR⟩ : ∃ R, u' * 4294967296 + n0 - q0 * (a * 4294967296 + b) = R := ⟨_, rfl⟩
  rw [hR] at r0 r1 ⊢
  rw [← hY] at hu' hR r1
  have e1 : V * S = (q1 * 4294967296 + q0) * y * S + R := by
    rw [hU, ← hR, hu', Int.add_mul, Int.add_mul, Int.mul_assoc q0 y S, Int.mul_right_comm q1 4294967296 y, Int.mul_right_comm (q1 * y) 4294967296 S, Int.mul_assoc q1 y S]
    generalize q1 * (y * S) = p1
    generalize q0 * (y * S) = p0
    omega
  have e2 : (V - (q1 * 4294967296 + q0) * y) * S = R := by rw [Int.sub_mul]; omega
  obtain ⟨r, hr⟩ : ∃ r, V - (q1 * 4294967296 + q0) * y = r := ⟨_, rfl⟩
  rw [hr] at e2
  have r2 : 0 ≤ r := by
    by_cases h : 0 ≤ r
    · exact h
    · have : r * S ≤ -1 * S := Int.mul_le_mul_of_nonneg_right (by omega) (by omega)
      omega
  have r3 : r < y := (Int.mul_lt_mul_right hS).1 (by omega)
  have e3 : V = r + y * (q1 * 4294967296 + q0) := by rw [Int.mul_comm y]; omega
  constructor
  · rw [e3, Int.add_mul_ediv_left _ _ (by omega), Int.ediv_eq_zero_of_lt r2 r3]; omega
  · rw [e3, Int.add_mul_emod_self_left, Int.emod_eq_of_lt r2 r3, ← e2, Int.mul_ediv_cancel _ (by omega)]

/-- What the shift makes of the arguments. -/
theorem div64_in {hi lo y n s : Nat} (hns : n + s = 64) (hn : 1 ≤ n) (h1 : hi < y) (yl : 2 ^ (n - 1) ≤ y) (yu : y < 2 ^ n) (l1 : lo < 18446744073709551616) :
    9223372036854775808 ≤ y * 2 ^ s ∧ y * 2 ^ s < 18446744073709551616 ∧ hi * 2 ^ s < 18446744073709551616 ∧ (hi * 2 ^ s ||| lo / 2 ^ n) = hi * 2 ^ s + lo / 2 ^ n ∧ hi * 2 ^ s + lo / 2 ^ n < y * 2 ^ s ∧
      (hi * 18446744073709551616 + lo) * 2 ^ s = (hi * 2 ^ s + lo / 2 ^ n) * 18446744073709551616 + lo * 2 ^ s % 18446744073709551616 := by
  have e1 : 2 ^ n * 2 ^ s = 18446744073709551616 := by rw [← Nat.pow_add, hns]
  have e2 : 2 ^ (n - 1) * 2 ^ s = 9223372036854775808 := by rw [← Nat.pow_add, show n - 1 + s = 63 by omega]
  have hT : 0 < 2 ^ s := Nat.pow_pos (by decide)
  have hN : 0 < 2 ^ n := Nat.pow_pos (by decide)
  have a1 : 2 ^ (n - 1) * 2 ^ s ≤ y * 2 ^ s := Nat.mul_le_mul_right _ yl
  have a2 : y * 2 ^ s < 2 ^ n * 2 ^ s := Nat.mul_lt_mul_of_pos_right yu hT
  have a3 : (hi + 1) * 2 ^ s ≤ y * 2 ^ s := Nat.mul_le_mul_right _ h1
  rw [Nat.add_mul, Nat.one_mul] at a3
  have a4 : lo / 2 ^ n < 2 ^ s := Nat.div_lt_of_lt_mul (by rw [e1]; exact l1)
  refine ⟨by omega, by omega, by omega, ?_, by omega, ?_⟩
  · rw [Nat.mul_comm hi]
    exact (Nat.two_pow_add_eq_or_of_lt a4 hi).symm
  · have a5 := Nat.div_add_mod lo (2 ^ n)
    have a6 := Nat.mod_lt lo hN
    have a7 : lo % 2 ^ n * 2 ^ s < 2 ^ n * 2 ^ s := Nat.mul_lt_mul_of_pos_right a6 hT
    have a8 : lo * 2 ^ s = lo / 2 ^ n * 18446744073709551616 + lo % 2 ^ n * 2 ^ s := by
      rw [← e1, ← Nat.mul_assoc, ← Nat.add_mul, Nat.mul_comm (lo / 2 ^ n)]
      rw [a5]
    have a9 : lo * 2 ^ s % 18446744073709551616 = lo % 2 ^ n * 2 ^ s := by rw [a8]; omega
    rw [a9, Nat.add_mul, a8, Nat.add_mul, Nat.mul_right_comm]
    omega

end Go.Proofs.YtfkihaihbaobeaaGreatDoor

namespace Go.Proofs.YtfkihaihbaobeaaGreatDoor
open Go.RowKit

theorem add64_call (x y c : Int) (hx : 0 ≤ x) (hy : 0 ≤ y) (h0 : 0 ≤ c) (hc : c ≤ 1) (w : World) :
    (callFunc 85 #[.int .u64 x, .int .u64 y, .int .u64 c]).run Tryz.prog w = .ok (.value (.tuple #[.int .u64 ((x + y + c) % 18446744073709551616), .int .u64 ((x + y + c) / 18446744073709551616)])) w := by
  rw [run_callFunc_extern Tryz.func85 (by kernel_rfl) (by kernel_rfl) (by kernel_rfl) (e := add64Entry) (by kernel_rfl), run_add64 x y c hx hy h0 hc]
  rfl
theorem sub64_call (x y c : Nat) (hc : c ≤ 1) (w : World) :
    (callFunc 86 #[.int .u64 x, .int .u64 y, .int .u64 c]).run Tryz.prog w = .ok (.value (.tuple #[.int .u64 (((x + 18446744073709551616 - y - c) % 18446744073709551616 : Nat) : Int), .int .u64 ((if x < y + c then 1 else 0 : Nat) : Int)])) w := by
  rw [run_callFunc_extern Tryz.func86 (by kernel_rfl) (by kernel_rfl) (by kernel_rfl) (e := sub64Entry) (by kernel_rfl), run_sub64 x y c hc]
  rfl

theorem carry_sum {l l' : Nat} (h2 : l < 18446744073709551616) (h2' : l' < 18446744073709551616) : ∃ S C : Nat, S < 18446744073709551616 ∧ C ≤ 1 ∧ C * 18446744073709551616 + S = l + l' := by
  by_cases h : l + l' < 18446744073709551616
  · exact ⟨l + l', 0, h, by omega, by omega⟩
  · exact ⟨l + l' - 18446744073709551616, 1, by omega, by omega, by omega⟩
theorem carry_all {a b h l h' l' S C : Nat} (e1 : h * 18446744073709551616 + l = a) (e2 : h' * 18446744073709551616 + l' = b) (hSC : C * 18446744073709551616 + S = l + l') (hlt : a + b < 340282366920938463463374607431768211456) : h + h' + C < 18446744073709551616 ∧ (h + h' + C) * 18446744073709551616 + S = a + b := by
  omega
theorem borrow_dif {l l' : Nat} (h2 : l < 18446744073709551616) (h2' : l' < 18446744073709551616) : ∃ S C : Nat, S < 18446744073709551616 ∧ C ≤ 1 ∧ S + l' = l + C * 18446744073709551616 ∧ (l + 18446744073709551616 - l' - 0) % 18446744073709551616 = S ∧ (if l < l' + 0 then 1 else 0) = C := by
  by_cases h : l < l'
  · exact ⟨l + 18446744073709551616 - l', 1, by omega, by omega, by omega, by omega, by rw [if_pos (by omega)]⟩
  · exact ⟨l - l', 0, by omega, by omega, by omega, by omega, by rw [if_neg (by omega)]⟩
theorem borrow_lin {A B D l l' S a b : Nat} (e1 : A + B + D + l = a) (e2 : A + l' = b) (hSC : S + l' = l + B) : D + S = a - b := by omega
theorem borrow_all {a b h l h' l' S C : Nat} (e1 : h * 18446744073709551616 + l = a) (e2 : h' * 18446744073709551616 + l' = b) (hS : S < 18446744073709551616) (hC : C ≤ 1) (h1 : h < 18446744073709551616) (hSC : S + l' = l + C * 18446744073709551616) (hlt : b ≤ a) :
    ∃ H : Nat, H < 18446744073709551616 ∧ (h + 18446744073709551616 - h' - C) % 18446744073709551616 = H ∧ (if h < h' + C then 1 else 0) = 0 ∧ H * 18446744073709551616 + S = a - b := by
  have hc : h' + C ≤ h := by omega
  obtain ⟨H, rfl⟩ : ∃ H, h = h' + C + H := ⟨h - h' - C, by omega⟩
  have e3 : h' + C + H + 18446744073709551616 - h' - C = H + 18446744073709551616 := by omega
  refine ⟨H, by omega, by rw [e3, Nat.add_mod_right, Nat.mod_eq_of_lt (by omega)], by rw [if_neg (by omega)], ?_⟩
  rw [Nat.add_mul, Nat.add_mul] at e1
  exact borrow_lin e1 e2 hSC

set_option maxRecDepth 4000 in
set_option maxHeartbeats 1000000 in
theorem plus_any {v u : Value} {a b : Nat} (w : World) (hv : WV v a) (hu : WV u b) (hlt : a + b < 340282366920938463463374607431768211456) :
    Calls Tryz.prog 48 #[v, u] w fun e w' => ∃ v', e = .returned v' ∧ WV v' (a + b) ∧ Ext w w' := by
  obtain ⟨h, l, rfl, h1, h2, e1⟩ := hv
  obtain ⟨h', l', rfl, h1', h2', e2⟩ := hu
  obtain ⟨S, C, hS, hC, hSC⟩ := carry_sum h2 h2'
  obtain ⟨c1, c2⟩ := carry_all e1 e2 hSC hlt
  have A1 : ∀ w, (callFunc 85 #[.int .u64 l, .int .u64 l', .int .u64 0]).run Tryz.prog w = .ok (.value (.tuple #[.int .u64 S, .int .u64 C])) w := fun w => by
    rw [add64_call l l' 0 (by omega) (by omega) (by omega) (by omega)]
    have r1 : ((l : Int) + l' + 0) % 18446744073709551616 = S := by omega
    have r2 : ((l : Int) + l' + 0) / 18446744073709551616 = C := by omega
    rw [r1, r2]
  obtain ⟨H, hH⟩ : ∃ H : Nat, h + h' + C = H := ⟨_, rfl⟩
  rw [hH] at c1 c2
  have A2 : ∀ w, (callFunc 85 #[.int .u64 h, .int .u64 h', .int .u64 C]).run Tryz.prog w = .ok (.value (.tuple #[.int .u64 H, .int .u64 0])) w := fun w => by
    rw [add64_call h h' C (by omega) (by omega) (by omega) (by omega)]
    have r1 : ((h : Int) + h' + C) % 18446744073709551616 = H := by omega
    have r2 : ((h : Int) + h' + C) / 18446744073709551616 = 0 := by omega
    rw [r1, r2]
  have HW : Hid (WV (.agg #[.int .u64 H, .int .u64 S]) (a + b)) := ⟨H, S, rfl, c1, hS, c2⟩
  clear e1 e2 hSC hH hlt h1 h2 h1' h2' hS hC c1 c2
  go_enter Tryz.func48, Tryz.ntmps48
  go_wp2
  exact bodyPost_ret (v := .agg #[.int .u64 H, .int .u64 S]) (by simp [results, Tryz.results48, go_sem]) rfl ⟨_, rfl, HW.out, xa (xa (x1 _ _) _) _⟩

set_option maxRecDepth 4000 in
set_option maxHeartbeats 1000000 in
theorem wminus_any {v u : Value} {a b : Nat} (w : World) (hv : WV v a) (hu : WV u b) (hlt : b ≤ a) :
    Calls Tryz.prog 50 #[v, u] w fun e w' => ∃ v', e = .returned v' ∧ WV v' (a - b) ∧ Ext w w' := by
  obtain ⟨h, l, rfl, h1, h2, e1⟩ := hv
  obtain ⟨h', l', rfl, h1', h2', e2⟩ := hu
  obtain ⟨S, C, hS, hC, hSC, r1, r2⟩ := borrow_dif h2 h2'
  obtain ⟨H, c1, r3, r4, c2⟩ := borrow_all e1 e2 hS hC h1 hSC hlt
  have A1 : ∀ w, (callFunc 86 #[.int .u64 l, .int .u64 l', .int .u64 0]).run Tryz.prog w = .ok (.value (.tuple #[.int .u64 S, .int .u64 C])) w := fun w => by
    have := sub64_call l l' 0 (by omega) w
    rw [r1, r2] at this
    exact this
  have A2 : ∀ w, (callFunc 86 #[.int .u64 h, .int .u64 h', .int .u64 C]).run Tryz.prog w = .ok (.value (.tuple #[.int .u64 H, .int .u64 0])) w := fun w => by
    have := sub64_call h h' C hC w
    rw [r3, r4] at this
    exact this
  have HW : Hid (WV (.agg #[.int .u64 H, .int .u64 S]) (a - b)) := ⟨H, S, rfl, c1, hS, c2⟩
  clear e1 e2 hSC hlt h1 h2 h1' h2' hS hC r1 r2 r3 r4 c1 c2
  go_enter Tryz.func50, Tryz.ntmps50
  go_wp2
  exact bodyPost_ret (v := .agg #[.int .u64 H, .int .u64 S]) (by simp [results, Tryz.results50, go_sem]) rfl ⟨_, rfl, HW.out, xa (xa (x1 _ _) _) _⟩

/-- What one digit that is cut off says. -/
def rest1 (last : Nat) (more : Bool) : Nat := if 5 < last ∨ last = 5 ∧ more = true then 3 else if last = 5 then 2 else if 0 < last ∨ more = true then 1 else 0
theorem rest1_eq (P : Nat) (more : Bool) : rest1 (P % 10) more = restN P 1 more := by
  unfold rest1 restN
  rw [Nat.pow_one]
  generalize P % 10 = l
  have e1 : (5 < l ∨ l = 5 ∧ more = true) ↔ (10 < 2 * l ∨ 2 * l = 10 ∧ more = true) := by
    constructor <;> (intro h; rcases h with h | h)
    · exact .inl (by omega)
    · exact .inr ⟨by omega, h.2⟩
    · exact .inl (by omega)
    · exact .inr ⟨by omega, h.2⟩
  have e2 : l = 5 ↔ 2 * l = 10 := by omega
  simp only [e1, ← e2]

set_option maxRecDepth 4000 in
set_option maxHeartbeats 1000000 in
theorem restOf_any (l : Nat) (more : Bool) (w : World) :
    Calls Tryz.prog 77 #[.int .u64 l, .bool more] w fun e w' => e = .returned (.int .i64 (rest1 l more)) ∧ w' = w := by
  have H : Hid (∀ k : Nat, ((5 < l ∨ l = 5 ∧ more = true) ∧ k = 3 ∨ l = 5 ∧ more = false ∧ k = 2 ∨ l < 5 ∧ (0 < l ∨ more = true) ∧ k = 1 ∨ l = 0 ∧ more = false ∧ k = 0) → (k : Int) = rest1 l more) := fun k h => by
    unfold rest1
    cases more <;> simp at h <;> simp <;> (repeat' split) <;> omega
  cases more
  · go_enter Tryz.func77, Tryz.ntmps77
    go_wp2
    all_goals go_ret
    all_goals refine ⟨ret_int ?_, rfl⟩
    all_goals first | rfl | exact H.out 3 (by simp; omega) | exact H.out 2 (by simp; omega) | exact H.out 1 (by simp; omega) | exact H.out 0 (by simp; omega)
  · go_enter Tryz.func77, Tryz.ntmps77
    go_wp2
    all_goals go_ret
    all_goals refine ⟨ret_int ?_, rfl⟩
    all_goals first | rfl | exact H.out 3 (by simp; omega) | exact H.out 2 (by simp; omega) | exact H.out 1 (by simp; omega) | exact H.out 0 (by simp; omega)

set_option maxRecDepth 4000 in
set_option maxHeartbeats 1000000 in
theorem toEven_any (odd : Bool) (r : Nat) (w : World) :
    Calls Tryz.prog 51 #[.bool odd, .int .i64 r] w fun e w' => e = .returned (.bool (goesOn 0 odd r)) ∧ w' = w := by
  by_cases h3 : r = 3
  · subst h3
    go_enter Tryz.func51, Tryz.ntmps51
    go_wp2
    go_ret
    exact ⟨rfl, rfl⟩
  · by_cases h2 : r = 2
    · subst h2
      cases odd
      all_goals
        go_enter Tryz.func51, Tryz.ntmps51
        go_wp2
        go_ret
        exact ⟨rfl, rfl⟩
    · have H : Hid (goesOn 0 odd r = false) := by simp [goesOn, Hid, h3, h2]
      have c3 : (((r : Int)) == 3) = false := by rw [beq_eq_false_iff_ne]; omega
      have c2 : (((r : Int)) == 2) = false := by rw [beq_eq_false_iff_ne]; omega
      clear h2 h3
      go_enter Tryz.func51, Tryz.ntmps51
      go_wp2
      go_ret
      exact ⟨ret_bool H.out.symm, rfl⟩

set_option maxRecDepth 4000 in
set_option maxHeartbeats 1000000 in
theorem toAway_any (odd : Bool) (r : Nat) (w : World) :
    Calls Tryz.prog 72 #[.bool odd, .int .i64 r] w fun e w' => e = .returned (.bool (goesOn 1 odd r)) ∧ w' = w := by
  have H : Hid (goesOn 1 odd r = decide (2 ≤ r)) := rfl
  go_enter Tryz.func72, Tryz.ntmps72
  go_wp2
  all_goals go_ret
  all_goals refine ⟨ret_bool ?_, rfl⟩
  all_goals (rw [H.out]; rw [Bool.eq_iff_iff]; simp) <;> omega

set_option maxRecDepth 4000 in
set_option maxHeartbeats 1000000 in
theorem toDown_any (odd : Bool) (r : Nat) (w : World) :
    Calls Tryz.prog 73 #[.bool odd, .int .i64 r] w fun e w' => e = .returned (.bool (goesOn 2 odd r)) ∧ w' = w := by
  have H : Hid (goesOn 2 odd r = false) := rfl
  go_enter Tryz.func73, Tryz.ntmps73
  go_wp2
  all_goals go_ret
  all_goals exact ⟨ret_bool H.out.symm, rfl⟩

set_option maxRecDepth 4000 in
set_option maxHeartbeats 1000000 in
theorem toUp_any (odd : Bool) (r : Nat) (w : World) :
    Calls Tryz.prog 74 #[.bool odd, .int .i64 r] w fun e w' => e = .returned (.bool (goesOn 3 odd r)) ∧ w' = w := by
  have H : Hid (goesOn 3 odd r = decide (r ≠ 0)) := rfl
  go_enter Tryz.func74, Tryz.ntmps74
  go_wp2
  all_goals go_ret
  all_goals refine ⟨ret_bool ?_, rfl⟩
  all_goals (rw [H.out]; rw [Bool.eq_iff_iff]; simp)

/-- An answer as a value. -/
abbrev resV (r : DR) : Value := .agg #[.bool r.ok, .bool r.neg, .int .i64 r.d, .int .i64 r.e]

theorem fit_at {neg : Bool} {P d : Nat} {e x : Int} (h0 : P ≠ 0) (h : strip P e = (d, x)) :
    resV (fitR neg P e) = if 300 < x then .agg #[.bool false, .bool false, .int .i64 0, .int .i64 0] else if x < -300 then .agg #[.bool true, .bool false, .int .i64 0, .int .i64 0] else .agg #[.bool true, .bool neg, .int .i64 d, .int .i64 x] := by
  unfold fitR
  rw [if_neg h0, h]
  by_cases h1 : 300 < x
  · rw [if_pos h1, if_pos h1]
  · rw [if_neg h1, if_neg h1]
    by_cases h2 : x < -300
    · rw [if_pos h2, if_pos h2]
    · rw [if_neg h2, if_neg h2]

set_option maxRecDepth 4000 in
set_option maxHeartbeats 1000000 in
theorem fitted_any (neg : Bool) (P : Nat) (e : Int) (w : World) (hP : P < 9223372036854775808) (e0 : -100000 ≤ e) (e1 : e ≤ 100000) :
    Calls Tryz.prog 52 #[.bool neg, .int .u64 P, .int .i64 e] w fun r w' => r = .returned (resV (fitR neg P e)) ∧ Ext w w' := by
  by_cases h0 : P = 0
  · subst h0
    have H : Hid (resV (fitR neg 0 e) = .agg #[.bool true, .bool false, .int .i64 0, .int .i64 0]) := rfl
    go_enter Tryz.func52, Tryz.ntmps52
    go_wp2
    exact bodyPost_ret (v := .agg #[.bool true, .bool false, .int .i64 0, .int .i64 0]) (by simp [results, Tryz.results52, go_sem]) rfl ⟨by rw [H.out], x1 _ _⟩
  · have c0 : (((P : Int)) == 0) = false := by rw [beq_eq_false_iff_ne]; omega
    have ST : Hid (∀ (d : Nat) (x : Int), strip d x = strip P e → d % 10 ≠ 0 → resV (fitR neg P e) = if 300 < x then .agg #[.bool false, .bool false, .int .i64 0, .int .i64 0] else if x < -300 then .agg #[.bool true, .bool false, .int .i64 0, .int .i64 0] else .agg #[.bool true, .bool neg, .int .i64 d, .int .i64 x]) := fun d x h hd => fit_at h0 (by rw [← h, strip_stop hd])
    have hn : nd P ≤ 19 := nd_le (by omega)
    have HN : Hid (nd P ≤ 19) := hn
    clear hn
    go_enter Tryz.func52, Tryz.ntmps52
    go_wp2_with fail
    go_loop [1, 2] (fun v x => ∃ (d : Nat) (y : Int), d ≠ 0 ∧ d < 9223372036854775808 ∧ y - e + nd d = nd P ∧ v = .int .u64 d ∧ x = .int .i64 y ∧ strip d y = strip P e) (fun v _ => (intOf v).toNat)
    case atStart => exact ⟨P, e, h0, hP, by omega, rfl, rfl, rfl⟩
    case round =>
      obtain ⟨d, y, d0, d1, hle, rfl, rfl, hs⟩ := hrel
      have y0 : y ≤ 100020 := by have := HN.out; omega
      have y1 : -100020 ≤ y := by
        have : nd d ≤ 19 := nd_le (by omega)
        omega
      by_cases hm : d % 10 = 0
      · have cm : (((d : Int)) % 10 == 0) = true := by rw [beq_iff_eq]; omega
        have HS : Hid (strip (d / 10) (y + 1) = strip P e ∧ d / 10 ≠ 0 ∧ y + 1 - e + nd (d / 10) = nd P) := by
          have := nd_pos d0
          exact ⟨by rw [← strip_ten d0 hm]; exact hs, by omega, by omega⟩
        have hd : Hid (((d : Int)) / 10 = ((d / 10 : Nat) : Int)) := by show _ = _; omega
        clear hs hle c0 h0
        go_wp2_with fail
        go_round
        case rel => exact ⟨d / 10, y + 1, HS.out.2.1, by omega, HS.out.2.2, by rw [← hd.out], rfl, HS.out.1⟩
        case measure => simp [intOf]; omega
      · have cm : (((d : Int)) % 10 == 0) = false := by rw [beq_eq_false_iff_ne]; omega
        have HR := ST.out d y hs hm
        have d0' : (0 : Int) ≤ (d : Int) := by omega
        clear hs hle c0 h0 ST hm d0
        by_cases h1 : 300 < y
        · rw [if_pos h1] at HR
          have H : Hid (resV (fitR neg P e) = .agg #[.bool false, .bool false, .int .i64 0, .int .i64 0]) := HR
          clear HR
          go_wp2
          exact bodyPost_ret (v := .agg #[.bool false, .bool false, .int .i64 0, .int .i64 0]) (by simp [results, Tryz.results52, go_sem]) rfl ⟨by rw [H.out], x1 _ _⟩
        · rw [if_neg h1] at HR
          by_cases h2 : y < -300
          · rw [if_pos h2] at HR
            have H : Hid (resV (fitR neg P e) = .agg #[.bool true, .bool false, .int .i64 0, .int .i64 0]) := HR
            clear HR
            go_wp2
            exact bodyPost_ret (v := .agg #[.bool true, .bool false, .int .i64 0, .int .i64 0]) (by simp [results, Tryz.results52, go_sem]) rfl ⟨by rw [H.out], x1 _ _⟩
          · rw [if_neg h2] at HR
            have H : Hid (resV (fitR neg P e) = .agg #[.bool true, .bool neg, .int .i64 d, .int .i64 y]) := HR
            clear HR
            go_wp2
            exact bodyPost_ret (v := .agg #[.bool true, .bool neg, .int .i64 d, .int .i64 y]) (by simp [results, Tryz.results52, go_sem]) rfl ⟨by rw [H.out], x1 _ _⟩

end Go.Proofs.YtfkihaihbaobeaaGreatDoor

