/-
  Several texts in one: Wide, ImA.
-/
import Derived.Test.YtfkihaihbaobeaaGreatDoorMg15
import Derived.Shelf.Bits.Mul64
import Derived.Deep.QuietTactic
import Derived.BigQuiet
import Derived.Deep.RegionWith
import Derived.Test.YtfkihaihbaobeaaGreatDoorMg14
import Derived.Laws.Externs
import Derived.Shelf.Spec.BitsCarry
namespace Go.Proofs.YtfkihaihbaobeaaGreatDoor
open Go.RowKit

set_option maxHeartbeats 1000000 in
theorem mul64_any (x y : Nat) (hx : x < 18446744073709551616) (hy : y < 18446744073709551616) (w : World) :
    Calls Tryz.prog 53 #[.int .u64 x, .int .u64 y] w fun e w' => ∃ h l : Nat, e = .returned (.tuple #[.int .u64 h, .int .u64 l]) ∧ w' = w ∧ h < 18446744073709551616 ∧ l < 18446744073709551616 ∧ h * 18446744073709551616 + l = x * y := by
  obtain ⟨bd, bt, bw, hhi⟩ := Lib.mul64_hi x y hx hy
  have ba := Lib.half_mul_le (a := x / 4294967296) (b := y / 4294967296) (by omega) (by omega)
  have bb := Lib.half_mul_le (a := x / 4294967296) (b := y % 4294967296) (by omega) (by omega)
  have bc := Lib.half_mul_le (a := x % 4294967296) (b := y / 4294967296) (by omega) (by omega)
  have ba' : x / 4294967296 * (y / 4294967296) < 18446744073709551616 := by omega
  have bb' : x / 4294967296 * (y % 4294967296) < 18446744073709551616 := by omega
  have bc' : x % 4294967296 * (y / 4294967296) < 18446744073709551616 := by omega
  have hlt : x * y < 18446744073709551616 * 18446744073709551616 := Nat.mul_lt_mul'' hx hy
  have hq : x * y / 18446744073709551616 < 18446744073709551616 := Nat.div_lt_of_lt_mul hlt
  have bh1 : x / 4294967296 * (y / 4294967296) + (x / 4294967296 * (y % 4294967296) + x % 4294967296 * (y % 4294967296) / 4294967296) / 4294967296 < 18446744073709551616 := by omega
  have bh : x / 4294967296 * (y / 4294967296) + (x / 4294967296 * (y % 4294967296) + x % 4294967296 * (y % 4294967296) / 4294967296) / 4294967296 + ((x / 4294967296 * (y % 4294967296) + x % 4294967296 * (y % 4294967296) / 4294967296) % 4294967296 + x % 4294967296 * (y / 4294967296)) / 4294967296 < 18446744073709551616 := by omega
  have hc : (x * y / 18446744073709551616) * 18446744073709551616 + x * y % 18446744073709551616 = x * y := Nat.div_add_mod' _ _
  have HC : Hid ((x * y / 18446744073709551616) * 18446744073709551616 + x * y % 18446744073709551616 = x * y) := hc
  have HQ : Hid (x * y / 18446744073709551616 < 18446744073709551616) := hq
  have HH := hhi
  have HHI : Hid (x / 4294967296 * (y / 4294967296) + (x / 4294967296 * (y % 4294967296) + x % 4294967296 * (y % 4294967296) / 4294967296) / 4294967296 + ((x / 4294967296 * (y % 4294967296) + x % 4294967296 * (y % 4294967296) / 4294967296) % 4294967296 + x % 4294967296 * (y / 4294967296)) / 4294967296 = x * y / 18446744073709551616) := hhi
  clear hc hq hlt hhi HH
  go_enter Tryz.func53, Tryz.ntmps53
  go_wp2
  simp only [Mul64.maskN x hx, Mul64.maskN y hy, Mul64.divN, Mul64.mulN, Mul64.addN, Mul64.wrapN _ bd, Mul64.wrapN _ bb', Mul64.wrapN _ bt, Mul64.maskN _ bt, Mul64.wrapN _ bc', Mul64.wrapN _ bw, Mul64.wrapN _ ba', Mul64.wrapN _ bh1, Mul64.wrapN _ bh, Mul64.wrapM (x * y)]
  rw [HHI.out]
  go_ret2
  exact ⟨_, _, rfl, rfl, HQ.out, Nat.mod_lt _ (by decide), HC.out⟩

/-- A number of two words as a value. -/
def WV (v : Value) (n : Nat) : Prop := ∃ h l : Nat, v = .agg #[.int .u64 h, .int .u64 l] ∧ h < 18446744073709551616 ∧ l < 18446744073709551616 ∧ h * 18446744073709551616 + l = n

set_option maxHeartbeats 1000000 in
theorem product_any (x y : Nat) (hx : x < 18446744073709551616) (hy : y < 18446744073709551616) (w : World) :
    Calls Tryz.prog 20 #[.int .u64 x, .int .u64 y] w fun e w' => ∃ v, e = .returned v ∧ WV v (x * y) ∧ Ext w w' := by
  go_enter Tryz.func20, Tryz.ntmps20
  go_wp2_with fail
  refine (mul64_any x y hx hy _).mono ?_
  rintro e w1 ⟨h, l, rfl, rfl, h1, h2, h3⟩
  have H3 : Hid (h * 18446744073709551616 + l = x * y) := h3
  clear h3
  go_wp2
  exact bodyPost_ret (v := .agg #[.int .u64 h, .int .u64 l]) (by simp [results, Tryz.results20, go_sem]) rfl ⟨_, rfl, ⟨h, l, rfl, h1, h2, H3.out⟩, x1 _ _⟩

theorem wv_lt {a b h l h' l' : Nat} (h2 : l < 18446744073709551616) (e : h * 18446744073709551616 + l = a) (h2' : l' < 18446744073709551616) (e' : h' * 18446744073709551616 + l' = b) : a < b ↔ h < h' ∨ h = h' ∧ l < l' := by omega

set_option maxHeartbeats 1000000 in
theorem less_any {v u : Value} {a b : Nat} (w : World) (hv : WV v a) (hu : WV u b) :
    Calls Tryz.prog 49 #[v, u] w fun e w' => e = .returned (.bool (decide (a < b))) ∧ Ext w w' := by
  obtain ⟨h, l, rfl, h1, h2, e1⟩ := hv
  obtain ⟨h', l', rfl, h1', h2', e2⟩ := hu
  have E := wv_lt h2 e1 h2' e2
  have HE : Hid (a < b ↔ h < h' ∨ h = h' ∧ l < l') := E
  clear E e1 e2
  go_enter Tryz.func49, Tryz.ntmps49
  go_wp2
  all_goals go_ret
  all_goals refine ⟨ret_bool ?_, xa (x1 _ _) _⟩
  all_goals rw [Bool.eq_iff_iff]
  all_goals simp [HE.out]
  all_goals omega

theorem Tens.at {w : World} (h : Tens w) {i : Nat} (hi : i < 20) : ∃ t : Nat, 10 ^ i = t ∧ t < 18446744073709551616 ∧ w.cell? ⟨0, i, none⟩ = some (.int .u64 t) := by
  refine ⟨10 ^ i, rfl, ?_, h i hi⟩
  have : 10 ^ i ≤ 10 ^ 19 := Nat.pow_le_pow_right (by decide) (by omega)
  have e : (10 : Nat) ^ 19 = 10000000000000000000 := by decide
  omega

set_option maxHeartbeats 1000000 in
theorem sizeOf_any (neg : Bool) (d : Nat) (x : Int) (w : World) (hd : d < 1000000000000000) :
    Calls Tryz.prog 38 #[.agg #[.bool neg, .int .i64 d, .int .i64 x]] w fun e w' => ∃ v, e = .returned v ∧ WV v d ∧ Ext w w' := by
  go_enter Tryz.func38, Tryz.ntmps38
  go_wp2
  exact bodyPost_ret (v := .agg #[.int .u64 (0 : Nat), .int .u64 d]) (by simp [results, Tryz.results38, go_sem]) rfl ⟨_, rfl, ⟨0, d, rfl, by omega, by omega, by omega⟩, xa (x1 _ _) _⟩

theorem add64_call (x y c : Int) (hx : 0 ≤ x) (hy : 0 ≤ y) (h0 : 0 ≤ c) (hc : c ≤ 1) (w : World) :
    (callFunc 85 #[.int .u64 x, .int .u64 y, .int .u64 c]).run Tryz.prog w = .ok (.value (.tuple #[.int .u64 ((x + y + c) % 18446744073709551616), .int .u64 ((x + y + c) / 18446744073709551616)])) w := by
  rw [run_callFunc_extern Tryz.func85 (by kernel_rfl) (by kernel_rfl) (by kernel_rfl) (e := add64Entry) (by kernel_rfl), run_add64 x y c hx hy h0 hc]
  rfl
theorem sub64_call (x y c : Nat) (hc : c ≤ 1) (w : World) :
    (callFunc 86 #[.int .u64 x, .int .u64 y, .int .u64 c]).run Tryz.prog w = .ok (.value (.tuple #[.int .u64 (((x + 18446744073709551616 - y - c) % 18446744073709551616 : Nat) : Int), .int .u64 ((if x < y + c then 1 else 0 : Nat) : Int)])) w := by
  rw [run_callFunc_extern Tryz.func86 (by kernel_rfl) (by kernel_rfl) (by kernel_rfl) (e := sub64Entry) (by kernel_rfl), run_sub64 x y c hc]
  rfl

theorem carry_sum {l l' : Nat} (h2 : l < 18446744073709551616) (h2' : l' < 18446744073709551616) : ∃ S C : Nat, S < 18446744073709551616 ∧ C ≤ 1 ∧ C * 18446744073709551616 + S = l + l' := by
  by_cases h : l + l' < 18446744073709551616
  · exact ⟨l + l', 0, h, by omega, by omega⟩
  · exact ⟨l + l' - 18446744073709551616, 1, by omega, by omega, by omega⟩
theorem carry_all {a b h l h' l' S C : Nat} (e1 : h * 18446744073709551616 + l = a) (e2 : h' * 18446744073709551616 + l' = b) (hSC : C * 18446744073709551616 + S = l + l') (hlt : a + b < 340282366920938463463374607431768211456) : h + h' + C < 18446744073709551616 ∧ (h + h' + C) * 18446744073709551616 + S = a + b := by
  omega
theorem borrow_dif {l l' : Nat} (h2 : l < 18446744073709551616) (h2' : l' < 18446744073709551616) : ∃ S C : Nat, S < 18446744073709551616 ∧ C ≤ 1 ∧ S + l' = l + C * 18446744073709551616 ∧ (l + 18446744073709551616 - l' - 0) % 18446744073709551616 = S ∧ (if l < l' + 0 then 1 else 0) = C := by
  by_cases h : l < l'
  · exact ⟨l + 18446744073709551616 - l', 1, by omega, by omega, by omega, by omega, by rw [if_pos (by omega)]⟩
  · exact ⟨l - l', 0, by omega, by omega, by omega, by omega, by rw [if_neg (by omega)]⟩
theorem borrow_lin {A B D l l' S a b : Nat} (e1 : A + B + D + l = a) (e2 : A + l' = b) (hSC : S + l' = l + B) : D + S = a - b := by omega
theorem borrow_all {a b h l h' l' S C : Nat} (e1 : h * 18446744073709551616 + l = a) (e2 : h' * 18446744073709551616 + l' = b) (hS : S < 18446744073709551616) (hC : C ≤ 1) (h1 : h < 18446744073709551616) (hSC : S + l' = l + C * 18446744073709551616) (hlt : b ≤ a) :
    ∃ H : Nat, H < 18446744073709551616 ∧ (h + 18446744073709551616 - h' - C) % 18446744073709551616 = H ∧ (if h < h' + C then 1 else 0) = 0 ∧ H * 18446744073709551616 + S = a - b := by
  have hc : h' + C ≤ h := by omega
  obtain ⟨H, rfl⟩ : ∃ H, h = h' + C + H := ⟨h - h' - C, by omega⟩
  have e3 : h' + C + H + 18446744073709551616 - h' - C = H + 18446744073709551616 := by omega
  refine ⟨H, by omega, by rw [e3, Nat.add_mod_right, Nat.mod_eq_of_lt (by omega)], by rw [if_neg (by omega)], ?_⟩
  rw [Nat.add_mul, Nat.add_mul] at e1
  exact borrow_lin e1 e2 hSC

set_option maxRecDepth 4000 in
set_option maxHeartbeats 1000000 in
theorem plus_any {v u : Value} {a b : Nat} (w : World) (hv : WV v a) (hu : WV u b) (hlt : a + b < 340282366920938463463374607431768211456) :
    Calls Tryz.prog 48 #[v, u] w fun e w' => ∃ v', e = .returned v' ∧ WV v' (a + b) ∧ Ext w w' := by
  obtain ⟨h, l, rfl, h1, h2, e1⟩ := hv
  obtain ⟨h', l', rfl, h1', h2', e2⟩ := hu
  obtain ⟨S, C, hS, hC, hSC⟩ := carry_sum h2 h2'
  obtain ⟨c1, c2⟩ := carry_all e1 e2 hSC hlt
  have A1 : ∀ w, (callFunc 85 #[.int .u64 l, .int .u64 l', .int .u64 0]).run Tryz.prog w = .ok (.value (.tuple #[.int .u64 S, .int .u64 C])) w := fun w => by
    rw [add64_call l l' 0 (by omega) (by omega) (by omega) (by omega)]
    have r1 : ((l : Int) + l' + 0) % 18446744073709551616 = S := by omega
    have r2 : ((l : Int) + l' + 0) / 18446744073709551616 = C := by omega
    rw [r1, r2]
  obtain ⟨H, hH⟩ : ∃ H : Nat, h + h' + C = H := ⟨_, rfl⟩
  rw [hH] at c1 c2
  have A2 : ∀ w, (callFunc 85 #[.int .u64 h, .int .u64 h', .int .u64 C]).run Tryz.prog w = .ok (.value (.tuple #[.int .u64 H, .int .u64 0])) w := fun w => by
    rw [add64_call h h' C (by omega) (by omega) (by omega) (by omega)]
    have r1 : ((h : Int) + h' + C) % 18446744073709551616 = H := by omega
    have r2 : ((h : Int) + h' + C) / 18446744073709551616 = 0 := by omega
    rw [r1, r2]
  have HW : Hid (WV (.agg #[.int .u64 H, .int .u64 S]) (a + b)) := ⟨H, S, rfl, c1, hS, c2⟩
  clear e1 e2 hSC hH hlt h1 h2 h1' h2' hS hC c1 c2
  go_enter Tryz.func48, Tryz.ntmps48
  go_wp2
  exact bodyPost_ret (v := .agg #[.int .u64 H, .int .u64 S]) (by simp [results, Tryz.results48, go_sem]) rfl ⟨_, rfl, HW.out, xa (xa (x1 _ _) _) _⟩

set_option maxRecDepth 4000 in
set_option maxHeartbeats 1000000 in
theorem wminus_any {v u : Value} {a b : Nat} (w : World) (hv : WV v a) (hu : WV u b) (hlt : b ≤ a) :
    Calls Tryz.prog 50 #[v, u] w fun e w' => ∃ v', e = .returned v' ∧ WV v' (a - b) ∧ Ext w w' := by
  obtain ⟨h, l, rfl, h1, h2, e1⟩ := hv
  obtain ⟨h', l', rfl, h1', h2', e2⟩ := hu
  obtain ⟨S, C, hS, hC, hSC, r1, r2⟩ := borrow_dif h2 h2'
  obtain ⟨H, c1, r3, r4, c2⟩ := borrow_all e1 e2 hS hC h1 hSC hlt
  have A1 : ∀ w, (callFunc 86 #[.int .u64 l, .int .u64 l', .int .u64 0]).run Tryz.prog w = .ok (.value (.tuple #[.int .u64 S, .int .u64 C])) w := fun w => by
    have := sub64_call l l' 0 (by omega) w
    rw [r1, r2] at this
    exact this
  have A2 : ∀ w, (callFunc 86 #[.int .u64 h, .int .u64 h', .int .u64 C]).run Tryz.prog w = .ok (.value (.tuple #[.int .u64 H, .int .u64 0])) w := fun w => by
    have := sub64_call h h' C hC w
    rw [r3, r4] at this
    exact this
  have HW : Hid (WV (.agg #[.int .u64 H, .int .u64 S]) (a - b)) := ⟨H, S, rfl, c1, hS, c2⟩
  clear e1 e2 hSC hlt h1 h2 h1' h2' hS hC r1 r2 r3 r4 c1 c2
  go_enter Tryz.func50, Tryz.ntmps50
  go_wp2
  exact bodyPost_ret (v := .agg #[.int .u64 H, .int .u64 S]) (by simp [results, Tryz.results50, go_sem]) rfl ⟨_, rfl, HW.out, xa (xa (x1 _ _) _) _⟩

/-- What one digit that is cut off says. -/
def rest1 (last : Nat) (more : Bool) : Nat := if 5 < last ∨ last = 5 ∧ more = true then 3 else if last = 5 then 2 else if 0 < last ∨ more = true then 1 else 0
theorem rest1_eq (P : Nat) (more : Bool) : rest1 (P % 10) more = restN P 1 more := by
  unfold rest1 restN
  rw [Nat.pow_one]
  generalize P % 10 = l
  have e1 : (5 < l ∨ l = 5 ∧ more = true) ↔ (10 < 2 * l ∨ 2 * l = 10 ∧ more = true) := by
    constructor <;> (intro h; rcases h with h | h)
    · exact .inl (by omega)
    · exact .inr ⟨by omega, h.2⟩
    · exact .inl (by omega)
    · exact .inr ⟨by omega, h.2⟩
  have e2 : l = 5 ↔ 2 * l = 10 := by omega
  simp only [e1, ← e2]

set_option maxRecDepth 4000 in
set_option maxHeartbeats 1000000 in
theorem restOf_any (l : Nat) (more : Bool) (w : World) :
    Calls Tryz.prog 77 #[.int .u64 l, .bool more] w fun e w' => e = .returned (.int .i64 (rest1 l more)) ∧ w' = w := by
  have H : Hid (∀ k : Nat, ((5 < l ∨ l = 5 ∧ more = true) ∧ k = 3 ∨ l = 5 ∧ more = false ∧ k = 2 ∨ l < 5 ∧ (0 < l ∨ more = true) ∧ k = 1 ∨ l = 0 ∧ more = false ∧ k = 0) → (k : Int) = rest1 l more) := fun k h => by
    unfold rest1
    cases more <;> simp at h <;> simp <;> (repeat' split) <;> omega
  cases more
  · go_enter Tryz.func77, Tryz.ntmps77
    go_wp2
    all_goals go_ret
    all_goals refine ⟨ret_int ?_, rfl⟩
    all_goals first | rfl | exact H.out 3 (by simp; omega) | exact H.out 2 (by simp; omega) | exact H.out 1 (by simp; omega) | exact H.out 0 (by simp; omega)
  · go_enter Tryz.func77, Tryz.ntmps77
    go_wp2
    all_goals go_ret
    all_goals refine ⟨ret_int ?_, rfl⟩
    all_goals first | rfl | exact H.out 3 (by simp; omega) | exact H.out 2 (by simp; omega) | exact H.out 1 (by simp; omega) | exact H.out 0 (by simp; omega)

set_option maxRecDepth 4000 in
set_option maxHeartbeats 1000000 in
theorem toEven_any (odd : Bool) (r : Nat) (w : World) :
    Calls Tryz.prog 51 #[.bool odd, .int .i64 r] w fun e w' => e = .returned (.bool (goesOn 0 odd r)) ∧ w' = w := by
  by_cases h3 : r = 3
  · subst h3
    go_enter Tryz.func51, Tryz.ntmps51
    go_wp2
    go_ret
    exact ⟨rfl, rfl⟩
  · by_cases h2 : r = 2
    · subst h2
      cases odd
      all_goals
        go_enter Tryz.func51, Tryz.ntmps51
        go_wp2
        go_ret
        exact ⟨rfl, rfl⟩
    · have H : Hid (goesOn 0 odd r = false) := by simp [goesOn, Hid, h3, h2]
      have c3 : (((r : Int)) == 3) = false := by rw [beq_eq_false_iff_ne]; omega
      have c2 : (((r : Int)) == 2) = false := by rw [beq_eq_false_iff_ne]; omega
      clear h2 h3
      go_enter Tryz.func51, Tryz.ntmps51
      go_wp2
      go_ret
      exact ⟨ret_bool H.out.symm, rfl⟩

set_option maxRecDepth 4000 in
set_option maxHeartbeats 1000000 in
theorem toAway_any (odd : Bool) (r : Nat) (w : World) :
    Calls Tryz.prog 72 #[.bool odd, .int .i64 r] w fun e w' => e = .returned (.bool (goesOn 1 odd r)) ∧ w' = w := by
  have H : Hid (goesOn 1 odd r = decide (2 ≤ r)) := rfl
  go_enter Tryz.func72, Tryz.ntmps72
  go_wp2
  all_goals go_ret
  all_goals refine ⟨ret_bool ?_, rfl⟩
  all_goals (rw [H.out]; rw [Bool.eq_iff_iff]; simp) <;> omega

set_option maxRecDepth 4000 in
set_option maxHeartbeats 1000000 in
theorem toDown_any (odd : Bool) (r : Nat) (w : World) :
    Calls Tryz.prog 73 #[.bool odd, .int .i64 r] w fun e w' => e = .returned (.bool (goesOn 2 odd r)) ∧ w' = w := by
  have H : Hid (goesOn 2 odd r = false) := rfl
  go_enter Tryz.func73, Tryz.ntmps73
  go_wp2
  all_goals go_ret
  all_goals exact ⟨ret_bool H.out.symm, rfl⟩

set_option maxRecDepth 4000 in
set_option maxHeartbeats 1000000 in
theorem toUp_any (odd : Bool) (r : Nat) (w : World) :
    Calls Tryz.prog 74 #[.bool odd, .int .i64 r] w fun e w' => e = .returned (.bool (goesOn 3 odd r)) ∧ w' = w := by
  have H : Hid (goesOn 3 odd r = decide (r ≠ 0)) := rfl
  go_enter Tryz.func74, Tryz.ntmps74
  go_wp2
  all_goals go_ret
  all_goals refine ⟨ret_bool ?_, rfl⟩
  all_goals (rw [H.out]; rw [Bool.eq_iff_iff]; simp)

/-- An answer as a value. -/
abbrev resV (r : DR) : Value := .agg #[.bool r.ok, .bool r.neg, .int .i64 r.d, .int .i64 r.e]

theorem fit_at {neg : Bool} {P d : Nat} {e x : Int} (h0 : P ≠ 0) (h : strip P e = (d, x)) :
    resV (fitR neg P e) = if 300 < x then .agg #[.bool false, .bool false, .int .i64 0, .int .i64 0] else if x < -300 then .agg #[.bool true, .bool false, .int .i64 0, .int .i64 0] else .agg #[.bool true, .bool neg, .int .i64 d, .int .i64 x] := by
  unfold fitR
  rw [if_neg h0, h]
  by_cases h1 : 300 < x
  · rw [if_pos h1, if_pos h1]
  · rw [if_neg h1, if_neg h1]
    by_cases h2 : x < -300
    · rw [if_pos h2, if_pos h2]
    · rw [if_neg h2, if_neg h2]

set_option maxRecDepth 4000 in
set_option maxHeartbeats 1000000 in
theorem fitted_any (neg : Bool) (P : Nat) (e : Int) (w : World) (hP : P < 9223372036854775808) (e0 : -100000 ≤ e) (e1 : e ≤ 100000) :
    Calls Tryz.prog 52 #[.bool neg, .int .u64 P, .int .i64 e] w fun r w' => r = .returned (resV (fitR neg P e)) ∧ Ext w w' := by
  by_cases h0 : P = 0
  · subst h0
    have H : Hid (resV (fitR neg 0 e) = .agg #[.bool true, .bool false, .int .i64 0, .int .i64 0]) := rfl
    go_enter Tryz.func52, Tryz.ntmps52
    go_wp2
    exact bodyPost_ret (v := .agg #[.bool true, .bool false, .int .i64 0, .int .i64 0]) (by simp [results, Tryz.results52, go_sem]) rfl ⟨by rw [H.out], x1 _ _⟩
  · have c0 : (((P : Int)) == 0) = false := by rw [beq_eq_false_iff_ne]; omega
    have ST : Hid (∀ (d : Nat) (x : Int), strip d x = strip P e → d % 10 ≠ 0 → resV (fitR neg P e) = if 300 < x then .agg #[.bool false, .bool false, .int .i64 0, .int .i64 0] else if x < -300 then .agg #[.bool true, .bool false, .int .i64 0, .int .i64 0] else .agg #[.bool true, .bool neg, .int .i64 d, .int .i64 x]) := fun d x h hd => fit_at h0 (by rw [← h, strip_stop hd])
    have hn : nd P ≤ 19 := nd_le (by omega)
    have HN : Hid (nd P ≤ 19) := hn
    clear hn
    go_enter Tryz.func52, Tryz.ntmps52
    go_wp2_with fail
    go_loop [1, 2] (fun v x => ∃ (d : Nat) (y : Int), d ≠ 0 ∧ d < 9223372036854775808 ∧ y - e + nd d = nd P ∧ v = .int .u64 d ∧ x = .int .i64 y ∧ strip d y = strip P e) (fun v _ => (intOf v).toNat)
    case atStart => exact ⟨P, e, h0, hP, by omega, rfl, rfl, rfl⟩
    case round =>
      obtain ⟨d, y, d0, d1, hle, rfl, rfl, hs⟩ := hrel
      have y0 : y ≤ 100020 := by have := HN.out; omega
      have y1 : -100020 ≤ y := by
        have : nd d ≤ 19 := nd_le (by omega)
        omega
      by_cases hm : d % 10 = 0
      · have cm : (((d : Int)) % 10 == 0) = true := by rw [beq_iff_eq]; omega
        have HS : Hid (strip (d / 10) (y + 1) = strip P e ∧ d / 10 ≠ 0 ∧ y + 1 - e + nd (d / 10) = nd P) := by
          have := nd_pos d0
          exact ⟨by rw [← strip_ten d0 hm]; exact hs, by omega, by omega⟩
        have hd : Hid (((d : Int)) / 10 = ((d / 10 : Nat) : Int)) := by show _ = _; omega
        clear hs hle c0 h0
        go_wp2_with fail
        go_round
        case rel => exact ⟨d / 10, y + 1, HS.out.2.1, by omega, HS.out.2.2, by rw [← hd.out], rfl, HS.out.1⟩
        case measure => simp [intOf]; omega
      · have cm : (((d : Int)) % 10 == 0) = false := by rw [beq_eq_false_iff_ne]; omega
        have HR := ST.out d y hs hm
        have d0' : (0 : Int) ≤ (d : Int) := by omega
        clear hs hle c0 h0 ST hm d0
        by_cases h1 : 300 < y
        · rw [if_pos h1] at HR
          have H : Hid (resV (fitR neg P e) = .agg #[.bool false, .bool false, .int .i64 0, .int .i64 0]) := HR
          clear HR
          go_wp2
          exact bodyPost_ret (v := .agg #[.bool false, .bool false, .int .i64 0, .int .i64 0]) (by simp [results, Tryz.results52, go_sem]) rfl ⟨by rw [H.out], x1 _ _⟩
        · rw [if_neg h1] at HR
          by_cases h2 : y < -300
          · rw [if_pos h2] at HR
            have H : Hid (resV (fitR neg P e) = .agg #[.bool true, .bool false, .int .i64 0, .int .i64 0]) := HR
            clear HR
            go_wp2
            exact bodyPost_ret (v := .agg #[.bool true, .bool false, .int .i64 0, .int .i64 0]) (by simp [results, Tryz.results52, go_sem]) rfl ⟨by rw [H.out], x1 _ _⟩
          · rw [if_neg h2] at HR
            have H : Hid (resV (fitR neg P e) = .agg #[.bool true, .bool neg, .int .i64 d, .int .i64 y]) := HR
            clear HR
            go_wp2
            exact bodyPost_ret (v := .agg #[.bool true, .bool neg, .int .i64 d, .int .i64 y]) (by simp [results, Tryz.results52, go_sem]) rfl ⟨by rw [H.out], x1 _ _⟩

end Go.Proofs.YtfkihaihbaobeaaGreatDoor

