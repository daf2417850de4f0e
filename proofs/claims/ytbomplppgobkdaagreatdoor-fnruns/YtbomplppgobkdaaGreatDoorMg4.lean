/-
  Several texts in one: WideE, Num, CmpNum.
-/
import Derived.Test.YtbomplppgobkdaaGreatDoorWideD
import Derived.Deep.RegionHeld3
namespace Go.Proofs.YtbomplppgobkdaaGreatDoor
open Go.RowKit

set_option maxHeartbeats 2000000 in
theorem raised_any {v : Value} {a : Nat} (n : Nat) (hn : n ≤ 38) (w : World) (hv : WV v a) (hT : Tens w) (hlt : a * 10 ^ n < 340282366920938463463374607431768211456) :
    Calls Tryz.prog 148 #[v, .int .i64 n] w fun e w' => ∃ v', e = .returned v' ∧ WV v' (a * 10 ^ n) ∧ Ext w w' := by
  have hv' := hv
  obtain ⟨h, l, rfl, h1, h2, e1⟩ := hv
  clear e1
  have nt1 : ¬ w.heap.size + 1 = 0 := by
    obtain ⟨_, _, _, c⟩ := hT.at (i := 0) (by omega)
    have := World.block_lt_of_cell? _ _ c
    dsimp only at this
    omega
  (try simp at nt1)
  have hT2 := hT.later (xa (x1 w (.cells #[.int .u64 h, .int .u64 l] 164)) (.cells #[.int .u64 0, .int .u64 0] 164))
  by_cases h19 : n ≤ 19
  · obtain ⟨t, et, t1, ct⟩ := hT2.at (i := n) (by omega)
    obtain ⟨u, eu, u1, cu⟩ := hT2.at (i := 0) (by omega)
    have HU : Hid (u = 1) := by rw [← eu]; rfl
    have HP : Hid (a * t * u = a * 10 ^ n) := by rw [HU.out, ← et, Nat.mul_one]; rfl
    have H1 : Hid (a * t < 340282366920938463463374607431768211456) := by rw [← et]; exact hlt
    have H2 : Hid (a * t * u < 340282366920938463463374607431768211456) := by rw [HP.out]; exact hlt
    have B := ((Box2.made w (.int .u64 h) (.int .u64 l) 164).later (x1 _ (.cells #[.int .u64 0, .int .u64 0] 164)))
    have Br := (Box2.made (w.alloc (.cells #[.int .u64 h, .int .u64 l] 164)) (.int .u64 0) (.int .u64 0) 164)
    simp only [World.size_alloc] at Br
    have hm1 : (if (19 : Int) < (n : Int) then (19 : Int) else (n : Int)) = (n : Int) := if_neg (by omega)
    have hm2 : (if (n : Int) - 19 < 0 then (0 : Int) else (n : Int) - 19) = 0 := by split <;> omega
    have i0 : (0 : Int) ≤ (n : Int) := by omega
    have i1 : (n : Int) < 20 := by omega
    have hm3 : (if (n : Int) < 19 then (0 : Int) else (n : Int) - 19) = 0 := by split <;> omega
    have hw : IntKind.i64.wrap ((n : Int) - 19) = (n : Int) - 19 := by rw [IntKind.wrap_i64]; omega
    obtain ⟨⟨q0, q1⟩, _⟩ := B
    clear et eu hT hlt hT2
    go_enter Tryz.func148, Tryz.ntmps148
    go_wp2_with fail
    go_region_held3 (fun w' => (w'.cell? ⟨w.heap.size, 0, none⟩ = some (.int .u64 h) ∧ w'.cell? ⟨w.heap.size, 1, none⟩ = some (.int .u64 l)) ∧ w'.cell? ⟨0, n, none⟩ = some (.int .u64 t) ∧ w'.cell? ⟨0, 0, none⟩ = some (.int .u64 u)) (go_keep)
      (first
        | (go_at_call_of 161 (Value.int .u64 t); refine (times_any t _ hv' t1 H1.out).mono ?_; rintro e w1 ⟨v1, rfl, hv1, e1⟩; have c1 := cell_later (xt (xd (xr _)) e1) ct; have c2 := cell_later (xt (xd (xr _)) e1) cu; have c3 := cell_later (xt (xd (xr _)) e1) q0; have c4 := cell_later (xt (xd (xr _)) e1) q1)
        | (go_at_call 161; refine (times_any u _ (by assumption) u1 H2.out).mono ?_; rintro e w2 ⟨v2, rfl, hv2, e2⟩; have d1 := cell_later e2 c1; have d2 := cell_later e2 c2; have d3 := cell_later e2 c3; have d4 := cell_later e2 c4; obtain ⟨h', l', rfl, h1', h2', h3'⟩ := hv2; have H3 : Hid (h' * 18446744073709551616 + l' = a * t * u) := h3'; clear h3'; have X2 := xt (xt (xd (xr _)) e1) e2; obtain ⟨⟨r0, r1⟩, s0, s1⟩ := Br.later X2))
    all_goals
      go_wp2
      exact bodyPost_ret (v := .agg #[.int .u64 h', .int .u64 l']) (by simp [results, Tryz.results148, go_sem, r0, r1]) rfl
        ⟨_, rfl, ⟨h', l', rfl, h1', h2', H3.out.trans HP.out⟩, xset (xset (xt (xa (x1 _ _) _) X2) (Nat.le_succ _) _) (Nat.le_succ _) _⟩
  · obtain ⟨j, rfl⟩ : ∃ j, n = j + 19 := ⟨n - 19, by omega⟩
    obtain ⟨t, et, t1, ct⟩ := hT2.at (i := 19) (by omega)
    obtain ⟨u, eu, u1, cu⟩ := hT2.at (i := j) (by omega)
    have HP : Hid (a * t * u = a * 10 ^ (j + 19)) := by rw [← et, ← eu, Nat.mul_assoc, ← Nat.pow_add, Nat.add_comm 19 j]; rfl
    have H2 : Hid (a * t * u < 340282366920938463463374607431768211456) := by rw [HP.out]; exact hlt
    have H1 : Hid (a * t < 340282366920938463463374607431768211456) := Nat.lt_of_le_of_lt (Nat.le_mul_of_pos_right _ (by rw [← eu]; exact Nat.pow_pos (by decide))) H2.out
    have B := ((Box2.made w (.int .u64 h) (.int .u64 l) 164).later (x1 _ (.cells #[.int .u64 0, .int .u64 0] 164)))
    have Br := (Box2.made (w.alloc (.cells #[.int .u64 h, .int .u64 l] 164)) (.int .u64 0) (.int .u64 0) 164)
    simp only [World.size_alloc] at Br
    have ej : ((j + 19 : Nat) : Int) = (j : Int) + 19 := by omega
    rw [ej]
    have hj : 0 < j := by omega
    have hm1 : (if (19 : Int) < (j : Int) + 19 then (19 : Int) else (j : Int) + 19) = 19 := if_pos (by omega)
    have hm2 : (if (j : Int) < 0 then (0 : Int) else (j : Int)) = (j : Int) := if_neg (by omega)
    have hm3 : (if (0 : Int) < (j : Int) then (19 : Int) else (j : Int) + 19) = 19 := if_pos (by omega)
    have hm4 : (if 0 < j then (19 : Int) else (j : Int) + 19) = 19 := if_pos hj
    have i0 : (0 : Int) ≤ (j : Int) := by omega
    have i1 : (j : Int) < 20 := by omega
    have hw : IntKind.i64.wrap (j : Int) = (j : Int) := by rw [IntKind.wrap_i64]; omega
    obtain ⟨⟨q0, q1⟩, _⟩ := B
    clear et eu hT hlt hT2 ej
    go_enter Tryz.func148, Tryz.ntmps148
    go_wp2_with fail
    go_region_held3 (fun w' => (w'.cell? ⟨w.heap.size, 0, none⟩ = some (.int .u64 h) ∧ w'.cell? ⟨w.heap.size, 1, none⟩ = some (.int .u64 l)) ∧ w'.cell? ⟨0, 19, none⟩ = some (.int .u64 t) ∧ w'.cell? ⟨0, j, none⟩ = some (.int .u64 u)) (go_keep)
      (first
        | (go_at_call_of 161 (Value.int .u64 t); refine (times_any t _ hv' t1 H1.out).mono ?_; rintro e w1 ⟨v1, rfl, hv1, e1⟩; have c1 := cell_later (xt (xd (xr _)) e1) ct; have c2 := cell_later (xt (xd (xr _)) e1) cu; have c3 := cell_later (xt (xd (xr _)) e1) q0; have c4 := cell_later (xt (xd (xr _)) e1) q1)
        | (go_at_call 161; refine (times_any u _ (by assumption) u1 H2.out).mono ?_; rintro e w2 ⟨v2, rfl, hv2, e2⟩; have d1 := cell_later e2 c1; have d2 := cell_later e2 c2; have d3 := cell_later e2 c3; have d4 := cell_later e2 c4; obtain ⟨h', l', rfl, h1', h2', h3'⟩ := hv2; have H3 : Hid (h' * 18446744073709551616 + l' = a * t * u) := h3'; clear h3'; have X2 := xt (xt (xd (xr _)) e1) e2; obtain ⟨⟨r0, r1⟩, s0, s1⟩ := Br.later X2))
    all_goals
      go_wp2
      exact bodyPost_ret (v := .agg #[.int .u64 h', .int .u64 l']) (by simp [results, Tryz.results148, go_sem, r0, r1]) rfl
        ⟨_, rfl, ⟨h', l', rfl, h1', h2', H3.out.trans HP.out⟩, xset (xset (xt (xa (x1 _ _) _) X2) (Nat.le_succ _) _) (Nat.le_succ _) _⟩

end Go.Proofs.YtbomplppgobkdaaGreatDoor

namespace Go.Proofs.YtbomplppgobkdaaGreatDoor

/-- What limbs say, the lowest first. -/
def lv : List Int → Int
  | [] => 0
  | x :: xs => x + 1000000000 * lv xs

/-- Each limb has at most nine digits. -/
def Lim (xs : List Int) : Prop := ∀ x ∈ xs, 0 ≤ x ∧ x < 1000000000

theorem Lim.nil : Lim [] := fun _ h => by cases h
theorem Lim.cons {x : Int} {xs : List Int} (h0 : 0 ≤ x) (h1 : x < 1000000000) (h : Lim xs) : Lim (x :: xs) := fun y hy => by
  rcases List.mem_cons.1 hy with rfl | hy
  · exact ⟨h0, h1⟩
  · exact h y hy
theorem Lim.head {x : Int} {xs : List Int} (h : Lim (x :: xs)) : 0 ≤ x ∧ x < 1000000000 := h x (by simp)
theorem Lim.tail {x : Int} {xs : List Int} (h : Lim (x :: xs)) : Lim xs := fun y hy => h y (by simp [hy])
theorem Lim.take {xs : List Int} (h : Lim xs) (n : Nat) : Lim (xs.take n) := fun y hy => h y (List.mem_of_mem_take hy)
theorem Lim.drop {xs : List Int} (h : Lim xs) (n : Nat) : Lim (xs.drop n) := fun y hy => h y (List.mem_of_mem_drop hy)
theorem Lim.getD {xs : List Int} (h : Lim xs) (i : Nat) : 0 ≤ xs.getD i 0 ∧ xs.getD i 0 < 1000000000 := by
  by_cases hi : i < xs.length
  · rw [List.getD_eq_getElem?_getD, List.getElem?_eq_getElem hi]
    exact h _ (List.getElem_mem hi)
  · rw [List.getD_eq_getElem?_getD, List.getElem?_eq_none (by omega)]
    simp

theorem lv_nonneg : ∀ {xs : List Int}, Lim xs → 0 ≤ lv xs
  | [], _ => by simp [lv]
  | x :: xs, h => by
    have := lv_nonneg h.tail
    have := h.head
    simp only [lv]; omega

theorem lv_app : ∀ (xs ys : List Int), lv (xs ++ ys) = lv xs + 1000000000 ^ xs.length * lv ys
  | [], ys => by simp [lv]
  | x :: xs, ys => by
    simp only [List.cons_append, lv, lv_app xs ys, List.length_cons, Int.pow_succ]
    rw [Int.mul_add, Int.mul_comm (1000000000 ^ xs.length) 1000000000, ← Int.mul_assoc]
    omega

theorem lv_lt : ∀ {xs : List Int}, Lim xs → lv xs < 1000000000 ^ xs.length
  | [], _ => by simp [lv]
  | x :: xs, h => by
    have := lv_lt h.tail
    have := h.head
    simp only [lv, List.length_cons, Int.pow_succ]; omega

theorem pos_pow (n : Nat) : (0 : Int) < 1000000000 ^ n := Int.pow_pos (by decide)

/-- Where the highest limb is not nought, so many limbs are wanted. -/
theorem lv_ge {xs : List Int} (h : Lim xs) (hn : 0 < xs.length) (ht : xs.getD (xs.length - 1) 0 ≠ 0) : 1000000000 ^ (xs.length - 1) ≤ lv xs := by
  obtain ⟨ys, y, rfl⟩ : ∃ ys y, xs = ys ++ [y] := ⟨xs.dropLast, xs.getLast (by intro e; simp [e] at hn), (List.dropLast_concat_getLast _).symm⟩
  have h1 : (ys ++ [y]).getD ((ys ++ [y]).length - 1) 0 = y := by simp
  rw [h1] at ht
  have hy := h y (by simp)
  have h0 := lv_nonneg (fun z hz => h z (by simp [hz]) : Lim ys)
  rw [lv_app]
  simp only [List.length_append, List.length_singleton, Nat.add_sub_cancel, lv]
  have hp := pos_pow ys.length
  have : (1000000000 : Int) ^ ys.length * 1 ≤ 1000000000 ^ ys.length * (y + 1000000000 * 0) := Int.mul_le_mul_of_nonneg_left (by omega) (by omega)
  omega

/-- So many limbs, by what they say. -/
theorem len_le {xs : List Int} {k : Nat} (h : Lim xs) (ht : xs.length = 0 ∨ xs.getD (xs.length - 1) 0 ≠ 0) (hk : lv xs < 1000000000 ^ k) : xs.length ≤ k := by
  rcases ht with ht | ht
  · omega
  · by_cases hn : xs.length ≤ k
    · exact hn
    · have h1 := lv_ge h (by omega) ht
      have h2 : (1000000000 : Int) ^ k ≤ 1000000000 ^ (xs.length - 1) := by
        have := Nat.pow_le_pow_right (n := 1000000000) (by decide) (show k ≤ xs.length - 1 by omega)
        have h3 : ((1000000000 ^ k : Nat) : Int) ≤ ((1000000000 ^ (xs.length - 1) : Nat) : Int) := by exact_mod_cast this
        simpa using h3
      omega

theorem lv_take_succ (xs : List Int) (i : Nat) (h : i < xs.length) : lv (xs.take (i + 1)) = lv (xs.take i) + 1000000000 ^ i * xs.getD i 0 := by
  rw [List.take_succ_eq_append_getElem h, lv_app]
  simp [lv, List.length_take, Nat.min_eq_left (Nat.le_of_lt h), h]

theorem lv_set : ∀ (xs : List Int) (i : Nat) (v : Int), i < xs.length → lv (xs.set i v) = lv xs + 1000000000 ^ i * (v - xs.getD i 0)
  | [], _, _, h => by simp at h
  | x :: xs, 0, v, _ => by simp [lv]; omega
  | x :: xs, i + 1, v, h => by
    have := lv_set xs i v (by simpa using h)
    simp only [List.set_cons_succ, lv, this, List.getD_cons_succ, Int.pow_succ]
    rw [Int.mul_add, Int.mul_comm (1000000000 ^ i) 1000000000, Int.mul_assoc]
    omega
theorem getD_set {xs : List Int} {i j : Nat} {v : Int} (h : i < xs.length) : (xs.set i v).getD j 0 = if j = i then v else xs.getD j 0 := by
  simp only [List.getD_eq_getElem?_getD, List.getElem?_set]
  by_cases e : i = j
  · subst e; simp [h]
  · rw [if_neg e, if_neg (fun h => e h.symm)]
theorem Lim.set {xs : List Int} (h : Lim xs) (i : Nat) {v : Int} (h0 : 0 ≤ v) (h1 : v < 1000000000) : Lim (xs.set i v) := fun y hy => by
  rcases List.mem_or_eq_of_mem_set hy with hy | rfl
  · exact h y hy
  · exact ⟨h0, h1⟩
theorem lv_replicate (n : Nat) : lv (List.replicate n 0) = 0 := by
  induction n with
  | zero => rfl
  | succ n ih => simp [List.replicate_succ, lv, ih]
theorem Lim.zeros (n : Nat) : Lim (List.replicate n 0) := fun y hy => by
  rw [List.eq_of_mem_replicate hy]; decide
theorem getD_zeros (n i : Nat) : (List.replicate n (0 : Int)).getD i 0 = 0 := by
  simp only [List.getD_eq_getElem?_getD, List.getElem?_replicate]
  split <;> rfl

end Go.Proofs.YtbomplppgobkdaaGreatDoor

namespace Go.Proofs.YtbomplppgobkdaaGreatDoor

/-- The order of two numbers: -1, 0, 1. -/
def cmpI (a b : Int) : Int := if a < b then -1 else if b < a then 1 else 0
theorem cmpI_lt {a b : Int} (h : a < b) : cmpI a b = -1 := by unfold cmpI; rw [if_pos h]
theorem cmpI_gt {a b : Int} (h : b < a) : cmpI a b = 1 := by unfold cmpI; rw [if_neg (by omega), if_pos h]
theorem cmpI_eq (a : Int) : cmpI a a = 0 := by unfold cmpI; rw [if_neg (by omega), if_neg (by omega)]
theorem cmpI_neg (a b : Int) : -cmpI a b = cmpI (-a) (-b) := by unfold cmpI; split <;> (try split) <;> (try split) <;> (try split) <;> omega

theorem pow_le_pow {i j : Nat} (h : i ≤ j) : (1000000000 : Int) ^ i ≤ 1000000000 ^ j := by
  have := Nat.pow_le_pow_right (n := 1000000000) (by decide) h
  have h3 : ((1000000000 ^ i : Nat) : Int) ≤ ((1000000000 ^ j : Nat) : Int) := by exact_mod_cast this
  simpa using h3

theorem lv_len {xs ys : List Int} (lx : Lim xs) (ly : Lim ys) (ty : ys.getD (ys.length - 1) 0 ≠ 0) (h : xs.length < ys.length) : lv xs < lv ys := by
  have h1 := lv_lt lx
  have h2 := lv_ge ly (by omega) ty
  have h3 := pow_le_pow (show xs.length ≤ ys.length - 1 by omega)
  omega

theorem lv_split (xs : List Int) (j : Nat) (h : j < xs.length) : lv xs = lv (xs.take j) + 1000000000 ^ j * (xs.getD j 0 + 1000000000 * lv (xs.drop (j + 1))) := by
  have e : xs = xs.take j ++ (xs[j] :: xs.drop (j + 1)) := by rw [← List.drop_eq_getElem_cons h, List.take_append_drop]
  have h1 := congrArg lv e
  rw [lv_app] at h1
  simp only [lv, List.length_take, Nat.min_eq_left (Nat.le_of_lt h)] at h1
  rw [h1]
  simp [h]

theorem lv_top {xs ys : List Int} {j : Nat} (lx : Lim xs) (ly : Lim ys) (hx : j < xs.length) (hy : j < ys.length) (hd : xs.drop (j + 1) = ys.drop (j + 1)) (h : xs.getD j 0 < ys.getD j 0) : lv xs < lv ys := by
  rw [lv_split xs j hx, lv_split ys j hy, hd]
  have h1 := lv_lt (lx.take j)
  have h2 := lv_nonneg (ly.take j)
  have e : (xs.take j).length = j := by simp; omega
  rw [e] at h1
  generalize lv (ys.drop (j + 1)) = D at *
  generalize xs.getD j 0 = x at *
  generalize ys.getD j 0 = y at *
  generalize lv (xs.take j) = X at *
  generalize lv (ys.take j) = Y at *
  have hp := pos_pow j
  have h3 : (1000000000 : Int) ^ j * (x + 1000000000 * D + 1) ≤ 1000000000 ^ j * (y + 1000000000 * D) := Int.mul_le_mul_of_nonneg_left (by omega) (by omega)
  rw [Int.mul_add _ _ 1, Int.mul_one] at h3
  omega

theorem drop_step {xs ys : List Int} {j : Nat} (hx : j < xs.length) (hy : j < ys.length) (hd : xs.drop (j + 1) = ys.drop (j + 1)) (h : xs.getD j 0 = ys.getD j 0) : xs.drop j = ys.drop j := by
  rw [List.drop_eq_getElem_cons hx, List.drop_eq_getElem_cons hy, hd]
  have e1 : xs.getD j 0 = xs[j] := by simp [hx]
  have e2 : ys.getD j 0 = ys[j] := by simp [hy]
  rw [← e1, ← e2, h]

end Go.Proofs.YtbomplppgobkdaaGreatDoor

