/-
  The program's put.
-/
import Derived.Test.YtfkihaihbaobeaaGreatDoorImD
namespace Go.Proofs.YtfkihaihbaobeaaGreatDoor
open Go.RowKit

theorem Dig.nd {a k : Nat} (h : Dig a k) : nd a = k := nd_eq h.1 h.2
theorem WV.val {v : Value} {n : Nat} (h : WV v n) (hn : n < 18446744073709551616) : v = .agg #[.int .u64 0, .int .u64 n] := by
  obtain ⟨h, l, rfl, h1, h2, h3⟩ := h
  obtain rfl : h = 0 := by omega
  obtain rfl : l = n := by omega
  rfl
theorem Box4.far {w : World} {b : Nat} {v0 v1 v2 v3 : Value} (h : Box4 w b v0 v1 v2 v3) {p : Addr} (hp : p.block ≠ b) (u : Value) : Box4 (w.setCell p u) b v0 v1 v2 v3 := by
  obtain ⟨⟨h0, h1, h2, h3⟩, f0, f1, f2, f3⟩ := h
  have ne : ∀ i, p ≠ ⟨b, i, none⟩ := fun i e => hp (congrArg Addr.block e)
  refine ⟨⟨?_, ?_, ?_, ?_⟩, ?_, ?_, ?_, ?_⟩
  · rw [World.cell?_setCell_other _ _ _ _ (ne 0)]; exact h0
  · rw [World.cell?_setCell_other _ _ _ _ (ne 1)]; exact h1
  · rw [World.cell?_setCell_other _ _ _ _ (ne 2)]; exact h2
  · rw [World.cell?_setCell_other _ _ _ _ (ne 3)]; exact h3
  · rw [World.frozen?_setCell]; exact f0
  · rw [World.frozen?_setCell]; exact f1
  · rw [World.frozen?_setCell]; exact f2
  · rw [World.frozen?_setCell]; exact f3
theorem rnd_lt {P : Nat} {more : Bool} (h : 15 < nd P) : rndM 0 P (nd P - 15) more ≤ 1000000000000000 := by
  unfold rndM
  have h1 : P / 10 ^ (nd P - 15) < 10 ^ 15 := by
    refine Nat.div_lt_of_lt_mul ?_
    rw [← Nat.pow_add, show nd P - 15 + 15 = nd P by omega]
    exact (nd_dig P).1
  have e : (10 : Nat) ^ 15 = 1000000000000000 := by decide
  split <;> omega

set_option maxRecDepth 4000 in
set_option maxHeartbeats 2000000 in
theorem put_any {v : Value} {P : Nat} (neg : Bool) (e : Int) (more : Bool) (w : World) (hv : WV v P) (e0 : -90000 ≤ e) (e1 : e ≤ 90000) (hT : Tens w) :
    Calls Tryz.prog 19 #[.bool neg, v, .int .i64 e, .bool more] w fun r w' => r = .returned (resV (putR neg P e more)) ∧ Ext w w' := by
  obtain ⟨R, hR⟩ : ∃ R, putR neg P e more = R := ⟨_, rfl⟩
  rw [hR]
  have HPR : Hid (putR neg P e more = R) := hR
  clear hR
  obtain ⟨h, l, rfl, h1, h2, e2⟩ := hv
  have HW : Hid (WV (.agg #[.int .u64 h, .int .u64 l]) P) := ⟨h, l, rfl, h1, h2, e2⟩
  have HP : Hid (h * 18446744073709551616 + l = P) := e2
  have X0 : Ext w ((w.alloc (.cells #[.int .u64 h, .int .u64 l] 40)).alloc (.cells #[.bool false, .bool false, .int .i64 0, .int .i64 0] 28)) := xa (x1 _ _) _
  have B := (Box2.made w (.int .u64 h) (.int .u64 l) 40).later (x1 _ (.cells #[.bool false, .bool false, .int .i64 0, .int .i64 0] 28))
  have Br := Box4.made (w.alloc (.cells #[.int .u64 h, .int .u64 l] 40)) (.bool false) (.bool false) (.int .i64 0) (.int .i64 0) 28
  simp only [World.size_alloc] at Br
  clear e2
  go_enter Tryz.func19, Tryz.ntmps19
  go_wp2_with fail
  refine (length_any _ HW.out (hT.later X0)).mono ?_
  rintro r w1 ⟨k, rfl, hk, k39, x1'⟩
  obtain rfl := hk.nd
  clear hk
  have B1 := B.later x1'
  have Br1 := Br.later x1'
  have X1 := xt X0 x1'
  have B1' := B1
  obtain ⟨⟨p0, p1⟩, f0, f1⟩ := B1'
  by_cases hk15 : 15 < nd P
  · have HR : Hid (R = fitR neg (rndM 0 P (nd P - 15) more) (e + ((nd P - 15 : Nat) : Int))) := by rw [← HPR.out]; unfold putR; rw [if_pos hk15]; rfl
    have RL : Hid (rndM 0 P (nd P - 15) more ≤ 1000000000000000) := rnd_lt hk15
    have SH : Hid (∀ w, Tens w → Calls Tryz.prog 39 #[.agg #[.int .u64 h, .int .u64 l], .int .i64 (((nd P) : Int) - 15), .bool more, Value.func (Fn.func 51) #[] #[]] w fun e w' => e = .returned (.agg #[.int .u64 0, .int .u64 ((rndM 0 P (nd P - 15) more : Nat) : Int)]) ∧ Ext w w') := fun w hT => by
      have e3 : (((nd P) : Int) - 15) = ((nd P - 15 : Nat) : Int) := by omega
      rw [e3]
      refine (short_toEven (nd P - 15) more w HW.out (by omega) (by omega) hT).mono ?_
      rintro e w' ⟨v', rfl, hW, hx⟩
      exact ⟨by rw [hW.val (by have := RL.out; omega)], hx⟩
    obtain ⟨Q, hQ⟩ : ∃ Q, rndM 0 P (nd P - 15) more = Q := ⟨_, rfl⟩
    rw [hQ] at HR RL SH
    have FI : Hid (∀ w, Calls Tryz.prog 52 #[.bool neg, .int .u64 Q, .int .i64 (e + (((nd P) : Int) - 15))] w fun r w' => r = .returned (resV R) ∧ Ext w w') := fun w => by
      rw [HR.out]
      have e3 : (((nd P) : Int) - 15) = ((nd P - 15 : Nat) : Int) := by omega
      rw [e3]
      exact fitted_any neg Q _ w (by have := RL.out; omega) (by omega) (by omega)
    have k15' : (15 : Int) < ((nd P) : Int) := by omega
    clear hQ HR RL h1 h2 HP HPR
    go_wp2_with fail
    refine (SH.out _ (hT.later X1)).mono ?_
    rintro r w2 ⟨rfl, x2'⟩
    have B2 := (B1.later x2').put (.int .u64 0) (.int .u64 Q)
    have Br2 := Br1.later x2'
    have X2 := xset (xset (xt X1 x2') (p := ⟨w.heap.size, 0, none⟩) (Nat.le_refl _) (.int .u64 0)) (p := ⟨w.heap.size, 1, none⟩) (Nat.le_refl _) (.int .u64 Q)
    obtain ⟨⟨g0, g1⟩, j0, j1⟩ := B1.later x2'
    obtain ⟨u2, hu2⟩ : ∃ u, (w2.setCell ⟨w.heap.size, 0, none⟩ (.int .u64 0)).setCell ⟨w.heap.size, 1, none⟩ (.int .u64 Q) = u := ⟨_, rfl⟩
    have Br3 : Box4 u2 (w.heap.size + 1) (.bool false) (.bool false) (.int .i64 0) (.int .i64 0) := by
      rw [← hu2]
      exact (Br2.far (p := ⟨w.heap.size, 0, none⟩) (show w.heap.size ≠ w.heap.size + 1 by omega) _).far (p := ⟨w.heap.size, 1, none⟩) (show w.heap.size ≠ w.heap.size + 1 by omega) _
    rw [hu2] at B2 X2
    have B2' := B2
    obtain ⟨⟨a0, a1⟩, c0, c1⟩ := B2'
    clear B Br B1 Br1 Br2 x1' x2' X0 X1 p0 p1 f0 f1
    go_wp2_with fail
    refine (FI.out _).mono ?_
    rintro r w3 ⟨rfl, x3'⟩
    obtain ⟨⟨q0, q1, q2, q3⟩, z0, z1, z2, z3⟩ := Br3.later x3'
    clear hu2 g0 g1 j0 j1 a0 a1 c0 c1
    go_wp2_with fail
    exact bodyPost_ret (v := resV R) (by simp [results, Tryz.results19, go_sem, q0, q1, q2, q3]) rfl ⟨rfl, xset (xset (xset (xset (xt X2 x3') (Nat.le_succ _) _) (Nat.le_succ _) _) (Nat.le_succ _) _) (Nat.le_succ _) _⟩
  · have HR : Hid (R = fitR neg P e) := by rw [← HPR.out]; unfold putR; rw [if_neg hk15]; rfl
    have hP : P < 1000000000000000 := by
      have := (nd_dig P).1
      have := pow10_le (show nd P ≤ 15 by omega)
      have e : (10 : Nat) ^ 15 = 1000000000000000 := by decide
      omega
    obtain ⟨rfl, rfl⟩ : h = 0 ∧ l = P := by have := HP.out; omega
    have FI : Hid (∀ w, Calls Tryz.prog 52 #[.bool neg, .int .u64 l, .int .i64 e] w fun r w' => r = .returned (resV R) ∧ Ext w w') := fun w => by
      rw [HR.out]
      exact fitted_any neg l _ w (by omega) (by omega) (by omega)
    have k15' : ¬ (15 : Int) < ((nd l) : Int) := by omega
    clear HR h1 h2 HP HPR HW
    go_wp2_with fail
    refine (FI.out _).mono ?_
    rintro r w3 ⟨rfl, x3'⟩
    obtain ⟨⟨q0, q1, q2, q3⟩, z0, z1, z2, z3⟩ := Br1.later x3'
    go_wp2_with fail
    exact bodyPost_ret (v := resV R) (by simp [results, Tryz.results19, go_sem, q0, q1, q2, q3]) rfl ⟨rfl, xset (xset (xset (xset (xt X1 x3') (Nat.le_succ _) _) (Nat.le_succ _) _) (Nat.le_succ _) _) (Nat.le_succ _) _⟩

end Go.Proofs.YtfkihaihbaobeaaGreatDoor

