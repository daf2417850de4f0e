/-
  The program's numbers of two words, the calls on them: times a word, times a power of ten.
-/
import Derived.Test.YtbomplppgobkdaaGreatDoorMg0
namespace Go.Proofs.YtbomplppgobkdaaGreatDoor
open Go.RowKit

/-- The cells of a box behind one new block, whatever it is. -/
theorem Box2.up {w : World} {b : Nat} {v0 v1 : Value} (h : Box2 w b v0 v1) : ((∀ o, (w.alloc o).cell? ⟨b, 0, none⟩ = some v0) ∧ ∀ o, (w.alloc o).cell? ⟨b, 1, none⟩ = some v1) ∧ (∀ o, (w.alloc o).frozen? ⟨b, 0, none⟩ = false) ∧ ∀ o, (w.alloc o).frozen? ⟨b, 1, none⟩ = false :=
  ⟨⟨fun o => (h.later (x1 w o)).1.1, fun o => (h.later (x1 w o)).1.2⟩, fun o => (h.later (x1 w o)).2.1, fun o => (h.later (x1 w o)).2.2⟩

theorem times_fit {a n h l h' l' : Nat} (e : h * 18446744073709551616 + l = a) (e' : h' * 18446744073709551616 + l' = l * n) (hlt : a * n < 340282366920938463463374607431768211456) :
    h * n < 18446744073709551616 ∧ h' + h * n < 18446744073709551616 ∧ (h' + h * n) * 18446744073709551616 + l' = a * n := by
  have h1 : a * n = h * n * 18446744073709551616 + l * n := by rw [← e, Nat.add_mul, Nat.mul_right_comm]
  rw [h1] at hlt ⊢
  generalize h * n = p at *
  generalize l * n = q at *
  omega

set_option maxRecDepth 100000 in
set_option maxHeartbeats 1000000 in
theorem times_any {v : Value} {a : Nat} (n : Nat) (w : World) (hv : WV v a) (hn : n < 18446744073709551616) (hlt : a * n < 340282366920938463463374607431768211456) :
    Calls Tryz.prog 161 #[v, .int .u64 n] w fun e w' => ∃ v', e = .returned v' ∧ WV v' (a * n) ∧ Ext w w' := by
  obtain ⟨h, l, rfl, h1, h2, e1⟩ := hv
  have E1 : Hid (h * 18446744073709551616 + l = a) := e1
  have HL : Hid (a * n < 340282366920938463463374607431768211456) := hlt
  clear e1 hlt
  go_enter Tryz.func161, Tryz.ntmps161
  go_wp2_with fail
  refine (product_any l n h2 hn _).mono ?_
  rintro e w1 ⟨v', rfl, hv', x1'⟩
  obtain ⟨h', l', rfl, h1', h2', e2⟩ := hv'
  obtain ⟨t1, t2, t3⟩ := times_fit E1.out e2 HL.out
  obtain ⟨p, hp⟩ : ∃ p : Nat, h * n = p := ⟨_, rfl⟩
  have hpi : (h : Int) * (n : Int) = (p : Int) := by rw [← Int.natCast_mul, hp]
  rw [hp] at t1 t2 t3
  have T3 : Hid ((h' + p) * 18446744073709551616 + l' = a * n) := t3
  have B1 := (Box2.made w (.int .u64 h) (.int .u64 l) 164).later (xt (x1 _ _) x1')
  have Br := (Box2.made (w.alloc (.cells #[.int .u64 h, .int .u64 l] 164)) (.int .u64 0) (.int .u64 0) 164).later x1'
  simp only [World.size_alloc] at Br
  obtain ⟨⟨q0, q1⟩, _⟩ := B1.up
  obtain ⟨⟨r0, r1⟩, s0, s1⟩ := Br.up
  have sz := x1'.size
  simp only [World.size_alloc] at sz
  clear e2 t3 E1 HL hp
  have n0 : w.heap.size + 1 ≠ w1.heap.size := by omega
  go_wp2
  exact bodyPost_ret (v := .agg #[.int .u64 ((h' + p : Nat) : Int), .int .u64 l']) (by simp [results, Tryz.results161, go_sem, r0, r1]) rfl
    ⟨_, rfl, ⟨h' + p, l', rfl, t2, h2', T3.out⟩, xset (xset (xa (xt (xa (x1 _ _) _) x1') _) (Nat.le_succ _) _) (Nat.le_succ _) _⟩

end Go.Proofs.YtbomplppgobkdaaGreatDoor

