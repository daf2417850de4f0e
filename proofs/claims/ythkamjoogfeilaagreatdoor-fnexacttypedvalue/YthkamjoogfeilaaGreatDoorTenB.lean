/-
  l1Ten, l1Of.
-/
import Derived.Test.YthkamjoogfeilaaGreatDoorTen
import Derived.Test.YthkamjoogfeilaaGreatDoorWideD
namespace Go.Proofs.YthkamjoogfeilaaGreatDoor
open Go.RowKit

theorem ten_fit (i : Nat) : (((10 : Int) ^ i).natAbs : Int) < 1000000000 ^ (i + 1) := by
  have e : (((10 : Int) ^ i).natAbs : Int) = ((10 ^ i : Nat) : Int) := by rw [Int.natAbs_pow]; rfl
  rw [e]
  have h1 : 10 ^ i ≤ 1000000000 ^ i := Nat.pow_le_pow_left (by decide) i
  have h2 : 1000000000 ^ i < 1000000000 ^ (i + 1) := Nat.pow_lt_pow_right (by decide) (by omega)
  have h3 : ((10 ^ i : Nat) : Int) < ((1000000000 ^ (i + 1) : Nat) : Int) := by exact_mod_cast Nat.lt_of_le_of_lt h1 h2
  simpa using h3
theorem ten_fits (n i : Nat) (h : i ≤ n) : (((10 : Int) ^ i).natAbs : Int) < 1000000000 ^ (n + 1) := by
  have h1 := ten_fit i
  have h2 : (1000000000 : Int) ^ (i + 1) ≤ 1000000000 ^ (n + 1) := by
    have := Nat.pow_le_pow_right (n := 1000000000) (by decide) (show i + 1 ≤ n + 1 by omega)
    have h3 : ((1000000000 ^ (i + 1) : Nat) : Int) ≤ ((1000000000 ^ (n + 1) : Nat) : Int) := by exact_mod_cast this
    simpa using h3
  omega

theorem Box3.up {w : World} {b : Nat} {v0 v1 v2 : Value} (h : Box3 w b v0 v1 v2) : ((∀ o, (w.alloc o).cell? ⟨b, 0, none⟩ = some v0) ∧ (∀ o, (w.alloc o).cell? ⟨b, 1, none⟩ = some v1) ∧ ∀ o, (w.alloc o).cell? ⟨b, 2, none⟩ = some v2) ∧ (∀ o, (w.alloc o).frozen? ⟨b, 0, none⟩ = false) ∧ (∀ o, (w.alloc o).frozen? ⟨b, 1, none⟩ = false) ∧ ∀ o, (w.alloc o).frozen? ⟨b, 2, none⟩ = false :=
  ⟨⟨fun o => (h.later (x1 w o)).1.1, fun o => (h.later (x1 w o)).1.2.1, fun o => (h.later (x1 w o)).1.2.2⟩, fun o => (h.later (x1 w o)).2.1, fun o => (h.later (x1 w o)).2.2.1, fun o => (h.later (x1 w o)).2.2.2⟩

set_option maxHeartbeats 1000000 in
theorem ten_any (n : Nat) (w : World) (hn : n ≤ 1000000) :
    Calls Tryz.prog 67 #[.int .i64 n] w fun e w' => ∃ v', e = .returned v' ∧ ZV w' v' (10 ^ n) ∧ Ext w w' := by
  go_enter Tryz.func67, Tryz.ntmps67
  go_wp2_with fail
  refine (small_any 10 _ (by decide) (by decide)).mono ?_
  rintro e w1 ⟨v1, rfl, h1, e1⟩
  go_wp2_with fail
  refine (power_any n _ h1 hn (n + 1 + 1) (by omega) (by simpa using ten_fits (n + 1) 1 (by omega)) (fun i hi => ten_fits (n + 1) i (by omega))).mono ?_
  rintro e w2 ⟨v2, rfl, h2, e2⟩
  obtain ⟨o0, o1, po, no, co, rfl⟩ := h2.shape
  have Br := ((Box3.made w (.int .i64 0) (.bool false) (.slice none 0 0) 57).later e1).later e2
  have Hz := h2.set3 Br (.int .i64 o0) (.bool o1) (.slice po no co)
  have Hx := Ext.set3 (b := w.heap.size) (xt (xt (x1 _ _) e1) e2) (Nat.le_refl _) (.int .i64 o0) (.bool o1) (.slice po no co)
  obtain ⟨⟨r0, r1, r2⟩, s0, s1, s2⟩ := Br
  go_wp2
  exact bodyPost_ret (v := .agg #[.int .i64 o0, .bool o1, .slice po no co]) (by simp [results, Tryz.results67, go_sem, r0, r1, r2]) rfl ⟨_, rfl, Hz, Hx⟩


end Go.Proofs.YthkamjoogfeilaaGreatDoor

