/-
  Chapter 11: a grid's cells by rows and columns, of the program.
-/
import Derived.Test.YtlofnhhoopefcaaGreatDoorQa
namespace Go.Proofs.YtlofnhhoopefcaaGreatDoor
open Go.RowKit

/-- A cell by its place. -/
def cel (l : List VT) (k : Nat) : VT := l.getD k zeroVT
theorem cel_at {l : List VT} {k : Nat} (h : k < l.length) : l[k]? = some (cel l k) := by
 rw [List.getElem?_eq_getElem h]; simp [cel, h]
theorem cel_mem {l : List VT} {k : Nat} (h : k < l.length) : cel l k ∈ l := List.mem_of_getElem? (cel_at h)
set_option maxRecDepth 8000 in
set_option maxHeartbeats 2000000 in
theorem atI (r : Int) (c : Nat) (v : Value) (l : List VT) (i j : Nat) (w : World) (h : ValsIn w v l) (hl : l.length ≤ 2000) (hk : i * c + j < l.length) :
  Calls Tryz.prog 45 #[grV r c v, .int .i64 i, .int .i64 j] w fun e w' => e = .returned (cel l (i * c + j)).val ∧ Ext w w' := by
 obtain ⟨pp, cap, rfl, hcap, hrow⟩ := h
 have he := cel_at hk
 obtain ⟨e, hee⟩ : ∃ e, cel l (i * c + j) = e := ⟨_, rfl⟩
 rw [hee] at he ⊢
 obtain ⟨N, hN⟩ : ∃ N, l.length = N := ⟨_, rfl⟩
 obtain ⟨m, hm⟩ : ∃ m, i * c = m := ⟨_, rfl⟩
 have hm' : (i : Int) * (c : Int) = (m : Int) := by rw [← hm]; simp
 rw [hN] at hcap hl hk hrow ⊢
 rw [hm] at hk he
 obtain ⟨b, o, hpp, hrw⟩ := hrow (by omega)
 subst hpp
 have hmj : (m : Int) + (j : Int) = ((m + j : Nat) : Int) := by omega
 obtain ⟨q, hq⟩ : ∃ q, m + j = q := ⟨_, rfl⟩
 rw [hq] at hmj hk he
 have q1 : (q : Int) < (N : Int) := by omega
 have m0 : (m : Int) ≤ 2000 := by omega
 have j0 : (j : Int) ≤ 2000 := by omega
 obtain ⟨u0, u1, h0, h1, s0, s1, B0, B1, X⟩ := mkB2 w [.int .i64 r, .int .i64 c, .slice (some ⟨b, o, none⟩) N cap] [.int .i64 0, .bool false, .int .i64 0, .int .i64 0, sV []] 32 70
 obtain ⟨a0, a1, a2⟩ := Vec.three (B0)
 obtain ⟨d0, d1, d2, d3, d4⟩ := (hrw.later X).five he
 obtain ⟨wy, hy, FX, ⟨b0, b1, b2, b3, b4⟩, ⟨fb0, fb1, fb2, fb3, fb4⟩, fd0, fd1, fd2, fd3, fd4⟩ := fin5 B1 X (by omega) e.k e.n e.d e.x e.t
 clear hee hm hq hN hrow hrw he
 go_enter Tryz.func45, Tryz.ntmps45
 go_wp2_with fail
 exact bodyPost_ret (v := e.val) (by simp [results, Tryz.results45, go_sem, fd0, fd1, fd2, fd3, fd4]) rfl ⟨rfl, FX⟩

theorem place_lt {i r c j : Nat} (hi : i < r) (hj : j < c) : i * c + j < r * c := by
 have : (i + 1) * c ≤ r * c := Nat.mul_le_mul_right c hi
 rw [Nat.add_mul, Nat.one_mul] at this
 omega
set_option maxHeartbeats 1000000 in
theorem lacksI (r c : Int) (v : Value) (x : Int) (w : World) :
  Calls Tryz.prog 26 #[grV r c v, .int .i64 x] w fun e w' => e = .returned (.bool (decide (x < 1 ∨ c < x))) ∧ Ext w w' := by
 have X0 := x1 w (.cells #[.int .i64 r, .int .i64 c, v] 32)
 have B0 := vec_made w [.int .i64 r, .int .i64 c, v] 32
 obtain ⟨a0, a1, a2⟩ := Vec.three B0
 by_cases h1 : x < 1
 ·
  rw [decide_eq_true (Or.inl h1)]
  have f1 : decide (x < 1) = true := decide_eq_true h1
  go_enter Tryz.func26, Tryz.ntmps26
  go_wp2_with fail
  go_ret
  exact ⟨rfl, X0⟩
 ·
  have f1 : decide (x < 1) = false := decide_eq_false h1
  have e : decide (x < 1 ∨ c < x) = decide (c < x) := decide_eq_decide.2 ⟨fun h => h.resolve_left h1, Or.inr⟩
  rw [e]
  go_enter Tryz.func26, Tryz.ntmps26
  go_wp2_with fail
  go_ret
  exact ⟨rfl, X0⟩

end Go.Proofs.YtlofnhhoopefcaaGreatDoor

