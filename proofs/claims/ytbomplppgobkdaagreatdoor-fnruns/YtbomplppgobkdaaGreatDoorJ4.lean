/-
  Chapter 12: a value's likeness; a number put under a key, of the program.
-/
import Derived.Test.YtbomplppgobkdaaGreatDoorMg35
import Derived.Test.YtbomplppgobkdaaGreatDoorMg27
import Derived.Lib.AppendZeros
namespace Go.Proofs.YtbomplppgobkdaaGreatDoor
open Go.RowKit

set_option maxRecDepth 8000 in
set_option maxHeartbeats 2000000 in
theorem likenessI (e : VT) (w : World) (hl : e.t.length ≤ 2000000) :
    Calls Tryz.prog 31 #[e.val] w fun r w' => r = .returned (nrm e).val ∧ Ext w w' := by
  obtain ⟨k, n, d, x, t⟩ := e
  obtain ⟨u0, u1, h0, h1, s0, s1, B0, B1, X⟩ := mkB2 w (valL k n d x t) (valL 0 false 0 0 []) 50 50
  obtain ⟨a0, a1, a2, a3, a4⟩ := Vec.five B0
  have CC := capsI t u1 hl
  go_enter Tryz.func31, Tryz.ntmps31
  go_wp2_with fail
  clear a0 a1 a2 a3 a4 h0 h1 s0 s1
  refine CC.mono ?_
  rintro r w1 ⟨rfl, e1⟩
  obtain ⟨T, hT⟩ : ∃ T, t.map upC = T := ⟨_, rfl⟩
  have HT : Hid (t.map upC = T) := hT
  rw [hT]
  have C0 := B0.later e1
  have C1 := B1.later e1
  obtain ⟨-, -, -, -, k4⟩ := Vec.five C0
  obtain ⟨-, -, -, -, f4⟩ := Vec.fiveF C0
  have D0 : Vec (w1.setCell ⟨w.heap.size, 4, none⟩ (sV T)) w.heap.size (valL k n d x T) := C0.put 4 (by simp) _
  have D1 := C1.far (p := ⟨w.heap.size, 4, none⟩) (by show w.heap.size ≠ _; omega) (sV T)
  have XD := xset (xt X e1) (p := ⟨w.heap.size, 4, none⟩) (Nat.le_refl _) (sV T)
  obtain ⟨wd, hd⟩ : ∃ wd, w1.setCell ⟨w.heap.size, 4, none⟩ (sV T) = wd := ⟨_, rfl⟩
  rw [hd] at D0 D1 XD
  obtain ⟨a0, a1, a2, a3, a4⟩ := Vec.five D0
  obtain ⟨wy, hy, FX, ⟨b0, b1, b2, b3, b4⟩, ⟨fb0, fb1, fb2, fb3, fb4⟩, fd0, fd1, fd2, fd3, fd4⟩ := fin5 D1 XD (by omega) k n d x T
  clear C0 C1 D0 D1 hT B0 B1 X
  go_wp2_with fail
  exact bodyPost_ret (v := valV k n d x T) (by simp [results, Tryz.results31, go_sem, fd0, fd1, fd2, fd3, fd4]) rfl ⟨by unfold nrm; rw [HT.out], FX⟩
theorem ext_grownJ {w a b : World} {r : Option Nat} (X : Ext w a) (G : a.grownBy b r) (hr : ∀ k, r = some k → w.heap.size ≤ k) : Ext w b := by
  refine ⟨by rw [← X.os]; exact G.os, by rw [← X.tape]; exact G.tape, by rw [← X.output]; exact G.output, Nat.le_trans X.size G.size, fun k hk => ?_⟩
  rw [G.block k (Nat.lt_of_lt_of_le hk X.size) (fun e => by have := hr k e.symm; omega)]
  exact X.block k hk
end Go.Proofs.YtbomplppgobkdaaGreatDoor

