/-
  The program's numbers of two words, the calls on them: powers of ten.
-/
import Derived.Test.YtbomplppgobkdaaGreatDoorMg0
namespace Go.Proofs.YtbomplppgobkdaaGreatDoor
open Go.RowKit

set_option maxHeartbeats 1000000 in
theorem wideTen_any (n : Nat) (hn : n ≤ 38) (w : World) (hT : Tens w) :
    Calls Tryz.prog 159 #[.int .i64 n] w fun e w' => ∃ v, e = .returned v ∧ WV v (10 ^ n) ∧ Ext w w' := by
  by_cases h19 : n ≤ 19
  · obtain ⟨t, et, t1, ct⟩ := hT.at (i := n) (by omega)
    obtain ⟨u, eu, u1, cu⟩ := hT.at (i := 0) (by omega)
    have HP : Hid (t * u = 10 ^ n) := by rw [← et, ← eu]; simp [Hid]
    have ct' := fun o => Lib.cell?_alloc_some o ct
    have cu' := fun o => Lib.cell?_alloc_some o cu
    clear et eu hT ct cu
    go_enter Tryz.func159, Tryz.ntmps159
    go_wp2_with fail
    go_region_with (first
      | (go_at_call 178; refine (product_any t u t1 u1 _).mono ?_; rintro e w1 ⟨v, rfl, hv, e1⟩; obtain ⟨h, l, rfl, h1, h2, h3⟩ := hv; have H3 : Hid (h * 18446744073709551616 + l = t * u) := h3; clear h3; have B1 := (Box2.made w (.int .u64 0) (.int .u64 0) 164).later (xt (xd (xr _)) e1); obtain ⟨⟨r0, r1⟩, s0, s1⟩ := B1))
    all_goals
      go_wp2
      exact bodyPost_ret (v := .agg #[.int .u64 h, .int .u64 l]) (by simp [results, Tryz.results159, go_sem, r0, r1]) rfl ⟨_, rfl, ⟨h, l, rfl, h1, h2, H3.out.trans HP.out⟩, xset (xset (xt (xd (x1 _ _)) e1) (Nat.le_refl _) _) (Nat.le_refl _) _⟩
  · obtain ⟨t, et, t1, ct⟩ := hT.at (i := 19) (by omega)
    obtain ⟨u, eu, u1, cu⟩ := hT.at (i := n - 19) (by omega)
    have HP : Hid (t * u = 10 ^ n) := by rw [← et, ← eu, ← Nat.pow_add]; show 10 ^ (19 + (n - 19)) = 10 ^ n; congr 1; omega
    have ct' := fun o => Lib.cell?_alloc_some o ct
    have cu' := fun o => Lib.cell?_alloc_some o cu
    obtain ⟨j, rfl⟩ : ∃ j, n = j + 19 := ⟨n - 19, by omega⟩
    have ej : j + 19 - 19 = j := by omega
    rw [ej] at cu'
    have hj1 : (j : Int) < 20 := by omega
    have hj2 : j ≤ 19 := by omega
    have hwj : IntKind.i64.wrap (j : Int) = (j : Int) := by rw [IntKind.wrap_i64]; omega
    have ea : ((j + 19 : Nat) : Int) = (j : Int) + 19 := by omega
    rw [ea]
    clear et eu hT ct cu ej ea
    go_enter Tryz.func159, Tryz.ntmps159
    go_wp2_with fail
    go_region_with (first
      | (go_at_call 178; refine (product_any t u t1 u1 _).mono ?_; rintro e w1 ⟨v, rfl, hv, e1⟩; obtain ⟨h, l, rfl, h1, h2, h3⟩ := hv; have H3 : Hid (h * 18446744073709551616 + l = t * u) := h3; clear h3; have B1 := (Box2.made w (.int .u64 0) (.int .u64 0) 164).later (xt (xd (xr _)) e1); obtain ⟨⟨r0, r1⟩, s0, s1⟩ := B1))
    all_goals
      go_wp2
      exact bodyPost_ret (v := .agg #[.int .u64 h, .int .u64 l]) (by simp [results, Tryz.results159, go_sem, r0, r1]) rfl ⟨_, rfl, ⟨h, l, rfl, h1, h2, H3.out.trans HP.out⟩, xset (xset (xt (xd (x1 _ _)) e1) (Nat.le_refl _) _) (Nat.le_refl _) _⟩

end Go.Proofs.YtbomplppgobkdaaGreatDoor

