/-
  Chapter 11: two cells the same; Runs, of the specification.
-/
import Derived.Test.YtlofnhhoopefcaaGreatDoorQg
namespace Go.Proofs.YtlofnhhoopefcaaGreatDoor
open Go.RowKit

theorem cmpSQ (a b : VT) (w : World) (hl : a.t.length ≤ 2000000) (hl' : b.t.length ≤ 2000000) (ga : a.good = true) (gb : b.good = true) (h4 : a.k ≠ 4) (h4' : b.k ≠ 4) :
  Calls Tryz.prog 53 #[a.val, b.val] w fun e w' => e = .returned (.int .i64 (cmpQ a b)) ∧ Ext w w' := by
 obtain ⟨k, n, d, x, t⟩ := a
 obtain ⟨k', n', d', x', t'⟩ := b
 obtain ⟨v1, z1⟩ := beside_eq (k := k) (n := n) (d := d) (x := x) (t := t) ga k'
 obtain ⟨v2, z2⟩ := beside_eq (k := k') (n := n') (d := d') (x := x') (t := t') gb k
 have e : cmpQ ⟨k, n, d, x, t⟩ ⟨k', n', d', x', t'⟩ = cmpR (bk k k') n d x (bt k t k') (bk k' k) n' d' x' (bt k' t' k) := by
  unfold cmpQ compareV
  rw [if_pos ⟨ga, gb, h4, h4'⟩]
 rw [e]
 exact cmpS6 k n d x t k' n' d' x' t' w _ _ _ _ _ v1 z1 (bt_len k k' hl) _ _ _ _ _ v2 z2 (bt_len k' k hl')
end Go.Proofs.YtlofnhhoopefcaaGreatDoor

