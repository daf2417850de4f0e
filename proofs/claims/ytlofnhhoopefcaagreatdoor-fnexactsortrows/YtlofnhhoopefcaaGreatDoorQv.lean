/-
  Chapter 11: rows of keys measured, and marked.
-/
import Derived.Test.YtlofnhhoopefcaaGreatDoorY1d
import Derived.Test.YtlofnhhoopefcaaGreatDoorW9t
namespace Go.Proofs.YtlofnhhoopefcaaGreatDoor
open Go.RowKit

set_option maxHeartbeats 1000000 in
theorem szSortKeys (v : Value) (l : List YT) (m : Int) (w : World) (h : SortKeysIn w v l) (m0 : 0 ≤ m) (m1 : m ≤ 1048576) (hl : l.length ≤ 9223372036854775807) :
  Calls Tryz.prog 6 #[v, .int .i64 m] w fun e w' => (∃ r : Int, e = .returned (.int .i64 r) ∧ -1 ≤ r ∧ r ≤ m ∧ (0 ≤ r → (l.length : Int) ≤ m)) ∧ w' = w := by
 obtain ⟨p, cap, rfl, hcap, hrow⟩ := h
 obtain ⟨n, hn⟩ : ∃ n, l.length = n := ⟨_, rfl⟩
 rw [hn] at hl ⊢
 clear hrow hn hcap
 obtain ⟨z, hz⟩ : ∃ z : Int, m - n = z := ⟨_, rfl⟩
 have wz : IntKind.i64.wrap (m - (n : Int)) = z := by rw [IntKind.wrap_i64]; omega
 by_cases h0 : z < 0
 ·
  have f0 : decide (z < 0) = true := decide_eq_true h0
  go_enter Tryz.func6, Tryz.ntmps6
  go_wp2_with fail
  go_ret
  exact ⟨⟨-1, rfl, by omega, by omega, fun h => absurd h (by omega)⟩, rfl⟩
 ·
  have f0 : decide (z < 0) = false := decide_eq_false h0
  go_enter Tryz.func6, Tryz.ntmps6
  go_wp2_with fail
  go_ret
  exact ⟨⟨z, rfl, by omega, by omega, fun _ => by omega⟩, rfl⟩
/-- So many cells of a block are there, and may be written. -/
def There (w : World) (g n : Nat) : Prop := ∀ j, j < n → (w.cell? ⟨g, j, none⟩).isSome = true ∧ w.frozen? ⟨g, j, none⟩ = false
theorem There.set {w : World} {g n : Nat} (h : There w g n) (k : Nat) (u : Value) : There (w.setCell ⟨g, k, none⟩ u) g n := fun j hj => by
 refine ⟨?_, by rw [World.frozen?_setCell]; exact (h j hj).2⟩
 by_cases e : k = j
 ·
  subst e
  obtain ⟨v, hv⟩ := Option.isSome_iff_exists.1 (h k hj).1
  rw [World.cell?_setCell_same _ _ _ hv]
  rfl
 ·
  rw [World.cell?_setCell_other _ _ _ _ (fun q => e (by have := congrArg Addr.off q; simpa using this))]
  exact (h j hj).1
theorem OwnY.there {w : World} {g : Nat} {l : List YT} (h : OwnY w g l) : There w g (l.length * 2) := fun j hj => by
 obtain ⟨e, he⟩ : ∃ e, l[j / 2]? = some e := ⟨_, List.getElem?_eq_getElem (by omega)⟩
 obtain ⟨⟨c0, c1⟩, f0, f1⟩ := h.all he
 by_cases hm : j % 2 = 0
 ·
  have : j / 2 * 2 = j := by omega
  rw [this] at c0 f0
  exact ⟨by rw [c0]; rfl, f0⟩
 ·
  have : j / 2 * 2 + 1 = j := by omega
  rw [this] at c1 f1
  exact ⟨by rw [c1]; rfl, f1⟩
set_option maxRecDepth 8000 in
set_option maxHeartbeats 2000000 in
theorem markSortKeys (g n k0 : Nat) (w : World) (h : There w g (n * 2)) (hn : n ≤ 1048576) (h1 : 1 ≤ k0) (h2 : k0 ≤ 10000000) :
  Calls Tryz.prog 15 #[.slice (some ⟨g, 0, none⟩) n n, .int .i64 k0] w fun e w' => e = .returned (.int .i64 ((k0 + n * 2 : Nat) : Int)) ∧ w.grownBy w' (if n = 0 then none else some g) := by
 obtain ⟨row, hrow⟩ : ∃ q, (if n = 0 then none else some g) = q := ⟨_, rfl⟩
 have HRow : Hid ((if n = 0 then none else some g) = row) := hrow
 rw [hrow]
 clear hrow
 have H0 : Hid (There w g (n * 2) ∧ w.grownBy w row) := ⟨h, grown_refl _ _⟩
 clear h
 go_enter Tryz.func15, Tryz.ntmps15
 go_wp2_with fail
 go_loopw [1, 5] (fun q i wr => ∃ k : Nat, k ≤ n ∧ i = .int .i64 k ∧ q = .int .i64 ((k0 + k * 2 : Nat) : Int) ∧ Hid (There wr g (n * 2) ∧ w.grownBy wr row)) (fun _ i _ => n - (intOf i).toNat)
 case atStart => exact ⟨0, by omega, rfl, rfl, H0⟩
 case round =>
  clear H0
  obtain ⟨k, hk, rfl, rfl, H⟩ := hrel
  by_cases hlt : k < n
  ·
   have i2 : (k : Int) < (n : Int) := by omega
   obtain ⟨m, hm⟩ : ∃ m : Nat, k0 + k * 2 = m := ⟨_, rfl⟩
   have hm' : m ≤ 20000000 := by omega
   rw [hm]
   obtain ⟨s0, f0⟩ := H.out.1 (k * 2) (by omega)
   obtain ⟨s1, f1⟩ := H.out.1 (k * 2 + 1) (by omega)
   obtain ⟨v0, c0⟩ := Option.isSome_iff_exists.1 s0
   obtain ⟨v1, c1⟩ := Option.isSome_iff_exists.1 s1
   have d1 : ∀ u, (wr.setCell ⟨g, k * 2, none⟩ u).cell? ⟨g, k * 2 + 1, none⟩ = some v1 := fun u => by rw [World.cell?_setCell_other _ _ _ _ (fun q => by have := congrArg Addr.off q; simp at this)]; exact c1
   have HN : Hid (∀ u0 u1, Hid (There ((wr.setCell ⟨g, k * 2, none⟩ u0).setCell ⟨g, k * 2 + 1, none⟩ u1) g (n * 2) ∧ w.grownBy ((wr.setCell ⟨g, k * 2, none⟩ u0).setCell ⟨g, k * 2 + 1, none⟩ u1) row)) := fun u0 u1 => by
    refine ⟨(H.out.1.set _ _).set _ _, ?_⟩
    have hr : some g = row := by have := HRow.out; rw [if_neg (by omega)] at this; exact this
    rw [← hr]
    exact grown_set (grown_set (by rw [hr]; exact H.out.2) _) _
   have hnx : ((m : Nat) : Int) + 1 + 1 = ((k0 + (k + 1) * 2 : Nat) : Int) := by omega
   clear H s0 s1 hm
   go_wp2_with fail
   go_roundw
   case rel => exact ⟨k + 1, by omega, by go_num, by first | (rw [hnx]) | (congr 1), HN.out _ _⟩
   case measure => simp [intOf]; omega
  ·
   obtain rfl : k = n := by omega
   go_wp2_with fail
   go_ret
   exact ⟨rfl, H.out.2⟩

end Go.Proofs.YtlofnhhoopefcaaGreatDoor

