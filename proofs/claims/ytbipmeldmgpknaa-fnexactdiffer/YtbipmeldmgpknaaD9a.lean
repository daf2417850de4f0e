/-
  Chapter 9: two places held against each other.
-/
import Derived.Test.YtbipmeldmgpknaaD9p
import Derived.Test.YtbipmeldmgpknaaRg
import Derived.Sort.Grow
import Derived.Deep.Draws
namespace Go.Proofs.Ytbipmeldmgpknaa
open Go.RowKit Go.Sort

/-- Nothing turned but what is new, and what was drawn stays drawn. -/
def Gro (a w : World) : Prop := Ext a w ∧ a.drawn ≤ w.drawn
theorem gr (w : World) : Gro w w := ⟨xr w, Nat.le_refl _⟩
theorem gt {a b c : World} (h : Gro a b) (k : Gro b c) : Gro a c := ⟨xt h.1 k.1, Nat.le_trans h.2 k.2⟩
theorem ga {a b : World} (h : Gro a b) (o : Obj) : Gro a (b.alloc o) := ⟨xa h.1 o, h.2⟩
theorem gd {a b : World} (h : Gro a b) : Gro a b.drew := ⟨xd h.1, Nat.le_trans h.2 (Nat.le_succ _)⟩
theorem g1 (w : World) (o : Obj) : Gro w (w.alloc o) := ga (gr w) o
theorem gset {a b : World} (h : Gro a b) {p : Addr} (hp : a.heap.size ≤ p.block) (u : Value) : Gro a (b.setCell p u) := by
  refine ⟨xset h.1 hp u, ?_⟩
  have : (b.setCell p u).drawn = b.drawn := by unfold World.setCell; split <;> rfl
  rw [this]
  exact h.2
theorem Gro.grown {a w : World} (h : Gro a w) : ∃ q os, w = grow (a.drewN q) os := by
  obtain ⟨⟨h1, h2, h3, h4, h5⟩, h6⟩ := h
  refine ⟨w.drawn - a.drawn, w.heap.extract a.heap.size w.heap.size, ?_⟩
  obtain ⟨heap, tape, drawn, os, output⟩ := w
  simp only at h1 h2 h3 h4 h5 h6
  subst h1 h2 h3
  unfold grow World.drewN
  simp only [World.mk.injEq, and_true, true_and]
  refine ⟨?_, by omega⟩
  apply Array.ext_getElem?
  intro i
  rw [Array.getElem?_append]
  split
  · rename_i hi; exact h5 i hi
  · rename_i hi
    rw [Array.getElem?_extract]
    rcases Nat.lt_or_ge i heap.size with hlt | hge
    · rw [if_pos (by omega)]
      congr 1
      omega
    · rw [if_neg (by omega), Array.getElem?_eq_none hge]

def cmpI (a b : Int) : Int := if a < b then -1 else if b < a then 1 else 0
def cmpP (r c r' c' : Int) : Int := if cmpI r r' = 0 then cmpI c c' else cmpI r r'
theorem cmpP_lt (r c r' c' : Int) : decide (cmpP r c r' c' < 0) = aheadB r c r' c' := by
  unfold cmpP cmpI aheadB
  by_cases h1 : r < r'
  · simp [h1]
  · by_cases h2 : r' < r
    · have : r ≠ r' := by omega
      simp [h1, h2, this]
    · have : r = r' := by omega
      subst this
      by_cases h3 : c < c'
      · simp [h3]
      · by_cases h4 : c' < c <;> simp [h3, h4]

set_option maxHeartbeats 1000000 in
theorem compareI (a b : Int) (w : World) :
    Calls Try.prog 40 #[.int .i64 a, .int .i64 b] w fun e w' => e = .returned (.int .i64 (cmpI a b)) ∧ w' = w := by
  have N : ∀ (z : Int) (W : World), Calls Try.prog 47 #[.int .i64 z] W fun e w' => e = .returned (.bool false) ∧ w' = W := by
    intro z W
    go_enter Try.func47, Try.ntmps47
    go_wp2
    all_goals go_ret
    all_goals first | exact ⟨rfl, rfl⟩ | simp_all
  have N1 := N a w
  have N2 := N b w
  clear N
  unfold cmpI
  by_cases h1 : a < b
  · rw [if_pos h1]
    go_enter Try.func40, Try.ntmps40
    go_wp2_with fail
    refine N1.mono ?_
    rintro e w' ⟨rfl, rfl⟩
    go_wp2_with fail
    refine N2.mono ?_
    rintro e w' ⟨rfl, rfl⟩
    go_wp2_with fail
    go_ret
    exact ⟨rfl, rfl⟩
  · rw [if_neg h1]
    by_cases h2 : b < a
    · rw [if_pos h2]
      go_enter Try.func40, Try.ntmps40
      go_wp2_with fail
      refine N1.mono ?_
      rintro e w' ⟨rfl, rfl⟩
      go_wp2_with fail
      refine N2.mono ?_
      rintro e w' ⟨rfl, rfl⟩
      go_wp2_with fail
      go_ret
      exact ⟨rfl, rfl⟩
    · rw [if_neg h2]
      go_enter Try.func40, Try.ntmps40
      go_wp2_with fail
      refine N1.mono ?_
      rintro e w' ⟨rfl, rfl⟩
      go_wp2_with fail
      refine N2.mono ?_
      rintro e w' ⟨rfl, rfl⟩
      go_wp2_with fail
      go_ret
      exact ⟨rfl, rfl⟩
end Go.Proofs.Ytbipmeldmgpknaa
