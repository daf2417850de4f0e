/-
  Chapter 9: rows of what is shown that grow; two places that show the same.
-/
import Derived.Test.YtbipmeldmgpknaaD9d
import Derived.Test.YtbipmeldmgpknaaD9c
import Derived.Test.YtbipmeldmgpknaaS8d
import Derived.Deep.AppendLies
import Derived.OwnWalk
import Derived.Laws.OwnMore
namespace Go.Proofs.Ytbipmeldmgpknaa
open Go.RowKit

def flatS : List ST → List Value
  | [] => []
  | x :: l => x.cells ++ flatS l
theorem flatS_append (l m : List ST) : flatS (l ++ m) = flatS l ++ flatS m := by
  induction l with
  | nil => rfl
  | cons x l ih => simp [flatS, ih]
theorem flatS_length (l : List ST) : (flatS l).length = l.length * 8 := by
  induction l with
  | nil => rfl
  | cons x l ih => simp [flatS, ST.cells, ih]; omega
theorem flatS_at {l : List ST} {i : Nat} {x : ST} (h : l[i]? = some x) (j : Nat) (hj : j < 8) : (flatS l)[i * 8 + j]? = x.cells[j]? := by
  induction l generalizing i with
  | nil => cases h
  | cons y l ih =>
    have h8 : y.cells.length = 8 := rfl
    cases i with
    | zero =>
      have : y = x := by simpa using h
      subst this
      show (y.cells ++ flatS l)[0 * 8 + j]? = _
      rw [Nat.zero_mul, Nat.zero_add, List.getElem?_append_left (by omega)]
    | succ i =>
      show (y.cells ++ flatS l)[(i + 1) * 8 + j]? = _
      rw [List.getElem?_append_right (by omega), show (i + 1) * 8 + j - y.cells.length = i * 8 + j by omega]
      exact ih (by simpa using h)
/-- A row of what is shown of one's own, that may grow. -/
abbrev OwnR (w : World) (base : Nat) (v : Value) (l : List ST) : Prop := w.ownsRow base 42 8 v l.length (flatS l)
theorem ownR_later {w w' : World} {base : Nat} {v : Value} {l : List ST} (h : OwnR w base v l) (hx : Ext w w') : OwnR w' base v l := by
  refine ⟨h.1, h.2.imp id ?_⟩
  rintro ⟨g, cap, cur, h1, h2, h3, h4⟩
  have hlt : g < w.heap.size := by
    rcases Nat.lt_or_ge g w.heap.size with h' | h'
    · exact h'
    · rw [Array.getElem?_eq_none h'] at h3; cases h3
  exact ⟨g, cap, cur, h1, h2, by rw [hx.block g hlt]; exact h3, h4⟩
theorem ownR_block {w : World} {base : Nat} {v : Value} {l : List ST} (h : OwnR w base v l) : ∀ r, v.ownBlock = some r → base ≤ r := by
  intro r hr
  rcases h.2 with ⟨rfl, _⟩ | ⟨g, cap, cur, rfl, h2, _⟩
  · cases hr
  · have : g = r := by simpa [Value.ownBlock] using hr
    omega
theorem ownR_base {w : World} {base base' : Nat} {v : Value} {l : List ST} (h : OwnR w base v l) (hb : base' ≤ base) : OwnR w base' v l := by
  refine ⟨h.1, h.2.imp id ?_⟩
  rintro ⟨g, cap, cur, h1, h2, h3⟩
  exact ⟨g, cap, cur, h1, Nat.le_trans hb h2, h3⟩
theorem ownR_keep {w w' : World} {base : Nat} {v : Value} {l : List ST} {row : Option Nat} (h : OwnR w base v l) (hg : w.grownBy w' row) (hr : ∀ k, row = some k → k < base) : OwnR w' base v l := by
  refine ⟨h.1, h.2.imp id ?_⟩
  rintro ⟨g, cap, cur, h1, h2, h3, h4⟩
  have hlt : g < w.heap.size := by
    rcases Nat.lt_or_ge g w.heap.size with h' | h'
    · exact h'
    · rw [Array.getElem?_eq_none h'] at h3; cases h3
  exact ⟨g, cap, cur, h1, h2, by rw [hg.block g hlt (fun e => by have := hr g e.symm; omega)]; exact h3, h4⟩
theorem ownR_lt {w : World} {base : Nat} {v : Value} {l : List ST} (h : OwnR w base v l) : ∀ g, v.ownBlock = some g → g < w.heap.size := by
  intro r hr
  rcases h.2 with ⟨rfl, _⟩ | ⟨g, cap, cur, rfl, _, h3, _⟩
  · cases hr
  · have : g = r := by simpa [Value.ownBlock] using hr
    subst this
    rcases Nat.lt_or_ge g w.heap.size with h' | h'
    · exact h'
    · rw [Array.getElem?_eq_none h'] at h3; cases h3
theorem ownR_slice {w : World} {base : Nat} {v : Value} {l : List ST} (h : OwnR w base v l) : ∃ p n c, v = .slice p n c := by
  rcases h.2 with ⟨rfl, _⟩ | ⟨g, cap, cur, rfl, _⟩
  · exact ⟨_, _, _, rfl⟩
  · exact ⟨_, _, _, rfl⟩
theorem ownR_showns {w : World} {base : Nat} {v : Value} {l : List ST} (h : OwnR w base v l) : ShownsIn w v l := by
  rcases h.2 with ⟨rfl, h0⟩ | ⟨g, cap, cur, rfl, hb, hg, hc, _, hcs, htake⟩
  · exact ⟨none, 0, by rw [h0], by omega, fun h => absurd h0 (by omega)⟩
  · refine ⟨_, cap, rfl, hc, fun _ => ⟨g, 0, rfl, fun i e hi c u hu => ?_⟩⟩
    have := h.cells (g := g) rfl (i * 8 + c) u ((flatS_at hi c (ST.cells_lt hu)).trans hu)
    rw [show (⟨g, 0, none⟩ : Addr).add (i * 8 + c) = ⟨g, 0 + i * 8 + c, none⟩ by unfold Addr.add; split <;> simp_all] at this
    exact this
/-- A store elsewhere leaves the row. -/
theorem ownR_far {w : World} {base : Nat} {v : Value} {l : List ST} (h : OwnR w base v l) {p : Addr} (hp : p.block < base) (u : Value) : OwnR (w.setCell p u) base v l := by
  refine ⟨h.1, h.2.imp id ?_⟩
  rintro ⟨g, cap, cur, h1, h2, h3, h4⟩
  exact ⟨g, cap, cur, h1, h2, by rw [heap_setCell_other _ _ _ _ (by omega)]; exact h3, h4⟩
theorem infoR : ∃ inf, Try.prog.info? 42 = some inf ∧ inf.zero = some (.agg zeroST.cells.toArray) ∧ inf.size = 8 ∧ inf.bytes = 72 := by
  have h := infoS
  cases h' : Try.prog.info? 42 with
  | none => rw [h'] at h; cases h
  | some inf =>
    rw [h'] at h
    simp at h
    exact ⟨inf, rfl, h.1, h.2.1, h.2.2⟩
theorem ownR_nil (w : World) (base : Nat) : OwnR w base (.slice none 0 0) [] := World.ownsRow_nil _ _ _ _

end Go.Proofs.Ytbipmeldmgpknaa
