/-
  Two numbers of two words stored into two boxes of one's own, in whatever order they were made.
-/
import Derived.Test.YtpoihneecafijaaDoorImE
namespace Go.Proofs.YtpoihneecafijaaDoor
open Go.RowKit

/-- A box that holds a number of two words. -/
def WIn (w : World) (b : Nat) (P : Nat) : Prop := ∃ h l : Nat, Box2 w b (.int .u64 h) (.int .u64 l) ∧ WV (.agg #[.int .u64 h, .int .u64 l]) P
theorem WIn.later {w w1 : World} {b P : Nat} (h : WIn w b P) (x : Ext w w1) : WIn w1 b P := by
  obtain ⟨a, l, h1, h2⟩ := h
  exact ⟨a, l, h1.later x, h2⟩
abbrev set2 (w : World) (b : Nat) (u0 u1 : Value) : World := (w.setCell ⟨b, 0, none⟩ u0).setCell ⟨b, 1, none⟩ u1
theorem Box2.far2 {w : World} {b k : Nat} {v0 v1 : Value} (h : Box2 w b v0 v1) (hk : k ≠ b) (u0 u1 : Value) : Box2 (set2 w k u0 u1) b v0 v1 := (h.far (p := ⟨k, 0, none⟩) hk u0).far (p := ⟨k, 1, none⟩) hk u1
theorem Box2.lt {w : World} {b : Nat} {v0 v1 : Value} (h : Box2 w b v0 v1) : b < w.heap.size := World.block_lt_of_cell? _ _ h.1.1
theorem ext_set2 {w w1 : World} {b : Nat} (h : Ext w w1) (hb : w.heap.size ≤ b) (c0 c1 : Value) : Ext w (set2 w1 b c0 c1) := xset (xset h hb _) hb _
def WTwo (w0 w : World) (b c : Nat) (P Q : Nat) : Prop := w0.heap.size ≤ b ∧ w0.heap.size ≤ c ∧ b ≠ c ∧ WIn w b P ∧ WIn w c Q ∧ Ext w0 w

section
variable {w0 w : World} {P Q : Nat} {q0 q1 r0 r1 : Nat} {t : TypeId}
theorem wtwo1 (X : Ext w0 w) (hq : WV (.agg #[.int .u64 q0, .int .u64 q1]) P) (hr : WV (.agg #[.int .u64 r0, .int .u64 r1]) Q) :
    WTwo w0 ((w.alloc (.cells #[.int .u64 q0, .int .u64 q1] t)).alloc (.cells #[.int .u64 r0, .int .u64 r1] t)) w.heap.size (w.heap.size + 1) P Q := by
  have h1 := Box2.made (w.alloc (.cells #[.int .u64 q0, .int .u64 q1] t)) (.int .u64 r0) (.int .u64 r1) t
  simp only [World.size_alloc] at h1
  exact ⟨X.size, Nat.le_succ_of_le X.size, by omega, ⟨q0, q1, (Box2.made w _ _ t).later (x1 _ _), hq⟩, ⟨r0, r1, h1, hr⟩, xa (xa X _) _⟩
theorem wtwo2 (X : Ext w0 w) (hq : WV (.agg #[.int .u64 q0, .int .u64 q1]) P) (hr : WV (.agg #[.int .u64 r0, .int .u64 r1]) Q) :
    WTwo w0 ((w.alloc (.cells #[.int .u64 r0, .int .u64 r1] t)).alloc (.cells #[.int .u64 q0, .int .u64 q1] t)) (w.heap.size + 1) w.heap.size P Q := by
  have h1 := Box2.made (w.alloc (.cells #[.int .u64 r0, .int .u64 r1] t)) (.int .u64 q0) (.int .u64 q1) t
  simp only [World.size_alloc] at h1
  exact ⟨Nat.le_succ_of_le X.size, X.size, by omega, ⟨q0, q1, h1, hq⟩, ⟨r0, r1, (Box2.made w _ _ t).later (x1 _ _), hr⟩, xa (xa X _) _⟩
theorem wtwo5 (X : Ext w0 w) (hq : WV (.agg #[.int .u64 q0, .int .u64 q1]) P) (hr : WV (.agg #[.int .u64 r0, .int .u64 r1]) Q) {b c : Nat} (hb : Box2 w b (.int .u64 0) (.int .u64 0)) (hc : Box2 w c (.int .u64 0) (.int .u64 0)) (b0 : w0.heap.size ≤ b) (c0 : w0.heap.size ≤ c) (hne : b ≠ c) :
    WTwo w0 (set2 (set2 w b (.int .u64 q0) (.int .u64 q1)) c (.int .u64 r0) (.int .u64 r1)) b c P Q :=
  ⟨b0, c0, hne, ⟨q0, q1, (hb.put _ _).far2 hne.symm _ _, hq⟩, ⟨r0, r1, (hc.far2 hne _ _).put _ _, hr⟩, ext_set2 (ext_set2 X b0 _ _) c0 _ _⟩
theorem wtwo3 (X : Ext w0 w) (hq : WV (.agg #[.int .u64 q0, .int .u64 q1]) P) (hr : WV (.agg #[.int .u64 r0, .int .u64 r1]) Q) {b : Nat} (hb : Box2 w b (.int .u64 0) (.int .u64 0)) (b0 : w0.heap.size ≤ b) :
    WTwo w0 (set2 (set2 (w.alloc (.cells #[.int .u64 0, .int .u64 0] t)) b (.int .u64 q0) (.int .u64 q1)) w.heap.size (.int .u64 r0) (.int .u64 r1)) b w.heap.size P Q :=
  wtwo5 (xa X _) hq hr (hb.later (x1 _ _)) (Box2.made w _ _ t) b0 X.size (Nat.ne_of_lt hb.lt)
theorem wtwo4 (X : Ext w0 w) (hq : WV (.agg #[.int .u64 q0, .int .u64 q1]) P) (hr : WV (.agg #[.int .u64 r0, .int .u64 r1]) Q) {b : Nat} (hb : Box2 w b (.int .u64 0) (.int .u64 0)) (b0 : w0.heap.size ≤ b) :
    WTwo w0 (set2 (w.alloc (.cells #[.int .u64 q0, .int .u64 q1] t)) b (.int .u64 r0) (.int .u64 r1)) w.heap.size b P Q :=
  ⟨X.size, b0, (Nat.ne_of_lt hb.lt).symm, ⟨q0, q1, (Box2.made w _ _ t).far2 (Nat.ne_of_lt hb.lt) _ _, hq⟩, ⟨r0, r1, (hb.later (x1 _ _)).put _ _, hr⟩, ext_set2 (xa X _) b0 _ _⟩
end

end Go.Proofs.YtpoihneecafijaaDoor
