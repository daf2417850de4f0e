/-
  Two numbers stored into two boxes of one's own, in whatever order they were made.
-/
import Derived.Test.YtpoihneecafijaaDoorDivZ
namespace Go.Proofs.YtpoihneecafijaaDoor
open Go.RowKit

/-- Two boxes that did not lie in the elder world, and what they hold. -/
def Two (w0 w : World) (b c : Nat) (q r : Int) : Prop := w0.heap.size ≤ b ∧ w0.heap.size ≤ c ∧ b ≠ c ∧ ZIn w b q ∧ ZIn w c r ∧ Ext w0 w

section
variable {w0 w : World} {q r : Int} {q0 : Int} {q1 : Bool} {q2 : Option Addr} {q3 q4 : Nat} {r0 : Int} {r1 : Bool} {r2 : Option Addr} {r3 r4 : Nat} {t : TypeId}

theorem two1 (X : Ext w0 w) (hq : ZV w (.agg #[.int .i64 q0, .bool q1, .slice q2 q3 q4]) q) (hr : ZV w (.agg #[.int .i64 r0, .bool r1, .slice r2 r3 r4]) r) :
    Two w0 ((w.alloc (.cells #[.int .i64 q0, .bool q1, .slice q2 q3 q4] t)).alloc (.cells #[.int .i64 r0, .bool r1, .slice r2 r3 r4] t)) w.heap.size (w.heap.size + 1) q r := by
  have h1 := ZIn.made t (hr.later (x1 w (.cells #[.int .i64 q0, .bool q1, .slice q2 q3 q4] t)))
  simp only [World.size_alloc] at h1
  exact ⟨X.size, Nat.le_succ_of_le X.size, by omega, (ZIn.made t hq).later (x1 _ _), h1, xa (xa X _) _⟩
theorem two2 (X : Ext w0 w) (hq : ZV w (.agg #[.int .i64 q0, .bool q1, .slice q2 q3 q4]) q) (hr : ZV w (.agg #[.int .i64 r0, .bool r1, .slice r2 r3 r4]) r) :
    Two w0 ((w.alloc (.cells #[.int .i64 r0, .bool r1, .slice r2 r3 r4] t)).alloc (.cells #[.int .i64 q0, .bool q1, .slice q2 q3 q4] t)) (w.heap.size + 1) w.heap.size q r := by
  have h1 := ZIn.made t (hq.later (x1 w (.cells #[.int .i64 r0, .bool r1, .slice r2 r3 r4] t)))
  simp only [World.size_alloc] at h1
  exact ⟨Nat.le_succ_of_le X.size, X.size, by omega, h1, (ZIn.made t hr).later (x1 _ _), xa (xa X _) _⟩
theorem Box3.zin {b : Nat} (h : Box3 w b (.int .i64 0) (.bool false) (.slice none 0 0)) : ZIn w b 0 := ⟨_, _, _, _, _, h, ZV.small (by decide) (by decide)⟩
theorem Box3.lt {b : Nat} {v0 v1 v2 : Value} (h : Box3 w b v0 v1 v2) : b < w.heap.size := World.block_lt_of_cell? _ _ h.1.1
theorem two5 (X : Ext w0 w) (hq : ZV w (.agg #[.int .i64 q0, .bool q1, .slice q2 q3 q4]) q) (hr : ZV w (.agg #[.int .i64 r0, .bool r1, .slice r2 r3 r4]) r) {b c : Nat} (hb : Box3 w b (.int .i64 0) (.bool false) (.slice none 0 0)) (hc : Box3 w c (.int .i64 0) (.bool false) (.slice none 0 0)) (b0 : w0.heap.size ≤ b) (c0 : w0.heap.size ≤ c) (hne : b ≠ c) :
    Two w0 (set3 (set3 w b (.int .i64 q0) (.bool q1) (.slice q2 q3 q4)) c (.int .i64 r0) (.bool r1) (.slice r2 r3 r4)) b c q r := by
  have k1 := hb.zin.put hq
  have k2 := hc.zin.far hb.zin hne (.int .i64 q0) (.bool q1) (.slice q2 q3 q4)
  exact ⟨b0, c0, hne, k1.far k2 hne.symm _ _ _, k2.put (hr.set3 hb _ _ _), Ext.set3 (Ext.set3 X b0 _ _ _) c0 _ _ _⟩
theorem two3 (X : Ext w0 w) (hq : ZV w (.agg #[.int .i64 q0, .bool q1, .slice q2 q3 q4]) q) (hr : ZV w (.agg #[.int .i64 r0, .bool r1, .slice r2 r3 r4]) r) {b : Nat} (hb : Box3 w b (.int .i64 0) (.bool false) (.slice none 0 0)) (b0 : w0.heap.size ≤ b) :
    Two w0 (set3 (set3 (w.alloc (.cells #[.int .i64 0, .bool false, .slice none 0 0] t)) b (.int .i64 q0) (.bool q1) (.slice q2 q3 q4)) w.heap.size (.int .i64 r0) (.bool r1) (.slice r2 r3 r4)) b w.heap.size q r :=
  two5 (xa X _) (hq.later (x1 _ _)) (hr.later (x1 _ _)) (hb.later (x1 _ _)) (Box3.made w _ _ _ t) b0 X.size (Nat.ne_of_lt hb.lt)
theorem two4 (X : Ext w0 w) (hq : ZV w (.agg #[.int .i64 q0, .bool q1, .slice q2 q3 q4]) q) (hr : ZV w (.agg #[.int .i64 r0, .bool r1, .slice r2 r3 r4]) r) {b : Nat} (hb : Box3 w b (.int .i64 0) (.bool false) (.slice none 0 0)) (b0 : w0.heap.size ≤ b) :
    Two w0 (set3 (w.alloc (.cells #[.int .i64 q0, .bool q1, .slice q2 q3 q4] t)) b (.int .i64 r0) (.bool r1) (.slice r2 r3 r4)) w.heap.size b q r := by
  have k1 := (hb.later (x1 w (.cells #[.int .i64 q0, .bool q1, .slice q2 q3 q4] t))).zin
  exact ⟨X.size, b0, (Nat.ne_of_lt hb.lt).symm, (ZIn.made t hq).far k1 (Nat.ne_of_lt hb.lt) _ _ _, k1.put (hr.later (x1 _ _)), Ext.set3 (xa X _) b0 _ _ _⟩
end

end Go.Proofs.YtpoihneecafijaaDoor
