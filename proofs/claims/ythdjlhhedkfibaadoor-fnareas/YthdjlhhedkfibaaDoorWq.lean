/-
  What is left of an area without another one, plainly; rows of areas.
-/
import Derived.Test.YthdjlhhedkfibaaDoorWb
import Derived.Deep.DeepCutAuto
import Derived.Deep.AppendLies
import Derived.OwnWalk
import Derived.Laws.OwnMore
namespace Go.Proofs.YthdjlhhedkfibaaDoor
open Go.RowKit

/-- Rows and columns from and to: row, column, row, column. -/
abbrev Ar := Int × Int × Int × Int
def cellsA (x : Ar) : List Value := [.int .i64 x.1, .int .i64 x.2.1, .bool false, .bool false, .int .i64 x.2.2.1, .int .i64 x.2.2.2, .bool false, .bool false]
def flatA : List Ar → List Value
  | [] => []
  | x :: l => cellsA x ++ flatA l
theorem flatA_append (l m : List Ar) : flatA (l ++ m) = flatA l ++ flatA m := by
  induction l with
  | nil => rfl
  | cons x l ih => simp [flatA, ih]
theorem flatA_length (l : List Ar) : (flatA l).length = l.length * 8 := by
  induction l with
  | nil => rfl
  | cons x l ih => simp [flatA, cellsA, ih]; omega
/-- A row of areas of one's own. -/
abbrev OwnA (w : World) (base : Nat) (v : Value) (l : List Ar) : Prop := w.ownsRow base 26 8 v l.length (flatA l)

/-- A piece as a block: rows from, to, columns from, to. -/
def pieceQ (A B C D u1 u2 u3 u4 : Int) : Nat → Int × Int × Int × Int
  | 0 => (A, u1 - 1, C, D)
  | 1 => (u2 + 1, B, C, D)
  | 2 => (u1, u2, C, u3 - 1)
  | _ => (u1, u2, u4 + 1, D)
theorem pieceV_q (A B C D u1 u2 u3 u4 : Int) (k : Nat) : pieceV A B C D u1 u2 u3 u4 k = blV (pieceQ A B C D u1 u2 u3 u4 k).1 (pieceQ A B C D u1 u2 u3 u4 k).2.1 (pieceQ A B C D u1 u2 u3 u4 k).2.2.1 (pieceQ A B C D u1 u2 u3 u4 k).2.2.2 := by
  match k with
  | 0 | 1 | 2 | _ + 3 => rfl
def qEmpty (q : Int × Int × Int × Int) : Bool := decide (q.1 > q.2.1) || decide (q.2.2.1 > q.2.2.2)
def qArea (q : Int × Int × Int × Int) : Ar := (q.1, q.2.2.1, q.2.1, q.2.2.2)
/-- The pieces that are there among the first k. -/
def told (Q : Nat → Int × Int × Int × Int) : Nat → List Ar
  | 0 => []
  | k + 1 => told Q k ++ (if qEmpty (Q k) then [] else [qArea (Q k)])
theorem told_length (Q : Nat → Int × Int × Int × Int) (k : Nat) : (told Q k).length ≤ k := by
  induction k with
  | zero => simp [told]
  | succ k ih => unfold told; rw [List.length_append]; split <;> simp <;> omega
/-- What Without answers. -/
def woB (r c r' c' s d s' d' : Int) : List Ar :=
  if goodAB r c r' c' = true ∧ goodAB s d s' d' = true then
    if (decide (hi (lo r r') (lo s s') > lo (hi r r') (hi s s')) || decide (hi (lo c c') (lo d d') > lo (hi c c') (hi d d'))) = true then [(lo r r', lo c c', hi r r', hi c c')]
    else told (pieceQ (lo r r') (hi r r') (lo c c') (hi c c') (hi (lo r r') (lo s s')) (lo (hi r r') (hi s s')) (hi (lo c c') (lo d d')) (lo (hi c c') (hi d d'))) 4
  else []
theorem infoA : (Tryd.prog.info? 26).map (fun i => (i.zero, i.size, i.bytes)) = some (some (arV 0 0 false false 0 0 false false), 8, 48) := by kernel_rfl
theorem infoA' : ∃ inf, Tryd.prog.info? 26 = some inf ∧ inf.zero = some (arV 0 0 false false 0 0 false false) ∧ inf.size = 8 ∧ inf.bytes = 48 := by
  obtain ⟨inf, e1, e2⟩ := Option.map_eq_some_iff.1 infoA
  simp only [Prod.mk.injEq] at e2
  exact ⟨inf, e1, e2.1, e2.2.1, e2.2.2⟩
theorem goodAB_bounds {r c r' c' : Int} (h : goodAB r c r' c' = true) : (1 ≤ r ∧ r ≤ 1000) ∧ (1 ≤ c ∧ c ≤ 200) ∧ (1 ≤ r' ∧ r' ≤ 1000) ∧ (1 ≤ c' ∧ c' ≤ 200) := by
  simp only [goodAB, goodRB, Bool.and_eq_true, decide_eq_true_eq] at h
  exact ⟨h.1.1, h.1.2, h.2.1, h.2.2⟩
theorem lo_cases (a b : Int) : (lo a b = a ∧ a ≤ b) ∨ (lo a b = b ∧ b ≤ a) := by unfold lo; split <;> omega
theorem hi_cases (a b : Int) : (hi a b = a ∧ b ≤ a) ∨ (hi a b = b ∧ a ≤ b) := by unfold hi; split <;> omega
/-- The sides as they are laid. -/
def Sides (w : World) : Prop := ∀ (i : Nat) (z : Int), ([-1, 0, 1, 0, 0, -1, 0, 1] : List Int)[i]? = some z → w.cell? ⟨0, i, none⟩ = some (.int .i64 z)
theorem Sides.later {w w' : World} (h : Sides w) (e : Ext w w') : Sides w' := fun i z hz => cell_later e (h i z hz)

abbrev sidesV : Value := .agg #[.int .i64 (-1), .int .i64 0, .int .i64 1, .int .i64 0, .int .i64 0, .int .i64 (-1), .int .i64 0, .int .i64 1]
theorem side_at0 (W : World) : (Instr.index 56 sidesV (.int .i64 0)).run Tryd.prog W = .ok (siV (-1) 0) W := by kernel_rfl
theorem side_at1 (W : World) : (Instr.index 56 sidesV (.int .i64 1)).run Tryd.prog W = .ok (siV 1 0) W := by kernel_rfl
theorem side_at2 (W : World) : (Instr.index 56 sidesV (.int .i64 2)).run Tryd.prog W = .ok (siV 0 (-1)) W := by kernel_rfl
theorem side_at3 (W : World) : (Instr.index 56 sidesV (.int .i64 3)).run Tryd.prog W = .ok (siV 0 1) W := by kernel_rfl
theorem side_at (k : Nat) (hk : k < 4) : ∃ x y, sideK k = siV x y ∧ ∀ W : World, (Instr.index 56 sidesV (.int .i64 k)).run Tryd.prog W = .ok (siV x y) W := by
  match k, hk with
  | 0, _ => exact ⟨-1, 0, rfl, side_at0⟩
  | 1, _ => exact ⟨1, 0, rfl, side_at1⟩
  | 2, _ => exact ⟨0, -1, rfl, side_at2⟩
  | 3, _ => exact ⟨0, 1, rfl, side_at3⟩
theorem own_later {w w' : World} {base : Nat} {e : TypeId} {size : Nat} {v : Value} {n : Nat} {xs : List Value} (h : w.ownsRow base e size v n xs) (hx : Ext w w') : w'.ownsRow base e size v n xs := by
  refine ⟨h.1, h.2.imp id ?_⟩
  rintro ⟨g, cap, cur, h1, h2, h3, h4⟩
  have hlt : g < w.heap.size := by
    rcases Nat.lt_or_ge g w.heap.size with h' | h'
    · exact h'
    · rw [Array.getElem?_eq_none h'] at h3; cases h3
  exact ⟨g, cap, cur, h1, h2, by rw [hx.block g hlt]; exact h3, h4⟩
theorem own_block {w : World} {base : Nat} {e : TypeId} {size : Nat} {v : Value} {n : Nat} {xs : List Value} (h : w.ownsRow base e size v n xs) : ∀ r, v.ownBlock = some r → base ≤ r := by
  intro r hr
  rcases h.2 with ⟨rfl, _⟩ | ⟨g, cap, cur, rfl, h2, _⟩
  · cases hr
  · have : g = r := by simpa [Value.ownBlock] using hr
    omega
/-- One area in a block of its own. -/
theorem OwnA.one (w : World) {base : Nat} (hb : base ≤ w.heap.size) (x : Ar) : OwnA (w.alloc (.cells #[.int .i64 x.1, .int .i64 x.2.1, .bool false, .bool false, .int .i64 x.2.2.1, .int .i64 x.2.2.2, .bool false, .bool false] 26)) base (.slice (some ⟨w.heap.size, 0, none⟩) 1 1) [x] :=
  ⟨rfl, .inr ⟨w.heap.size, 1, _, rfl, hb, heap_alloc_new w _, Nat.le_refl _, by decide, rfl, rfl⟩⟩

/-- A lookup, by its run. -/
theorem wpList_looked {P : Program} {w : World} {ops : Array Oper} {rest : List Oper} {o : Oper} {a : Act} {Q : Exit → Act → World → Prop} {v : Value} (hg : o.guard = none) (t : TypeId) (x y : Operand) (c : Bool) (ho : o.op = .lookup t x y c)
    (hr : (Instr.lookup t (a.eval x) (a.eval y) c).run P w = .ok v w) (h : wpList P ops Q rest (a.put o.dst v) w) : wpList P ops Q (o :: rest) a w := by
  refine wpList_plain hg fun _ hK => ?_
  unfold Oper.wp execOp
  simp only [ho, Sem.run_bind, hr, Result.andThen_ok, Sem.run_pure, Oper.upon]
  exact hK _ _ h

end Go.Proofs.YthdjlhhedkfibaaDoor
