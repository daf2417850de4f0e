/-
  Several texts in one: FrameB, Frame, FrameX, FrameO.
-/
import Derived.Test.YtkadkfmidlhedaaGreatDoorRows
import Derived.Test.YtkadkfmidlhedaaGreatDoorBase
import Derived.WalkKit
import Derived.ProofKit
import Derived.OpenShut
import Derived.WalkSmall
import Derived.Lib.SmallJoins
import Derived.Deep.DeepHandedRow
import Derived.Lib.LaidTab
import Derived.Test.YtkadkfmidlhedaaGreatDoorMg3
import Derived.Deep.Strs
import Derived.Stop.LaidErr
import Derived.Test.YtkadkfmidlhedaaGreatDoorFy
namespace Go.Proofs.YtkadkfmidlhedaaGreatDoor
open Go.ChangeShapes Go.WideShapes Go.ChangeAt Go.RowKit

theorem own : ownKnob Tryz.prog.godebug = none := by kernel_rfl
theorem laidOut : laidOutB Tryz.prog = true := by kernel_rfl

/-- The named variables read again behind a call below which nothing has turned. -/
theorem vars_below {H : Type} {enc : TypeId × Value → H} {P : Program} (hl : laidOutB P = true) {W W' : World} (bel : Below W.heap.size W W') :
    ∀ {ns : List String} {gs : List (DataW H)} {q : List MemPlace}, (∀ n ∈ ns, ∀ g t, P.globalNamed n = some g → (P.globals[g]?).map (·.type) = some t → P.readableRec t = true ∧ t < P.types.size) →
      (∀ x ∈ q, x.block < W.heap.size) → DataW.TrodVars enc P W (fun _ => true) ns gs q → DataW.TrodVars enc P W' (fun b => decide (b < W.heap.size)) ns gs q
  | [], [], _, _, _, h => h
  | [], _ :: _, _, _, _, h => h.elim
  | _ :: _, [], _, _, _, h => h.elim
  | n :: ns, d :: ds, q, hr, hlt, h => by
    obtain ⟨g, t, cs, fuel, p, r, h1, h2, h3, h4, h5, rfl⟩ := h
    obtain ⟨r1, r2⟩ := hr n (by simp) g t h1 h2
    have hg : g < W.heap.size := by
      unfold World.var? at h3
      simp only [h1, Option.bind_some] at h3
      by_cases hk : g < W.heap.size
      · exact hk
      · rw [Array.getElem?_eq_none (by omega)] at h3
        cases h3
    refine ⟨g, t, cs, fuel, p, r, h1, h2, var?_below bel h1 hg h3, ?_, ?_, rfl⟩
    · exact DataW.trod_stays (kids_book hl r1) (book_sized r1) (fun h => by cases h) ⟨r2, book_self t⟩ h4 (fun x hx => bel.same (hlt x (by simp [hx]))) (fun x hx => by simpa using hlt x (by simp [hx]))
    · exact vars_below hl bel (fun m hm => hr m (by simp [hm])) (fun x hx => hlt x (by simp [hx])) h5

/-- An element of an array that reads as told. -/
theorem trod_elem {H : Type} {enc : TypeId × Value → H} {P : Program} {w : World} {base : Nat} {sp : Nat → Bool} {held : Bool} {fuel : Nat} {t e : TypeId} {n : Nat} {cs : List Value} {ds : List (DataW H)} {p : List MemPlace}
    (ht : P.underlying t = some (.array n e)) (h : DataW.trod enc P w base sp held fuel t cs = some (.agg ds, p)) (i : Nat) (hi : i < n) (d : DataW H) (hd : ds[i]? = some d) :
    ∃ fuel' p', DataW.trod enc P w base sp held fuel' e ((cs.drop (i * P.cellsOf e)).take (P.cellsOf e)) = some (d, p') := by
  cases fuel with
  | zero => simp [DataW.trod] at h
  | succ fuel =>
    simp only [DataW.trod, ht] at h
    split at h
    · obtain ⟨xs, hm, hx⟩ := Option.map_eq_some_iff.1 h
      obtain ⟨b, hb, hf⟩ := Lib.mapM_at hm i i (by simp [hi])
      have e1 : xs.map (·.1) = ds := by
        have := congrArg Prod.fst hx
        simpa using this
      rw [← e1, List.getElem?_map, hb] at hd
      simp only [Option.map_some, Option.some.injEq] at hd
      subst hd
      exact ⟨fuel, b.2, hf⟩
    · cases h
/-- A field of a struct that reads as told. -/
theorem trod_field {H : Type} {enc : TypeId × Value → H} {P : Program} {w : World} {base : Nat} {sp : Nat → Bool} {held : Bool} {fuel : Nat} {t : TypeId} {fs : Array Field} {cs : List Value} {ds : List (DataW H)} {p : List MemPlace}
    (ht : P.underlying t = some (.struct fs)) (h : DataW.trod enc P w base sp held fuel t cs = some (.agg ds, p)) (i : Nat) (f : Field) (hf : fs.toList[i]? = some f) (d : DataW H) (hd : ds[i]? = some d) :
    ∃ fuel' p', DataW.trod enc P w base sp held fuel' f.type ((cs.drop f.offset).take (P.cellsOf f.type)) = some (d, p') := by
  cases fuel with
  | zero => simp [DataW.trod] at h
  | succ fuel =>
    simp only [DataW.trod, ht] at h
    split at h
    · obtain ⟨xs, hm, hx⟩ := Option.map_eq_some_iff.1 h
      obtain ⟨b, hb, hf'⟩ := Lib.mapM_at hm i f hf
      have e1 : xs.map (·.1) = ds := by
        have := congrArg Prod.fst hx
        simpa using this
      rw [← e1, List.getElem?_map, hb] at hd
      simp only [Option.map_some, Option.some.injEq] at hd
      subst hd
      exact ⟨fuel, b.2, hf'⟩
    · cases h

end Go.Proofs.YtkadkfmidlhedaaGreatDoor

namespace Go.Proofs.YtkadkfmidlhedaaGreatDoor
open Go.ChangeShapes Go.WideShapes Go.ChangeAt Go.RowKit

set_option maxRecDepth 100000 in
/-- A struct of a bool and two ints that came in. -/
theorem open_dec {H : Type} {enc : TypeId × Value → H} {W : World} {base : Nat} {v : Value} {d : DataW H} {p : List MemPlace}
    (hv : Value.okWide Tryz.prog W .any base 42 v) (h : DataW.Trod enc Tryz.prog W 0 (fun _ => true) true 42 v d p) :
    ∃ (neg : Bool) (m x : Int), v = .agg #[.bool neg, .int .i64 m, .int .i64 x] ∧ (Lit.int .i64 m).wf = true ∧ (Lit.int .i64 x).wf = true := by
  obtain ⟨c0, c1, c2, y0, y1, y2, m, rfl, rfl, rfl, hy0, hy1, hy2⟩ := Joins.open_agg3 Tryz.underlying42 (by kernel_rfl) (by kernel_rfl) hv h
  obtain ⟨b, e0, _⟩ := DataW.trod_bool Tryz.underlying4 hy0
  obtain ⟨a1, e1, _, w1⟩ := DataW.trod_int Tryz.underlying3 hy1
  obtain ⟨a2, e2, _, w2⟩ := DataW.trod_int Tryz.underlying3 hy2
  simp at e0 e1 e2
  subst e0 e1 e2
  exact ⟨b, a1, a2, rfl, w1, w2⟩

theorem gTens : Tryz.prog.globalNamed "loop.example/g00025/impl.tens" = some 2 := by kernel_rfl
theorem gTensType : (Tryz.prog.globals[2]?).map (·.type) = some 137 := by kernel_rfl

/-- The table's cells, out of a row that lists it first. -/
theorem tens_of {rest : List (String × DataW Unit)} {W : World} (h : laidMet Tryz.prog (("loop.example/g00025/impl.tens", Rows.laid_loop_example_g00025_impl_tens) :: rest) W) : Tens W := by
  have t : Lib.TabIs Tryz.prog W "loop.example/g00025/impl.tens" .u64 [1, 10, 100, 1000, 10000, 100000, 1000000, 10000000, 100000000, 1000000000, 10000000000, 100000000000, 1000000000000, 10000000000000, 100000000000000, 1000000000000000, 10000000000000000, 100000000000000000, 1000000000000000000, 10000000000000000000] :=
    Lib.tabIs_of_head (rest := rest) gTens gTensType Tryz.underlying137 Tryz.underlying62 (by kernel_rfl) (by kernel_rfl) h
  intro i hi
  have e : ∀ i : Nat, i < 20 → ([1, 10, 100, 1000, 10000, 100000, 1000000, 10000000, 100000000, 1000000000, 10000000000, 100000000000, 1000000000000, 10000000000000, 100000000000000, 1000000000000000, 10000000000000000, 100000000000000000, 1000000000000000000, 10000000000000000000] : List Int).getD i 0 = ((10 ^ i : Nat) : Int) := by decide +kernel
  rw [← e i hi]
  exact t.cell gTens i hi

theorem tens_readable1 : ∀ g t, Tryz.prog.globalNamed "loop.example/g00025/impl.tens" = some g → (Tryz.prog.globals[g]?).map (·.type) = some t → Tryz.prog.readableRec t = true ∧ t < Tryz.prog.types.size := by
  intro g t hg ht
  obtain rfl := Option.some.inj (gTens.symm.trans hg)
  obtain rfl := Option.some.inj (gTensType.symm.trans ht)
  exact ⟨by kernel_rfl, of_decide_eq_true (by kernel_rfl)⟩
theorem tens_readable : ∀ n ∈ ["loop.example/g00025/impl.tens"], ∀ g t, Tryz.prog.globalNamed n = some g → (Tryz.prog.globals[g]?).map (·.type) = some t → Tryz.prog.readableRec t = true ∧ t < Tryz.prog.types.size := by
  intro n hn g t hg ht
  simp only [List.mem_singleton] at hn
  subst hn
  obtain rfl := Option.some.inj (gTens.symm.trans hg)
  obtain rfl := Option.some.inj (gTensType.symm.trans ht)
  exact ⟨by kernel_rfl, of_decide_eq_true (by kernel_rfl)⟩

end Go.Proofs.YtkadkfmidlhedaaGreatDoor

namespace Go.Proofs.YtkadkfmidlhedaaGreatDoor
open Go.ChangeShapes Go.WideShapes Go.ChangeAt Go.RowKit

set_option maxRecDepth 100000 in
/-- A value that came in. -/
theorem open_value {H : Type} {enc : TypeId × Value → H} {W : World} {base : Nat} {v : Value} {d : DataW H} {p : List MemPlace}
    (hv : Value.okWide Tryz.prog W .any base 44 v) (h : DataW.Trod enc Tryz.prog W 0 (fun _ => true) true 44 v d p) :
    ∃ (k : Int) (n : Bool) (m x : Int) (s : ByteArray), v = .agg #[.int .i64 k, .bool n, .int .i64 m, .int .i64 x, .string s] ∧ (Lit.int .i64 k).wf = true ∧ (Lit.int .i64 m).wf = true ∧ (Lit.int .i64 x).wf = true ∧ s.size ≤ maxLen := by
  obtain ⟨cs, rfl, hsz⟩ := okWide_struct Tryz.underlying44 hv
  have h5 : cs.size = 5 := hsz.trans (show Tryz.prog.cellsOf 44 = 5 by kernel_rfl)
  obtain ⟨c0, c1, c2, c3, c4, rfl⟩ : ∃ c0 c1 c2 c3 c4, cs = #[c0, c1, c2, c3, c4] := by
    obtain ⟨l⟩ := cs
    match l, h5 with
    | [c0, c1, c2, c3, c4], _ => exact ⟨c0, c1, c2, c3, c4, rfl⟩
  obtain ⟨fuel, hf⟩ := h
  obtain ⟨y0, y1, y2, n, _, _, h0, h1, h2⟩ := Deep.trod_struct3 Tryz.underlying44 hf
  have k3 : Tryz.prog.cellsOf 3 = 1 := by kernel_rfl
  have k4 : Tryz.prog.cellsOf 4 = 1 := by kernel_rfl
  have k9 : Tryz.prog.cellsOf 9 = 1 := by kernel_rfl
  have kd : Tryz.prog.cellsOf 42 = 3 := by kernel_rfl
  obtain ⟨z0, z1, z2, n', _, _, g0, g1, g2⟩ := Deep.trod_struct3 Tryz.underlying42 h1
  obtain ⟨a0, e0, _, w0⟩ := DataW.trod_int Tryz.underlying3 h0
  obtain ⟨b1, e1, _⟩ := DataW.trod_bool Tryz.underlying4 g0
  obtain ⟨a2, e2, _, w2⟩ := DataW.trod_int Tryz.underlying3 g1
  obtain ⟨a3, e3, _, w3⟩ := DataW.trod_int Tryz.underlying3 g2
  obtain ⟨s, e4, _, w4⟩ := DataW.trod_string Tryz.underlying9 h2
  simp [Value.cells, k3, k4, k9, kd] at e0 e1 e2 e3 e4
  subst e0 e1 e2 e3 e4
  exact ⟨a0, b1, a2, a3, s, rfl, w0, w2, w3, w4⟩

theorem gErrs : Tryz.prog.globalNamed "loop.example/g00025/impl.errorTexts" = some 0 := by kernel_rfl
theorem gErrsType : (Tryz.prog.globals[0]?).map (·.type) = some 122 := by kernel_rfl
theorem strCellsX : Tryz.prog.cellsOf 9 = 1 := by kernel_rfl
theorem str_cellX {H : Type} {enc : TypeId × Value → H} {w : World} {base : Nat} {sp : Nat → Bool} {held : Bool} {fuel : Nat} {cs : List Value} {l : List UInt8} {p : List MemPlace} (o : Nat)
    (h : DataW.trod enc Tryz.prog w base sp held fuel 9 ((cs.drop (o * Tryz.prog.cellsOf 9)).take (Tryz.prog.cellsOf 9)) = some (.lit (.string l), p)) : cs[o]? = some (sV l) := by
  rw [strCellsX, Nat.mul_one] at h
  obtain ⟨s, hc, hx, _⟩ := DataW.trod_string Tryz.underlying9 h
  simp only [Prod.mk.injEq, DataW.lit.injEq, Lit.string.injEq] at hx
  have := congrArg (·[0]?) hc
  simp only [List.getElem?_take, List.getElem?_drop, List.getElem?_cons_zero] at this
  have hs : s = ⟨l.toArray⟩ := by
    cases s
    rw [hx.1]
  rw [hs] at this
  simpa using this
set_option maxRecDepth 100000 in
theorem errs_of {rest : List (String × DataW Unit)} {W : World} (h : laidMet Tryz.prog (("loop.example/g00025/impl.errorTexts", Rows.laid_loop_example_g00025_impl_errorTexts) :: rest) W) : ErrTab W := by
  obtain ⟨ps, ⟨g', t', cs, fuel, p, q, hg', ht', hvar, hd, _, _⟩, _⟩ := h
  obtain rfl := Option.some.inj (gErrs.symm.trans hg')
  obtain rfl := Option.some.inj (gErrsType.symm.trans ht')
  have C := fun i v (h : cs.toList[i]? = some v) => (World.var?_cell gErrs hvar i).trans (by simpa using h)
  intro i t hi
  have h9 : i < 9 := (List.getElem?_eq_some_iff.1 hi).1
  match i, h9, hi with
  | 0, h9, hi => cases hi; obtain ⟨_, _, k⟩ := trod_elem Tryz.underlying122 hd 0 h9 _ rfl; exact C 0 _ (str_cellX 0 k)
  | 1, h9, hi => cases hi; obtain ⟨_, _, k⟩ := trod_elem Tryz.underlying122 hd 1 h9 _ rfl; exact C 1 _ (str_cellX 1 k)
  | 2, h9, hi => cases hi; obtain ⟨_, _, k⟩ := trod_elem Tryz.underlying122 hd 2 h9 _ rfl; exact C 2 _ (str_cellX 2 k)
  | 3, h9, hi => cases hi; obtain ⟨_, _, k⟩ := trod_elem Tryz.underlying122 hd 3 h9 _ rfl; exact C 3 _ (str_cellX 3 k)
  | 4, h9, hi => cases hi; obtain ⟨_, _, k⟩ := trod_elem Tryz.underlying122 hd 4 h9 _ rfl; exact C 4 _ (str_cellX 4 k)
  | 5, h9, hi => cases hi; obtain ⟨_, _, k⟩ := trod_elem Tryz.underlying122 hd 5 h9 _ rfl; exact C 5 _ (str_cellX 5 k)
  | 6, h9, hi => cases hi; obtain ⟨_, _, k⟩ := trod_elem Tryz.underlying122 hd 6 h9 _ rfl; exact C 6 _ (str_cellX 6 k)
  | 7, h9, hi => cases hi; obtain ⟨_, _, k⟩ := trod_elem Tryz.underlying122 hd 7 h9 _ rfl; exact C 7 _ (str_cellX 7 k)
  | 8, h9, hi => cases hi; obtain ⟨_, _, k⟩ := trod_elem Tryz.underlying122 hd 8 h9 _ rfl; exact C 8 _ (str_cellX 8 k)
theorem errs_readable : ∀ g t, Tryz.prog.globalNamed "loop.example/g00025/impl.errorTexts" = some g → (Tryz.prog.globals[g]?).map (·.type) = some t → Tryz.prog.readableRec t = true ∧ t < Tryz.prog.types.size := by
  intro g t hg ht
  obtain rfl := Option.some.inj (gErrs.symm.trans hg)
  obtain rfl := Option.some.inj (gErrsType.symm.trans ht)
  exact ⟨by kernel_rfl, of_decide_eq_true (by kernel_rfl)⟩

end Go.Proofs.YtkadkfmidlhedaaGreatDoor

namespace Go.Proofs.YtkadkfmidlhedaaGreatDoor
open Go.ChangeShapes Go.WideShapes Go.ChangeAt Go.RowKit

theorem gOps : Tryz.prog.globalNamed "loop.example/g00025/impl.operators" = some 1 := by kernel_rfl
theorem gOpsType : (Tryz.prog.globals[1]?).map (·.type) = some 128 := by kernel_rfl
theorem opCells : Tryz.prog.cellsOf 106 = 2 := by kernel_rfl
theorem intCellsO : Tryz.prog.cellsOf 3 = 1 := by kernel_rfl
theorem op_fields : ∃ fs : Array Field, Tryz.prog.underlying 106 = some (.struct fs) ∧ ∃ f0 f1, fs.toList[0]? = some f0 ∧ fs.toList[1]? = some f1 ∧ (f0.type = 9 ∧ f0.offset = 0) ∧ (f1.type = 3 ∧ f1.offset = 1) :=
  ⟨_, Tryz.underlying106, _, _, rfl, rfl, ⟨rfl, rfl⟩, ⟨rfl, rfl⟩⟩
theorem int_cellO {H : Type} {enc : TypeId × Value → H} {w : World} {base : Nat} {sp : Nat → Bool} {held : Bool} {fuel : Nat} {cs : List Value} {z : Int} {p : List MemPlace} (o : Nat)
    (h : DataW.trod enc Tryz.prog w base sp held fuel 3 ((cs.drop o).take 1) = some (.lit (.int .i64 z), p)) : cs[o]? = some (.int .i64 z) := by
  obtain ⟨n, hc, hx, _⟩ := DataW.trod_int Tryz.underlying3 h
  simp only [Prod.mk.injEq, DataW.lit.injEq, Lit.int.injEq, true_and] at hx
  have := congrArg (·[0]?) hc
  simp only [List.getElem?_take, List.getElem?_drop, List.getElem?_cons_zero] at this
  simpa [hx.1] using this
theorem str_cellO {H : Type} {enc : TypeId × Value → H} {w : World} {base : Nat} {sp : Nat → Bool} {held : Bool} {fuel : Nat} {cs : List Value} {l : List UInt8} {p : List MemPlace} (o : Nat)
    (h : DataW.trod enc Tryz.prog w base sp held fuel 9 ((cs.drop o).take 1) = some (.lit (.string l), p)) : cs[o]? = some (sV l) := by
  obtain ⟨s, hc, hx, _⟩ := DataW.trod_string Tryz.underlying9 h
  simp only [Prod.mk.injEq, DataW.lit.injEq, Lit.string.injEq] at hx
  have := congrArg (·[0]?) hc
  simp only [List.getElem?_take, List.getElem?_drop, List.getElem?_cons_zero] at this
  have hs : s = ⟨l.toArray⟩ := by
    cases s
    rw [hx.1]
  rw [hs] at this
  simpa using this
theorem op_cells {H : Type} {enc : TypeId × Value → H} {w : World} {base : Nat} {sp : Nat → Bool} {held : Bool} {fuel : Nat} {cs : List Value} {l : List UInt8} {b : Int} {p : List MemPlace}
    (h : DataW.trod enc Tryz.prog w base sp held fuel 106 cs = some (.agg [.lit (.string l), .lit (.int .i64 b)], p)) : cs[0]? = some (sV l) ∧ cs[1]? = some (.int .i64 b) := by
  obtain ⟨fs, ht, f0, f1, e0, e1, ⟨t0, o0⟩, ⟨t1, o1⟩⟩ := op_fields
  obtain ⟨_, _, k0⟩ := trod_field ht h 0 f0 e0 _ rfl
  obtain ⟨_, _, k1⟩ := trod_field ht h 1 f1 e1 _ rfl
  rw [t0, o0, strCellsX] at k0
  rw [t1, o1, intCellsO] at k1
  exact ⟨str_cellO 0 k0, int_cellO 1 k1⟩
set_option maxRecDepth 100000 in
theorem ops_of {rest : List (String × DataW Unit)} {W : World} (h : laidMet Tryz.prog (("loop.example/g00025/impl.operators", Rows.laid_loop_example_g00025_impl_operators) :: rest) W) : OpTab W := by
  obtain ⟨ps, ⟨g', t', cs, fuel, p, q, hg', ht', hvar, hd, _, _⟩, _⟩ := h
  obtain rfl := Option.some.inj (gOps.symm.trans hg')
  obtain rfl := Option.some.inj (gOpsType.symm.trans ht')
  have C := fun i v (h : cs[i]? = some v) => (World.var?_cell gOps hvar i).trans (by simpa using h)
  obtain ⟨_, _, k0⟩ := trod_elem Tryz.underlying128 hd 0 (by decide) _ rfl
  obtain ⟨_, _, k1⟩ := trod_elem Tryz.underlying128 hd 1 (by decide) _ rfl
  obtain ⟨_, _, k2⟩ := trod_elem Tryz.underlying128 hd 2 (by decide) _ rfl
  obtain ⟨_, _, k3⟩ := trod_elem Tryz.underlying128 hd 3 (by decide) _ rfl
  obtain ⟨_, _, k4⟩ := trod_elem Tryz.underlying128 hd 4 (by decide) _ rfl
  obtain ⟨_, _, k5⟩ := trod_elem Tryz.underlying128 hd 5 (by decide) _ rfl
  obtain ⟨_, _, k6⟩ := trod_elem Tryz.underlying128 hd 6 (by decide) _ rfl
  obtain ⟨_, _, k7⟩ := trod_elem Tryz.underlying128 hd 7 (by decide) _ rfl
  obtain ⟨_, _, k8⟩ := trod_elem Tryz.underlying128 hd 8 (by decide) _ rfl
  obtain ⟨_, _, k9⟩ := trod_elem Tryz.underlying128 hd 9 (by decide) _ rfl
  obtain ⟨_, _, k10⟩ := trod_elem Tryz.underlying128 hd 10 (by decide) _ rfl
  obtain ⟨_, _, k11⟩ := trod_elem Tryz.underlying128 hd 11 (by decide) _ rfl
  rw [opCells] at k0 k1 k2 k3 k4 k5 k6 k7 k8 k9 k10 k11
  obtain ⟨a0, b0⟩ := op_cells k0
  obtain ⟨a1, b1⟩ := op_cells k1
  obtain ⟨a2, b2⟩ := op_cells k2
  obtain ⟨a3, b3⟩ := op_cells k3
  obtain ⟨a4, b4⟩ := op_cells k4
  obtain ⟨a5, b5⟩ := op_cells k5
  obtain ⟨a6, b6⟩ := op_cells k6
  obtain ⟨a7, b7⟩ := op_cells k7
  obtain ⟨a8, b8⟩ := op_cells k8
  obtain ⟨a9, b9⟩ := op_cells k9
  obtain ⟨a10, b10⟩ := op_cells k10
  obtain ⟨a11, b11⟩ := op_cells k11
  simp only [List.getElem?_take, List.getElem?_drop] at a0 b0 a1 b1 a2 b2 a3 b3 a4 b4 a5 b5 a6 b6 a7 b7 a8 b8 a9 b9 a10 b10 a11 b11
  intro i z hz
  match i, hz with
  | 0, hz => cases hz; exact C 0 _ (by simpa using a0)
  | 1, hz => cases hz; exact C 1 _ (by simpa using b0)
  | 2, hz => cases hz; exact C 2 _ (by simpa using a1)
  | 3, hz => cases hz; exact C 3 _ (by simpa using b1)
  | 4, hz => cases hz; exact C 4 _ (by simpa using a2)
  | 5, hz => cases hz; exact C 5 _ (by simpa using b2)
  | 6, hz => cases hz; exact C 6 _ (by simpa using a3)
  | 7, hz => cases hz; exact C 7 _ (by simpa using b3)
  | 8, hz => cases hz; exact C 8 _ (by simpa using a4)
  | 9, hz => cases hz; exact C 9 _ (by simpa using b4)
  | 10, hz => cases hz; exact C 10 _ (by simpa using a5)
  | 11, hz => cases hz; exact C 11 _ (by simpa using b5)
  | 12, hz => cases hz; exact C 12 _ (by simpa using a6)
  | 13, hz => cases hz; exact C 13 _ (by simpa using b6)
  | 14, hz => cases hz; exact C 14 _ (by simpa using a7)
  | 15, hz => cases hz; exact C 15 _ (by simpa using b7)
  | 16, hz => cases hz; exact C 16 _ (by simpa using a8)
  | 17, hz => cases hz; exact C 17 _ (by simpa using b8)
  | 18, hz => cases hz; exact C 18 _ (by simpa using a9)
  | 19, hz => cases hz; exact C 19 _ (by simpa using b9)
  | 20, hz => cases hz; exact C 20 _ (by simpa using a10)
  | 21, hz => cases hz; exact C 21 _ (by simpa using b10)
  | 22, hz => cases hz; exact C 22 _ (by simpa using a11)
  | 23, hz => cases hz; exact C 23 _ (by simpa using b11)
theorem ops_readable : ∀ g t, Tryz.prog.globalNamed "loop.example/g00025/impl.operators" = some g → (Tryz.prog.globals[g]?).map (·.type) = some t → Tryz.prog.readableRec t = true ∧ t < Tryz.prog.types.size := by
  intro g t hg ht
  obtain rfl := Option.some.inj (gOps.symm.trans hg)
  obtain rfl := Option.some.inj (gOpsType.symm.trans ht)
  exact ⟨by kernel_rfl, of_decide_eq_true (by kernel_rfl)⟩

end Go.Proofs.YtkadkfmidlhedaaGreatDoor

