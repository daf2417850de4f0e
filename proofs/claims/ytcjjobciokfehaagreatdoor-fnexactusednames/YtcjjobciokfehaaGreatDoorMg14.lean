/-
  Several texts in one: FrameOm, FrameT, FrameU, Gf0.
-/
import Derived.Test.YtcjjobciokfehaaGreatDoorMg3
import Derived.Test.YtcjjobciokfehaaGreatDoorMg13
import Derived.Stop.LaidErr
import Derived.Test.YtcjjobciokfehaaGreatDoorMg1
import Derived.Test.YtcjjobciokfehaaGreatDoorMg6
namespace Go.Proofs.YtcjjobciokfehaaGreatDoor
open Go.ChangeShapes Go.WideShapes Go.ChangeAt Go.RowKit

theorem gOps : Tryz.prog.globalNamed "loop.example/g00025/impl.operators" = some 2 := by kernel_rfl
theorem gOpsType : (Tryz.prog.globals[2]?).map (·.type) = some 135 := by kernel_rfl
theorem opCells : Tryz.prog.cellsOf 112 = 2 := by kernel_rfl
theorem intCellsO : Tryz.prog.cellsOf 3 = 1 := by kernel_rfl
theorem op_fields : ∃ fs : Array Field, Tryz.prog.underlying 112 = some (.struct fs) ∧ ∃ f0 f1, fs.toList[0]? = some f0 ∧ fs.toList[1]? = some f1 ∧ (f0.type = 9 ∧ f0.offset = 0) ∧ (f1.type = 3 ∧ f1.offset = 1) :=
 ⟨_, Tryz.underlying112, _, _, rfl, rfl, ⟨rfl, rfl⟩, ⟨rfl, rfl⟩⟩
theorem int_cellO {H : Type} {enc : TypeId × Value → H} {w : World} {base : Nat} {sp : Nat → Bool} {held : Bool} {fuel : Nat} {cs : List Value} {z : Int} {p : List MemPlace} (o : Nat)
  (h : DataW.trod enc Tryz.prog w base sp held fuel 3 ((cs.drop o).take 1) = some (.lit (.int .i64 z), p)) : cs[o]? = some (.int .i64 z) := by
 obtain ⟨n, hc, hx, _⟩ := DataW.trod_int Tryz.underlying3 h
 simp only [Prod.mk.injEq, DataW.lit.injEq, Lit.int.injEq, true_and] at hx
 have := congrArg (·[0]?) hc
 simp only [List.getElem?_take, List.getElem?_drop, List.getElem?_cons_zero] at this
 simpa [hx.1] using this
theorem str_cellO {H : Type} {enc : TypeId × Value → H} {w : World} {base : Nat} {sp : Nat → Bool} {held : Bool} {fuel : Nat} {cs : List Value} {l : List UInt8} {p : List MemPlace} (o : Nat)
  (h : DataW.trod enc Tryz.prog w base sp held fuel 9 ((cs.drop o).take 1) = some (.lit (.string l), p)) : cs[o]? = some (sV l) := by
 obtain ⟨s, hc, hx, _⟩ := DataW.trod_string Tryz.underlying9 h
 simp only [Prod.mk.injEq, DataW.lit.injEq, Lit.string.injEq] at hx
 have := congrArg (·[0]?) hc
 simp only [List.getElem?_take, List.getElem?_drop, List.getElem?_cons_zero] at this
 have hs : s = ⟨l.toArray⟩ := by
  cases s
  rw [hx.1]
 rw [hs] at this
 simpa using this
theorem op_cells {H : Type} {enc : TypeId × Value → H} {w : World} {base : Nat} {sp : Nat → Bool} {held : Bool} {fuel : Nat} {cs : List Value} {l : List UInt8} {b : Int} {p : List MemPlace}
  (h : DataW.trod enc Tryz.prog w base sp held fuel 112 cs = some (.agg [.lit (.string l), .lit (.int .i64 b)], p)) : cs[0]? = some (sV l) ∧ cs[1]? = some (.int .i64 b) := by
 obtain ⟨fs, ht, f0, f1, e0, e1, ⟨t0, o0⟩, ⟨t1, o1⟩⟩ := op_fields
 obtain ⟨_, _, k0⟩ := trod_field ht h 0 f0 e0 _ rfl
 obtain ⟨_, _, k1⟩ := trod_field ht h 1 f1 e1 _ rfl
 rw [t0, o0, strCellsX] at k0
 rw [t1, o1, intCellsO] at k1
 exact ⟨str_cellO 0 k0, int_cellO 1 k1⟩
set_option maxRecDepth 100000 in
theorem ops_of {rest : List (String × DataW Unit)} {W : World} (h : laidMet Tryz.prog (("loop.example/g00025/impl.operators", Rows.laid_loop_example_g00025_impl_operators) :: rest) W) : OpTab W := by
 obtain ⟨ps, ⟨g', t', cs, fuel, p, q, hg', ht', hvar, hd, _, _⟩, _⟩ := h
 obtain rfl := Option.some.inj (gOps.symm.trans hg')
 obtain rfl := Option.some.inj (gOpsType.symm.trans ht')
 have C := fun i v (h : cs[i]? = some v) => (World.var?_cell gOps hvar i).trans (by simpa using h)
 obtain ⟨_, _, k0⟩ := trod_elem Tryz.underlying135 hd 0 (by decide) _ rfl
 obtain ⟨_, _, k1⟩ := trod_elem Tryz.underlying135 hd 1 (by decide) _ rfl
 obtain ⟨_, _, k2⟩ := trod_elem Tryz.underlying135 hd 2 (by decide) _ rfl
 obtain ⟨_, _, k3⟩ := trod_elem Tryz.underlying135 hd 3 (by decide) _ rfl
 obtain ⟨_, _, k4⟩ := trod_elem Tryz.underlying135 hd 4 (by decide) _ rfl
 obtain ⟨_, _, k5⟩ := trod_elem Tryz.underlying135 hd 5 (by decide) _ rfl
 obtain ⟨_, _, k6⟩ := trod_elem Tryz.underlying135 hd 6 (by decide) _ rfl
 obtain ⟨_, _, k7⟩ := trod_elem Tryz.underlying135 hd 7 (by decide) _ rfl
 obtain ⟨_, _, k8⟩ := trod_elem Tryz.underlying135 hd 8 (by decide) _ rfl
 obtain ⟨_, _, k9⟩ := trod_elem Tryz.underlying135 hd 9 (by decide) _ rfl
 obtain ⟨_, _, k10⟩ := trod_elem Tryz.underlying135 hd 10 (by decide) _ rfl
 obtain ⟨_, _, k11⟩ := trod_elem Tryz.underlying135 hd 11 (by decide) _ rfl
 rw [opCells] at k0 k1 k2 k3 k4 k5 k6 k7 k8 k9 k10 k11
 obtain ⟨a0, b0⟩ := op_cells k0
 obtain ⟨a1, b1⟩ := op_cells k1
 obtain ⟨a2, b2⟩ := op_cells k2
 obtain ⟨a3, b3⟩ := op_cells k3
 obtain ⟨a4, b4⟩ := op_cells k4
 obtain ⟨a5, b5⟩ := op_cells k5
 obtain ⟨a6, b6⟩ := op_cells k6
 obtain ⟨a7, b7⟩ := op_cells k7
 obtain ⟨a8, b8⟩ := op_cells k8
 obtain ⟨a9, b9⟩ := op_cells k9
 obtain ⟨a10, b10⟩ := op_cells k10
 obtain ⟨a11, b11⟩ := op_cells k11
 simp only [List.getElem?_take, List.getElem?_drop] at a0 b0 a1 b1 a2 b2 a3 b3 a4 b4 a5 b5 a6 b6 a7 b7 a8 b8 a9 b9 a10 b10 a11 b11
 intro i z hz
 match i, hz with
 | 0, hz => cases hz; exact C 0 _ (by simpa using a0)
 | 1, hz => cases hz; exact C 1 _ (by simpa using b0)
 | 2, hz => cases hz; exact C 2 _ (by simpa using a1)
 | 3, hz => cases hz; exact C 3 _ (by simpa using b1)
 | 4, hz => cases hz; exact C 4 _ (by simpa using a2)
 | 5, hz => cases hz; exact C 5 _ (by simpa using b2)
 | 6, hz => cases hz; exact C 6 _ (by simpa using a3)
 | 7, hz => cases hz; exact C 7 _ (by simpa using b3)
 | 8, hz => cases hz; exact C 8 _ (by simpa using a4)
 | 9, hz => cases hz; exact C 9 _ (by simpa using b4)
 | 10, hz => cases hz; exact C 10 _ (by simpa using a5)
 | 11, hz => cases hz; exact C 11 _ (by simpa using b5)
 | 12, hz => cases hz; exact C 12 _ (by simpa using a6)
 | 13, hz => cases hz; exact C 13 _ (by simpa using b6)
 | 14, hz => cases hz; exact C 14 _ (by simpa using a7)
 | 15, hz => cases hz; exact C 15 _ (by simpa using b7)
 | 16, hz => cases hz; exact C 16 _ (by simpa using a8)
 | 17, hz => cases hz; exact C 17 _ (by simpa using b8)
 | 18, hz => cases hz; exact C 18 _ (by simpa using a9)
 | 19, hz => cases hz; exact C 19 _ (by simpa using b9)
 | 20, hz => cases hz; exact C 20 _ (by simpa using a10)
 | 21, hz => cases hz; exact C 21 _ (by simpa using b10)
 | 22, hz => cases hz; exact C 22 _ (by simpa using a11)
 | 23, hz => cases hz; exact C 23 _ (by simpa using b11)
theorem ops_readable : ∀ g t, Tryz.prog.globalNamed "loop.example/g00025/impl.operators" = some g → (Tryz.prog.globals[g]?).map (·.type) = some t → Tryz.prog.readableRec t = true ∧ t < Tryz.prog.types.size := by
 intro g t hg ht
 obtain rfl := Option.some.inj (gOps.symm.trans hg)
 obtain rfl := Option.some.inj (gOpsType.symm.trans ht)
 exact ⟨by kernel_rfl, of_decide_eq_true (by kernel_rfl)⟩

end Go.Proofs.YtcjjobciokfehaaGreatDoor

namespace Go.Proofs.YtcjjobciokfehaaGreatDoor
open Go.ChangeShapes Go.WideShapes Go.ChangeAt Go.RowKit

theorem gPow10Type : (Tryz.prog.globals[5]?).map (·.type) = some 127 := by kernel_rfl
theorem pow10_of {rest : List (String × DataW Unit)} {W : World} (h : laidMet Tryz.prog (("internal/strconv.uint64pow10", Rows.laid_internal_strconv_uint64pow10) :: rest) W) : Lib.TabIs Tryz.prog W "internal/strconv.uint64pow10" .u64 Lib.pow10Tab :=
 Lib.tabIs_of_head (rest := rest) gPow10 gPow10Type Tryz.underlying127 Tryz.underlying126 (by kernel_rfl) (by kernel_rfl) h

end Go.Proofs.YtcjjobciokfehaaGreatDoor

namespace Go.Proofs.YtcjjobciokfehaaGreatDoor
open Go.ChangeShapes Go.WideShapes Go.ChangeAt Go.RowKit

/-- A variable of an int type holds SOME int. -/
theorem int_of_shape {P : Program} {w : World} {g : Nat} {t : TypeId} {zero : Array Value} (h : w.ShapedOpen P) (hg : g < P.globals.size)
  (h0 : ((begin P (fun _ _ => 0) default).world.heap[g]?).bind Obj.row? = some (zero, t)) (hz : zero.size = 1)
  (hb : P.buildable t = true) (hc : P.cellTypes P.depth t = some [t]) (hu : P.underlying t = some (.int .i64)) : ∃ m, w.cell? ⟨g, 0, none⟩ = some (.int .i64 m) := by
 obtain ⟨cs, hh, hs, hr⟩ := h.1 g zero t hg h0
 obtain ⟨ts, hts, _, hall⟩ := hr hb
 rw [hc] at hts
 cases hts
 have h1 : 0 < cs.size := by omega
 obtain ⟨u, hu', hok⟩ := hall 0 cs[0] (by simp [h1])
 have : u = t := by simpa using hu'.symm
 subst this
 have hcell : w.cell? ⟨g, 0, none⟩ = some cs[0] := by simp [World.cell?, hh, h1]
 rw [hcell]
 unfold Cell.ok at hok
 rw [hu] at hok
 cases hv : cs[0] <;> rw [hv] at hok <;> first | exact ⟨_, by rw [hok.1]⟩ | simp at hok
theorem maxLen_of {W : World} (h : W.ShapedOpen Tryz.prog) : ∃ m, W.cell? ⟨8, 0, none⟩ = some (.int .i64 m) :=
 int_of_shape (t := 3) (zero := #[.int .i64 0]) h (of_decide_eq_true (by kernel_rfl)) (by kernel_rfl) rfl (by kernel_rfl) (by kernel_rfl) Tryz.underlying3

theorem starErr : "*" ++ "errors.errorString" = "*errors.errorString" := by decide
/-- The one row of that name. -/
theorem rowErr (u : TypeId) (h : Tryz.prog.typeName? 3 u = some "*errors.errorString") : u = 200 :=
 typeName_ptr_named (nm := "errors.errorString") (by rw [starErr]; kernel_rfl) (by kernel_rfl) (by decide) u (by rw [starErr]; exact h)
theorem gSyntaxType : (Tryz.prog.globals[3]?).map (·.type) = some 138 := by kernel_rfl
theorem gRangeType : (Tryz.prog.globals[4]?).map (·.type) = some 138 := by kernel_rfl
theorem syntax_of {rest : List (String × DataW Unit)} {W : World} (h : laidMet Tryz.prog (("strconv.ErrSyntax", Rows.laid_strconv_ErrSyntax) :: rest) W) : ∃ tp p, W.var? Tryz.prog "strconv.ErrSyntax" = some #[.iface tp p] := by
 obtain ⟨a0, s0, hv0, -, -, -⟩ := laid_sentinel h gSyntax gSyntaxType Tryz.underlying138 rowErr Tryz.underlying200 Tryz.underlying202 rfl rfl Tryz.underlying9 (by kernel_rfl) (by kernel_rfl)
 exact ⟨_, _, hv0⟩
theorem range_of {rest : List (String × DataW Unit)} {W : World} (h : laidMet Tryz.prog (("strconv.ErrRange", Rows.laid_strconv_ErrRange) :: rest) W) : ∃ tp p, W.var? Tryz.prog "strconv.ErrRange" = some #[.iface tp p] := by
 obtain ⟨a0, s0, hv0, -, -, -⟩ := laid_sentinel h gRange gRangeType Tryz.underlying138 rowErr Tryz.underlying200 Tryz.underlying202 rfl rfl Tryz.underlying9 (by kernel_rfl) (by kernel_rfl)
 exact ⟨_, _, hv0⟩

end Go.Proofs.YtcjjobciokfehaaGreatDoor

namespace Go.Proofs.YtcjjobciokfehaaGreatDoor
open Go.RowKit

/-- A formula's tree: a node and what stands below it. -/
inductive ET where
 | mk (n : NT) (kids : List ET)
def ET.n : ET → NT
 | .mk n _ => n
def ET.kids : ET → List ET
 | .mk _ ks => ks
/-- Several, one behind another. -/
def manyF (g : List NT → Option (ET × List NT)) : Nat → List NT → Option (List ET × List NT)
 | 0, r => some ([], r)
 | m + 1, r => match manyF g m r with
  | none => none
  | some (ks, r1) => match g r1 with
   | none => none
   | some (k, r2) => some (ks ++ [k], r2)
/-- What may not stand in an array. -/
def noValE (e : ET) : Bool := if e.n.k = 1 ∨ e.n.k = 2 ∨ e.n.k = 3 ∨ e.n.k = 4 then false else if e.n.k = 8 then !(e.kids.head?.any fun x => decide (x.n.k = 1)) else true
def isNoE (e : ET) : Bool := decide (e.n.k = 13)
/-- Whether these may stand below such a node. -/
def kidsB (k : Int) (ks : List ET) : Bool := if k = 11 then !(decide (ks.length = 1) && ks.head?.any isNoE) else if k = 12 then !ks.any noValE else !ks.any isNoE
/-- A tree as the program makes it of nodes: so many may stand within each other. -/
def growF (gd : NT → Bool) : Nat → List NT → Option (ET × List NT)
 | 0, _ => none
 | _ + 1, [] => none
 | f + 1, n :: rest => if gd n then (match manyF (growF gd f) n.q.toNat rest with
  | none => none
  | some (ks, r) => if kidsB n.k ks then some (.mk n ks, r) else none) else none
def goodIF (gd : NT → Bool) (f : List NT) : Bool := decide (f.length ≤ 300) && (match growF gd 40 f with
 | some (e, []) => !isNoE e
 | _ => false)
/-- A tree as the specification takes it. -/
def takeF : Nat → List NT → Option (ET × List NT)
 | 0, _ => none
 | _ + 1, [] => none
 | f + 1, n :: rest => if 0 ≤ n.q ∧ n.q ≤ 100 then (match manyF (takeF f) n.q.toNat rest with
  | none => none
  | some (ks, r) => some (.mk n ks, r)) else none
def constE (e : ET) : Bool := decide (e.n.k = 1 ∨ e.n.k = 2 ∨ e.n.k = 3 ∨ e.n.k = 4) || (decide (e.n.k = 8) && decide (e.kids.length = 1) && e.kids.head?.any fun x => decide (x.n.k = 1))
/-- Whether a tree's first node is as it should be. -/
def rightE (gd : NT → Bool) (e : ET) (many : Bool) : Bool := decide (e.n.q = e.kids.length) && gd e.n && (!isNoE e || many) && (!decide (e.n.k = 12) || e.kids.all constE)
mutual
/-- How many nodes a tree has, and how many stand within each other. -/
def sizeE (gd : NT → Bool) : ET → Bool → Option (Nat × Nat)
 | .mk n ks, many => if rightE gd (.mk n ks) many then (match sizeL gd ks (decide (n.k = 11) && decide (1 < ks.length)) with
  | none => none
  | some (a, d) => some (a + 1, d + 1)) else none
def sizeL (gd : NT → Bool) : List ET → Bool → Option (Nat × Nat)
 | [], _ => some (0, 0)
 | k :: ks, many => match sizeE gd k many with
  | none => none
  | some (a, b) => match sizeL gd ks many with
   | none => none
   | some (c, d) => some (a + c, max b d)
end
def goodSF (gd : NT → Bool) (f : List NT) : Bool := decide (1 ≤ f.length) && decide (f.length ≤ 300) && (match takeF 41 f with
 | some (e, []) => (match sizeE gd e false with
  | some (n, d) => decide (n ≤ 300) && decide (d ≤ 40)
  | none => false)
 | _ => false)

theorem manyF_len {g : List NT → Option (ET × List NT)} : ∀ {m : Nat} {r r' : List NT} {ks : List ET}, manyF g m r = some (ks, r') → ks.length = m
 | 0, r, r', ks, h => by cases h; rfl
 | m + 1, r, r', ks, h => by
  unfold manyF at h
  split at h
  ·
   cases h
  ·
   next ks1 r1 h1 =>
   split at h
   ·
    cases h
   ·
    next k r2 h2 =>
    cases h
    rw [List.length_append, manyF_len h1]
    rfl
theorem sizeL_append (gd : NT → Bool) (many : Bool) : ∀ (ks ls : List ET), sizeL gd (ks ++ ls) many = (match sizeL gd ks many with
  | none => none
  | some (a, b) => match sizeL gd ls many with
   | none => none
   | some (c, d) => some (a + c, max b d))
 | [], ls => by
  rw [List.nil_append, sizeL]
  cases sizeL gd ls many with
  | none => rfl
  | some q => obtain ⟨c, d⟩ := q; simp
 | k :: ks, ls => by
  rw [List.cons_append, sizeL, sizeL, sizeL_append gd many ks ls]
  cases sizeE gd k many with
  | none => rfl
  | some q =>
   obtain ⟨a, b⟩ := q
   cases sizeL gd ks many with
   | none => rfl
   | some q2 =>
    obtain ⟨c, d⟩ := q2
    cases sizeL gd ls many with
    | none => rfl
    | some q3 =>
     obtain ⟨e, f⟩ := q3
     simp only [Option.some.injEq, Prod.mk.injEq]
     omega
theorem sizeL_mem {gd : NT → Bool} {many : Bool} : ∀ {ks : List ET} {s : Nat × Nat}, sizeL gd ks many = some s → ∀ k ∈ ks, rightE gd k many = true
 | k :: ks, s, h, x, hx => by
  rw [sizeL] at h
  split at h
  ·
   cases h
  ·
   next a b h1 =>
   split at h
   ·
    cases h
   ·
    next c d h2 =>
    rcases List.mem_cons.1 hx with rfl | hx
    ·
     obtain ⟨n, kk⟩ := x
     rw [sizeE] at h1
     split at h1
     ·
      assumption
     ·
      cases h1
    ·
     exact sizeL_mem h2 x hx
/-- What is known of a node that is good. -/
structure GoodK (gd : NT → Bool) : Prop where
 kids : ∀ n, gd n = true → 0 ≤ n.q ∧ n.q ≤ 100
 minus : ∀ n, gd n = true → n.k = 8 → n.q = 1
theorem grow_head {gd : NT → Bool} (G : GoodK gd) {F : Nat} {f r : List NT} {e : ET} (h : growF gd F f = some (e, r)) : gd e.n = true ∧ e.n.q = e.kids.length ∧ kidsB e.n.k e.kids = true := by
 match F, f, h with
 | 0, _, h => cases h
 | F + 1, [], h => cases h
 | F + 1, n :: rest, h =>
  rw [growF] at h
  split at h
  ·
   next hg =>
   split at h
   ·
    cases h
   ·
    next ks r1 h1 =>
    split at h
    ·
     next hk =>
     cases h
     have := manyF_len h1
     have := G.kids n hg
     exact ⟨hg, by show n.q = (ks.length : Int); omega, hk⟩
    ·
     cases h
  ·
   cases h
theorem kids_many {k : Int} {ks : List ET} (h : kidsB k ks = true) : ∀ x ∈ ks, isNoE x = true → (decide (k = 11) && decide (1 < ks.length)) = true := by
 intro x hx hn
 unfold kidsB at h
 split at h
 ·
  next h11 =>
  match ks, hx, h with
  | [y], hx, h =>
   rw [List.mem_singleton] at hx
   subst hx
   simp [hn] at h
  | y :: z :: l, hx, h => simp [h11]
 ·
  split at h
  ·
   have : noValE x = true := by
    have hk : x.n.k = 13 := by simpa [isNoE] using hn
    simp [noValE, hk]
   have h2 : ks.any noValE = true := List.any_eq_true.2 ⟨x, hx, this⟩
   rw [h2] at h
   cases h
  ·
   have h2 : ks.any isNoE = true := List.any_eq_true.2 ⟨x, hx, hn⟩
   rw [h2] at h
   cases h
theorem const_of_val {gd : NT → Bool} (G : GoodK gd) {x : ET} (hg : gd x.n = true) (hq : x.n.q = x.kids.length) (h : noValE x = false) : constE x = true := by
 unfold noValE at h
 split at h
 ·
  next hk => simp [constE, hk]
 ·
  split at h
  ·
   next h8 =>
   have := G.minus _ hg h8
   have hl : x.kids.length = 1 := by omega
   simp at h
   simp [constE, h8, hl]
   obtain ⟨y, hy⟩ : ∃ y, x.kids = [y] := List.length_eq_one_iff.1 hl
   rw [hy] at h ⊢
   simpa using h
  ·
   cases h
theorem val_of_const {x : ET} (h : constE x = true) : noValE x = false := by
 unfold constE at h
 unfold noValE
 split
 ·
  rfl
 ·
  next hk =>
  rw [decide_eq_false hk, Bool.false_or, Bool.and_eq_true, Bool.and_eq_true] at h
  obtain ⟨⟨h8, _⟩, h1⟩ := h
  rw [if_pos (of_decide_eq_true h8), h1]
  rfl
theorem kidsB_const {gd : NT → Bool} {e : ET} {many : Bool} (h : rightE gd e many = true) (hm : ∀ x ∈ e.kids, rightE gd x (decide (e.n.k = 11) && decide (1 < e.kids.length)) = true) : kidsB e.n.k e.kids = true := by
 have nn : (decide (e.n.k = 11) && decide (1 < e.kids.length)) = false → ∀ x ∈ e.kids, isNoE x = false := fun hf x hx => by
  have := hm x hx
  rw [hf] at this
  unfold rightE at this
  simp only [Bool.and_eq_true, Bool.or_false] at this
  simpa using this.1.2
 unfold kidsB
 split
 ·
  next h11 =>
  by_cases hl : e.kids.length = 1
  ·
   obtain ⟨y, hy⟩ := List.length_eq_one_iff.1 hl
   have := nn (by simp [hl]) y (by rw [hy]; simp)
   rw [hy]
   simp [this]
  ·
   simp [hl]
 ·
  next h11 =>
  split
  ·
   next h12 =>
   unfold rightE at h
   rw [Bool.and_eq_true] at h
   have h2 := h.2
   rw [decide_eq_true h12] at h2
   have h2 : e.kids.all constE = true := h2
   rw [List.all_eq_true] at h2
   cases ha : e.kids.any noValE with
   | false => rfl
   | true =>
    obtain ⟨x, hx, hv⟩ := List.any_eq_true.1 ha
    rw [val_of_const (h2 x hx)] at hv
    cases hv
  ·
   cases ha : e.kids.any isNoE with
   | false => rfl
   | true =>
    obtain ⟨x, hx, hv⟩ := List.any_eq_true.1 ha
    rw [nn (by simp [h11]) x hx] at hv
    cases hv
/-- What the program makes the specification takes, and finds right. -/
theorem grow_take {gd : NT → Bool} (G : GoodK gd) : ∀ (F : Nat) (f r : List NT) (e : ET) (many : Bool), growF gd F f = some (e, r) → (isNoE e = true → many = true) →
  (∀ F', F ≤ F' → takeF F' f = some (e, r)) ∧ ∃ s d, sizeE gd e many = some (s, d) ∧ d ≤ F ∧ f.length = s + r.length
 | 0, f, r, e, many, h, _ => by cases h
 | F + 1, [], r, e, many, h, _ => by cases h
 | F + 1, n :: rest, r, e, many, h, hn => by
  have hh := grow_head G h
  rw [growF] at h
  split at h
  ·
   next hg =>
   split at h
   ·
    cases h
   ·
    next ks r1 h1 =>
    split at h
    ·
     next hk =>
     cases h
     have key : ∀ (m : Nat) (ls : List ET) (r2 : List NT), manyF (growF gd F) m rest = some (ls, r2) → (∀ x ∈ ls, isNoE x = true → (decide (n.k = 11) && decide (1 < ks.length)) = true) →
       (∀ F', F ≤ F' → manyF (takeF F') m rest = some (ls, r2)) ∧ (∀ x ∈ ls, gd x.n = true ∧ x.n.q = x.kids.length) ∧ ∃ s d, sizeL gd ls (decide (n.k = 11) && decide (1 < ks.length)) = some (s, d) ∧ d ≤ F ∧ rest.length = s + r2.length := by
      intro m
      induction m with
      | zero =>
       intro ls r2 hm _
       cases hm
       exact ⟨fun _ _ => rfl, fun x hx => by (cases hx), 0, 0, by rw [sizeL], by omega, by omega⟩
      | succ m ih =>
       intro ls r2 hm hnn
       rw [manyF] at hm
       split at hm
       ·
        cases hm
       ·
        next ks1 r3 hm1 =>
        split at hm
        ·
         cases hm
        ·
         next k r4 hm2 =>
         cases hm
         obtain ⟨i1, i0, s1, d1, i2, i3, i4⟩ := ih ks1 r3 hm1 (fun x hx => hnn x (List.mem_append_left _ hx))
         obtain ⟨j1, s2, d2, j2, j3, j4⟩ := grow_take G F r3 r2 k _ hm2 (fun hx => hnn k (by simp) hx)
         refine ⟨fun F' hF => ?_, fun x hx => ?_, s1 + s2, max d1 d2, ?_, by omega, by omega⟩
         ·
          rw [manyF, i1 F' hF]
          simp only [j1 F' hF]
         ·
          rcases List.mem_append.1 hx with hx | hx
          ·
           exact i0 x hx
          ·
           rw [List.mem_singleton] at hx
           subst hx
           have := grow_head G hm2
           exact ⟨this.1, this.2.1⟩
         ·
          rw [sizeL_append, i2, sizeL, j2, sizeL]
          simp
     obtain ⟨k1, k0, s, d, k2, k3, k4⟩ := key _ ks r h1 (kids_many hk)
     refine ⟨fun F' hF => ?_, s + 1, d + 1, ?_, by omega, by rw [List.length_cons]; omega⟩
     ·
      obtain ⟨F'', rfl⟩ : ∃ q, F' = q + 1 := ⟨F' - 1, by omega⟩
      rw [takeF, if_pos (G.kids n hg), k1 F'' (by omega)]
     ·
      rw [sizeE, if_pos, k2]
      unfold rightE
      rw [decide_eq_true hh.2.1, hh.1, Bool.true_and, Bool.true_and, Bool.and_eq_true]
      refine ⟨?_, ?_⟩
      ·
       cases hx : isNoE (.mk n ks) with
       | false => rfl
       | true => rw [hn hx]; rfl
      ·
       by_cases h12 : n.k = 12
       ·
        have : ks.all constE = true := by
         rw [List.all_eq_true]
         intro x hx
         have hv : noValE x = false := by
          have hk2 := hk
          unfold kidsB at hk2
          rw [if_neg (by omega), if_pos h12] at hk2
          cases hv : noValE x with
          | false => rfl
          | true =>
           rw [List.any_eq_true.2 ⟨x, hx, hv⟩] at hk2
           cases hk2
         exact const_of_val G (k0 x hx).1 (k0 x hx).2 hv
        show (!decide (n.k = 12) || ks.all constE) = true
        rw [this, Bool.or_true]
       ·
        show (!decide (n.k = 12) || ks.all constE) = true
        rw [decide_eq_false h12]
        rfl
    ·
     cases h
  ·
   cases h
/-- What is taken and found right the program makes. -/
theorem take_grow {gd : NT → Bool} : ∀ (F' : Nat) (f r : List NT) (e : ET), takeF F' f = some (e, r) → ∀ (many : Bool) (s d F : Nat), sizeE gd e many = some (s, d) → d ≤ F → growF gd F f = some (e, r)
 | 0, f, r, e, h => by cases h
 | F' + 1, [], r, e, h => by cases h
 | F' + 1, n :: rest, r, e, h => by
  intro many s d F hs hd
  rw [takeF] at h
  split at h
  ·
   split at h
   ·
    cases h
   ·
    next ks r1 h1 =>
    cases h
    rw [sizeE] at hs
    split at hs
    ·
     next hr =>
     split at hs
     ·
      cases hs
     ·
      next a b hl =>
      cases hs
      obtain ⟨F0, rfl⟩ : ∃ q, F = q + 1 := ⟨F - 1, by omega⟩
      have key : ∀ (m : Nat) (ls : List ET) (r2 : List NT), manyF (takeF F') m rest = some (ls, r2) → ∀ a b, sizeL gd ls (decide (n.k = 11) && decide (1 < ks.length)) = some (a, b) → b ≤ F0 → manyF (growF gd F0) m rest = some (ls, r2) := by
       intro m
       induction m with
       | zero => intro ls r2 hm a b _ _; cases hm; rfl
       | succ m ih =>
        intro ls r2 hm a b hsl hb
        rw [manyF] at hm
        split at hm
        ·
         cases hm
        ·
         next ks1 r3 hm1 =>
         split at hm
         ·
          cases hm
         ·
          next k r4 hm2 =>
          cases hm
          rw [sizeL_append] at hsl
          split at hsl
          ·
           cases hsl
          ·
           next a1 b1 q1 =>
           split at hsl
           ·
            cases hsl
           ·
            next a2 b2 q2 =>
            cases hsl
            rw [sizeL] at q2
            split at q2
            ·
             cases q2
            ·
             next a3 b3 q3 =>
             rw [sizeL] at q2
             cases q2
             rw [manyF, ih ks1 r3 hm1 a1 b1 q1 (by omega)]
             simp only [take_grow F' r3 r2 k hm2 _ a3 b3 F0 q3 (by omega)]
      have hkey := key _ ks r h1 a b hl (by omega)
      have hg : gd n = true := by
       unfold rightE at hr
       simp only [Bool.and_eq_true] at hr
       exact hr.1.1.2
      rw [growF, if_pos hg, hkey]
      simp only
      rw [if_pos (show kidsB n.k ks = true from kidsB_const hr (fun x hx => sizeL_mem hl x hx))]
    ·
     cases hs
  ·
   cases h
/-- Both say the same of nodes. -/
theorem good_same {gd : NT → Bool} (G : GoodK gd) (f : List NT) : goodIF gd f = goodSF gd f := by
 have to1 : goodIF gd f = true → goodSF gd f = true := by
  intro h
  unfold goodIF at h
  rw [Bool.and_eq_true] at h
  obtain ⟨h1, h2⟩ := h
  split at h2
  ·
   next e hg =>
   obtain ⟨t1, s, d, t2, t3, t4⟩ := grow_take G 40 f [] e false hg (fun hx => by rw [hx] at h2; cases h2)
   have hs : f.length = s := by simpa using t4
   have h1' := of_decide_eq_true h1
   have hn : 1 ≤ f.length := by
    match f, hg with
    | [], hg => cases hg
    | _ :: _, _ => simp
   unfold goodSF
   rw [t1 41 (by omega)]
   simp only [t2]
   simp
   omega
  ·
   cases h2
 have to2 : goodSF gd f = true → goodIF gd f = true := by
  intro h
  unfold goodSF at h
  rw [Bool.and_eq_true, Bool.and_eq_true] at h
  obtain ⟨⟨h0, h1⟩, h2⟩ := h
  split at h2
  ·
   next e ht =>
   split at h2
   ·
    next s d hs =>
    rw [Bool.and_eq_true] at h2
    have hg := take_grow 41 f [] e ht false s d 40 hs (of_decide_eq_true h2.2)
    unfold goodIF
    rw [h1, hg]
    simp only
    obtain ⟨n, ks⟩ := e
    rw [sizeE] at hs
    split at hs
    ·
     next hr =>
     unfold rightE at hr
     simp only [Bool.and_eq_true, Bool.or_false] at hr
     rw [hr.1.2]
     rfl
    ·
     cases hs
   ·
    cases h2
  ·
   cases h2
 cases h1 : goodIF gd f with
 | true => rw [to1 h1]
 | false =>
  cases h2 : goodSF gd f with
  | false => rfl
  | true => rw [to2 h2] at h1; cases h1

end Go.Proofs.YtcjjobciokfehaaGreatDoor

