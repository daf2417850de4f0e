/-
  Several texts in one: Base, FrameB, BaseT, Frame, LibD.
-/
import Derived.Test.YtfkihaihbaobeaaGreatDoorProg
import Derived.WalkKit
import Derived.WalkSpells
import Derived.WalkLawsBesides
import Derived.Test.YtfkihaihbaobeaaGreatDoorRows
import Derived.ProofKit
import Derived.OpenShut
import Derived.WalkSmall
import Derived.Lib.SmallJoins
import Derived.Deep.DeepHandedRow
import Derived.Lib.LaidTab
import Derived.Lib.ItoaNum
namespace Go.Proofs.YtfkihaihbaobeaaGreatDoor
open Go.RowKit

/-- The world has only grown: nothing that was there has turned. -/
abbrev Ext (w w' : World) : Prop := Below w.heap.size w w'
theorem xr (w : World) : Ext w w := Below.refl _ _
theorem xt {a b c : World} (h : Ext a b) (k : Ext b c) : Ext a c := h.trans (k.mono h.size)
theorem xa {a b : World} (h : Ext a b) (o : Obj) : Ext a (b.alloc o) := h.alloc h.size o
theorem xd {a b : World} (h : Ext a b) : Ext a b.drew := h.drew
theorem x1 (w : World) (o : Obj) : Ext w (w.alloc o) := xa (xr w) o

theorem ret_bool {a b : Bool} (h : a = b) : Ending.returned (.bool a) = .returned (.bool b) := by rw [h]
theorem ret_int {k : IntKind} {a b : Int} (h : a = b) : Ending.returned (.int k a) = .returned (.int k b) := by rw [h]

theorem xset {a b : World} (h : Ext a b) {p : Addr} (hp : a.heap.size ≤ p.block) (u : Value) : Ext a (b.setCell p u) := h.setCell hp u
theorem frozen_later {w w1 : World} (hb : Ext w w1) {p : Addr} {v : Value} (h : w.cell? p = some v) (hf : w.frozen? p = false) : w1.frozen? p = false :=
  (hb.frozen (World.block_lt_of_cell? _ _ h)).trans hf

/-- Two, three, four cells of one block, none frozen. -/
def Box2 (w : World) (b : Nat) (v0 v1 : Value) : Prop := (w.cell? ⟨b, 0, none⟩ = some v0 ∧ w.cell? ⟨b, 1, none⟩ = some v1) ∧ w.frozen? ⟨b, 0, none⟩ = false ∧ w.frozen? ⟨b, 1, none⟩ = false
def Box3 (w : World) (b : Nat) (v0 v1 v2 : Value) : Prop := (w.cell? ⟨b, 0, none⟩ = some v0 ∧ w.cell? ⟨b, 1, none⟩ = some v1 ∧ w.cell? ⟨b, 2, none⟩ = some v2) ∧ w.frozen? ⟨b, 0, none⟩ = false ∧ w.frozen? ⟨b, 1, none⟩ = false ∧ w.frozen? ⟨b, 2, none⟩ = false
def Box4 (w : World) (b : Nat) (v0 v1 v2 v3 : Value) : Prop := (w.cell? ⟨b, 0, none⟩ = some v0 ∧ w.cell? ⟨b, 1, none⟩ = some v1 ∧ w.cell? ⟨b, 2, none⟩ = some v2 ∧ w.cell? ⟨b, 3, none⟩ = some v3) ∧ w.frozen? ⟨b, 0, none⟩ = false ∧ w.frozen? ⟨b, 1, none⟩ = false ∧ w.frozen? ⟨b, 2, none⟩ = false ∧ w.frozen? ⟨b, 3, none⟩ = false
theorem Box2.made (w : World) (v0 v1 : Value) (t : TypeId) : Box2 (w.alloc (.cells #[v0, v1] t)) w.heap.size v0 v1 := by
  refine ⟨⟨?_, ?_⟩, ?_, ?_⟩ <;> simp [go_sem]
theorem Box3.made (w : World) (v0 v1 v2 : Value) (t : TypeId) : Box3 (w.alloc (.cells #[v0, v1, v2] t)) w.heap.size v0 v1 v2 := by
  refine ⟨⟨?_, ?_, ?_⟩, ?_, ?_, ?_⟩ <;> simp [go_sem]
theorem Box4.made (w : World) (v0 v1 v2 v3 : Value) (t : TypeId) : Box4 (w.alloc (.cells #[v0, v1, v2, v3] t)) w.heap.size v0 v1 v2 v3 := by
  refine ⟨⟨?_, ?_, ?_, ?_⟩, ?_, ?_, ?_, ?_⟩ <;> simp [go_sem]
theorem Box2.later {w w1 : World} {b : Nat} {v0 v1 : Value} (h : Box2 w b v0 v1) (hb : Ext w w1) : Box2 w1 b v0 v1 :=
  ⟨⟨cell_later hb h.1.1, cell_later hb h.1.2⟩, frozen_later hb h.1.1 h.2.1, frozen_later hb h.1.2 h.2.2⟩
theorem Box3.later {w w1 : World} {b : Nat} {v0 v1 v2 : Value} (h : Box3 w b v0 v1 v2) (hb : Ext w w1) : Box3 w1 b v0 v1 v2 :=
  ⟨⟨cell_later hb h.1.1, cell_later hb h.1.2.1, cell_later hb h.1.2.2⟩, frozen_later hb h.1.1 h.2.1, frozen_later hb h.1.2.1 h.2.2.1, frozen_later hb h.1.2.2 h.2.2.2⟩
theorem Box4.later {w w1 : World} {b : Nat} {v0 v1 v2 v3 : Value} (h : Box4 w b v0 v1 v2 v3) (hb : Ext w w1) : Box4 w1 b v0 v1 v2 v3 :=
  ⟨⟨cell_later hb h.1.1, cell_later hb h.1.2.1, cell_later hb h.1.2.2.1, cell_later hb h.1.2.2.2⟩, frozen_later hb h.1.1 h.2.1, frozen_later hb h.1.2.1 h.2.2.1, frozen_later hb h.1.2.2.1 h.2.2.2.1, frozen_later hb h.1.2.2.2 h.2.2.2.2⟩

/-- A decimal as a value. -/
abbrev decV (neg : Bool) (d x : Int) : Value := .agg #[.bool neg, .int .i64 d, .int .i64 x]

end Go.Proofs.YtfkihaihbaobeaaGreatDoor

namespace Go.Proofs.YtfkihaihbaobeaaGreatDoor
open Go.ChangeShapes Go.WideShapes Go.ChangeAt Go.RowKit

theorem own : ownKnob Tryz.prog.godebug = none := by kernel_rfl
theorem laidOut : laidOutB Tryz.prog = true := by kernel_rfl

/-- The named variables read again behind a call below which nothing has turned. -/
theorem vars_below {H : Type} {enc : TypeId × Value → H} {P : Program} (hl : laidOutB P = true) {W W' : World} (bel : Below W.heap.size W W') :
    ∀ {ns : List String} {gs : List (DataW H)} {q : List MemPlace}, (∀ n ∈ ns, ∀ g t, P.globalNamed n = some g → (P.globals[g]?).map (·.type) = some t → P.readableRec t = true ∧ t < P.types.size) →
      (∀ x ∈ q, x.block < W.heap.size) → DataW.TrodVars enc P W (fun _ => true) ns gs q → DataW.TrodVars enc P W' (fun b => decide (b < W.heap.size)) ns gs q
  | [], [], _, _, _, h => h
  | [], _ :: _, _, _, _, h => h.elim
  | _ :: _, [], _, _, _, h => h.elim
  | n :: ns, d :: ds, q, hr, hlt, h => by
    obtain ⟨g, t, cs, fuel, p, r, h1, h2, h3, h4, h5, rfl⟩ := h
    obtain ⟨r1, r2⟩ := hr n (by simp) g t h1 h2
    have hg : g < W.heap.size := by
      unfold World.var? at h3
      simp only [h1, Option.bind_some] at h3
      by_cases hk : g < W.heap.size
      · exact hk
      · rw [Array.getElem?_eq_none (by omega)] at h3
        cases h3
    refine ⟨g, t, cs, fuel, p, r, h1, h2, var?_below bel h1 hg h3, ?_, ?_, rfl⟩
    · exact DataW.trod_stays (kids_book hl r1) (book_sized r1) (fun h => by cases h) ⟨r2, book_self t⟩ h4 (fun x hx => bel.same (hlt x (by simp [hx]))) (fun x hx => by simpa using hlt x (by simp [hx]))
    · exact vars_below hl bel (fun m hm => hr m (by simp [hm])) (fun x hx => hlt x (by simp [hx])) h5

/-- An element of an array that reads as told. -/
theorem trod_elem {H : Type} {enc : TypeId × Value → H} {P : Program} {w : World} {base : Nat} {sp : Nat → Bool} {held : Bool} {fuel : Nat} {t e : TypeId} {n : Nat} {cs : List Value} {ds : List (DataW H)} {p : List MemPlace}
    (ht : P.underlying t = some (.array n e)) (h : DataW.trod enc P w base sp held fuel t cs = some (.agg ds, p)) (i : Nat) (hi : i < n) (d : DataW H) (hd : ds[i]? = some d) :
    ∃ fuel' p', DataW.trod enc P w base sp held fuel' e ((cs.drop (i * P.cellsOf e)).take (P.cellsOf e)) = some (d, p') := by
  cases fuel with
  | zero => simp [DataW.trod] at h
  | succ fuel =>
    simp only [DataW.trod, ht] at h
    split at h
    · obtain ⟨xs, hm, hx⟩ := Option.map_eq_some_iff.1 h
      obtain ⟨b, hb, hf⟩ := Lib.mapM_at hm i i (by simp [hi])
      have e1 : xs.map (·.1) = ds := by
        have := congrArg Prod.fst hx
        simpa using this
      rw [← e1, List.getElem?_map, hb] at hd
      simp only [Option.map_some, Option.some.injEq] at hd
      subst hd
      exact ⟨fuel, b.2, hf⟩
    · cases h
/-- A field of a struct that reads as told. -/
theorem trod_field {H : Type} {enc : TypeId × Value → H} {P : Program} {w : World} {base : Nat} {sp : Nat → Bool} {held : Bool} {fuel : Nat} {t : TypeId} {fs : Array Field} {cs : List Value} {ds : List (DataW H)} {p : List MemPlace}
    (ht : P.underlying t = some (.struct fs)) (h : DataW.trod enc P w base sp held fuel t cs = some (.agg ds, p)) (i : Nat) (f : Field) (hf : fs.toList[i]? = some f) (d : DataW H) (hd : ds[i]? = some d) :
    ∃ fuel' p', DataW.trod enc P w base sp held fuel' f.type ((cs.drop f.offset).take (P.cellsOf f.type)) = some (d, p') := by
  cases fuel with
  | zero => simp [DataW.trod] at h
  | succ fuel =>
    simp only [DataW.trod, ht] at h
    split at h
    · obtain ⟨xs, hm, hx⟩ := Option.map_eq_some_iff.1 h
      obtain ⟨b, hb, hf'⟩ := Lib.mapM_at hm i f hf
      have e1 : xs.map (·.1) = ds := by
        have := congrArg Prod.fst hx
        simpa using this
      rw [← e1, List.getElem?_map, hb] at hd
      simp only [Option.map_some, Option.some.injEq] at hd
      subst hd
      exact ⟨fuel, b.2, hf'⟩
    · cases h

end Go.Proofs.YtfkihaihbaobeaaGreatDoor

namespace Go.Proofs.YtfkihaihbaobeaaGreatDoor
open Go.RowKit

/-- The table of the powers of ten lies as its initialiser lays it. -/
def Tens (w : World) : Prop := ∀ i : Nat, i < 20 → w.cell? ⟨0, i, none⟩ = some (.int .u64 ((10 ^ i : Nat) : Int))
theorem Tens.later {w w1 : World} (h : Tens w) (hb : Ext w w1) : Tens w1 := fun i hi => cell_later hb (h i hi)
theorem Tens.at15 {w : World} (h : Tens w) : w.cell? ⟨0, 15, none⟩ = some (.int .u64 1000000000000000) := h 15 (by decide)

end Go.Proofs.YtfkihaihbaobeaaGreatDoor

namespace Go.Proofs.YtfkihaihbaobeaaGreatDoor
open Go.ChangeShapes Go.WideShapes Go.ChangeAt Go.RowKit

theorem gTens : Tryz.prog.globalNamed "loop.example/g00025/impl.tens" = some 0 := by kernel_rfl
theorem gTensType : (Tryz.prog.globals[0]?).map (·.type) = some 80 := by kernel_rfl

/-- The table's cells, out of a row that lists it first. -/
theorem tens_of {rest : List (String × DataW Unit)} {W : World} (h : laidMet Tryz.prog (("loop.example/g00025/impl.tens", Rows.laid_loop_example_g00025_impl_tens) :: rest) W) : Tens W := by
  have t : Lib.TabIs Tryz.prog W "loop.example/g00025/impl.tens" .u64 [1, 10, 100, 1000, 10000, 100000, 1000000, 10000000, 100000000, 1000000000, 10000000000, 100000000000, 1000000000000, 10000000000000, 100000000000000, 1000000000000000, 10000000000000000, 100000000000000000, 1000000000000000000, 10000000000000000000] :=
    Lib.tabIs_of_head (rest := rest) gTens gTensType Tryz.underlying80 Tryz.underlying38 (by kernel_rfl) (by kernel_rfl) h
  intro i hi
  have e : ∀ i : Nat, i < 20 → ([1, 10, 100, 1000, 10000, 100000, 1000000, 10000000, 100000000, 1000000000, 10000000000, 100000000000, 1000000000000, 10000000000000, 100000000000000, 1000000000000000, 10000000000000000, 100000000000000000, 1000000000000000000, 10000000000000000000] : List Int).getD i 0 = ((10 ^ i : Nat) : Int) := by decide +kernel
  rw [← e i hi]
  exact t.cell gTens i hi

theorem tens_readable1 : ∀ g t, Tryz.prog.globalNamed "loop.example/g00025/impl.tens" = some g → (Tryz.prog.globals[g]?).map (·.type) = some t → Tryz.prog.readableRec t = true ∧ t < Tryz.prog.types.size := by
  intro g t hg ht
  obtain rfl := Option.some.inj (gTens.symm.trans hg)
  obtain rfl := Option.some.inj (gTensType.symm.trans ht)
  exact ⟨by kernel_rfl, of_decide_eq_true (by kernel_rfl)⟩
theorem tens_readable : ∀ n ∈ ["loop.example/g00025/impl.tens"], ∀ g t, Tryz.prog.globalNamed n = some g → (Tryz.prog.globals[g]?).map (·.type) = some t → Tryz.prog.readableRec t = true ∧ t < Tryz.prog.types.size := by
  intro n hn g t hg ht
  simp only [List.mem_singleton] at hn
  subst hn
  obtain rfl := Option.some.inj (gTens.symm.trans hg)
  obtain rfl := Option.some.inj (gTensType.symm.trans ht)
  exact ⟨by kernel_rfl, of_decide_eq_true (by kernel_rfl)⟩

end Go.Proofs.YtfkihaihbaobeaaGreatDoor

namespace Go.Proofs.YtfkihaihbaobeaaGreatDoor
open Go.RowKit

def RepC : Prop := ∀ (c : Int) (w : World), 0 ≤ c → c ≤ 1000 → Calls Tryz.prog 61 #[.string ⟨#[48]⟩, .int .i64 c] w fun e w' => ∃ s, e = .returned (.string s) ∧ s.data.toList = List.replicate c.toNat 48 ∧ Ext w w'
def ItoaC (w0 : World) : Prop := ∀ (n : Int) (w : World), -1000000000000000 < n → n < 1000000000000000 → Ext w0 w → Calls Tryz.prog 26 #[.int .i64 n] w fun e w' => ∃ s, e = .returned (.string s) ∧ s.data.toList = Lib.itoa n ∧ Ext w w'

end Go.Proofs.YtfkihaihbaobeaaGreatDoor

