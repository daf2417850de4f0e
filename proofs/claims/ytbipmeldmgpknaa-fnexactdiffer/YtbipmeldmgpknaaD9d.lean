/-
  Chapter 9: a map of what is shown by its places.
-/
import Derived.Test.YtbipmeldmgpknaaD9b
import Derived.DeepKeys4
import Derived.MapKept
import Derived.Maps.Own
import Derived.Maps.OwnSet
import Derived.Maps.RangeWalk
import Derived.Laws.IdiomRangeMap
namespace Go.Proofs.Ytbipmeldmgpknaa
open Go.RowKit

theorem spot_law : WideMaps.KeyLaw Try.prog 47 :=
  deep_law (m := 2) (by decide) (by kernel_rfl) (by kernel_rfl) (by kernel_rfl)
theorem spotK : Maps.Keyed Try.prog 47 := Maps.Keyed.of_law spot_law
theorem mapS_type : Try.prog.underlying 45 = some (.map 47 42) := by kernel_rfl
/-- What a number of the machine is. -/
abbrev InI (a : Int) : Prop := -9223372036854775808 ≤ a ∧ a ≤ 9223372036854775807
theorem spot_key {a b : Int} (ha : InI a) (hb : InI b) : ∃ l, keyOf Try.prog 47 (siV a b) = some l := by
  have hu := Try.underlying47
  have h3 := Try.underlying3
  have ht : Try.prog.keyType 47 = true := by kernel_rfl
  have hc : Try.prog.cellsOf 47 = 2 := by kernel_rfl
  have hc3 : Try.prog.cellsOf 3 = 1 := by kernel_rfl
  have m0 : IntKind.i64.min = -9223372036854775808 := by decide
  have m1 : IntKind.i64.max = 9223372036854775807 := by decide
  have wa : (Lit.int .i64 a).wf = true := by simp [Lit.wf, m0, m1]; omega
  have wb : (Lit.int .i64 b).wf = true := by simp [Lit.wf, m0, m1]; omega
  obtain ⟨N, hN⟩ : ∃ N, Try.prog.types.size = N + 1 := ⟨_, rfl⟩
  have hf : (siV a b).formed Try.prog 47 = true := by simp [Value.formed, hc]
  unfold keyOf
  rw [hu]
  simp only [ht, hf, hN]
  simp [Program.keyLits, hu, h3, hc, hc3, wa, wb, Value.cells]
noncomputable def klOf (r c : Int) : Lit := (keyOf Try.prog 47 (siV r c)).getD (.bool false)
theorem klOf_key {r c : Int} (hr : InI r) (hc : InI c) : keyOf Try.prog 47 (siV r c) = some (klOf r c) := by
  obtain ⟨l, hl⟩ := spot_key hr hc
  unfold klOf
  rw [hl]
  rfl
noncomputable def isKl (e : ST) (k : Lit) : Bool := @decide (klOf e.r e.c = k) (Classical.propDecidable _)
theorem isKl_iff {e : ST} {k : Lit} : isKl e k = true ↔ klOf e.r e.c = k := by unfold isKl; exact @decide_eq_true_iff _ (Classical.propDecidable _)
theorem isKl_false {e : ST} {k : Lit} : isKl e k = false ↔ klOf e.r e.c ≠ k := by rw [← Bool.not_eq_true, isKl_iff]
def InS (e : ST) : Prop := InI e.r ∧ InI e.c
theorem klOf_inj {r c r' c' : Int} (h1 : InI r) (h2 : InI c) (h3 : InI r') (h4 : InI c') (h : klOf r c = klOf r' c') : r = r' ∧ c = c' := by
  have := spotK.inj (klOf_key h1 h2) (by rw [h]; exact klOf_key h3 h4)
  simpa using this

def shD (e : ST) : DataW Unit := .agg [.lit (.int .i64 e.r), .lit (.int .i64 e.c), .lit (.int .i64 e.k), .lit (.bool e.n), .lit (.int .i64 e.d), .lit (.int .i64 e.x), .lit (.string e.t), .lit (.bool e.q)]
def shR (v : Value) : Option (DataW Unit × List MemPlace) :=
  match v with
  | .agg cs => match cs.toList with
    | [.int .i64 r, .int .i64 c, .int .i64 k, .bool n, .int .i64 d, .int .i64 x, .string s, .bool q] => some (shD ⟨r, c, k, n, d, x, s.data.toList, q⟩, [])
    | _ => none
  | _ => none
theorem shR_of (e : ST) : shR (.agg e.cells.toArray) = some (shD e, []) := rfl
theorem shR_inv {v : Value} {y : DataW Unit × List MemPlace} (h : shR v = some y) : ∃ e : ST, v = .agg e.cells.toArray ∧ y = (shD e, []) := by
  unfold shR at h
  split at h
  · rename_i cs
    obtain ⟨l⟩ := cs
    split at h
    · rename_i r c k n d x s q e
      cases h
      simp only at e
      subst e
      exact ⟨⟨r, c, k, n, d, x, s.data.toList, q⟩, rfl, rfl⟩
    · cases h
  · cases h
theorem shD_inj {e f : ST} (h : shD e = shD f) : e = f := by
  obtain ⟨r, c, k, n, d, x, t, q⟩ := e
  obtain ⟨r', c', k', n', d', x', t', q'⟩ := f
  simp [shD] at h
  obtain ⟨rfl, rfl, rfl, rfl, rfl, rfl, rfl, rfl⟩ := h
  rfl

/-- What a map says of places. -/
def HoldsS (D : DataW Unit) (L : List ST) : Prop :=
  Maps.IsMap D ∧ (∀ k, Maps.has D k = L.any fun e => isKl e k) ∧ ∀ k z, D.atKey k z = match L.find? (fun e => isKl e k) with | some e => shD e | none => z
theorem HoldsS.nil : HoldsS (.map []) [] := ⟨⟨[], rfl⟩, fun _ => rfl, fun _ _ => rfl⟩
theorem klOf_lit {e : ST} (h : InS e) : WideAt.IsKeyLit (klOf e.r e.c) := spotK.key (klOf_key h.1 h.2)
theorem HoldsS.put {D : DataW Unit} {L : List ST} (h : HoldsS D L) (e : ST) (he : InS e) : HoldsS (D.put (klOf e.r e.c) (shD e)) (e :: L) := by
  obtain ⟨h1, h2, h3⟩ := h
  refine ⟨h1.put _ _, fun j => ?_, fun j z => ?_⟩
  · by_cases q : klOf e.r e.c = j
    · subst q
      rw [Maps.has_put_same h1 (klOf_lit he), List.any_cons, isKl_iff.2 rfl]
      rfl
    · rw [Maps.has_put_other (Ne.symm q), h2, List.any_cons, isKl_false.2 q]
      rfl
  · by_cases q : klOf e.r e.c = j
    · subst q
      rw [Maps.atKey_put_same h1 (klOf_lit he), List.find?_cons, isKl_iff.2 rfl]
    · rw [Maps.atKey_put_other (Ne.symm q), h3, List.find?_cons, isKl_false.2 q]
theorem HoldsS.del {D : DataW Unit} {L : List ST} (h : HoldsS D L) (r c : Int) : HoldsS (D.del (klOf r c)) (L.filter fun e => !isKl e (klOf r c)) := by
  obtain ⟨h1, h2, h3⟩ := h
  refine ⟨h1.del _, fun j => ?_, fun j z => ?_⟩
  · by_cases q : j = klOf r c
    · subst q
      rw [Maps.has_del_same]
      symm
      rw [List.any_eq_false]
      intro e he
      have := (List.mem_filter.1 he).2
      simpa using this
    · rw [Maps.has_del_other q, h2, List.any_filter]
      congr 1
      funext e
      cases p : isKl e j with
      | false => simp
      | true =>
        rw [isKl_false.2 (by rw [isKl_iff.1 p]; exact q)]
        rfl
  · by_cases q : j = klOf r c
    · subst q
      rw [Maps.atKey_del_same, List.find?_filter]
      rw [List.find?_eq_none.2 (by intro e _; cases isKl e (klOf r c) <;> simp)]
    · rw [Maps.atKey_del_other q, h3, List.find?_filter]
      have : (fun e : ST => decide ((!isKl e (klOf r c)) = true ∧ isKl e j = true)) = fun e => isKl e j := by
        funext e
        cases p : isKl e j with
        | false => simp
        | true =>
          rw [isKl_false.2 (by rw [isKl_iff.1 p]; exact q)]
          rfl
      rw [this]

/-- The map at m says so of places, and holds at most n. -/
def MapS (w : World) (m n : Nat) (L : List ST) : Prop := ∃ D, w.ownsMap Try.prog 47 shR m n D ∧ HoldsS D L
theorem MapS.lt {w : World} {m n : Nat} {L : List ST} (h : MapS w m n L) : m < w.heap.size := by
  obtain ⟨D, h1, h2⟩ := h
  exact h1.lt
theorem MapS.later {w w' : World} {m n : Nat} {L : List ST} (h : MapS w m n L) (x : Ext w w') : MapS w' m n L := by
  obtain ⟨D, h1, h2⟩ := h
  have hlt := h1.lt
  obtain ⟨es, c, hb, h3⟩ := h1
  exact ⟨D, ⟨es, c, by rw [x.block m hlt]; exact hb, h3⟩, h2⟩
theorem MapS.kept {w w' : World} {m n : Nat} {L : List ST} {row : Option Nat} (h : MapS w m n L) (g : w.grownBy w' row) (hne : some m ≠ row) : MapS w' m n L := by
  obtain ⟨D, h1, h2⟩ := h
  exact ⟨D, h1.kept g hne, h2⟩
theorem MapS.made (w : World) : MapS (w.alloc (.map #[] 0)) w.heap.size 0 [] := ⟨_, World.ownsMap_made w _ _ _, HoldsS.nil⟩
theorem ext_grownS {a w u : World} {m : Nat} (X : Ext a w) (g : w.grownBy u (some m)) (hm : a.heap.size ≤ m) : Ext a u :=
  ⟨g.os.trans X.os, g.tape.trans X.tape, g.output.trans X.output, Nat.le_trans X.size g.size, fun k hk => (g.block k (Nat.lt_of_lt_of_le hk X.size) (by simp; omega)).trans (X.block k hk)⟩
/-- One more. -/
theorem MapS.put {w : World} {m n : Nat} {L : List ST} (h : MapS w m n L) (hn : n ≤ 2000000) (e : ST) (he : InS e) :
    ∃ u, (Instr.mapUpdate 45 (.map (some m)) (siV e.r e.c) (.agg e.cells.toArray)).run Try.prog w = .ok () u ∧ MapS u m (n + 1) (e :: L) ∧ w.grownBy u (some m) := by
  obtain ⟨D, h1, h2⟩ := h
  obtain ⟨u, r, o, g⟩ := h1.update spotK mapS_type (show n < maxLen by unfold maxLen; omega) (klOf_key he.1 he.2) (shR_of e)
  exact ⟨u, r, ⟨_, o, h2.put e he⟩, g⟩
theorem find_hit {L : List ST} (hL : ∀ e ∈ L, InS e) {r c : Int} (hr : InI r) (hc : InI c) : L.find? (fun e => isKl e (klOf r c)) = L.find? (fun e => e.hit r c) := by

  induction L with
  | nil => rfl
  | cons e L ih =>
    rw [List.find?_cons, List.find?_cons]
    have he := hL e (by simp)
    have : isKl e (klOf r c) = e.hit r c := by
      by_cases q : e.r = r ∧ e.c = c
      · rw [hit_iff.2 q, isKl_iff, q.1, q.2]
      · rw [hit_false.2 q, isKl_false]
        exact fun h => q (klOf_inj he.1 he.2 hr hc h)
    rw [this, ih fun e h => hL e (by simp [h])]
theorem zero_shown (w : World) : (zeroValue 42).run Try.prog w = .ok (.agg zeroST.cells.toArray) w := by
  first | rfl | kernel_rfl | (simp [zeroValue, Try.underlying42, go_sem])
/-- Looked up. -/
theorem MapS.look {w : World} {m n : Nat} {L : List ST} (h : MapS w m n L) (hL : ∀ e ∈ L, InS e) {r c : Int} (hr : InI r) (hc : InI c) :
    (Instr.lookup 45 (.map (some m)) (siV r c) false).run Try.prog w = .ok (.agg (lookAt L r c).cells.toArray) w := by
  obtain ⟨D, h1, h2⟩ := h
  obtain ⟨v, ps, hrun, hv⟩ := h1.lookup spotK mapS_type (zero_shown w) (shR_of zeroST) (klOf_key hr hc)
  obtain ⟨e, rfl, he⟩ := shR_inv hv
  have he := congrArg Prod.fst he
  simp only at he
  rw [h2.2.2, find_hit hL hr hc] at he
  have : lookAt L r c = e := by
    unfold lookAt
    cases hf : L.find? fun e => e.hit r c with
    | none => rw [hf] at he; exact shD_inj he
    | some f => rw [hf] at he; exact shD_inj he
  rw [hrun, this]

end Go.Proofs.Ytbipmeldmgpknaa
