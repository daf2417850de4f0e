/-
  Chapter 14: rows of a sheet's cells, that grow.
-/
import Derived.Test.YtichaheefailoaaSh0
import Derived.Test.YtichaheefailoaaAs0
import Derived.Lib.AppendZeros
namespace Go.Proofs.Ytichaheefailoaa
open Go.RowKit

/-- A row of cells of one's own. -/
abbrev OwnC (w : World) (base : Nat) (v : Value) (l : List CE) : Prop := w.ownsRow base 37 3 v l.length (l.flatMap CE.cells)
theorem ownC_nil (w : World) (base : Nat) : OwnC w base (.slice none 0 0) [] := World.ownsRow_nil _ _ _ _
theorem ownC_lt {w : World} {base : Nat} {v : Value} {l : List CE} (h : OwnC w base v l) : ∀ r, v.ownBlock = some r → base ≤ r ∧ r < w.heap.size := by
  intro r hr
  rcases h.2 with ⟨rfl, _⟩ | ⟨g, cap, cur, rfl, h2, h3, _⟩
  · cases hr
  · have : g = r := by simpa [Value.ownBlock] using hr
    subst this
    refine ⟨h2, ?_⟩
    rcases Nat.lt_or_ge g w.heap.size with h' | h'
    · exact h'
    · rw [Array.getElem?_eq_none h'] at h3; cases h3
theorem ownC_block {w w' : World} {base : Nat} {v : Value} {l : List CE} (h : OwnC w base v l) (hx : ∀ r, v.ownBlock = some r → w'.heap[r]? = w.heap[r]?) : OwnC w' base v l := by
  refine ⟨h.1, h.2.imp id ?_⟩
  rintro ⟨g, cap, cur, rfl, h2, h3, h4⟩
  exact ⟨g, cap, cur, rfl, h2, by rw [hx g rfl]; exact h3, h4⟩
theorem ownC_later {w w' : World} {base : Nat} {v : Value} {l : List CE} (h : OwnC w base v l) (hx : Ext w w') : OwnC w' base v l := ownC_block h fun r hr => hx.block r (ownC_lt h r hr).2
theorem ownC_far {w : World} {base : Nat} {v : Value} {l : List CE} (h : OwnC w base v l) {p : Addr} (hp : p.block < base) (u : Value) : OwnC (w.setCell p u) base v l :=
  ownC_block h fun r hr => heap_setCell_other _ _ _ _ (by have := (ownC_lt h r hr).1; omega)
theorem ownC_slice {w : World} {base : Nat} {v : Value} {l : List CE} (h : OwnC w base v l) : ∃ p c, v = .slice p l.length c ∧ l.length ≤ c := by
  rcases h.2 with ⟨rfl, h0⟩ | ⟨g, cap, cur, rfl, _, _, h3, _⟩
  · exact ⟨none, 0, by rw [h0], by omega⟩
  · exact ⟨_, _, rfl, h3⟩
theorem flatC_at (l : List CE) : ∀ (i : Nat) (e : CE), l[i]? = some e → ∀ (c : Nat) (u : Value), e.cells[c]? = some u → (l.flatMap CE.cells)[i * 3 + c]? = some u := by
  induction l with
  | nil => intro i e h; simp at h
  | cons q l ih =>
    intro i e h c u hc
    have h3 : q.cells.length = 3 := rfl
    have hc3 : c < 3 := (List.getElem?_eq_some_iff.1 hc).1
    rw [List.flatMap_cons]
    cases i with
    | zero =>
      have : q = e := by simpa using h
      subst this
      rw [Nat.zero_mul, Nat.zero_add, List.getElem?_append_left (by omega)]
      exact hc
    | succ i =>
      rw [List.getElem?_append_right (by omega), show (i + 1) * 3 + c - q.cells.length = i * 3 + c by omega]
      exact ih i e (by simpa using h) c u hc
/-- What is read of it. -/
def RowCE (w : World) (v : Value) (l : List CE) : Prop := ∃ p cap, v = .slice p l.length cap ∧ l.length ≤ cap ∧ (0 < l.length → ∃ b, p = some ⟨b, 0, none⟩ ∧ ∀ (i : Nat) (e : CE), l[i]? = some e → ∀ (c : Nat) (u : Value), e.cells[c]? = some u → w.cell? ⟨b, i * 3 + c, none⟩ = some u)
theorem RowCE.later {w w' : World} {v : Value} {l : List CE} (h : RowCE w v l) (x : Ext w w') : RowCE w' v l := by
  obtain ⟨p, cap, h1, h2, h3⟩ := h
  refine ⟨p, cap, h1, h2, fun h0 => ?_⟩
  obtain ⟨b, h4, h5⟩ := h3 h0
  exact ⟨b, h4, fun i e hi c u hc => cell_later x (h5 i e hi c u hc)⟩
theorem ownC_row {w : World} {base : Nat} {v : Value} {l : List CE} (h : OwnC w base v l) : RowCE w v l := by
  obtain ⟨p, cap, hv, hc⟩ := ownC_slice h
  refine ⟨p, cap, hv, hc, fun h0 => ?_⟩
  rcases h.2 with ⟨_, hz⟩ | ⟨g, cap', cur, rfl, hrest⟩
  · omega
  · cases hv
    refine ⟨g, rfl, fun i e hi c u hu => ?_⟩
    have := h.cells (g := g) rfl (i * 3 + c) u (flatC_at l i e hi c u hu)
    rw [Addr.add_lit, Nat.zero_add] at this
    exact this
theorem infoCe : ∃ inf, Try.prog.info? 37 = some inf ∧ inf.zero = some (.agg #[.int .i64 0, .int .i64 0, sV []]) ∧ inf.size = 3 ∧ inf.bytes = 32 := by
  have h : (Try.prog.info? 37).map (fun i => (i.zero, i.size, i.bytes)) = some (some (.agg #[.int .i64 0, .int .i64 0, sV []]), 3, 32) := by kernel_rfl
  cases h' : Try.prog.info? 37 with
  | none => rw [h'] at h; cases h
  | some inf =>
    rw [h'] at h
    simp at h
    exact ⟨inf, rfl, h.1, h.2.1, h.2.2⟩
/-- One more cell. -/
theorem app_cell (w : World) (base : Nat) (v : Value) (l : List CE) (O : OwnC w base v l) (x : CE) (b : Nat) (V : Vec w b x.cells) (hl : l.length ≤ 3000000) (hb : base ≤ w.heap.size) :
    ∃ v' w', (Builtin.append_ #[24, 24] 24 #[v, .slice (some ⟨b, 0, none⟩) 1 1]).run Try.prog w = .ok v' w' ∧ OwnC w' base v' (l ++ [x]) ∧ w.grownBy w' v.ownBlock := by
  obtain ⟨inf, hi, hz, hsz, hby⟩ := infoCe
  obtain ⟨v', w', hrun, O', GW, _⟩ := app_srcG (P := Try.prog) w base 24 24 24 37 inf (.agg #[.int .i64 0, .int .i64 0, sV []]) Try.underlying24 hi hz 3 hsz (by rw [hby]; omega) rfl v l.length _ O (.slice (some ⟨b, 0, none⟩) 1 1) 1 x.cells
    (Src.ofSlice (size := 3) w Try.underlying24 ⟨b, 0, none⟩ 1 1 x.cells rfl (fun j u hj => by rw [Addr.add_lit, Nat.zero_add]; exact (V j u hj).1) (fun u hu => by simp at hu; rcases hu with rfl | rfl | rfl <;> rfl)) (by omega) hb
  refine ⟨v', w', hrun, ?_, GW⟩
  show World.ownsRow _ _ _ _ _ _ _
  rw [List.length_append, List.flatMap_append]
  simpa using O'
/-- A world grown in its own rows. -/
theorem ext_row {w0 w w' : World} {row : Option Nat} (x : Ext w0 w) (g : w.grownBy w' row) (h : ∀ r, row = some r → w0.heap.size ≤ r) : Ext w0 w' :=
  ⟨g.os.trans x.os, g.tape.trans x.tape, g.output.trans x.output, Nat.le_trans x.size g.size, fun k hk => (g.block k (Nat.lt_of_lt_of_le hk x.size) (fun e => by have := h k e.symm; omega)).trans (x.block k hk)⟩
theorem box2_grown {w w' : World} {row : Option Nat} {b : Nat} {v0 v1 : Value} (h : Box2 w b v0 v1) (g : w.grownBy w' row) (hr : ∀ r, row = some r → b ≠ r) : Box2 w' b v0 v1 := by
  have hlt := World.block_lt_of_cell? _ _ h.1.1
  have hb := g.block b hlt (fun e => hr b e.symm rfl)
  obtain ⟨⟨a0, a1⟩, f0, f1⟩ := h
  refine ⟨⟨?_, ?_⟩, ?_, ?_⟩
  · unfold World.cell? at a0 ⊢; rw [hb]; exact a0
  · unfold World.cell? at a1 ⊢; rw [hb]; exact a1
  · unfold World.frozen? at f0 ⊢; rw [hb]; exact f0
  · unfold World.frozen? at f1 ⊢; rw [hb]; exact f1
theorem box2_put0 {w : World} {b : Nat} {v0 v1 : Value} (h : Box2 w b v0 v1) (u : Value) : Box2 (w.setCell ⟨b, 0, none⟩ u) b u v1 := by
  obtain ⟨⟨a0, a1⟩, f0, f1⟩ := h
  refine ⟨⟨World.cell?_setCell_same _ _ _ a0, ?_⟩, by rw [World.frozen?_setCell]; exact f0, by rw [World.frozen?_setCell]; exact f1⟩
  rw [World.cell?_setCell_other _ _ _ _ (fun e => by cases e)]
  exact a1
theorem box2_far {w : World} {b : Nat} {v0 v1 : Value} (h : Box2 w b v0 v1) {p : Addr} (hp : p.block ≠ b) (u : Value) : Box2 (w.setCell p u) b v0 v1 := by
  obtain ⟨⟨a0, a1⟩, f0, f1⟩ := h
  refine ⟨⟨?_, ?_⟩, by rw [World.frozen?_setCell]; exact f0, by rw [World.frozen?_setCell]; exact f1⟩
  · rw [World.cell?_setCell_other _ _ _ _ (fun e => hp (congrArg Addr.block e))]; exact a0
  · rw [World.cell?_setCell_other _ _ _ _ (fun e => hp (congrArg Addr.block e))]; exact a1

end Go.Proofs.Ytichaheefailoaa
