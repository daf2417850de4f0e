/-
  Chapter 14: rows of bytes that grow; a text in quotes, by the specification.
-/
import Derived.Test.YtkjbeciiecljgaaDoorSt0
import Derived.Test.YtkjbeciiecljgaaDoorAs0
import Derived.Test.YtkjbeciiecljgaaDoorFa
import Derived.Lib.AppendZeros
import Derived.Laws.IdiomStrings
namespace Go.Proofs.YtkjbeciiecljgaaDoor
open Go.RowKit

/-- A row of bytes of one's own. -/
abbrev OwnY (w : World) (base : Nat) (v : Value) (l : List UInt8) : Prop := w.ownsRow base 5 1 v l.length (encB l)
theorem ownY_nil (w : World) (base : Nat) : OwnY w base (.slice none 0 0) [] := World.ownsRow_nil _ _ _ _
theorem ownY_lt {w : World} {base : Nat} {v : Value} {l : List UInt8} (h : OwnY w base v l) : ∀ r, v.ownBlock = some r → base ≤ r ∧ r < w.heap.size := by
  intro r hr
  rcases h.2 with ⟨rfl, _⟩ | ⟨g, cap, cur, rfl, h2, h3, _⟩
  · cases hr
  · have : g = r := by simpa [Value.ownBlock] using hr
    subst this
    refine ⟨h2, ?_⟩
    rcases Nat.lt_or_ge g w.heap.size with h' | h'
    · exact h'
    · rw [Array.getElem?_eq_none h'] at h3; cases h3
theorem ownY_later {w w' : World} {base : Nat} {v : Value} {l : List UInt8} (h : OwnY w base v l) (hx : Ext w w') : OwnY w' base v l := by
  refine ⟨h.1, h.2.imp id ?_⟩
  rintro ⟨g, cap, cur, rfl, h2, h3, h4⟩
  exact ⟨g, cap, cur, rfl, h2, by rw [hx.block g (ownY_lt h g rfl).2]; exact h3, h4⟩
theorem ownY_slice {w : World} {base : Nat} {v : Value} {l : List UInt8} (h : OwnY w base v l) : ∃ p c, v = .slice p l.length c ∧ l.length ≤ c := by
  rcases h.2 with ⟨rfl, h0⟩ | ⟨g, cap, cur, rfl, _, _, h3, _⟩
  · exact ⟨none, 0, by rw [h0], by omega⟩
  · exact ⟨_, _, rfl, h3⟩
theorem infoY : ∃ inf, Tryd.prog.info? 5 = some inf ∧ inf.zero = some (.int .u8 0) ∧ inf.size = 1 ∧ inf.bytes = 1 := by
  have h : (Tryd.prog.info? 5).map (fun i => (i.zero, i.size, i.bytes)) = some (some (.int .u8 0), 1, 1) := by kernel_rfl
  cases h' : Tryd.prog.info? 5 with
  | none => rw [h'] at h; cases h
  | some inf =>
    rw [h'] at h
    simp at h
    exact ⟨inf, rfl, h.1, h.2.1, h.2.2⟩
theorem encB_append (l m : List UInt8) : encB (l ++ m) = encB l ++ encB m := by simp [encB]
/-- One more byte. -/
theorem app_byte (w : World) (base : Nat) (v : Value) (l : List UInt8) (O : OwnY w base v l) (c : UInt8) (b : Nat) (V : Vec w b [.int .u8 (c.toNat : Int)]) (hl : l.length ≤ 9000000) (hb : base ≤ w.heap.size) :
    ∃ v' w', (Builtin.append_ #[31, 31] 31 #[v, .slice (some ⟨b, 0, none⟩) 1 1]).run Tryd.prog w = .ok v' w' ∧ OwnY w' base v' (l ++ [c]) ∧ w.grownBy w' v.ownBlock := by
  obtain ⟨inf, hi, hz, hsz, hby⟩ := infoY
  obtain ⟨v', w', hrun, O', GW, _⟩ := app_srcG (P := Tryd.prog) w base 31 31 31 5 inf (.int .u8 0) Tryd.underlying31 hi hz 1 hsz (by rw [hby]; omega) rfl v l.length _ O (.slice (some ⟨b, 0, none⟩) 1 1) 1 [.int .u8 (c.toNat : Int)]
    (Src.ofSlice (size := 1) w Tryd.underlying31 ⟨b, 0, none⟩ 1 1 [.int .u8 (c.toNat : Int)] rfl (fun j u hj => by rw [Addr.add_lit, Nat.zero_add]; exact (V j u hj).1) (fun u hu => by simp at hu; subst hu; rfl)) (by omega) hb
  refine ⟨v', w', hrun, ?_, GW⟩
  show World.ownsRow _ _ _ _ _ _ _
  rw [List.length_append, encB_append]
  exact O'
/-- A text behind it. -/
theorem app_text (w : World) (base : Nat) (v : Value) (l : List UInt8) (O : OwnY w base v l) (t : List UInt8) (hl : l.length + t.length ≤ 9000000) (hb : base ≤ w.heap.size) :
    ∃ v' w', (Builtin.append_ #[31, 9] 31 #[v, sV t]).run Tryd.prog w = .ok v' w' ∧ OwnY w' base v' (l ++ t) ∧ w.grownBy w' v.ownBlock := by
  obtain ⟨inf, hi, hz, hsz, hby⟩ := infoY
  obtain ⟨v', w', hrun, O', GW, _⟩ := app_srcG (P := Tryd.prog) w base 31 9 31 5 inf (.int .u8 0) Tryd.underlying31 hi hz 1 hsz (by rw [hby]; omega) rfl v l.length _ O (sV t) t.length (encB t)
    (Src.ofString w Tryd.underlying9 ⟨t.toArray⟩) (by omega) hb
  refine ⟨v', w', hrun, ?_, GW⟩
  show World.ownsRow _ _ _ _ _ _ _
  rw [List.length_append, encB_append]
  exact O'
/-- A world grown in its own rows. -/
theorem ext_rowY {w0 w w' : World} {row : Option Nat} (x : Ext w0 w) (g : w.grownBy w' row) (h : ∀ r, row = some r → w0.heap.size ≤ r) : Ext w0 w' :=
  ⟨g.os.trans x.os, g.tape.trans x.tape, g.output.trans x.output, Nat.le_trans x.size g.size, fun k hk => (g.block k (Nat.lt_of_lt_of_le hk x.size) (fun e => by have := h k e.symm; omega)).trans (x.block k hk)⟩
/-- The row as a text. -/
theorem conv_text {w : World} {base : Nat} {v : Value} {l : List UInt8} (O : OwnY w base v l) : (convert 31 9 v).run Tryd.prog w = .ok (sV l) w := by
  rcases O.2 with ⟨rfl, h0⟩ | ⟨g, cap, cur, rfl, _⟩
  · have : l = [] := List.eq_nil_of_length_eq_zero h0
    subst this
    rw [run_convert_bytes_string w 31 9 5 none 0 0 Tryd.underlying31 Tryd.underlying5 Tryd.underlying9]
    rfl
  · refine run_convert_bytes_back (P := Tryd.prog) w 31 9 5 ⟨g, 0, none⟩ cap l Tryd.underlying31 Tryd.underlying5 Tryd.underlying9 (fun j hj => ?_)
    exact O.cells (g := g) rfl j _ (encB_at (List.getElem?_eq_getElem hj))

/-- One byte made ahead, and put behind. -/
theorem put_byte (w0 w : World) (v : Value) (l : List UInt8) (c : UInt8) (x : Ext w0 w) (O : OwnY w w0.heap.size v l) (hl : l.length ≤ 9000000) :
    ∃ p n q w2, (Builtin.append_ #[31, 31] 31 #[v, .slice (some ⟨w.heap.size, 0, none⟩) 1 1]).run Tryd.prog (w.alloc (.cells #[.int .u8 (c.toNat : Int)] 5)) = .ok (.slice p n q) w2 ∧ OwnY w2 w0.heap.size (.slice p n q) (l ++ [c]) ∧ Ext w0 w2 := by
  have X := x1 w (.cells #[.int .u8 (c.toNat : Int)] 5)
  have V := vec_made w [.int .u8 (c.toNat : Int)] 5
  obtain ⟨v', w', hrun, O', GW⟩ := app_byte _ _ v l (ownY_later O X) c w.heap.size V hl (Nat.le_trans x.size X.size)
  obtain ⟨p, q, rfl, _⟩ := ownY_slice O'
  exact ⟨p, _, q, w', hrun, O', ext_rowY (xt x X) GW (fun r hr => (ownY_lt O r hr).1)⟩
theorem put_text (w0 w : World) (v : Value) (l : List UInt8) (t : List UInt8) (x : Ext w0 w) (O : OwnY w w0.heap.size v l) (hl : l.length + t.length ≤ 9000000) :
    ∃ p n q w2, (Builtin.append_ #[31, 9] 31 #[v, sV t]).run Tryd.prog w = .ok (.slice p n q) w2 ∧ OwnY w2 w0.heap.size (.slice p n q) (l ++ t) ∧ Ext w0 w2 := by
  obtain ⟨v', w', hrun, O', GW⟩ := app_text w _ v l O t hl x.size
  obtain ⟨p, q, rfl, _⟩ := ownY_slice O'
  exact ⟨p, _, q, w', hrun, O', ext_rowY x GW (fun r hr => (ownY_lt O r hr).1)⟩


end Go.Proofs.YtkjbeciiecljgaaDoor
