/-
  Several texts in one: Bx, V9e, Pv2, FramePv, V7e, W9a, W9b, Vq.
-/
import Derived.Test.YtgpfddneablcpaaGreatDoorMg1
import Derived.Test.YtgpfddneablcpaaGreatDoorMg4
import Derived.Deep.Strs
import Derived.Deep.Slices
import Derived.ChangeSlices
import Derived.Deep.DeepCutAuto
import Derived.Deep.AppendLies
import Derived.OwnWalk
import Derived.Laws.OwnMore
import Derived.Deep.RegionHeld3
namespace Go.Proofs.YtgpfddneablcpaaGreatDoor
open Go.RowKit

theorem Vec.three {w : World} {b : Nat} {v0 v1 v2 : Value} (h : Vec w b [v0, v1, v2]) : w.cell? ⟨b, 0, none⟩ = some v0 ∧ w.cell? ⟨b, 1, none⟩ = some v1 ∧ w.cell? ⟨b, 2, none⟩ = some v2 :=
 ⟨(h 0 _ rfl).1, (h 1 _ rfl).1, (h 2 _ rfl).1⟩
theorem Vec.five {w : World} {b : Nat} {v0 v1 v2 v3 v4 : Value} (h : Vec w b [v0, v1, v2, v3, v4]) : w.cell? ⟨b, 0, none⟩ = some v0 ∧ w.cell? ⟨b, 1, none⟩ = some v1 ∧ w.cell? ⟨b, 2, none⟩ = some v2 ∧ w.cell? ⟨b, 3, none⟩ = some v3 ∧ w.cell? ⟨b, 4, none⟩ = some v4 :=
 ⟨(h 0 _ rfl).1, (h 1 _ rfl).1, (h 2 _ rfl).1, (h 3 _ rfl).1, (h 4 _ rfl).1⟩
theorem Vec.fiveF {w : World} {b : Nat} {v0 v1 v2 v3 v4 : Value} (h : Vec w b [v0, v1, v2, v3, v4]) : w.frozen? ⟨b, 0, none⟩ = false ∧ w.frozen? ⟨b, 1, none⟩ = false ∧ w.frozen? ⟨b, 2, none⟩ = false ∧ w.frozen? ⟨b, 3, none⟩ = false ∧ w.frozen? ⟨b, 4, none⟩ = false :=
 ⟨(h 0 _ rfl).2, (h 1 _ rfl).2, (h 2 _ rfl).2, (h 3 _ rfl).2, (h 4 _ rfl).2⟩
theorem mkB2 (w : World) (l0 l1 : List Value) (T0 T1 : TypeId) : ∃ u0 u1, w.alloc (.cells l0.toArray T0) = u0 ∧ u0.alloc (.cells l1.toArray T1) = u1 ∧ u0.heap.size = w.heap.size + 1 ∧ u1.heap.size = w.heap.size + 1 + 1 ∧ Vec u1 (w.heap.size) l0 ∧ Vec u1 (w.heap.size + 1) l1 ∧ Ext w u1 := by
 have X0 := x1 w (.cells l0.toArray T0)
 have B0 := vec_made w l0 T0
 obtain ⟨u0, h0⟩ : ∃ u, w.alloc (.cells l0.toArray T0) = u := ⟨_, rfl⟩
 rw [h0] at X0 B0
 have s0 : u0.heap.size = w.heap.size + 1 := by rw [← h0, World.size_alloc]
 have X := X0
 have X1 := x1 u0 (.cells l1.toArray T1)
 have B1 := vec_made u0 l1 T1
 obtain ⟨u1, h1⟩ : ∃ u, u0.alloc (.cells l1.toArray T1) = u := ⟨_, rfl⟩
 rw [h1] at X1 B1
 rw [s0] at B1
 have s1 : u1.heap.size = w.heap.size + 1 + 1 := by rw [← h1, World.size_alloc, s0]
 have B0 := B0.later X1
 have X := xt X X1
 exact ⟨u0, u1, h0, h1, s0, s1, B0, B1, X⟩

/-- The last store into an answer's cells. -/
theorem fin5 {a w : World} {b : Nat} (V : Vec w b (valL 0 false 0 0 [])) (X : Ext a w) (hb : a.heap.size ≤ b) (k : Int) (n : Bool) (d x : Int) (t : List UInt8) :
  ∃ wy, (((((w.setCell ⟨b, 0, none⟩ (.int .i64 k)).setCell ⟨b, 1, none⟩ (.bool n)).setCell ⟨b, 2, none⟩ (.int .i64 d)).setCell ⟨b, 3, none⟩ (.int .i64 x)).setCell ⟨b, 4, none⟩ (sV t)) = wy ∧ Ext a wy ∧ (w.cell? ⟨b, 0, none⟩ = some (.int .i64 0) ∧ w.cell? ⟨b, 1, none⟩ = some (.bool false) ∧ w.cell? ⟨b, 2, none⟩ = some (.int .i64 0) ∧ w.cell? ⟨b, 3, none⟩ = some (.int .i64 0) ∧ w.cell? ⟨b, 4, none⟩ = some (sV [])) ∧ (w.frozen? ⟨b, 0, none⟩ = false ∧ w.frozen? ⟨b, 1, none⟩ = false ∧ w.frozen? ⟨b, 2, none⟩ = false ∧ w.frozen? ⟨b, 3, none⟩ = false ∧ w.frozen? ⟨b, 4, none⟩ = false) ∧ wy.cell? ⟨b, 0, none⟩ = some (.int .i64 k) ∧ wy.cell? ⟨b, 1, none⟩ = some (.bool n) ∧ wy.cell? ⟨b, 2, none⟩ = some (.int .i64 d) ∧ wy.cell? ⟨b, 3, none⟩ = some (.int .i64 x) ∧ wy.cell? ⟨b, 4, none⟩ = some (sV t) := by
 have FG := V.put5 (.int .i64 k) (.bool n) (.int .i64 d) (.int .i64 x) (sV t)
 have FX := Ext.setL (b := b) hb [.int .i64 k, .bool n, .int .i64 d, .int .i64 x, sV t] 0 X
 exact ⟨_, rfl, FX, V.five, V.fiveF, FG.five⟩

abbrev pivV (rv cv mv : Value) (t : Bool) : Value := .agg #[rv, cv, mv, .bool t]
end Go.Proofs.YtgpfddneablcpaaGreatDoor

namespace Go.Proofs.YtgpfddneablcpaaGreatDoor
open Go.ChangeShapes Go.WideShapes Go.ChangeAt Go.RowKit

theorem ints_of {H : Type} {enc : TypeId × Value → H} {W : World} {v : Value} {fuel : Nat} {y : DataW H × List MemPlace}
  (hf : DataW.trod enc Tryz.prog W 0 (fun _ => true) true fuel 25 [v] = some y) : ∃ l, IntsIn W v l ∧ l.length ≤ maxLen := by
 rcases open_ints Tryz.underlying25 Tryz.underlying3 (by kernel_rfl) hf with ⟨hcs, hx⟩ | ⟨a, len', cap', zs, hcs, _, hl, hm, hz, hx, hcell, hwz⟩
 ·
  simp at hcs
  subst hcs
  exact ⟨[], ⟨none, 0, rfl, Nat.le_refl _, fun h => by simp at h⟩, by simp⟩
 ·
  simp at hcs
  subst hcs
  simp only [if_true] at hz
  have hlen : (zs.take len').length = len' := by rw [List.length_take]; omega
  refine ⟨zs.take len', ⟨some a, cap', by rw [hlen], by rw [hlen]; exact hl, fun h0 => ?_⟩, by rw [hlen]; omega⟩
  rw [hlen] at h0
  obtain ⟨pb, po, sp⟩ := a
  have hc0 := hcell 0 (by omega)
  have hsp : sp = none := by simpa [Addr.add] using World.cell?_spot hc0
  subst hsp
  refine ⟨pb, po, rfl, fun i hi => ?_⟩
  rw [hlen] at hi
  have hci := hcell i (by omega)
  rw [Addr.add_lit] at hci
  rw [hci]
  simp [hi]

set_option maxRecDepth 100000 in
/-- Whole numbers that came in. -/
theorem open_intsV {H : Type} {enc : TypeId × Value → H} {W : World} {base : Nat} {v : Value} {d : DataW H} {p : List MemPlace}
  (hv : Value.okWide Tryz.prog W .any base 25 v) (h : DataW.Trod enc Tryz.prog W 0 (fun _ => true) true 25 v d p) :
  ∃ l : List Int, IntsIn W v l ∧ l.length ≤ maxLen := by
 obtain ⟨a0, len0, cap0, rfl⟩ := okWide_slice Tryz.underlying25 hv
 obtain ⟨fuel, hf⟩ := h
 have hf' : DataW.trod enc Tryz.prog W 0 (fun _ => true) true fuel 25 [.slice a0 len0 cap0] = some (d, p) := hf
 exact ints_of hf'

end Go.Proofs.YtgpfddneablcpaaGreatDoor

namespace Go.Proofs.YtgpfddneablcpaaGreatDoor
open Go.RowKit

theorem xdNv {a b : World} (h : Ext a b) (n : Nat) : Ext a (b.drewN n) := ⟨h.os, h.tape, h.output, h.size, h.block⟩
set_option maxRecDepth 8000 in
set_option maxHeartbeats 2000000 in
theorem goodGI (r c : Int) (v : Value) (l : List VT) (w : World) (h : ValsIn w v l) (hl : l.length ≤ 2000000) (ht : ∀ e ∈ l, e.t.length ≤ 2000000) (hd : ∀ e ∈ l, -9223372036854775808 ≤ e.d ∧ e.d ≤ 9223372036854775807) (hT : Tens w) (hE : ErrTab w) :
  Calls Tryz.prog 21 #[grV r c v] w fun e w' => e = .returned (.bool (goodG r c l)) ∧ Ext w w' := by
 obtain ⟨p, cap, rfl, hcap, hrow⟩ := h
 obtain ⟨n, hn⟩ : ∃ n, l.length = n := ⟨_, rfl⟩
 have HN : Hid (l.length = n) := hn
 have HG : Hid (goodG r c l = (gsidesB r c n && l.all VT.good)) := by show _ = _; unfold goodG; rw [hn]
 obtain ⟨R, hR⟩ : ∃ R, goodG r c l = R := ⟨_, rfl⟩
 rw [hR] at HG ⊢
 rw [hn] at hcap hl hrow ⊢
 have HRow : Hid (0 < n → ∃ b o, p = some ⟨b, o, none⟩ ∧ RowV w b o l) := hrow
 have HT : Hid (∀ e ∈ l, e.t.length ≤ 2000000) := ht
 have X0 := x1 w (.cells #[.int .i64 r, .int .i64 c, .slice p n cap] 31)
 have HD : Hid (∀ e ∈ l, -9223372036854775808 ≤ e.d ∧ e.d ≤ 9223372036854775807) := hd
 have HTT : Hid (Tens w) := hT
 have HEE : Hid (ErrTab w) := hE
 clear hn hrow hR ht hd hT hE
 by_cases h1 : r < 1
 ·
  have HF : Hid (false = R) := by show _ = _; rw [HG.out, show gsidesB r c n = false by simp [gsidesB]; omega]; rfl
  have g1 : decide (r < 1) = true := by simpa using h1
  go_enter Tryz.func21, Tryz.ntmps21
  go_wp2_with fail
  go_quiet (fail)
  go_wp2_with fail
  go_ret
  exact ⟨ret_bool HF.out, xdNv X0 _⟩
 have g1 : decide (r < 1) = false := by simpa using h1
 by_cases h2 : c < 1
 ·
  have HF : Hid (false = R) := by show _ = _; rw [HG.out, show gsidesB r c n = false by simp [gsidesB]; omega]; rfl
  have g2 : decide (c < 1) = true := by simpa using h2
  go_enter Tryz.func21, Tryz.ntmps21
  go_wp2_with fail
  go_quiet (fail)
  go_wp2_with fail
  go_ret
  exact ⟨ret_bool HF.out, xdNv X0 _⟩
 have g2 : decide (c < 1) = false := by simpa using h2
 have hdiv : r ≤ 2000 / c ↔ r * c ≤ 2000 := Int.le_ediv_iff_mul_le (by omega)
 have htd : Int.tdiv 2000 c = 2000 / c := Int.tdiv_eq_ediv_of_nonneg (by omega)
 obtain ⟨dv, hdv⟩ : ∃ dv, 2000 / c = dv := ⟨_, rfl⟩
 have dv0 : 0 ≤ dv := by rw [← hdv]; exact Int.ediv_nonneg (by omega) (by omega)
 have dv1 : dv ≤ 2000 := by rw [← hdv]; exact Int.ediv_le_self c (by omega)
 rw [hdv] at hdiv htd
 clear hdv
 by_cases h5 : dv < r
 ·
  have HF : Hid (false = R) := by
   show _ = _
   rw [HG.out, show gsidesB r c n = false by simp only [gsidesB, decide_eq_false_iff_not]; omega]; rfl
  have g5 : decide (dv < r) = true := by simpa using h5
  clear hdiv
  go_enter Tryz.func21, Tryz.ntmps21
  go_wp2_with fail
  go_quiet (fail)
  go_wp2_with fail
  go_ret
  exact ⟨ret_bool HF.out, xdNv X0 _⟩
 have g5 : decide (dv < r) = false := by simpa using h5
 obtain ⟨m, hm⟩ : ∃ m, r * c = m := ⟨_, rfl⟩
 rw [hm] at hdiv
 have m2 : m ≤ 2000 := by omega
 have m1 : 1 ≤ m := by rw [← hm]; have := Int.mul_le_mul_of_nonneg_left (show (1 : Int) ≤ c by omega) (show 0 ≤ r by omega); omega
 have hwr : IntKind.i64.wrap (r * c) = m := by rw [hm, IntKind.wrap_i64]; omega
 have HS : Hid (gsidesB r c n = decide (m ≤ 2000 ∧ (n : Int) = m)) := by
  show _ = _
  unfold gsidesB
  rw [hm]
  exact decide_eq_decide.2 (by omega)
 clear hdiv
 by_cases h6 : (n : Int) ≠ m
 ·
  have HF : Hid (false = R) := by show _ = _; rw [HG.out, HS.out, decide_eq_false (by omega)]; rfl
  clear hm
  have g6 : ((n : Int) != m) = true := by simpa using h6
  go_enter Tryz.func21, Tryz.ntmps21
  go_wp2_with fail
  go_quiet (fail)
  go_wp2_with fail
  go_ret
  exact ⟨ret_bool HF.out, xdNv X0 _⟩
 have h6' : (n : Int) = m := by omega
 have HF : Hid (l.all VT.good = R) := by show _ = _; rw [HG.out, HS.out, decide_eq_true (by omega)]; rfl
 clear hm h6 HS HG
 subst h6'
 go_enter Tryz.func21, Tryz.ntmps21
 go_wp2_with fail
 go_quiet (fail)
 go_wp2_with fail
 clear hwr htd
 go_loopw [35] (fun i wr => ∃ k : Nat, k ≤ n ∧ i = .int .i64 k ∧ Hid ((l.take k).all VT.good = true) ∧ Ext w wr) (fun i _ => n - (intOf i).toNat)
 case atStart => exact ⟨0, by omega, rfl, by show _ = _; simp, xdNv X0 _⟩
 case round =>
  obtain ⟨k, hk, rfl, HA, X⟩ := hrel
  by_cases hlt : k < n
  ·
   obtain ⟨e, he⟩ : ∃ e, l[k]? = some e := ⟨_, List.getElem?_eq_getElem (by rw [HN.out]; exact hlt)⟩
   obtain ⟨b, o, rfl, hR⟩ := HRow.out (by omega)
   obtain ⟨a0, a1, a2, a3, a4⟩ := (hR.later X).five he
   have het := HT.out e (List.mem_of_getElem? he)
   have HY : Hid ((l.take (k + 1)).all VT.good = e.good) := by show _ = _; rw [all_step he, HA.out]; rfl
   have HZ : Hid (e.good = false → l.all VT.good = false) := fun hb => all_bad he hb
   have Y := x1 wr (.cells #[.int .i64 e.k, .bool e.n, .int .i64 e.d, .int .i64 e.x, sV e.t] 51)
   have hed := HD.out e (List.mem_of_getElem? he)
   have C := goodVI e.k e.n e.d e.x e.t _ het hed.1 hed.2 (HTT.out.later (xt X Y)) (HEE.out.later (xt X Y))
   change Calls _ _ _ _ fun r w' => r = .returned (.bool e.good) ∧ _ at C
   clear hed
   obtain ⟨q, hq⟩ : ∃ q, e.good = q := ⟨_, rfl⟩
   rw [hq] at C HY HZ
   clear hq
   obtain ⟨ek, en, ed, ex, et⟩ := e
   have i2 : (k : Int) < (n : Int) := by omega
   clear hR he HA
   dsimp only at a0 a1 a2 a3 a4 C Y
   go_wp2_with fail
   clear a0 a1 a2 a3 a4
   refine C.mono ?_
   rintro rr w' ⟨rfl, E⟩
   cases q
   ·
    have HB : Hid (false = R) := by show _ = _; rw [← HF.out]; exact (HZ.out rfl).symm
    go_wp2_with fail
    go_ret
    exact ⟨ret_bool HB.out, xt (xt X Y) E⟩
   ·
    go_wp2_with fail
    go_roundw
    case rel => exact ⟨k + 1, by omega, by go_num, HY, xt (xt X Y) E⟩
    case measure => simp [intOf]; omega
  ·
   obtain rfl : k = n := by omega
   have HB : Hid (true = R) := by
    show _ = _
    rw [← HF.out]
    have := HA.out
    rw [List.take_of_length_le (by rw [HN.out]; exact Nat.le_refl _)] at this
    exact this.symm
   clear HA
   go_wp2_with fail
   go_ret
   exact ⟨ret_bool HB.out, X⟩

def flatV : List VT → List Value
 | [] => []
 | x :: l => x.cells ++ flatV l
theorem flatV_append (l m : List VT) : flatV (l ++ m) = flatV l ++ flatV m := by
 induction l with
 | nil => rfl
 | cons x l ih => simp [flatV, ih]
theorem flatV_length (l : List VT) : (flatV l).length = l.length * 5 := by
 induction l with
 | nil => rfl
 | cons x l ih => simp [flatV, VT.cells, valL, ih]; omega
theorem flatV_at {l : List VT} {i : Nat} {x : VT} (h : l[i]? = some x) (j : Nat) (hj : j < 5) : (flatV l)[i * 5 + j]? = x.cells[j]? := by
 induction l generalizing i with
 | nil => cases h
 | cons y l ih =>
  have h5 : y.cells.length = 5 := rfl
  cases i with
  | zero =>
   have : y = x := by simpa using h
   subst this
   show (y.cells ++ flatV l)[0 * 5 + j]? = _
   rw [Nat.zero_mul, Nat.zero_add, List.getElem?_append_left (by omega)]
  | succ i =>
   show (y.cells ++ flatV l)[(i + 1) * 5 + j]? = _
   rw [List.getElem?_append_right (by omega), show (i + 1) * 5 + j - y.cells.length = i * 5 + j by omega]
   exact ih (by simpa using h)
/-- A row of values of one's own, that may grow. -/
abbrev OwnW (w : World) (base : Nat) (v : Value) (l : List VT) : Prop := w.ownsRow base 51 5 v l.length (flatV l)
theorem ownW_later {w w' : World} {base : Nat} {v : Value} {l : List VT} (h : OwnW w base v l) (hx : Ext w w') : OwnW w' base v l := by
 refine ⟨h.1, h.2.imp id ?_⟩
 rintro ⟨g, cap, cur, h1, h2, h3, h4⟩
 have hlt : g < w.heap.size := by
  rcases Nat.lt_or_ge g w.heap.size with h' | h'
  ·
   exact h'
  ·
   rw [Array.getElem?_eq_none h'] at h3; cases h3
 exact ⟨g, cap, cur, h1, h2, by rw [hx.block g hlt]; exact h3, h4⟩
theorem ownW_block {w : World} {base : Nat} {v : Value} {l : List VT} (h : OwnW w base v l) : ∀ r, v.ownBlock = some r → base ≤ r := by
 intro r hr
 rcases h.2 with ⟨rfl, _⟩ | ⟨g, cap, cur, rfl, h2, _⟩
 ·
  cases hr
 ·
  have : g = r := by simpa [Value.ownBlock] using hr
  omega
theorem ownW_base {w : World} {base base' : Nat} {v : Value} {l : List VT} (h : OwnW w base v l) (hb : base' ≤ base) : OwnW w base' v l := by
 refine ⟨h.1, h.2.imp id ?_⟩
 rintro ⟨g, cap, cur, h1, h2, h3⟩
 exact ⟨g, cap, cur, h1, Nat.le_trans hb h2, h3⟩
theorem ownW_lt {w : World} {base : Nat} {v : Value} {l : List VT} (h : OwnW w base v l) : ∀ g, v.ownBlock = some g → g < w.heap.size := by
 intro r hr
 rcases h.2 with ⟨rfl, _⟩ | ⟨g, cap, cur, rfl, _, h3, _⟩
 ·
  cases hr
 ·
  have : g = r := by simpa [Value.ownBlock] using hr
  subst this
  rcases Nat.lt_or_ge g w.heap.size with h' | h'
  ·
   exact h'
  ·
   rw [Array.getElem?_eq_none h'] at h3; cases h3
theorem ownW_slice {w : World} {base : Nat} {v : Value} {l : List VT} (h : OwnW w base v l) : ∃ p n c, v = .slice p n c := by
 rcases h.2 with ⟨rfl, _⟩ | ⟨g, cap, cur, rfl, _⟩
 ·
  exact ⟨_, _, _, rfl⟩
 ·
  exact ⟨_, _, _, rfl⟩
theorem ownW_vals {w : World} {base : Nat} {v : Value} {l : List VT} (h : OwnW w base v l) : ValsIn w v l := by
 rcases h.2 with ⟨rfl, h0⟩ | ⟨g, cap, cur, rfl, hb, hg, hc, _, hcs, htake⟩
 ·
  exact ⟨none, 0, by rw [h0], by omega, fun h => absurd h0 (by omega)⟩
 ·
  refine ⟨_, cap, rfl, hc, fun _ => ⟨g, 0, rfl, fun i e hi c u hu => ?_⟩⟩
  have := h.cells (g := g) rfl (i * 5 + c) u ((flatV_at hi c (cells_lt hu)).trans hu)
  rw [show (⟨g, 0, none⟩ : Addr).add (i * 5 + c) = ⟨g, 0 + i * 5 + c, none⟩ by unfold Addr.add; split <;> simp_all] at this
  exact this
theorem vec_same {w w' : World} {b : Nat} {l : List Value} (h : Vec w b l) (e : w'.heap[b]? = w.heap[b]?) : Vec w' b l := fun i u hi => by
 have := h i u hi
 unfold World.cell? World.frozen? at this ⊢
 simp only [e]
 exact this
theorem goodG_all {r c : Int} {l : List VT} (h : goodG r c l = true) : gsidesB r c l.length = true ∧ (∀ e ∈ l, e.good = true) ∧ (1 ≤ r ∧ r ≤ 2000) ∧ 1 ≤ c ∧ c ≤ 2000 := by
 unfold goodG at h
 rw [Bool.and_eq_true] at h
 have hs : 1 ≤ r ∧ 1 ≤ c ∧ r * c ≤ 2000 ∧ (l.length : Int) = r * c := of_decide_eq_true h.1
 have g1 : r ≤ r * c := by have := Int.mul_le_mul_of_nonneg_left (show (1 : Int) ≤ c by omega) (show 0 ≤ r by omega); omega
 have g2 : c ≤ r * c := by have := Int.mul_le_mul_of_nonneg_right (show (1 : Int) ≤ r by omega) (show 0 ≤ c by omega); omega
 exact ⟨h.1, List.all_eq_true.1 h.2, by omega⟩
theorem infoW : ∃ inf, Tryz.prog.info? 51 = some inf ∧ inf.zero = some (valV 0 false 0 0 []) ∧ inf.size = 5 ∧ inf.bytes = 48 := by
 obtain ⟨inf, e1, e2⟩ := Option.map_eq_some_iff.1 infoV
 simp only [Prod.mk.injEq] at e2
 exact ⟨inf, e1, e2.1, e2.2.1, e2.2.2⟩

set_option maxRecDepth 8000 in
set_option maxHeartbeats 2000000 in
theorem eqVals (v v' : Value) (l : List VT) (w : World) (h : ValsIn w v l) (h' : ValsIn w v' l) (hl : l.length ≤ 2000000) :
  Calls Tryz.prog 29 #[v, v'] w fun e w' => e = .returned (.bool true) ∧ Ext w w' := by
 obtain ⟨p, cap, rfl, hcap, hrow⟩ := h
 obtain ⟨p', cap', rfl, hcap', hrow'⟩ := h'
 obtain ⟨n, hn⟩ : ∃ n, l.length = n := ⟨_, rfl⟩
 have HN : Hid (l.length = n) := hn
 rw [hn] at hcap hcap' hl hrow hrow' ⊢
 have HRow : Hid (0 < n → ∃ b o, p = some ⟨b, o, none⟩ ∧ RowV w b o l) := hrow
 have HRow' : Hid (0 < n → ∃ b o, p' = some ⟨b, o, none⟩ ∧ RowV w b o l) := hrow'
 clear hn hrow hrow'
 go_enter Tryz.func29, Tryz.ntmps29
 go_wp2_with fail
 go_loopw [5] (fun i wr => ∃ k : Nat, k ≤ n ∧ i = .int .i64 k ∧ Ext w wr) (fun i _ => n - (intOf i).toNat)
 case atStart => exact ⟨0, by omega, rfl, xr _⟩
 case round =>
  obtain ⟨k, hk, rfl, X⟩ := hrel
  by_cases hlt : k < n
  ·
   obtain ⟨e, he⟩ : ∃ e, l[k]? = some e := ⟨_, List.getElem?_eq_getElem (by rw [HN.out]; exact hlt)⟩
   obtain ⟨b, o, rfl, hR⟩ := HRow.out (by omega)
   obtain ⟨b', o', rfl, hR'⟩ := HRow'.out (by omega)
   obtain ⟨a0, a1, a2, a3, a4⟩ := (hR.later X).five he
   obtain ⟨c0, c1, c2, c3, c4⟩ := (hR'.later X).five he
   obtain ⟨ek, en, ed, ex, et⟩ := e
   have i2 : (k : Int) < (n : Int) := by omega
   clear hR hR' he
   dsimp only at a0 a1 a2 a3 a4 c0 c1 c2 c3 c4
   go_wp2_with fail
   go_region_held3 (fun w' => (w'.cell? ⟨b, o + k * 5, none⟩ = some (.int .i64 ek) ∧ w'.cell? ⟨b, o + k * 5 + 1, none⟩ = some (.bool en) ∧ w'.cell? ⟨b, o + k * 5 + 2, none⟩ = some (.int .i64 ed) ∧ w'.cell? ⟨b, o + k * 5 + 3, none⟩ = some (.int .i64 ex) ∧ w'.cell? ⟨b, o + k * 5 + 4, none⟩ = some (sV et)) ∧ w'.cell? ⟨b', o' + k * 5, none⟩ = some (.int .i64 ek) ∧ w'.cell? ⟨b', o' + k * 5 + 1, none⟩ = some (.bool en) ∧ w'.cell? ⟨b', o' + k * 5 + 2, none⟩ = some (.int .i64 ed) ∧ w'.cell? ⟨b', o' + k * 5 + 3, none⟩ = some (.int .i64 ex) ∧ w'.cell? ⟨b', o' + k * 5 + 4, none⟩ = some (sV et)) (go_keep)
    (first
     | (go_at_call 48; refine (eqValue_same ek en ed ex et _).mono ?_; rintro e w' ⟨rfl, E⟩; have Y := xt (xd (xr _)) E; have r0 := cell_later Y a0; have r1 := cell_later Y a1; have r2 := cell_later Y a2; have r3 := cell_later Y a3; have r4 := cell_later Y a4; have s0 := cell_later Y c0; have s1 := cell_later Y c1; have s2 := cell_later Y c2; have s3 := cell_later Y c3; have s4 := cell_later Y c4))
   go_wp2_with fail
   go_roundw
   case rel => exact ⟨k + 1, by omega, by go_num, xt X Y⟩
   case measure => simp [intOf]; omega
  ·
   obtain rfl : k = n := by omega
   go_wp2_with fail
   go_ret
   exact ⟨rfl, X⟩

end Go.Proofs.YtgpfddneablcpaaGreatDoor

