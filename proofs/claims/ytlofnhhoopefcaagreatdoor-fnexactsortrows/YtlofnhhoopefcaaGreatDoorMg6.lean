/-
  Several texts in one: FrameS, V6d, V9e, V7e, W9a, W9b.
-/
import Derived.Test.YtlofnhhoopefcaaGreatDoorMg4
import Derived.Test.YtlofnhhoopefcaaGreatDoorY1a
import Derived.Deep.Strs
import Derived.Deep.Slices
import Derived.ChangeSlices
import Derived.Test.YtlofnhhoopefcaaGreatDoorMg3
import Derived.Deep.DeepCutAuto
import Derived.Deep.AppendLies
import Derived.OwnWalk
import Derived.Laws.OwnMore
namespace Go.Proofs.YtlofnhhoopefcaaGreatDoor
open Go.ChangeShapes Go.WideShapes Go.ChangeAt Go.RowKit

theorem trodS_any {H : Type} {enc : TypeId × Value → H} {P : Program} {w : World} {base : Nat} {sp : Nat → Bool} {held : Bool} {fuel : Nat} {t : TypeId} {fs : Array Field} {cs : List Value} {y : DataW H × List MemPlace}
  (ht : P.underlying t = some (.struct fs)) (h : DataW.trod enc P w base sp held fuel t cs = some y) (i : Nat) (f : Field) (hf : fs.toList[i]? = some f) :
  ∃ fuel' y', DataW.trod enc P w base sp held fuel' f.type ((cs.drop f.offset).take (P.cellsOf f.type)) = some y' := by
 cases fuel with
 | zero => simp [DataW.trod] at h
 | succ fuel =>
  simp only [DataW.trod, ht] at h
  split at h
  ·
   obtain ⟨xs, hm, hx⟩ := Option.map_eq_some_iff.1 h
   obtain ⟨b, hb, hf'⟩ := Lib.mapM_at hm i f hf
   exact ⟨fuel, b, hf'⟩
  ·
   cases h
theorem sortKey_fields : ∃ fs : Array Field, Tryz.prog.underlying 52 = some (.struct fs) ∧ ∃ f0 f1, fs.toList[0]? = some f0 ∧ fs.toList[1]? = some f1 ∧ (f0.type = 3 ∧ f0.offset = 0) ∧ (f1.type = 4 ∧ f1.offset = 1) :=
 ⟨_, Tryz.underlying52, _, _, rfl, rfl, ⟨rfl, rfl⟩, ⟨rfl, rfl⟩⟩
set_option maxRecDepth 100000 in
theorem sortKey_parts {H : Type} {enc : TypeId × Value → H} {W : World} {base : Nat} {sp : Nat → Bool} {held : Bool} {fuel : Nat} {cs : List Value} {y : DataW H × List MemPlace} (hlen : cs.length = 2)
  (h : DataW.trod enc Tryz.prog W base sp held fuel 52 cs = some y) : ∃ e : YT, cs = e.cells := by
 obtain ⟨c0, c1, rfl⟩ : ∃ c0 c1, cs = [c0, c1] := by
  match cs, hlen with
  | [c0, c1], _ => exact ⟨c0, c1, rfl⟩
 have k3 : Tryz.prog.cellsOf 3 = 1 := by kernel_rfl
 have k4 : Tryz.prog.cellsOf 4 = 1 := by kernel_rfl
 obtain ⟨fs, ht, f0, f1, q0, q1, ⟨t0, o0⟩, ⟨t1, o1⟩⟩ := sortKey_fields
 obtain ⟨n0, y0, g0⟩ := trodS_any ht h 0 f0 q0
 rw [t0, o0, k3] at g0
 obtain ⟨n1, y1, g1⟩ := trodS_any ht h 1 f1 q1
 rw [t1, o1, k4] at g1
 obtain ⟨a0, e0, _, _⟩ := DataW.trod_int Tryz.underlying3 g0
 obtain ⟨a1, e1, _⟩ := DataW.trod_bool Tryz.underlying4 g1
 simp at e0 e1
 subst e0 e1
 exact ⟨⟨a0, a1⟩, rfl⟩
set_option maxRecDepth 100000 in
/-- A row of keys that came in. -/
theorem open_sortkeys {H : Type} {enc : TypeId × Value → H} {W : World} {base : Nat} {v : Value} {d : DataW H} {p : List MemPlace}
  (hv : Value.okWide Tryz.prog W .any base 25 v) (h : DataW.Trod enc Tryz.prog W 0 (fun _ => true) true 25 v d p) :
  ∃ l : List YT, SortKeysIn W v l ∧ l.length ≤ maxLen := by
 obtain ⟨a0, len0, cap0, rfl⟩ := okWide_slice Tryz.underlying25 hv
 obtain ⟨fuel, hf⟩ := h
 have kv : Tryz.prog.cellsOf 52 = 2 := by kernel_rfl
 rcases Deep.open_slice Tryz.underlying25 hf with ⟨hcs, hx⟩ | ⟨a, len, cap, m, n', D, Pl, hcs, _, hl, hm, hmm, _, hx⟩
 ·
  simp [Value.cells] at hcs
  obtain ⟨rfl, rfl, rfl⟩ := hcs
  exact ⟨[], ⟨none, 0, rfl, Nat.le_refl _, fun h => by simp at h⟩, by simp⟩
 ·
  simp [Value.cells] at hcs
  obtain ⟨rfl, rfl, rfl⟩ := hcs
  simp only [if_true] at hmm
  subst hmm
  have each : ∀ i, i < len0 → ∃ e : YT, (∀ (c : Nat) (u : Value), e.cells[c]? = some u → W.cell? ((a.add (i * 2)).add c) = some u) := by
   intro i hi
   obtain ⟨cs', q1, q2⟩ := hx i (by omega)
   rw [kv] at q1
   obtain ⟨_, hlen, hcell⟩ := World.cells?_some q1
   obtain ⟨e, rfl⟩ := sortKey_parts hlen q2
   refine ⟨e, fun c u hc => ?_⟩
   have := hcell c (YT.cells_lt hc)
   rw [this, hc]
  obtain ⟨q, hq⟩ := @Deep.choose_lt YT ⟨zeroYT⟩ _ _ each
  refine ⟨(List.range len0).map q, ⟨some a, m, by simp, by simpa using hl, fun h0 => ?_⟩, by simp; omega⟩
  ·
   have h0' : 0 < len0 := by simpa using h0
   obtain ⟨pb, po, spt⟩ := a
   have hc0 := (hq 0 h0') 0 _ rfl
   have hsp : spt = none := by simpa [Addr.add] using World.cell?_spot hc0
   subst hsp
   refine ⟨pb, po, rfl, fun i e hi c u hc => ?_⟩
   rw [List.getElem?_map] at hi
   obtain ⟨j, hj, rfl⟩ := Option.map_eq_some_iff.1 hi
   have hji : j = i ∧ i < len0 := by
    rw [List.getElem?_eq_some_iff] at hj
    obtain ⟨hlt, hj⟩ := hj
    simp at hlt hj
    exact ⟨hj.symm, hlt⟩
   obtain ⟨rfl, hlt⟩ := hji
   have := (hq j hlt) c u hc
   rw [Addr.add_lit, Addr.add_lit] at this
   exact this

end Go.Proofs.YtlofnhhoopefcaaGreatDoor

namespace Go.Proofs.YtlofnhhoopefcaaGreatDoor
open Go.RowKit

abbrev trueT : List UInt8 := [84, 82, 85, 69]
abbrev falseT : List UInt8 := [70, 65, 76, 83, 69]
abbrev boolW (b : Bool) : Value := valV 3 false 0 0 (if b then trueT else falseT)
set_option maxHeartbeats 1000000 in
theorem textVI (l : List UInt8) (w : World) : Calls Tryz.prog 109 #[sV l] w fun e w' => e = .returned (valV 2 false 0 0 l) ∧ Ext w w' := by
 go_enter Tryz.func109, Tryz.ntmps109
 go_wp2
 exact bodyPost_ret (v := valV 2 false 0 0 l) (by simp [results, Tryz.results109, go_sem]) rfl ⟨rfl, by first | exact x1 _ _ | exact xa (x1 _ _) _⟩
set_option maxHeartbeats 1000000 in
theorem textVS (l : List UInt8) (w : World) : Calls Tryz.prog 85 #[sV l] w fun e w' => e = .returned (valV 2 false 0 0 l) ∧ Ext w w' := by
 go_enter Tryz.func85, Tryz.ntmps85
 go_wp2
 exact bodyPost_ret (v := valV 2 false 0 0 l) (by simp [results, Tryz.results85, go_sem]) rfl ⟨rfl, by first | exact x1 _ _ | exact xa (x1 _ _) _⟩
set_option maxHeartbeats 1000000 in
theorem numVI (n : Bool) (d x : Int) (w : World) : Calls Tryz.prog 106 #[decV n d x] w fun e w' => e = .returned (valV 1 n d x []) ∧ Ext w w' := by
 go_enter Tryz.func106, Tryz.ntmps106
 go_wp2
 exact bodyPost_ret (v := valV 1 n d x []) (by simp [results, Tryz.results106, go_sem]) rfl ⟨rfl, by first | exact x1 _ _ | exact xa (x1 _ _) _⟩
set_option maxHeartbeats 1000000 in
theorem numVS (n : Bool) (d x : Int) (w : World) : Calls Tryz.prog 84 #[decV n d x] w fun e w' => e = .returned (valV 1 n d x []) ∧ Ext w w' := by
 go_enter Tryz.func84, Tryz.ntmps84
 go_wp2
 exact bodyPost_ret (v := valV 1 n d x []) (by simp [results, Tryz.results84, go_sem]) rfl ⟨rfl, by first | exact x1 _ _ | exact xa (x1 _ _) _⟩
set_option maxHeartbeats 1000000 in
theorem boolVI (b : Bool) (w : World) : Calls Tryz.prog 108 #[.bool b] w fun e w' => e = .returned (boolW b) ∧ Ext w w' := by
 cases b
 ·
  go_enter Tryz.func108, Tryz.ntmps108
  go_wp2
  exact bodyPost_ret (v := valV 3 false 0 0 falseT) (by simp [results, Tryz.results108, go_sem, falseT]) rfl ⟨rfl, x1 _ _⟩
 ·
  go_enter Tryz.func108, Tryz.ntmps108
  go_wp2
  exact bodyPost_ret (v := valV 3 false 0 0 trueT) (by simp [results, Tryz.results108, go_sem, trueT]) rfl ⟨rfl, x1 _ _⟩
set_option maxHeartbeats 1000000 in
theorem boolVS (b : Bool) (w : World) : Calls Tryz.prog 86 #[.bool b] w fun e w' => e = .returned (boolW b) ∧ Ext w w' := by
 cases b
 ·
  go_enter Tryz.func86, Tryz.ntmps86
  go_wp2
  exact bodyPost_ret (v := valV 3 false 0 0 falseT) (by simp [results, Tryz.results86, go_sem, falseT]) rfl ⟨rfl, x1 _ _⟩
 ·
  go_enter Tryz.func86, Tryz.ntmps86
  go_wp2
  exact bodyPost_ret (v := valV 3 false 0 0 trueT) (by simp [results, Tryz.results86, go_sem, trueT]) rfl ⟨rfl, x1 _ _⟩
theorem goodV_num {n : Bool} {d x : Int} {t : List UInt8} (h : goodV 1 n d x t = true) : goodB n d x = true ∧ t = [] := by simpa [goodV] using h
theorem goodV_zero {k : Int} {n : Bool} {d x : Int} {t : List UInt8} (h : goodV k n d x t = true) (h1 : k ≠ 1) : n = false ∧ d = 0 ∧ x = 0 := by
 simp only [goodV, h1, if_false, Bool.and_eq_true] at h
 have := h.1
 simpa [zeroD, and_assoc] using this
theorem goodV_empty {n : Bool} {d x : Int} {t : List UInt8} (h : goodV 0 n d x t = true) : t = [] := by simpa [goodV] using (show _ ∧ _ by simpa [goodV] using h).2

theorem Vec.three {w : World} {b : Nat} {v0 v1 v2 : Value} (h : Vec w b [v0, v1, v2]) : w.cell? ⟨b, 0, none⟩ = some v0 ∧ w.cell? ⟨b, 1, none⟩ = some v1 ∧ w.cell? ⟨b, 2, none⟩ = some v2 :=
 ⟨(h 0 _ rfl).1, (h 1 _ rfl).1, (h 2 _ rfl).1⟩
theorem Vec.four {w : World} {b : Nat} {v0 v1 v2 v3 : Value} (h : Vec w b [v0, v1, v2, v3]) : w.cell? ⟨b, 0, none⟩ = some v0 ∧ w.cell? ⟨b, 1, none⟩ = some v1 ∧ w.cell? ⟨b, 2, none⟩ = some v2 ∧ w.cell? ⟨b, 3, none⟩ = some v3 :=
 ⟨(h 0 _ rfl).1, (h 1 _ rfl).1, (h 2 _ rfl).1, (h 3 _ rfl).1⟩
theorem Vec.five {w : World} {b : Nat} {v0 v1 v2 v3 v4 : Value} (h : Vec w b [v0, v1, v2, v3, v4]) : w.cell? ⟨b, 0, none⟩ = some v0 ∧ w.cell? ⟨b, 1, none⟩ = some v1 ∧ w.cell? ⟨b, 2, none⟩ = some v2 ∧ w.cell? ⟨b, 3, none⟩ = some v3 ∧ w.cell? ⟨b, 4, none⟩ = some v4 :=
 ⟨(h 0 _ rfl).1, (h 1 _ rfl).1, (h 2 _ rfl).1, (h 3 _ rfl).1, (h 4 _ rfl).1⟩
theorem Vec.fiveF {w : World} {b : Nat} {v0 v1 v2 v3 v4 : Value} (h : Vec w b [v0, v1, v2, v3, v4]) : w.frozen? ⟨b, 0, none⟩ = false ∧ w.frozen? ⟨b, 1, none⟩ = false ∧ w.frozen? ⟨b, 2, none⟩ = false ∧ w.frozen? ⟨b, 3, none⟩ = false ∧ w.frozen? ⟨b, 4, none⟩ = false :=
 ⟨(h 0 _ rfl).2, (h 1 _ rfl).2, (h 2 _ rfl).2, (h 3 _ rfl).2, (h 4 _ rfl).2⟩
/-- The last store into an answer's cells. -/
theorem fin5 {a w : World} {b : Nat} (V : Vec w b (valL 0 false 0 0 [])) (X : Ext a w) (hb : a.heap.size ≤ b) (k : Int) (n : Bool) (d x : Int) (t : List UInt8) :
  ∃ wy, (((((w.setCell ⟨b, 0, none⟩ (.int .i64 k)).setCell ⟨b, 1, none⟩ (.bool n)).setCell ⟨b, 2, none⟩ (.int .i64 d)).setCell ⟨b, 3, none⟩ (.int .i64 x)).setCell ⟨b, 4, none⟩ (sV t)) = wy ∧ Ext a wy ∧ (w.cell? ⟨b, 0, none⟩ = some (.int .i64 0) ∧ w.cell? ⟨b, 1, none⟩ = some (.bool false) ∧ w.cell? ⟨b, 2, none⟩ = some (.int .i64 0) ∧ w.cell? ⟨b, 3, none⟩ = some (.int .i64 0) ∧ w.cell? ⟨b, 4, none⟩ = some (sV [])) ∧ (w.frozen? ⟨b, 0, none⟩ = false ∧ w.frozen? ⟨b, 1, none⟩ = false ∧ w.frozen? ⟨b, 2, none⟩ = false ∧ w.frozen? ⟨b, 3, none⟩ = false ∧ w.frozen? ⟨b, 4, none⟩ = false) ∧ wy.cell? ⟨b, 0, none⟩ = some (.int .i64 k) ∧ wy.cell? ⟨b, 1, none⟩ = some (.bool n) ∧ wy.cell? ⟨b, 2, none⟩ = some (.int .i64 d) ∧ wy.cell? ⟨b, 3, none⟩ = some (.int .i64 x) ∧ wy.cell? ⟨b, 4, none⟩ = some (sV t) := by
 have FG := V.put5 (.int .i64 k) (.bool n) (.int .i64 d) (.int .i64 x) (sV t)
 have FX := Ext.setL (b := b) hb [.int .i64 k, .bool n, .int .i64 d, .int .i64 x, sV t] 0 X
 exact ⟨_, rfl, FX, V.five, V.fiveF, FG.five⟩
theorem mkB2 (w : World) (l0 l1 : List Value) (T0 T1 : TypeId) : ∃ u0 u1, w.alloc (.cells l0.toArray T0) = u0 ∧ u0.alloc (.cells l1.toArray T1) = u1 ∧ u0.heap.size = w.heap.size + 1 ∧ u1.heap.size = w.heap.size + 1 + 1 ∧ Vec u1 (w.heap.size) l0 ∧ Vec u1 (w.heap.size + 1) l1 ∧ Ext w u1 := by
 have X0 := x1 w (.cells l0.toArray T0)
 have B0 := vec_made w l0 T0
 obtain ⟨u0, h0⟩ : ∃ u, w.alloc (.cells l0.toArray T0) = u := ⟨_, rfl⟩
 rw [h0] at X0 B0
 have s0 : u0.heap.size = w.heap.size + 1 := by rw [← h0, World.size_alloc]
 have X := X0
 have X1 := x1 u0 (.cells l1.toArray T1)
 have B1 := vec_made u0 l1 T1
 obtain ⟨u1, h1⟩ : ∃ u, u0.alloc (.cells l1.toArray T1) = u := ⟨_, rfl⟩
 rw [h1] at X1 B1
 rw [s0] at B1
 have s1 : u1.heap.size = w.heap.size + 1 + 1 := by rw [← h1, World.size_alloc, s0]
 have B0 := B0.later X1
 have X := xt X X1
 exact ⟨u0, u1, h0, h1, s0, s1, B0, B1, X⟩

theorem xdNv {a b : World} (h : Ext a b) (n : Nat) : Ext a (b.drewN n) := ⟨h.os, h.tape, h.output, h.size, h.block⟩
set_option maxRecDepth 8000 in
set_option maxHeartbeats 2000000 in
theorem goodGI (r c : Int) (v : Value) (l : List VT) (w : World) (h : ValsIn w v l) (hl : l.length ≤ 2000000) (ht : ∀ e ∈ l, e.t.length ≤ 2000000) (hd : ∀ e ∈ l, -9223372036854775808 ≤ e.d ∧ e.d ≤ 9223372036854775807) (hT : Tens w) (hE : ErrTab w) :
  Calls Tryz.prog 27 #[grV r c v] w fun e w' => e = .returned (.bool (goodG r c l)) ∧ Ext w w' := by
 obtain ⟨p, cap, rfl, hcap, hrow⟩ := h
 obtain ⟨n, hn⟩ : ∃ n, l.length = n := ⟨_, rfl⟩
 have HN : Hid (l.length = n) := hn
 have HG : Hid (goodG r c l = (gsidesB r c n && l.all VT.good)) := by show _ = _; unfold goodG; rw [hn]
 obtain ⟨R, hR⟩ : ∃ R, goodG r c l = R := ⟨_, rfl⟩
 rw [hR] at HG ⊢
 rw [hn] at hcap hl hrow ⊢
 have HRow : Hid (0 < n → ∃ b o, p = some ⟨b, o, none⟩ ∧ RowV w b o l) := hrow
 have HT : Hid (∀ e ∈ l, e.t.length ≤ 2000000) := ht
 have X0 := x1 w (.cells #[.int .i64 r, .int .i64 c, .slice p n cap] 32)
 have HD : Hid (∀ e ∈ l, -9223372036854775808 ≤ e.d ∧ e.d ≤ 9223372036854775807) := hd
 have HTT : Hid (Tens w) := hT
 have HEE : Hid (ErrTab w) := hE
 clear hn hrow hR ht hd hT hE
 by_cases h1 : r < 1
 ·
  have HF : Hid (false = R) := by show _ = _; rw [HG.out, show gsidesB r c n = false by simp [gsidesB]; omega]; rfl
  have g1 : decide (r < 1) = true := by simpa using h1
  go_enter Tryz.func27, Tryz.ntmps27
  go_wp2_with fail
  go_quiet (fail)
  go_wp2_with fail
  go_ret
  exact ⟨ret_bool HF.out, xdNv X0 _⟩
 have g1 : decide (r < 1) = false := by simpa using h1
 by_cases h2 : c < 1
 ·
  have HF : Hid (false = R) := by show _ = _; rw [HG.out, show gsidesB r c n = false by simp [gsidesB]; omega]; rfl
  have g2 : decide (c < 1) = true := by simpa using h2
  go_enter Tryz.func27, Tryz.ntmps27
  go_wp2_with fail
  go_quiet (fail)
  go_wp2_with fail
  go_ret
  exact ⟨ret_bool HF.out, xdNv X0 _⟩
 have g2 : decide (c < 1) = false := by simpa using h2
 have hdiv : r ≤ 2000 / c ↔ r * c ≤ 2000 := Int.le_ediv_iff_mul_le (by omega)
 have htd : Int.tdiv 2000 c = 2000 / c := Int.tdiv_eq_ediv_of_nonneg (by omega)
 obtain ⟨dv, hdv⟩ : ∃ dv, 2000 / c = dv := ⟨_, rfl⟩
 have dv0 : 0 ≤ dv := by rw [← hdv]; exact Int.ediv_nonneg (by omega) (by omega)
 have dv1 : dv ≤ 2000 := by rw [← hdv]; exact Int.ediv_le_self c (by omega)
 rw [hdv] at hdiv htd
 clear hdv
 by_cases h5 : dv < r
 ·
  have HF : Hid (false = R) := by
   show _ = _
   rw [HG.out, show gsidesB r c n = false by simp only [gsidesB, decide_eq_false_iff_not]; omega]; rfl
  have g5 : decide (dv < r) = true := by simpa using h5
  clear hdiv
  go_enter Tryz.func27, Tryz.ntmps27
  go_wp2_with fail
  go_quiet (fail)
  go_wp2_with fail
  go_ret
  exact ⟨ret_bool HF.out, xdNv X0 _⟩
 have g5 : decide (dv < r) = false := by simpa using h5
 obtain ⟨m, hm⟩ : ∃ m, r * c = m := ⟨_, rfl⟩
 rw [hm] at hdiv
 have m2 : m ≤ 2000 := by omega
 have m1 : 1 ≤ m := by rw [← hm]; have := Int.mul_le_mul_of_nonneg_left (show (1 : Int) ≤ c by omega) (show 0 ≤ r by omega); omega
 have hwr : IntKind.i64.wrap (r * c) = m := by rw [hm, IntKind.wrap_i64]; omega
 have HS : Hid (gsidesB r c n = decide (m ≤ 2000 ∧ (n : Int) = m)) := by
  show _ = _
  unfold gsidesB
  rw [hm]
  exact decide_eq_decide.2 (by omega)
 clear hdiv
 by_cases h6 : (n : Int) ≠ m
 ·
  have HF : Hid (false = R) := by show _ = _; rw [HG.out, HS.out, decide_eq_false (by omega)]; rfl
  clear hm
  have g6 : ((n : Int) != m) = true := by simpa using h6
  go_enter Tryz.func27, Tryz.ntmps27
  go_wp2_with fail
  go_quiet (fail)
  go_wp2_with fail
  go_ret
  exact ⟨ret_bool HF.out, xdNv X0 _⟩
 have h6' : (n : Int) = m := by omega
 have HF : Hid (l.all VT.good = R) := by show _ = _; rw [HG.out, HS.out, decide_eq_true (by omega)]; rfl
 clear hm h6 HS HG
 subst h6'
 go_enter Tryz.func27, Tryz.ntmps27
 go_wp2_with fail
 go_quiet (fail)
 go_wp2_with fail
 clear hwr htd
 go_loopw [35] (fun i wr => ∃ k : Nat, k ≤ n ∧ i = .int .i64 k ∧ Hid ((l.take k).all VT.good = true) ∧ Ext w wr) (fun i _ => n - (intOf i).toNat)
 case atStart => exact ⟨0, by omega, rfl, by show _ = _; simp, xdNv X0 _⟩
 case round =>
  obtain ⟨k, hk, rfl, HA, X⟩ := hrel
  by_cases hlt : k < n
  ·
   obtain ⟨e, he⟩ : ∃ e, l[k]? = some e := ⟨_, List.getElem?_eq_getElem (by rw [HN.out]; exact hlt)⟩
   obtain ⟨b, o, rfl, hR⟩ := HRow.out (by omega)
   obtain ⟨a0, a1, a2, a3, a4⟩ := (hR.later X).five he
   have het := HT.out e (List.mem_of_getElem? he)
   have HY : Hid ((l.take (k + 1)).all VT.good = e.good) := by show _ = _; rw [all_step he, HA.out]; rfl
   have HZ : Hid (e.good = false → l.all VT.good = false) := fun hb => all_bad he hb
   have Y := x1 wr (.cells #[.int .i64 e.k, .bool e.n, .int .i64 e.d, .int .i64 e.x, sV e.t] 70)
   have hed := HD.out e (List.mem_of_getElem? he)
   have C := goodVI e.k e.n e.d e.x e.t _ het hed.1 hed.2 (HTT.out.later (xt X Y)) (HEE.out.later (xt X Y))
   change Calls _ _ _ _ fun r w' => r = .returned (.bool e.good) ∧ _ at C
   clear hed
   obtain ⟨q, hq⟩ : ∃ q, e.good = q := ⟨_, rfl⟩
   rw [hq] at C HY HZ
   clear hq
   obtain ⟨ek, en, ed, ex, et⟩ := e
   have i2 : (k : Int) < (n : Int) := by omega
   clear hR he HA
   dsimp only at a0 a1 a2 a3 a4 C Y
   go_wp2_with fail
   clear a0 a1 a2 a3 a4
   refine C.mono ?_
   rintro rr w' ⟨rfl, E⟩
   cases q
   ·
    have HB : Hid (false = R) := by show _ = _; rw [← HF.out]; exact (HZ.out rfl).symm
    go_wp2_with fail
    go_ret
    exact ⟨ret_bool HB.out, xt (xt X Y) E⟩
   ·
    go_wp2_with fail
    go_roundw
    case rel => exact ⟨k + 1, by omega, by go_num, HY, xt (xt X Y) E⟩
    case measure => simp [intOf]; omega
  ·
   obtain rfl : k = n := by omega
   have HB : Hid (true = R) := by
    show _ = _
    rw [← HF.out]
    have := HA.out
    rw [List.take_of_length_le (by rw [HN.out]; exact Nat.le_refl _)] at this
    exact this.symm
   clear HA
   go_wp2_with fail
   go_ret
   exact ⟨ret_bool HB.out, X⟩

/-- The cell that comes to stand at a place. -/
def cellAt (r c : Int) (l : List VT) (i j : Int) : Option VT :=
 if (if r = 1 then 0 else i) < r ∧ (if c = 1 then 0 else j) < c then l[((if r = 1 then 0 else i) * c + (if c = 1 then 0 else j)).toNat]? else none

def flatV : List VT → List Value
 | [] => []
 | x :: l => x.cells ++ flatV l
theorem flatV_length (l : List VT) : (flatV l).length = l.length * 5 := by
 induction l with
 | nil => rfl
 | cons x l ih => simp [flatV, VT.cells, valL, ih]; omega
theorem flatV_at {l : List VT} {i : Nat} {x : VT} (h : l[i]? = some x) (j : Nat) (hj : j < 5) : (flatV l)[i * 5 + j]? = x.cells[j]? := by
 induction l generalizing i with
 | nil => cases h
 | cons y l ih =>
  have h5 : y.cells.length = 5 := rfl
  cases i with
  | zero =>
   have : y = x := by simpa using h
   subst this
   show (y.cells ++ flatV l)[0 * 5 + j]? = _
   rw [Nat.zero_mul, Nat.zero_add, List.getElem?_append_left (by omega)]
  | succ i =>
   show (y.cells ++ flatV l)[(i + 1) * 5 + j]? = _
   rw [List.getElem?_append_right (by omega), show (i + 1) * 5 + j - y.cells.length = i * 5 + j by omega]
   exact ih (by simpa using h)
theorem vec_same {w w' : World} {b : Nat} {l : List Value} (h : Vec w b l) (e : w'.heap[b]? = w.heap[b]?) : Vec w' b l := fun i u hi => by
 have := h i u hi
 unfold World.cell? World.frozen? at this ⊢
 simp only [e]
 exact this
theorem goodG_all {r c : Int} {l : List VT} (h : goodG r c l = true) : gsidesB r c l.length = true ∧ (∀ e ∈ l, e.good = true) ∧ (1 ≤ r ∧ r ≤ 2000) ∧ 1 ≤ c ∧ c ≤ 2000 := by
 unfold goodG at h
 rw [Bool.and_eq_true] at h
 have hs : 1 ≤ r ∧ 1 ≤ c ∧ r * c ≤ 2000 ∧ (l.length : Int) = r * c := of_decide_eq_true h.1
 have g1 : r ≤ r * c := by have := Int.mul_le_mul_of_nonneg_left (show (1 : Int) ≤ c by omega) (show 0 ≤ r by omega); omega
 have g2 : c ≤ r * c := by have := Int.mul_le_mul_of_nonneg_right (show (1 : Int) ≤ r by omega) (show 0 ≤ c by omega); omega
 exact ⟨h.1, List.all_eq_true.1 h.2, by omega⟩
end Go.Proofs.YtlofnhhoopefcaaGreatDoor

