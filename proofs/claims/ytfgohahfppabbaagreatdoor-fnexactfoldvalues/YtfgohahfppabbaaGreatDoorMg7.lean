/-
  Several texts in one: V6b, V6c, V7a, V7b, V7c, V7d, FrameG, FrameVs, V6d, Bx, V9e, Fb.
-/
import Derived.Test.YtfgohahfppabbaaGreatDoorMg6
import Derived.Deep.MidRow
import Derived.Laws.MakeOwn
import Derived.BigQuiet
import Derived.Deep.QuietTactic
import Derived.Deep.Slices
import Derived.ChangeSlices
namespace Go.Proofs.YtfgohahfppabbaaGreatDoor
open Go.RowKit

/-- Stores in a row, from an offset on. -/
def setL (w : World) (b : Nat) : Nat → List Value → World
 | _, [] => w
 | o, v :: vs => setL (w.setCell ⟨b, o, none⟩ v) b (o + 1) vs
theorem Vec.farL {b k : Nat} {l : List Value} (hk : k ≠ b) : ∀ (us : List Value) (o : Nat) {w : World}, Vec w b l → Vec (setL w k o us) b l
 | [], _, _, h => h
 | u :: us, o, _, h => Vec.farL hk us (o + 1) (h.far hk u)
theorem Ext.setL {a : World} {b : Nat} (hb : a.heap.size ≤ b) : ∀ (us : List Value) (o : Nat) {w : World}, Ext a w → Ext a (setL w b o us)
 | [], _, _, h => h
 | u :: us, o, _, h => Ext.setL hb us (o + 1) (xset h hb u)
theorem Vec.put5 {w : World} {b : Nat} {v0 v1 v2 v3 v4 : Value} (h : Vec w b [v0, v1, v2, v3, v4]) (u0 u1 u2 u3 u4 : Value) : Vec (setL w b 0 [u0, u1, u2, u3, u4]) b [u0, u1, u2, u3, u4] :=
 ((((h.put 0 (by simp) u0).put 1 (by simp) u1).put 2 (by simp) u2).put 3 (by simp) u3).put 4 (by simp) u4

set_option maxRecDepth 8000 in
set_option maxHeartbeats 1000000 in
theorem toValue (k : Int) (n : Bool) (d x : Int) (t : List UInt8) (w : World) :
  Calls Tryz.prog 14 #[valV k n d x t] w fun e w' => e = .returned (valV k n d x t) ∧ Ext w w' := by
 have X1 := x1 w (.cells #[.int .i64 k, .bool n, .int .i64 d, .int .i64 x, sV t] 37)
 have B1 := vec_made w (valL k n d x t) 37
 obtain ⟨wa, ha⟩ : ∃ wa, w.alloc (.cells #[.int .i64 k, .bool n, .int .i64 d, .int .i64 x, sV t] 37) = wa := ⟨_, rfl⟩
 have B2 := vec_made wa (valL 0 false 0 0 []) 27
 have X2 := x1 wa (.cells #[.int .i64 0, .bool false, .int .i64 0, .int .i64 0, sV []] 27)
 obtain ⟨wb, hb⟩ : ∃ wb, wa.alloc (.cells #[.int .i64 0, .bool false, .int .i64 0, .int .i64 0, sV []] 27) = wb := ⟨_, rfl⟩
 have B3 := vec_made wb (valL 0 false 0 0 []) 27
 have X3 := x1 wb (.cells #[.int .i64 0, .bool false, .int .i64 0, .int .i64 0, sV []] 27)
 have sa : wa.heap.size = w.heap.size + 1 := by rw [← ha, World.size_alloc]
 have sb : wb.heap.size = w.heap.size + 1 + 1 := by rw [← hb, World.size_alloc, sa]
 change Vec (w.alloc (.cells #[.int .i64 k, .bool n, .int .i64 d, .int .i64 x, sV t] 37)) _ _ at B1
 change Vec (wa.alloc (.cells #[.int .i64 0, .bool false, .int .i64 0, .int .i64 0, sV []] 27)) _ _ at B2
 change Vec (wb.alloc (.cells #[.int .i64 0, .bool false, .int .i64 0, .int .i64 0, sV []] 27)) _ _ at B3
 rw [ha] at X1 B1
 rw [hb] at X2 B2
 rw [sa] at B2
 rw [sb] at B3
 have X := xt (xt X1 X2) X3
 have B1 := (B1.later X2).later X3
 have B2 := B2.later X3
 clear X1 X2 X3
 obtain ⟨wc, hc⟩ : ∃ wc, wb.alloc (.cells #[.int .i64 0, .bool false, .int .i64 0, .int .i64 0, sV []] 27) = wc := ⟨_, rfl⟩
 rw [hc] at B1 B2 B3 X
 have a0 := (B1 0 _ rfl).1
 have a1 := (B1 1 _ rfl).1
 have a2 := (B1 2 _ rfl).1
 have a3 := (B1 3 _ rfl).1
 have c0 := (B3 0 _ rfl).1
 have f0 := (B3 0 _ rfl).2
 go_enter Tryz.func14, Tryz.ntmps14
 go_wp2_with fail
 clear ha hb hc sa sb a0 a1 a2 a3 c0 f0
 refine (toDec n d x _).mono ?_
 rintro e w1 ⟨rfl, e1⟩
 have C1 := (B1.far (p := ⟨w.heap.size + 1 + 1, 0, none⟩) (by show w.heap.size + 1 + 1 ≠ _; omega) (.int .i64 k)).later e1
 have C2 := (B2.far (p := ⟨w.heap.size + 1 + 1, 0, none⟩) (by show w.heap.size + 1 + 1 ≠ _; omega) (.int .i64 k)).later e1
 have C3 : Vec w1 (w.heap.size + 1 + 1) (valL k false 0 0 []) := (B3.put 0 (by simp) (.int .i64 k)).later e1
 have X1 := xt (xset X (p := ⟨w.heap.size + 1 + 1, 0, none⟩) (by show _ ≤ w.heap.size + 1 + 1; omega) (.int .i64 k)) e1
 clear B1 B2 B3 X e1
 obtain ⟨wd, hd⟩ : ∃ wd, setL w1 (w.heap.size + 1 + 1) 1 [.bool n, .int .i64 d, .int .i64 x, sV t] = wd := ⟨_, rfl⟩
 have D2 := C2.farL (k := w.heap.size + 1 + 1) (by omega) [.bool n, .int .i64 d, .int .i64 x, sV t] 1
 have D3 : Vec (setL w1 (w.heap.size + 1 + 1) 1 [.bool n, .int .i64 d, .int .i64 x, sV t]) (w.heap.size + 1 + 1) (valL k n d x t) := (((C3.put 1 (by simp) (.bool n)).put 2 (by simp) (.int .i64 d)).put 3 (by simp) (.int .i64 x)).put 4 (by simp) (sV t)
 have Y := Ext.setL (b := w.heap.size + 1 + 1) (by omega) [.bool n, .int .i64 d, .int .i64 x, sV t] 1 X1
 rw [hd] at D2 D3 Y
 have hd : (((w1.setCell ⟨w.heap.size + 1 + 1, 1, none⟩ (.bool n)).setCell ⟨w.heap.size + 1 + 1, 2, none⟩ (.int .i64 d)).setCell ⟨w.heap.size + 1 + 1, 3, none⟩ (.int .i64 x)).setCell ⟨w.heap.size + 1 + 1, 4, none⟩ (sV t) = wd := hd
 have G2 := D2.put5 (.int .i64 k) (.bool n) (.int .i64 d) (.int .i64 x) (sV t)
 have Z := Ext.setL (b := w.heap.size + 1) (by omega) [.int .i64 k, .bool n, .int .i64 d, .int .i64 x, sV t] 0 Y
 obtain ⟨wy, hy⟩ : ∃ wy, setL wd (w.heap.size + 1) 0 [.int .i64 k, .bool n, .int .i64 d, .int .i64 x, sV t] = wy := ⟨_, rfl⟩
 rw [hy] at G2 Z
 have hy : ((((wd.setCell ⟨w.heap.size + 1, 0, none⟩ (.int .i64 k)).setCell ⟨w.heap.size + 1, 1, none⟩ (.bool n)).setCell ⟨w.heap.size + 1, 2, none⟩ (.int .i64 d)).setCell ⟨w.heap.size + 1, 3, none⟩ (.int .i64 x)).setCell ⟨w.heap.size + 1, 4, none⟩ (sV t) = wy := hy
 have a4 := (C1 4 _ rfl).1
 have k0 := (C3 0 _ rfl).1
 have k1 := (C3 1 _ rfl).1
 have k2 := (C3 2 _ rfl).1
 have k3 := (C3 3 _ rfl).1
 have k4 := (C3 4 _ rfl).1
 have f1 := (C3 1 _ rfl).2
 have f2 := (C3 2 _ rfl).2
 have f3 := (C3 3 _ rfl).2
 have f4 := (C3 4 _ rfl).2
 have m0 := (D3 0 _ rfl).1
 have m1 := (D3 1 _ rfl).1
 have m2 := (D3 2 _ rfl).1
 have m3 := (D3 3 _ rfl).1
 have m4 := (D3 4 _ rfl).1
 have b0 := (D2 0 _ rfl).1
 have b1 := (D2 1 _ rfl).1
 have b2 := (D2 2 _ rfl).1
 have b3 := (D2 3 _ rfl).1
 have b4 := (D2 4 _ rfl).1
 have g0 := (D2 0 _ rfl).2
 have g1 := (D2 1 _ rfl).2
 have g2 := (D2 2 _ rfl).2
 have g3 := (D2 3 _ rfl).2
 have g4 := (D2 4 _ rfl).2
 have d0 := (G2 0 _ rfl).1
 have d1 := (G2 1 _ rfl).1
 have d2 := (G2 2 _ rfl).1
 have d3 := (G2 3 _ rfl).1
 have d4 := (G2 4 _ rfl).1
 clear C1 C2 C3 D2 D3 G2 X1 Y
 go_wp2_with fail
 exact bodyPost_ret (v := valV k n d x t) (by simp [results, Tryz.results14, go_sem, d0, d1, d2, d3, d4]) rfl ⟨rfl, Z⟩

set_option maxHeartbeats 1000000 in
theorem szValue (k : Int) (n : Bool) (d x : Int) (t : List UInt8) (m : Int) (w : World) (h0 : 0 ≤ m) (h1 : m ≤ 1048576) (hl : (t.length : Int) ≤ 9223372036854775807) :
  Calls Tryz.prog 10 #[valV k n d x t, .int .i64 m] w fun e w' => e = .returned (.int .i64 (if m < t.length then -1 else m - t.length)) ∧ Ext w w' := by
 have X0 := x1 w (.cells #[.int .i64 k, .bool n, .int .i64 d, .int .i64 x, sV t] 37)
 obtain ⟨L, hL⟩ : ∃ L, t.length = L := ⟨_, rfl⟩
 have hs : (⟨t.toArray⟩ : ByteArray).size = L := hL
 rw [hL] at hl ⊢
 clear hL
 by_cases hm : m < L
 ·
  rw [if_pos hm]
  go_enter Tryz.func10, Tryz.ntmps10
  go_wp2_with fail
  go_ret
  exact ⟨rfl, X0⟩
 ·
  rw [if_neg hm]
  go_enter Tryz.func10, Tryz.ntmps10
  go_wp2_with fail
  go_ret
  exact ⟨ret_int (by first | rfl | omega), X0⟩

set_option maxHeartbeats 1000000 in
theorem eqDecV_same (n : Bool) (d x : Int) (w : World) :
  Calls Tryz.prog 29 #[decV n d x, decV n d x] w fun e w' => e = .returned (.bool true) ∧ Ext w w' := by
 go_enter Tryz.func29, Tryz.ntmps29
 go_wp2
 all_goals go_ret
 all_goals first | exact ⟨rfl, xa (x1 _ _) _⟩ | simp_all
set_option maxRecDepth 8000 in
set_option maxHeartbeats 1000000 in
theorem eqValue_same (k : Int) (n : Bool) (d x : Int) (t : List UInt8) (w : World) :
  Calls Tryz.prog 8 #[valV k n d x t, valV k n d x t] w fun e w' => e = .returned (.bool true) ∧ Ext w w' := by
 have B1 := vec_made w (valL k n d x t) 27
 have B2 := vec_made (w.alloc (.cells (valL k n d x t).toArray 27)) (valL k n d x t) 27
 have X := xa (x1 w (.cells #[.int .i64 k, .bool n, .int .i64 d, .int .i64 x, sV t] 27)) (.cells #[.int .i64 k, .bool n, .int .i64 d, .int .i64 x, sV t] 27)
 have B1 := B1.later (x1 _ (.cells #[.int .i64 k, .bool n, .int .i64 d, .int .i64 x, sV t] 27))
 rw [World.size_alloc] at B2
 have hp : (t == t) = true := by simp
 go_enter Tryz.func8, Tryz.ntmps8
 go_wp2_with fail
 refine (eqDecV_same _ _ _ _).mono ?_
 rintro e w1 ⟨rfl, e1⟩
 have a4 := ((B1.later e1) 4 _ rfl).1
 have b4 := ((B2.later e1) 4 _ rfl).1
 go_wp2_with fail
 go_ret
 exact ⟨rfl, xt X e1⟩

structure VT where
 k : Int
 n : Bool
 d : Int
 x : Int
 t : List UInt8
abbrev VT.cells (e : VT) : List Value := valL e.k e.n e.d e.x e.t
abbrev VT.val (e : VT) : Value := valV e.k e.n e.d e.x e.t
/-- A row of values from a place on. -/
def RowV (w : World) (b o : Nat) (l : List VT) : Prop := ∀ (i : Nat) (e : VT), l[i]? = some e → ∀ (c : Nat) (u : Value), e.cells[c]? = some u → w.cell? ⟨b, o + i * 5 + c, none⟩ = some u
theorem RowV.later {w w' : World} {b o : Nat} {l : List VT} (h : RowV w b o l) (x : Ext w w') : RowV w' b o l := fun i e hi c u hc => cell_later x (h i e hi c u hc)
theorem RowV.five {w : World} {b o : Nat} {l : List VT} (h : RowV w b o l) {k : Nat} {e : VT} (he : l[k]? = some e) :
  w.cell? ⟨b, o + k * 5, none⟩ = some (.int .i64 e.k) ∧ w.cell? ⟨b, o + k * 5 + 1, none⟩ = some (.bool e.n) ∧ w.cell? ⟨b, o + k * 5 + 2, none⟩ = some (.int .i64 e.d) ∧ w.cell? ⟨b, o + k * 5 + 3, none⟩ = some (.int .i64 e.x) ∧ w.cell? ⟨b, o + k * 5 + 4, none⟩ = some (sV e.t) :=
 ⟨h k e he 0 _ rfl, h k e he 1 _ rfl, h k e he 2 _ rfl, h k e he 3 _ rfl, h k e he 4 _ rfl⟩
/-- A slice of values that lies somewhere. -/
def ValsIn (w : World) (v : Value) (l : List VT) : Prop :=
 ∃ p cap, v = .slice p l.length cap ∧ l.length ≤ cap ∧ (0 < l.length → ∃ b o, p = some ⟨b, o, none⟩ ∧ RowV w b o l)
theorem ValsIn.later {w w' : World} {v : Value} {l : List VT} (h : ValsIn w v l) (x : Ext w w') : ValsIn w' v l := by
 obtain ⟨p, cap, h1, h2, h3⟩ := h
 refine ⟨p, cap, h1, h2, fun h0 => ?_⟩
 obtain ⟨b, o, h4, h5⟩ := h3 h0
 exact ⟨b, o, h4, h5.later x⟩

set_option maxRecDepth 8000 in
set_option maxHeartbeats 1000000 in
/-- How much room values take, as the law asks. -/
theorem szVals (v : Value) (l : List VT) (m : Int) (w : World) (h : ValsIn w v l) (m0 : 0 ≤ m) (m1 : m ≤ 1048576) (hl : l.length ≤ 9223372036854775807) (ht : ∀ e ∈ l, e.t.length ≤ 9223372036854775807) :
  Calls Tryz.prog 4 #[v, .int .i64 m] w fun e w' => (∃ r : Int, e = .returned (.int .i64 r) ∧ -1 ≤ r ∧ r ≤ m ∧ (0 ≤ r → (l.length : Int) ≤ m ∧ ∀ q ∈ l, (q.t.length : Int) ≤ m)) ∧ Ext w w' := by
 obtain ⟨p, cap, rfl, hcap, hrow⟩ := h
 obtain ⟨n, hn⟩ : ∃ n, l.length = n := ⟨_, rfl⟩
 have HN : Hid (l.length = n) := hn
 rw [hn] at hcap hl hrow ⊢
 clear hn
 by_cases hb : m < n
 ·
  go_enter Tryz.func4, Tryz.ntmps4
  go_wp2_with fail
  go_ret
  exact ⟨⟨-1, rfl, by omega, by omega, fun h => by omega⟩, xr _⟩
 ·
  have HRow : Hid (0 < n → ∃ b o, p = some ⟨b, o, none⟩ ∧ RowV w b o l) := hrow
  have HT : Hid (∀ e ∈ l, e.t.length ≤ 9223372036854775807) := ht
  clear hrow ht
  go_enter Tryz.func4, Tryz.ntmps4
  go_wp2_with fail
  go_loopw [1, 5] (fun r i wr => ∃ (k : Nat) (z : Int), k ≤ n ∧ i = .int .i64 k ∧ r = .int .i64 z ∧ 0 ≤ z ∧ z ≤ m ∧ Hid (∀ q ∈ l.take k, (q.t.length : Int) ≤ m) ∧ Ext w wr) (fun _ i _ => n - (intOf i).toNat)
  case atStart => exact ⟨0, m - n, by omega, rfl, by go_num, by omega, by omega, by intro q hq; simp at hq, xr _⟩
  case round =>
   obtain ⟨k, z, hk, rfl, rfl, z0, z1, HA, X⟩ := hrel
   by_cases hlt : k < n
   ·
    obtain ⟨e, he⟩ : ∃ e, l[k]? = some e := ⟨_, List.getElem?_eq_getElem (by rw [HN.out]; exact hlt)⟩
    obtain ⟨b, o, rfl, hR⟩ := HRow.out (by omega)
    obtain ⟨a0, a1, a2, a3, a4⟩ := (hR.later X).five he
    have hT := HT.out e (List.mem_of_getElem? he)
    have HE : Hid (l.take (k + 1) = l.take k ++ [e]) := by
     show _ = _
     rw [List.take_add_one, he]
     rfl
    obtain ⟨ek, en, ed, ex, et⟩ := e
    have i2 : (k : Int) < (n : Int) := by omega
    clear hR he
    dsimp only at a0 a1 a2 a3 a4 hT
    go_wp2_with fail
    refine (szValue ek en ed ex et z _ z0 (by omega) (by omega)).mono ?_
    rintro r w' ⟨rfl, E⟩
    by_cases hz : z < et.length
    ·
     rw [if_pos hz]
     clear a0 a1 a2 a3 a4
     go_wp2_with fail
     go_ret
     exact ⟨⟨-1, rfl, by omega, by omega, fun h => by omega⟩, xt X E⟩
    ·
     rw [if_neg hz]
     obtain ⟨z', hz'⟩ : ∃ z' : Int, z - et.length = z' := ⟨_, rfl⟩
     have h0' : 0 ≤ z' := by omega
     have h1' : z' ≤ m := by omega
     have HL : Hid ((et.length : Int) ≤ m) := by show _ ≤ _; omega
     rw [hz']
     clear a0 a1 a2 a3 a4 hz' hz hT
     go_wp2_with fail
     go_roundw
     case rel =>
      refine ⟨k + 1, z', by omega, by go_num, rfl, h0', h1', ?_, xt X E⟩
      intro q hq
      rw [HE.out] at hq
      rcases List.mem_append.1 hq with hq | hq
      ·
       exact HA.out q hq
      ·
       obtain rfl := List.mem_singleton.1 hq
       exact HL.out
     case measure => simp [intOf]; omega
   ·
    obtain rfl : k = n := by omega
    have HB : Hid (∀ q ∈ l, (q.t.length : Int) ≤ m) := by
     intro q hq
     refine HA.out q ?_
     rw [List.take_of_length_le (by rw [HN.out]; exact Nat.le_refl _)]
     exact hq
    clear HA
    go_wp2_with fail
    go_ret
    exact ⟨⟨z, rfl, by omega, by omega, fun _ => ⟨by omega, HB.out⟩⟩, X⟩

/-- A row of values of one's own. -/
def OwnV (w : World) (g : Nat) (l : List VT) : Prop := ∀ (i : Nat) (e : VT), l[i]? = some e → ∀ (c : Nat) (u : Value), e.cells[c]? = some u → w.cell? ⟨g, i * 5 + c, none⟩ = some u ∧ w.frozen? ⟨g, i * 5 + c, none⟩ = false
theorem OwnV.later {w w' : World} {g : Nat} {l : List VT} (h : OwnV w g l) (x : Ext w w') : OwnV w' g l := fun i e hi c u hc => ⟨cell_later x (h i e hi c u hc).1, frozen_later x (h i e hi c u hc).1 (h i e hi c u hc).2⟩
theorem OwnV.row {w : World} {g : Nat} {l : List VT} (h : OwnV w g l) : RowV w g 0 l := fun i e hi c u hc => by rw [Nat.zero_add]; exact (h i e hi c u hc).1
def zeroVT : VT := ⟨0, false, 0, 0, []⟩
theorem cells_lt {e : VT} {c : Nat} {u : Value} (h : e.cells[c]? = some u) : c < 5 := (List.getElem?_eq_some_iff.1 h).1
theorem OwnV.made (w : World) (n : Nat) (t : TypeId) : OwnV (w.alloc (.cells (madeCells #[.int .i64 0, .bool false, .int .i64 0, .int .i64 0, sV []] (n * 5)) t)) w.heap.size (List.replicate n zeroVT) := by
 intro i e hi c u hc
 have hb := heap_alloc_new w (.cells (madeCells #[.int .i64 0, .bool false, .int .i64 0, .int .i64 0, sV []] (n * 5)) t)
 obtain ⟨hin, rfl⟩ : i < n ∧ e = zeroVT := by
  rw [List.getElem?_replicate] at hi
  split at hi
  ·
   cases hi; exact ⟨by assumption, rfl⟩
  ·
   cases hi
 have h5 := cells_lt hc
 have hlt : i * 5 + c < n * 5 := by omega
 refine ⟨?_, ?_⟩
 ·
  unfold World.cell?
  simp only [hb]
  have e1 : (madeCells #[.int .i64 0, .bool false, .int .i64 0, .int .i64 0, sV []] (n * 5))[i * 5 + c]? = some u := by
   unfold madeCells
   have hm : (i * 5 + c) % 5 = c := by omega
   rw [Array.getElem?_map, Array.getElem?_eq_getElem (by simpa using hlt)]
   simp only [Array.getElem_range, Option.map_some]
   have hs : (#[.int .i64 0, .bool false, .int .i64 0, .int .i64 0, sV []] : Array Value).size = 5 := rfl
   rw [hs, hm, ← hc]
   match c, h5 with
   | 0, _ => rfl
   | 1, _ => rfl
   | 2, _ => rfl
   | 3, _ => rfl
   | 4, _ => rfl
  simpa using e1
 ·
  unfold World.frozen?
  simp only [hb]
  simp
set_option maxHeartbeats 1000000 in
theorem OwnV.put {w : World} {g k : Nat} {l : List VT} (h : OwnV w g l) (hk : k < l.length) (e : VT) :
  OwnV (((((w.setCell ⟨g, k * 5, none⟩ (.int .i64 e.k)).setCell ⟨g, k * 5 + 1, none⟩ (.bool e.n)).setCell ⟨g, k * 5 + 2, none⟩ (.int .i64 e.d)).setCell ⟨g, k * 5 + 3, none⟩ (.int .i64 e.x)).setCell ⟨g, k * 5 + 4, none⟩ (sV e.t)) g (l.set k e) := by
 intro i q hi c u hc
 have h5 := cells_lt hc
 obtain ⟨q0, hq0⟩ : ∃ q0, l[i]? = some q0 := by
  have : i < l.length := by have := (List.getElem?_eq_some_iff.1 hi).1; simpa using this
  exact ⟨_, List.getElem?_eq_getElem this⟩
 obtain ⟨u0, hu0⟩ : ∃ u0, q0.cells[c]? = some u0 := ⟨_, List.getElem?_eq_getElem (show c < q0.cells.length from h5)⟩
 have old := h i q0 hq0 c u0 hu0
 refine ⟨?_, by simp only [World.frozen?_setCell]; exact old.2⟩
 by_cases hik : i = k
 ·
  subst hik
  rw [List.getElem?_set_self (by simpa using hk)] at hi
  cases hi
  obtain ⟨qk, hqk⟩ : ∃ qk, l[i]? = some qk := ⟨_, List.getElem?_eq_getElem hk⟩
  have S : ∀ (c : Nat), c < 5 → ∀ W : World, (∀ c, c < 5 → (W.cell? ⟨g, i * 5 + c, none⟩).isSome = true) → ∀ v, (W.setCell ⟨g, i * 5 + c, none⟩ v).cell? ⟨g, i * 5 + c, none⟩ = some v := fun c hc W hW v => World.cell?_setCell_same' _ _ _ (by have := hW c hc; exact this)
  have sm : ∀ c, c < 5 → (w.cell? ⟨g, i * 5 + c, none⟩).isSome = true := fun c hc => by
   obtain ⟨v, hv⟩ : ∃ v, q0.cells[c]? = some v := ⟨_, List.getElem?_eq_getElem (show c < q0.cells.length from hc)⟩
   rw [(h i q0 hq0 c v hv).1]; rfl
  have keep : ∀ (c0 : Nat) (v : Value) (W : World), (∀ c, c < 5 → (W.cell? ⟨g, i * 5 + c, none⟩).isSome = true) → ∀ c, c < 5 → ((W.setCell ⟨g, i * 5 + c0, none⟩ v).cell? ⟨g, i * 5 + c, none⟩).isSome = true := fun c0 v W hW c hc => by
   by_cases e : c = c0
   ·
    subst e; rw [S c hc W hW v]; rfl
   ·
    rw [World.cell?_setCell_other _ _ _ _ (fun q => e (by have := congrArg Addr.off q; simp at this; omega))]; exact hW c hc
  have O : ∀ (c0 c : Nat) (v : Value) (W : World), c ≠ c0 → (W.setCell ⟨g, i * 5 + c0, none⟩ v).cell? ⟨g, i * 5 + c, none⟩ = W.cell? ⟨g, i * 5 + c, none⟩ := fun c0 c v W hne => World.cell?_setCell_other _ _ _ _ (fun q => hne (by have := congrArg Addr.off q; simp at this; omega))
  have s0 := sm
  have s1 := keep 0 (.int .i64 e.k) w s0
  have s2 := keep 1 (.bool e.n) _ s1
  have s3 := keep 2 (.int .i64 e.d) _ s2
  have s4 := keep 3 (.int .i64 e.x) _ s3
  match c, h5, hc with
  | 0, _, hc => cases hc; exact (O 4 0 _ _ (by decide)).trans ((O 3 0 _ _ (by decide)).trans ((O 2 0 _ _ (by decide)).trans ((O 1 0 _ _ (by decide)).trans (S 0 (by decide) w s0 _))))
  | 1, _, hc => cases hc; exact (O 4 1 _ _ (by decide)).trans ((O 3 1 _ _ (by decide)).trans ((O 2 1 _ _ (by decide)).trans (S 1 (by decide) _ s1 _)))
  | 2, _, hc => cases hc; exact (O 4 2 _ _ (by decide)).trans ((O 3 2 _ _ (by decide)).trans (S 2 (by decide) _ s2 _))
  | 3, _, hc => cases hc; exact (O 4 3 _ _ (by decide)).trans (S 3 (by decide) _ s3 _)
  | 4, _, hc => cases hc; exact S 4 (by decide) _ s4 _
 ·
  rw [List.getElem?_set_ne (fun q => hik q.symm)] at hi
  have O : ∀ (c0 : Nat) (v : Value) (W : World), c0 < 5 → (W.setCell ⟨g, k * 5 + c0, none⟩ v).cell? ⟨g, i * 5 + c, none⟩ = W.cell? ⟨g, i * 5 + c, none⟩ := fun c0 v W h0 => World.cell?_setCell_other _ _ _ _ (fun q => hik (by have := congrArg Addr.off q; simp at this; omega))
  exact (O 4 _ _ (by decide)).trans ((O 3 _ _ (by decide)).trans ((O 2 _ _ (by decide)).trans ((O 1 _ _ (by decide)).trans ((O 0 _ _ (by decide)).trans (h i q hi c u hc).1))))
theorem OwnV.five {w : World} {g : Nat} {l : List VT} (h : OwnV w g l) {k : Nat} {e : VT} (he : l[k]? = some e) :
  (w.cell? ⟨g, k * 5, none⟩ = some (.int .i64 e.k) ∧ w.cell? ⟨g, k * 5 + 1, none⟩ = some (.bool e.n) ∧ w.cell? ⟨g, k * 5 + 2, none⟩ = some (.int .i64 e.d) ∧ w.cell? ⟨g, k * 5 + 3, none⟩ = some (.int .i64 e.x) ∧ w.cell? ⟨g, k * 5 + 4, none⟩ = some (sV e.t)) ∧
  w.frozen? ⟨g, k * 5, none⟩ = false ∧ w.frozen? ⟨g, k * 5 + 1, none⟩ = false ∧ w.frozen? ⟨g, k * 5 + 2, none⟩ = false ∧ w.frozen? ⟨g, k * 5 + 3, none⟩ = false ∧ w.frozen? ⟨g, k * 5 + 4, none⟩ = false :=
 ⟨⟨(h k e he 0 _ rfl).1, (h k e he 1 _ rfl).1, (h k e he 2 _ rfl).1, (h k e he 3 _ rfl).1, (h k e he 4 _ rfl).1⟩, (h k e he 0 _ rfl).2, (h k e he 1 _ rfl).2, (h k e he 2 _ rfl).2, (h k e he 3 _ rfl).2, (h k e he 4 _ rfl).2⟩

theorem infoV : (Tryz.prog.info? 27).map (fun i => (i.zero, i.size, i.bytes)) = some (some (.agg #[.int .i64 0, .bool false, .int .i64 0, .int .i64 0, sV []]), 5, 48) := by kernel_rfl
theorem makeRowV (n : Nat) (hn : n ≤ 2000000) (w : World) :
  (Instr.makeSlice 29 (.int .i64 (n : Int)) (.int .i64 (n : Int))).run Tryz.prog w = .ok (.slice (some ⟨w.heap.size, 0, none⟩) n n) (w.alloc (.cells (madeCells #[.int .i64 0, .bool false, .int .i64 0, .int .i64 0, sV []] (n * 5)) 27)) := by
 obtain ⟨i, hi, hzz⟩ := Option.map_eq_some_iff.1 infoV
 simp only [Prod.mk.injEq] at hzz
 obtain ⟨hz, hs, hb⟩ := hzz
 have hr := run_make (P := Tryz.prog) w 29 27 i _ Tryz.underlying29 hi hz .i64 .i64 n n (by omega) (Int.le_refl _) (by rw [hb]; omega) (by omega)
 simp only [Int.toNat_natCast, hs] at hr
 exact hr
/-- What is handed over by an index. -/
def mixV (l : List VT) (k : Nat) : List VT := l.take k ++ List.replicate (l.length - k) zeroVT
theorem mixV_length (l : List VT) (k : Nat) (h : k ≤ l.length) : (mixV l k).length = l.length := by simp [mixV]; omega
theorem mixV_zero (l : List VT) : mixV l 0 = List.replicate l.length zeroVT := by simp [mixV]
theorem mixV_all (l : List VT) : mixV l l.length = l := by simp [mixV]
theorem mixV_at {l : List VT} {k : Nat} (h : k < l.length) : (mixV l k)[k]? = some zeroVT := by
 unfold mixV
 rw [List.getElem?_append_right (by simp; omega), List.getElem?_replicate, if_pos (by rw [List.length_take]; omega)]
theorem mixV_succ {l : List VT} {k : Nat} {e : VT} (h : l[k]? = some e) : (mixV l k).set k e = mixV l (k + 1) := by
 have hk : k < l.length := (List.getElem?_eq_some_iff.1 h).1
 apply List.ext_getElem?
 intro i
 rw [List.getElem?_set]
 unfold mixV
 by_cases e1 : k = i
 ·
  subst e1
  rw [if_pos rfl, if_pos (by simp; omega), List.getElem?_append_left (by simp; omega), List.getElem?_take, if_pos (by omega), h]
 ·
  rw [if_neg e1]
  rcases Nat.lt_or_ge i k with hi | hi
  ·
   rw [List.getElem?_append_left (by simp; omega), List.getElem?_append_left (by simp; omega), List.getElem?_take, List.getElem?_take, if_pos hi, if_pos (by omega)]
  ·
   rw [List.getElem?_append_right (by simp; omega), List.getElem?_append_right (by simp; omega), List.getElem?_replicate, List.getElem?_replicate]
   simp only [List.length_take]
   by_cases h2 : i < l.length
   ·
    rw [if_pos (by omega), if_pos (by omega)]
   ·
    rw [if_neg (by omega), if_neg (by omega)]

set_option maxRecDepth 8000 in
set_option maxHeartbeats 1000000 in
theorem toVals (v : Value) (l : List VT) (w : World) (h : ValsIn w v l) (hl : l.length ≤ 2000000) :
  Calls Tryz.prog 6 #[v] w fun e w' => (∃ g, e = .returned (.slice (some ⟨g, 0, none⟩) l.length l.length) ∧ w.heap.size ≤ g ∧ OwnV w' g l) ∧ Ext w w' := by
 obtain ⟨p, cap, rfl, hcap, hrow⟩ := h
 obtain ⟨n, hn⟩ : ∃ n, l.length = n := ⟨_, rfl⟩
 have HN : Hid (l.length = n) := hn
 have hmk := makeRowV n (by omega)
 have O0 := OwnV.made w n 27
 have X0 := x1 w (.cells (madeCells #[.int .i64 0, .bool false, .int .i64 0, .int .i64 0, sV []] (n * 5)) 27)
 rw [hn] at hcap hl hrow ⊢
 have HRow : Hid (0 < n → ∃ b o, p = some ⟨b, o, none⟩ ∧ RowV w b o l) := hrow
 obtain ⟨wa, ha⟩ : ∃ wa, w.alloc (.cells (madeCells #[.int .i64 0, .bool false, .int .i64 0, .int .i64 0, sV []] (n * 5)) 27) = wa := ⟨_, rfl⟩
 rw [ha] at O0 X0
 have HO : Hid (OwnV wa w.heap.size (mixV l 0)) := by show OwnV _ _ _; rw [mixV_zero, hn]; exact O0
 obtain ⟨g, hg⟩ : ∃ g, w.heap.size = g := ⟨_, rfl⟩
 have HG : Hid (w.heap.size ≤ g) := by show _ ≤ _; omega
 rw [hg] at HO
 clear hn hrow O0
 go_enter Tryz.func6, Tryz.ntmps6
 go_wp2_with fail
 clear hmk ha
 go_loopw [4] (fun i wr => ∃ k : Nat, k ≤ n ∧ i = .int .i64 k ∧ Hid (OwnV wr g (mixV l k)) ∧ Ext w wr) (fun i _ => n - (intOf i).toNat)
 case atStart => exact ⟨0, by omega, rfl, HO, X0⟩
 case round =>
  obtain ⟨k, hk, rfl, HK, X⟩ := hrel
  by_cases hlt : k < n
  ·
   obtain ⟨e, he⟩ : ∃ e, l[k]? = some e := ⟨_, List.getElem?_eq_getElem (by rw [HN.out]; exact hlt)⟩
   obtain ⟨b, o, rfl, hR⟩ := HRow.out (by omega)
   obtain ⟨a0, a1, a2, a3, a4⟩ := (hR.later X).five he
   have HP : Hid (∀ W, OwnV W g (mixV l k) → OwnV (((((W.setCell ⟨g, k * 5, none⟩ (.int .i64 e.k)).setCell ⟨g, k * 5 + 1, none⟩ (.bool e.n)).setCell ⟨g, k * 5 + 2, none⟩ (.int .i64 e.d)).setCell ⟨g, k * 5 + 3, none⟩ (.int .i64 e.x)).setCell ⟨g, k * 5 + 4, none⟩ (sV e.t)) g (mixV l (k + 1))) := fun W hW => by
    rw [← mixV_succ he]
    exact hW.put (by rw [mixV_length _ _ (by rw [HN.out]; exact hk), HN.out]; exact hlt) e
   obtain ⟨ek, en, ed, ex, et⟩ := e
   have i2 : (k : Int) < (n : Int) := by omega
   clear hR he
   dsimp only at a0 a1 a2 a3 a4 HP
   go_wp2_with fail
   clear a0 a1 a2 a3 a4
   refine (toValue ek en ed ex et _).mono ?_
   rintro r w' ⟨rfl, E⟩
   have HK' := HK.out.later E
   obtain ⟨⟨b0, b1, b2, b3, b4⟩, f0, f1, f2, f3, f4⟩ := HK'.five (mixV_at (by rw [HN.out]; exact hlt))
   have X' := xt X E
   obtain ⟨wy, hy⟩ : ∃ wy, ((((w'.setCell ⟨g, k * 5, none⟩ (.int .i64 ek)).setCell ⟨g, k * 5 + 1, none⟩ (.bool en)).setCell ⟨g, k * 5 + 2, none⟩ (.int .i64 ed)).setCell ⟨g, k * 5 + 3, none⟩ (.int .i64 ex)).setCell ⟨g, k * 5 + 4, none⟩ (sV et) = wy := ⟨_, rfl⟩
   have HQ : Hid (OwnV wy g (mixV l (k + 1))) := by show OwnV _ _ _; rw [← hy]; exact HP.out _ HK'
   have HX : Hid (Ext w wy) := by
    show Ext _ _
    rw [← hy]
    exact xset (xset (xset (xset (xset X' HG.out _) HG.out _) HG.out _) HG.out _) HG.out _
   clear HK' HK HP X X' E
   go_wp2_with fail
   go_roundw
   case rel => exact ⟨k + 1, by omega, by go_num, HQ, HX.out⟩
   case measure => simp [intOf]; omega
  ·
   obtain rfl : k = n := by omega
   have HF : Hid (OwnV wr g l) := by have := HK.out; rw [← HN.out, mixV_all] at this; exact this
   clear HK
   go_wp2_with fail
   go_ret
   exact ⟨⟨g, rfl, HG.out, HF.out⟩, X⟩

abbrev grV (r c : Int) (v : Value) : Value := .agg #[.int .i64 r, .int .i64 c, v]
def VT.good (e : VT) : Bool := goodV e.k e.n e.d e.x e.t
theorem all_step {l : List VT} {k : Nat} {e : VT} (he : l[k]? = some e) : (l.take (k + 1)).all VT.good = ((l.take k).all VT.good && e.good) := by
 rw [List.take_add_one, he]
 simp
theorem all_bad {l : List VT} {k : Nat} {e : VT} (he : l[k]? = some e) (hb : e.good = false) : l.all VT.good = false := by
 cases h : l.all VT.good with
 | false => rfl
 | true => have := (List.all_eq_true.1 h) e (List.mem_of_getElem? he); rw [hb] at this; cases this

/-- What is asked of a value's room. -/
def VT.room (e : VT) : Prop := e.t.length ≤ 2000000 ∧ -9223372036854775808 ≤ e.d ∧ e.d ≤ 9223372036854775807

end Go.Proofs.YtfgohahfppabbaaGreatDoor

namespace Go.Proofs.YtfgohahfppabbaaGreatDoor
open Go.ChangeShapes Go.WideShapes Go.ChangeAt Go.RowKit

set_option maxRecDepth 100000 in
theorem value_parts {H : Type} {enc : TypeId × Value → H} {W : World} {base : Nat} {sp : Nat → Bool} {held : Bool} {fuel : Nat} {cs : List Value} {y : DataW H × List MemPlace} (hlen : cs.length = 5)
  (h : DataW.trod enc Tryz.prog W base sp held fuel 37 cs = some y) : ∃ e : VT, cs = e.cells ∧ (-9223372036854775808 ≤ e.d ∧ e.d ≤ 9223372036854775807) ∧ e.t.length ≤ maxLen := by
 obtain ⟨c0, c1, c2, c3, c4, rfl⟩ : ∃ c0 c1 c2 c3 c4, cs = [c0, c1, c2, c3, c4] := by
  match cs, hlen with
  | [c0, c1, c2, c3, c4], _ => exact ⟨c0, c1, c2, c3, c4, rfl⟩
 obtain ⟨y0, y1, y2, n, _, _, h0, h1, h2⟩ := Deep.trod_struct3 Tryz.underlying37 h
 have k3 : Tryz.prog.cellsOf 3 = 1 := by kernel_rfl
 have k4 : Tryz.prog.cellsOf 4 = 1 := by kernel_rfl
 have k9 : Tryz.prog.cellsOf 9 = 1 := by kernel_rfl
 have kd : Tryz.prog.cellsOf 35 = 3 := by kernel_rfl
 obtain ⟨z0, z1, z2, n', _, _, g0, g1, g2⟩ := Deep.trod_struct3 Tryz.underlying35 h1
 obtain ⟨a0, e0, _, w0⟩ := DataW.trod_int Tryz.underlying3 h0
 obtain ⟨b1, e1, _⟩ := DataW.trod_bool Tryz.underlying4 g0
 obtain ⟨a2, e2, _, w2⟩ := DataW.trod_int Tryz.underlying3 g1
 obtain ⟨a3, e3, _, w3⟩ := DataW.trod_int Tryz.underlying3 g2
 obtain ⟨s, e4, _, w4⟩ := DataW.trod_string Tryz.underlying9 h2
 simp [k3, k4, k9, kd] at e0 e1 e2 e3 e4
 subst e0 e1 e2 e3 e4
 exact ⟨⟨a0, b1, a2, a3, s.data.toList⟩, rfl, bounds_i64 w2, w4⟩

end Go.Proofs.YtfgohahfppabbaaGreatDoor

namespace Go.Proofs.YtfgohahfppabbaaGreatDoor
open Go.ChangeShapes Go.WideShapes Go.ChangeAt Go.RowKit

set_option maxRecDepth 100000 in
/-- A row of values that came in. -/
theorem open_values {H : Type} {enc : TypeId × Value → H} {W : World} {base : Nat} {v : Value} {d : DataW H} {p : List MemPlace}
  (hv : Value.okWide Tryz.prog W .any base 22 v) (h : DataW.Trod enc Tryz.prog W 0 (fun _ => true) true 22 v d p) :
  ∃ l : List VT, ValsIn W v l ∧ l.length ≤ maxLen ∧ (∀ e ∈ l, e.t.length ≤ maxLen) ∧ ∀ e ∈ l, -9223372036854775808 ≤ e.d ∧ e.d ≤ 9223372036854775807 := by
 obtain ⟨a0, len0, cap0, rfl⟩ := okWide_slice Tryz.underlying22 hv
 obtain ⟨fuel, hf⟩ := h
 have kv : Tryz.prog.cellsOf 37 = 5 := by kernel_rfl
 rcases Deep.open_slice Tryz.underlying22 hf with ⟨hcs, hx⟩ | ⟨a, len, cap, m, n', D, Pl, hcs, _, hl, hm, hmm, _, hx⟩
 ·
  simp [Value.cells] at hcs
  obtain ⟨rfl, rfl, rfl⟩ := hcs
  exact ⟨[], ⟨none, 0, rfl, Nat.le_refl _, fun h => by simp at h⟩, by simp, by simp, by simp⟩
 ·
  simp [Value.cells] at hcs
  obtain ⟨rfl, rfl, rfl⟩ := hcs
  simp only [if_true] at hmm
  subst hmm
  have each : ∀ i, i < len0 → ∃ e : VT, (∀ (c : Nat) (u : Value), e.cells[c]? = some u → W.cell? ((a.add (i * 5)).add c) = some u) ∧ (-9223372036854775808 ≤ e.d ∧ e.d ≤ 9223372036854775807) ∧ e.t.length ≤ maxLen := by
   intro i hi
   obtain ⟨cs', q1, q2⟩ := hx i (by omega)
   rw [kv] at q1
   obtain ⟨_, hlen, hcell⟩ := World.cells?_some q1
   obtain ⟨e, rfl, b1, b2⟩ := value_parts hlen q2
   refine ⟨e, fun c u hc => ?_, b1, b2⟩
   have := hcell c (cells_lt hc)
   rw [this, hc]
  obtain ⟨q, hq⟩ := @Deep.choose_lt VT ⟨zeroVT⟩ _ _ each
  refine ⟨(List.range len0).map q, ⟨some a, m, by simp, by simpa using hl, fun h0 => ?_⟩, by simp; omega, ?_, ?_⟩
  ·
   have h0' : 0 < len0 := by simpa using h0
   obtain ⟨pb, po, spt⟩ := a
   have hc0 := (hq 0 h0').1 0 _ rfl
   have hsp : spt = none := by simpa [Addr.add] using World.cell?_spot hc0
   subst hsp
   refine ⟨pb, po, rfl, fun i e hi c u hc => ?_⟩
   rw [List.getElem?_map] at hi
   obtain ⟨j, hj, rfl⟩ := Option.map_eq_some_iff.1 hi
   have hji : j = i ∧ i < len0 := by
    rw [List.getElem?_eq_some_iff] at hj
    obtain ⟨hlt, hj⟩ := hj
    simp at hlt hj
    exact ⟨hj.symm, hlt⟩
   obtain ⟨rfl, hlt⟩ := hji
   have := (hq j hlt).1 c u hc
   rw [Addr.add_lit, Addr.add_lit] at this
   exact this
  ·
   intro e he
   obtain ⟨i, hi, rfl⟩ := List.mem_map.1 he
   exact (hq i (List.mem_range.1 hi)).2.2
  ·
   intro e he
   obtain ⟨i, hi, rfl⟩ := List.mem_map.1 he
   exact (hq i (List.mem_range.1 hi)).2.1

end Go.Proofs.YtfgohahfppabbaaGreatDoor

namespace Go.Proofs.YtfgohahfppabbaaGreatDoor
open Go.RowKit

abbrev errT : List UInt8 := [35, 86, 65, 76, 85, 69, 33]
abbrev trueT : List UInt8 := [84, 82, 85, 69]
abbrev falseT : List UInt8 := [70, 65, 76, 83, 69]
abbrev boolW (b : Bool) : Value := valV 3 false 0 0 (if b then trueT else falseT)
abbrev errW : Value := valV 4 false 0 0 errT
set_option maxHeartbeats 1000000 in
theorem textVI (l : List UInt8) (w : World) : Calls Tryz.prog 139 #[sV l] w fun e w' => e = .returned (valV 2 false 0 0 l) ∧ Ext w w' := by
 go_enter Tryz.func139, Tryz.ntmps139
 go_wp2
 exact bodyPost_ret (v := valV 2 false 0 0 l) (by simp [results, Tryz.results139, go_sem]) rfl ⟨rfl, by first | exact x1 _ _ | exact xa (x1 _ _) _⟩
set_option maxHeartbeats 1000000 in
theorem errVI (l : List UInt8) (w : World) : Calls Tryz.prog 19 #[sV l] w fun e w' => e = .returned (valV 4 false 0 0 l) ∧ Ext w w' := by
 go_enter Tryz.func19, Tryz.ntmps19
 go_wp2
 exact bodyPost_ret (v := valV 4 false 0 0 l) (by simp [results, Tryz.results19, go_sem]) rfl ⟨rfl, by first | exact x1 _ _ | exact xa (x1 _ _) _⟩
set_option maxHeartbeats 1000000 in
theorem errVS (l : List UInt8) (w : World) : Calls Tryz.prog 11 #[sV l] w fun e w' => e = .returned (valV 4 false 0 0 l) ∧ Ext w w' := by
 go_enter Tryz.func11, Tryz.ntmps11
 go_wp2
 exact bodyPost_ret (v := valV 4 false 0 0 l) (by simp [results, Tryz.results11, go_sem]) rfl ⟨rfl, by first | exact x1 _ _ | exact xa (x1 _ _) _⟩
set_option maxHeartbeats 1000000 in
theorem numVI (n : Bool) (d x : Int) (w : World) : Calls Tryz.prog 81 #[decV n d x] w fun e w' => e = .returned (valV 1 n d x []) ∧ Ext w w' := by
 go_enter Tryz.func81, Tryz.ntmps81
 go_wp2
 exact bodyPost_ret (v := valV 1 n d x []) (by simp [results, Tryz.results81, go_sem]) rfl ⟨rfl, by first | exact x1 _ _ | exact xa (x1 _ _) _⟩
set_option maxHeartbeats 1000000 in
theorem numVS (n : Bool) (d x : Int) (w : World) : Calls Tryz.prog 40 #[decV n d x] w fun e w' => e = .returned (valV 1 n d x []) ∧ Ext w w' := by
 go_enter Tryz.func40, Tryz.ntmps40
 go_wp2
 exact bodyPost_ret (v := valV 1 n d x []) (by simp [results, Tryz.results40, go_sem]) rfl ⟨rfl, by first | exact x1 _ _ | exact xa (x1 _ _) _⟩
set_option maxHeartbeats 1000000 in
theorem boolVI (b : Bool) (w : World) : Calls Tryz.prog 137 #[.bool b] w fun e w' => e = .returned (boolW b) ∧ Ext w w' := by
 cases b
 ·
  go_enter Tryz.func137, Tryz.ntmps137
  go_wp2
  exact bodyPost_ret (v := valV 3 false 0 0 falseT) (by simp [results, Tryz.results137, go_sem, falseT]) rfl ⟨rfl, x1 _ _⟩
 ·
  go_enter Tryz.func137, Tryz.ntmps137
  go_wp2
  exact bodyPost_ret (v := valV 3 false 0 0 trueT) (by simp [results, Tryz.results137, go_sem, trueT]) rfl ⟨rfl, x1 _ _⟩
theorem goodV_num {n : Bool} {d x : Int} {t : List UInt8} (h : goodV 1 n d x t = true) : goodB n d x = true ∧ t = [] := by simpa [goodV] using h
theorem goodV_zero {k : Int} {n : Bool} {d x : Int} {t : List UInt8} (h : goodV k n d x t = true) (h1 : k ≠ 1) : n = false ∧ d = 0 ∧ x = 0 := by
 simp only [goodV, h1, if_false, Bool.and_eq_true] at h
 have := h.1
 simpa [zeroD, and_assoc] using this
theorem goodV_empty {n : Bool} {d x : Int} {t : List UInt8} (h : goodV 0 n d x t = true) : t = [] := by simpa [goodV] using (show _ ∧ _ by simpa [goodV] using h).2

theorem Vec.three {w : World} {b : Nat} {v0 v1 v2 : Value} (h : Vec w b [v0, v1, v2]) : w.cell? ⟨b, 0, none⟩ = some v0 ∧ w.cell? ⟨b, 1, none⟩ = some v1 ∧ w.cell? ⟨b, 2, none⟩ = some v2 :=
 ⟨(h 0 _ rfl).1, (h 1 _ rfl).1, (h 2 _ rfl).1⟩
theorem Vec.four {w : World} {b : Nat} {v0 v1 v2 v3 : Value} (h : Vec w b [v0, v1, v2, v3]) : w.cell? ⟨b, 0, none⟩ = some v0 ∧ w.cell? ⟨b, 1, none⟩ = some v1 ∧ w.cell? ⟨b, 2, none⟩ = some v2 ∧ w.cell? ⟨b, 3, none⟩ = some v3 :=
 ⟨(h 0 _ rfl).1, (h 1 _ rfl).1, (h 2 _ rfl).1, (h 3 _ rfl).1⟩
theorem Vec.fourF {w : World} {b : Nat} {v0 v1 v2 v3 : Value} (h : Vec w b [v0, v1, v2, v3]) : w.frozen? ⟨b, 0, none⟩ = false ∧ w.frozen? ⟨b, 1, none⟩ = false ∧ w.frozen? ⟨b, 2, none⟩ = false ∧ w.frozen? ⟨b, 3, none⟩ = false :=
 ⟨(h 0 _ rfl).2, (h 1 _ rfl).2, (h 2 _ rfl).2, (h 3 _ rfl).2⟩
theorem Vec.five {w : World} {b : Nat} {v0 v1 v2 v3 v4 : Value} (h : Vec w b [v0, v1, v2, v3, v4]) : w.cell? ⟨b, 0, none⟩ = some v0 ∧ w.cell? ⟨b, 1, none⟩ = some v1 ∧ w.cell? ⟨b, 2, none⟩ = some v2 ∧ w.cell? ⟨b, 3, none⟩ = some v3 ∧ w.cell? ⟨b, 4, none⟩ = some v4 :=
 ⟨(h 0 _ rfl).1, (h 1 _ rfl).1, (h 2 _ rfl).1, (h 3 _ rfl).1, (h 4 _ rfl).1⟩
theorem Vec.fiveF {w : World} {b : Nat} {v0 v1 v2 v3 v4 : Value} (h : Vec w b [v0, v1, v2, v3, v4]) : w.frozen? ⟨b, 0, none⟩ = false ∧ w.frozen? ⟨b, 1, none⟩ = false ∧ w.frozen? ⟨b, 2, none⟩ = false ∧ w.frozen? ⟨b, 3, none⟩ = false ∧ w.frozen? ⟨b, 4, none⟩ = false :=
 ⟨(h 0 _ rfl).2, (h 1 _ rfl).2, (h 2 _ rfl).2, (h 3 _ rfl).2, (h 4 _ rfl).2⟩
theorem mkB2 (w : World) (l0 l1 : List Value) (T0 T1 : TypeId) : ∃ u0 u1, w.alloc (.cells l0.toArray T0) = u0 ∧ u0.alloc (.cells l1.toArray T1) = u1 ∧ u0.heap.size = w.heap.size + 1 ∧ u1.heap.size = w.heap.size + 1 + 1 ∧ Vec u1 (w.heap.size) l0 ∧ Vec u1 (w.heap.size + 1) l1 ∧ Ext w u1 := by
 have X0 := x1 w (.cells l0.toArray T0)
 have B0 := vec_made w l0 T0
 obtain ⟨u0, h0⟩ : ∃ u, w.alloc (.cells l0.toArray T0) = u := ⟨_, rfl⟩
 rw [h0] at X0 B0
 have s0 : u0.heap.size = w.heap.size + 1 := by rw [← h0, World.size_alloc]
 have X := X0
 have X1 := x1 u0 (.cells l1.toArray T1)
 have B1 := vec_made u0 l1 T1
 obtain ⟨u1, h1⟩ : ∃ u, u0.alloc (.cells l1.toArray T1) = u := ⟨_, rfl⟩
 rw [h1] at X1 B1
 rw [s0] at B1
 have s1 : u1.heap.size = w.heap.size + 1 + 1 := by rw [← h1, World.size_alloc, s0]
 have B0 := B0.later X1
 have X := xt X X1
 exact ⟨u0, u1, h0, h1, s0, s1, B0, B1, X⟩
theorem mkB3 (w : World) (l0 l1 l2 : List Value) (T0 T1 T2 : TypeId) : ∃ u0 u1 u2, w.alloc (.cells l0.toArray T0) = u0 ∧ u0.alloc (.cells l1.toArray T1) = u1 ∧ u1.alloc (.cells l2.toArray T2) = u2 ∧ u0.heap.size = w.heap.size + 1 ∧ u1.heap.size = w.heap.size + 1 + 1 ∧ u2.heap.size = w.heap.size + 1 + 1 + 1 ∧ Vec u2 (w.heap.size) l0 ∧ Vec u2 (w.heap.size + 1) l1 ∧ Vec u2 (w.heap.size + 1 + 1) l2 ∧ Ext w u2 := by
 have X0 := x1 w (.cells l0.toArray T0)
 have B0 := vec_made w l0 T0
 obtain ⟨u0, h0⟩ : ∃ u, w.alloc (.cells l0.toArray T0) = u := ⟨_, rfl⟩
 rw [h0] at X0 B0
 have s0 : u0.heap.size = w.heap.size + 1 := by rw [← h0, World.size_alloc]
 have X := X0
 have X1 := x1 u0 (.cells l1.toArray T1)
 have B1 := vec_made u0 l1 T1
 obtain ⟨u1, h1⟩ : ∃ u, u0.alloc (.cells l1.toArray T1) = u := ⟨_, rfl⟩
 rw [h1] at X1 B1
 rw [s0] at B1
 have s1 : u1.heap.size = w.heap.size + 1 + 1 := by rw [← h1, World.size_alloc, s0]
 have B0 := B0.later X1
 have X := xt X X1
 have X2 := x1 u1 (.cells l2.toArray T2)
 have B2 := vec_made u1 l2 T2
 obtain ⟨u2, h2⟩ : ∃ u, u1.alloc (.cells l2.toArray T2) = u := ⟨_, rfl⟩
 rw [h2] at X2 B2
 rw [s1] at B2
 have s2 : u2.heap.size = w.heap.size + 1 + 1 + 1 := by rw [← h2, World.size_alloc, s1]
 have B0 := B0.later X2
 have B1 := B1.later X2
 have X := xt X X2
 exact ⟨u0, u1, u2, h0, h1, h2, s0, s1, s2, B0, B1, B2, X⟩
theorem mkB4 (w : World) (l0 l1 l2 l3 : List Value) (T0 T1 T2 T3 : TypeId) : ∃ u0 u1 u2 u3, w.alloc (.cells l0.toArray T0) = u0 ∧ u0.alloc (.cells l1.toArray T1) = u1 ∧ u1.alloc (.cells l2.toArray T2) = u2 ∧ u2.alloc (.cells l3.toArray T3) = u3 ∧ u0.heap.size = w.heap.size + 1 ∧ u1.heap.size = w.heap.size + 1 + 1 ∧ u2.heap.size = w.heap.size + 1 + 1 + 1 ∧ u3.heap.size = w.heap.size + 1 + 1 + 1 + 1 ∧ Vec u3 (w.heap.size) l0 ∧ Vec u3 (w.heap.size + 1) l1 ∧ Vec u3 (w.heap.size + 1 + 1) l2 ∧ Vec u3 (w.heap.size + 1 + 1 + 1) l3 ∧ Ext w u3 := by
 have X0 := x1 w (.cells l0.toArray T0)
 have B0 := vec_made w l0 T0
 obtain ⟨u0, h0⟩ : ∃ u, w.alloc (.cells l0.toArray T0) = u := ⟨_, rfl⟩
 rw [h0] at X0 B0
 have s0 : u0.heap.size = w.heap.size + 1 := by rw [← h0, World.size_alloc]
 have X := X0
 have X1 := x1 u0 (.cells l1.toArray T1)
 have B1 := vec_made u0 l1 T1
 obtain ⟨u1, h1⟩ : ∃ u, u0.alloc (.cells l1.toArray T1) = u := ⟨_, rfl⟩
 rw [h1] at X1 B1
 rw [s0] at B1
 have s1 : u1.heap.size = w.heap.size + 1 + 1 := by rw [← h1, World.size_alloc, s0]
 have B0 := B0.later X1
 have X := xt X X1
 have X2 := x1 u1 (.cells l2.toArray T2)
 have B2 := vec_made u1 l2 T2
 obtain ⟨u2, h2⟩ : ∃ u, u1.alloc (.cells l2.toArray T2) = u := ⟨_, rfl⟩
 rw [h2] at X2 B2
 rw [s1] at B2
 have s2 : u2.heap.size = w.heap.size + 1 + 1 + 1 := by rw [← h2, World.size_alloc, s1]
 have B0 := B0.later X2
 have B1 := B1.later X2
 have X := xt X X2
 have X3 := x1 u2 (.cells l3.toArray T3)
 have B3 := vec_made u2 l3 T3
 obtain ⟨u3, h3⟩ : ∃ u, u2.alloc (.cells l3.toArray T3) = u := ⟨_, rfl⟩
 rw [h3] at X3 B3
 rw [s2] at B3
 have s3 : u3.heap.size = w.heap.size + 1 + 1 + 1 + 1 := by rw [← h3, World.size_alloc, s2]
 have B0 := B0.later X3
 have B1 := B1.later X3
 have B2 := B2.later X3
 have X := xt X X3
 exact ⟨u0, u1, u2, u3, h0, h1, h2, h3, s0, s1, s2, s3, B0, B1, B2, B3, X⟩

/-- The last store into an answer's cells. -/
theorem fin5 {a w : World} {b : Nat} (V : Vec w b (valL 0 false 0 0 [])) (X : Ext a w) (hb : a.heap.size ≤ b) (k : Int) (n : Bool) (d x : Int) (t : List UInt8) :
  ∃ wy, (((((w.setCell ⟨b, 0, none⟩ (.int .i64 k)).setCell ⟨b, 1, none⟩ (.bool n)).setCell ⟨b, 2, none⟩ (.int .i64 d)).setCell ⟨b, 3, none⟩ (.int .i64 x)).setCell ⟨b, 4, none⟩ (sV t)) = wy ∧ Ext a wy ∧ (w.cell? ⟨b, 0, none⟩ = some (.int .i64 0) ∧ w.cell? ⟨b, 1, none⟩ = some (.bool false) ∧ w.cell? ⟨b, 2, none⟩ = some (.int .i64 0) ∧ w.cell? ⟨b, 3, none⟩ = some (.int .i64 0) ∧ w.cell? ⟨b, 4, none⟩ = some (sV [])) ∧ (w.frozen? ⟨b, 0, none⟩ = false ∧ w.frozen? ⟨b, 1, none⟩ = false ∧ w.frozen? ⟨b, 2, none⟩ = false ∧ w.frozen? ⟨b, 3, none⟩ = false ∧ w.frozen? ⟨b, 4, none⟩ = false) ∧ wy.cell? ⟨b, 0, none⟩ = some (.int .i64 k) ∧ wy.cell? ⟨b, 1, none⟩ = some (.bool n) ∧ wy.cell? ⟨b, 2, none⟩ = some (.int .i64 d) ∧ wy.cell? ⟨b, 3, none⟩ = some (.int .i64 x) ∧ wy.cell? ⟨b, 4, none⟩ = some (sV t) := by
 have FG := V.put5 (.int .i64 k) (.bool n) (.int .i64 d) (.int .i64 x) (sV t)
 have FX := Ext.setL (b := b) hb [.int .i64 k, .bool n, .int .i64 d, .int .i64 x, sV t] 0 X
 exact ⟨_, rfl, FX, V.five, V.fiveF, FG.five⟩

set_option maxRecDepth 8000 in
set_option maxHeartbeats 1000000 in
theorem capsI (l : List UInt8) (w : World) (hl : l.length ≤ 2000000) :
  Calls Tryz.prog 92 #[sV l] w fun e w' => e = .returned (sV (l.map upC)) ∧ Ext w w' := by
 obtain ⟨cap, wb, hcv, hcap, X0, V0⟩ := bytes_made l w
 obtain ⟨n, hn⟩ : ∃ n, l.length = n := ⟨_, rfl⟩
 rw [hn] at hcv hcap hl
 have HN : Hid (l.length = n) := hn
 have V0' : Hid (Vec wb w.heap.size (encB (upK l 0))) := by show Vec _ _ _; rw [upK_zero]; exact V0
 clear hn V0
 go_enter Tryz.func92, Tryz.ntmps92
 go_wp2_with fail
 clear hcv
 go_loopw [10] (fun i wr => ∃ k : Nat, k ≤ n ∧ i = .int .i64 k ∧ Hid (Vec wr w.heap.size (encB (upK l k))) ∧ Ext w wr) (fun i _ => n - (intOf i).toNat)
 case atStart => exact ⟨0, by omega, rfl, V0', X0⟩
 case round =>
  obtain ⟨k, hk, rfl, V, X⟩ := hrel
  by_cases hlt : k < n
  ·
   obtain ⟨c, hc⟩ : ∃ c, l[k]? = some c := ⟨_, List.getElem?_eq_getElem (by rw [HN.out]; exact hlt)⟩
   obtain ⟨a0, f0⟩ := V.out k _ (encB_at (upK_at hc))
   have i1 : (0 : Int) ≤ (k : Int) := by omega
   have i2 : (k : Int) < (n : Int) := by omega
   have hz : c.toNat < 256 := UInt8.toNat_lt c
   have VP := V.out.put k (by rw [encB_length, upK_length, HN.out]; exact hlt) (.int .u8 ((upC c).toNat : Int))
   have es : (encB (upK l k)).set k (.int .u8 ((upC c).toNat : Int)) = encB (upK l (k + 1)) := by rw [upK_succ hc]; simp [encB, List.map_set]
   rw [es] at VP
   by_cases hs : 97 ≤ c.toNat ∧ c.toNat ≤ 122
   ·
    have eu := upC_small hs
    rw [eu] at VP
    have HV : Hid (Vec (wr.setCell ⟨w.heap.size, k, none⟩ (.int .u8 ((c.toNat : Int) - 32))) w.heap.size (encB (upK l (k + 1)))) := VP
    obtain ⟨z, ez⟩ : ∃ z : Int, (c.toNat : Int) = z := ⟨_, rfl⟩
    rw [ez] at a0 HV
    have z1 : 97 ≤ z := by omega
    have z2 : z ≤ 122 := by omega
    clear V VP es eu hc hs ez hz
    go_wp2_with fail
    go_roundw
    case rel => exact ⟨k + 1, by omega, by go_num, by first | exact HV | (show Vec _ _ _; have := HV.out; rw [show z - 97 + 65 = z - 32 by omega]; exact this), xset X (Nat.le_refl _) _⟩
    case measure => simp [intOf]; omega
   ·
    have eu := upC_other hs
    have HV : Hid (Vec wr w.heap.size (encB (upK l (k + 1)))) := by
     show Vec _ _ _
     have : upK l (k + 1) = upK l k := by
      rw [upK_succ hc, eu]
      exact List.ext_getElem? fun i => by
       rw [List.getElem?_set]
       split
       ·
        next e => subst e; rw [if_pos (by rw [upK_length, HN.out]; exact hlt)]; exact (upK_at hc).symm
       ·
        rfl
     rw [this]; exact V.out
    obtain ⟨z, ez⟩ : ∃ z : Int, (c.toNat : Int) = z := ⟨_, rfl⟩
    rw [ez] at a0
    have z3 : 0 ≤ z ∧ z ≤ 255 := by omega
    have z4 : z < 97 ∨ 122 < z := by omega
    clear V VP es eu hc hs ez hz
    rcases z4 with z4 | z4
    ·
     go_wp2_with fail
     go_roundw
     case rel => exact ⟨k + 1, by omega, by go_num, HV, X⟩
     case measure => simp [intOf]; omega
    ·
     have z5 : 97 ≤ z := by omega
     go_wp2_with fail
     go_roundw
     case rel => exact ⟨k + 1, by omega, by go_num, HV, X⟩
     case measure => simp [intOf]; omega
  ·
   obtain rfl : k = n := by omega
   have hb := bytes_back (l.map upC) w.heap.size cap wr (by have := V.out; rw [← HN.out, upK_all] at this; exact this)
   rw [List.length_map, HN.out] at hb
   go_wp2_with fail
   go_ret
   exact ⟨rfl, X⟩

end Go.Proofs.YtfgohahfppabbaaGreatDoor

