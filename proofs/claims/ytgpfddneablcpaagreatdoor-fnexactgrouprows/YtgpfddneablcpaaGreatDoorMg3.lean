/-
  Several texts in one: V6b, V6c, V7a, V7b.
-/
import Derived.Test.YtgpfddneablcpaaGreatDoorMg2
import Derived.Deep.MidRow
import Derived.Laws.MakeOwn
namespace Go.Proofs.YtgpfddneablcpaaGreatDoor
open Go.RowKit

/-- Stores in a row, from an offset on. -/
def setL (w : World) (b : Nat) : Nat → List Value → World
 | _, [] => w
 | o, v :: vs => setL (w.setCell ⟨b, o, none⟩ v) b (o + 1) vs
theorem Vec.farL {b k : Nat} {l : List Value} (hk : k ≠ b) : ∀ (us : List Value) (o : Nat) {w : World}, Vec w b l → Vec (setL w k o us) b l
 | [], _, _, h => h
 | u :: us, o, _, h => Vec.farL hk us (o + 1) (h.far hk u)
theorem Ext.setL {a : World} {b : Nat} (hb : a.heap.size ≤ b) : ∀ (us : List Value) (o : Nat) {w : World}, Ext a w → Ext a (setL w b o us)
 | [], _, _, h => h
 | u :: us, o, _, h => Ext.setL hb us (o + 1) (xset h hb u)
theorem Vec.put5 {w : World} {b : Nat} {v0 v1 v2 v3 v4 : Value} (h : Vec w b [v0, v1, v2, v3, v4]) (u0 u1 u2 u3 u4 : Value) : Vec (setL w b 0 [u0, u1, u2, u3, u4]) b [u0, u1, u2, u3, u4] :=
 ((((h.put 0 (by simp) u0).put 1 (by simp) u1).put 2 (by simp) u2).put 3 (by simp) u3).put 4 (by simp) u4

set_option maxRecDepth 8000 in
set_option maxHeartbeats 1000000 in
theorem toValue (k : Int) (n : Bool) (d x : Int) (t : List UInt8) (w : World) :
  Calls Tryz.prog 38 #[valV k n d x t] w fun e w' => e = .returned (valV k n d x t) ∧ Ext w w' := by
 have X1 := x1 w (.cells #[.int .i64 k, .bool n, .int .i64 d, .int .i64 x, sV t] 67)
 have B1 := vec_made w (valL k n d x t) 67
 obtain ⟨wa, ha⟩ : ∃ wa, w.alloc (.cells #[.int .i64 k, .bool n, .int .i64 d, .int .i64 x, sV t] 67) = wa := ⟨_, rfl⟩
 have B2 := vec_made wa (valL 0 false 0 0 []) 51
 have X2 := x1 wa (.cells #[.int .i64 0, .bool false, .int .i64 0, .int .i64 0, sV []] 51)
 obtain ⟨wb, hb⟩ : ∃ wb, wa.alloc (.cells #[.int .i64 0, .bool false, .int .i64 0, .int .i64 0, sV []] 51) = wb := ⟨_, rfl⟩
 have B3 := vec_made wb (valL 0 false 0 0 []) 51
 have X3 := x1 wb (.cells #[.int .i64 0, .bool false, .int .i64 0, .int .i64 0, sV []] 51)
 have sa : wa.heap.size = w.heap.size + 1 := by rw [← ha, World.size_alloc]
 have sb : wb.heap.size = w.heap.size + 1 + 1 := by rw [← hb, World.size_alloc, sa]
 change Vec (w.alloc (.cells #[.int .i64 k, .bool n, .int .i64 d, .int .i64 x, sV t] 67)) _ _ at B1
 change Vec (wa.alloc (.cells #[.int .i64 0, .bool false, .int .i64 0, .int .i64 0, sV []] 51)) _ _ at B2
 change Vec (wb.alloc (.cells #[.int .i64 0, .bool false, .int .i64 0, .int .i64 0, sV []] 51)) _ _ at B3
 rw [ha] at X1 B1
 rw [hb] at X2 B2
 rw [sa] at B2
 rw [sb] at B3
 have X := xt (xt X1 X2) X3
 have B1 := (B1.later X2).later X3
 have B2 := B2.later X3
 clear X1 X2 X3
 obtain ⟨wc, hc⟩ : ∃ wc, wb.alloc (.cells #[.int .i64 0, .bool false, .int .i64 0, .int .i64 0, sV []] 51) = wc := ⟨_, rfl⟩
 rw [hc] at B1 B2 B3 X
 have a0 := (B1 0 _ rfl).1
 have a1 := (B1 1 _ rfl).1
 have a2 := (B1 2 _ rfl).1
 have a3 := (B1 3 _ rfl).1
 have c0 := (B3 0 _ rfl).1
 have f0 := (B3 0 _ rfl).2
 go_enter Tryz.func38, Tryz.ntmps38
 go_wp2_with fail
 clear ha hb hc sa sb a0 a1 a2 a3 c0 f0
 refine (toDec n d x _).mono ?_
 rintro e w1 ⟨rfl, e1⟩
 have C1 := (B1.far (p := ⟨w.heap.size + 1 + 1, 0, none⟩) (by show w.heap.size + 1 + 1 ≠ _; omega) (.int .i64 k)).later e1
 have C2 := (B2.far (p := ⟨w.heap.size + 1 + 1, 0, none⟩) (by show w.heap.size + 1 + 1 ≠ _; omega) (.int .i64 k)).later e1
 have C3 : Vec w1 (w.heap.size + 1 + 1) (valL k false 0 0 []) := (B3.put 0 (by simp) (.int .i64 k)).later e1
 have X1 := xt (xset X (p := ⟨w.heap.size + 1 + 1, 0, none⟩) (by show _ ≤ w.heap.size + 1 + 1; omega) (.int .i64 k)) e1
 clear B1 B2 B3 X e1
 obtain ⟨wd, hd⟩ : ∃ wd, setL w1 (w.heap.size + 1 + 1) 1 [.bool n, .int .i64 d, .int .i64 x, sV t] = wd := ⟨_, rfl⟩
 have D2 := C2.farL (k := w.heap.size + 1 + 1) (by omega) [.bool n, .int .i64 d, .int .i64 x, sV t] 1
 have D3 : Vec (setL w1 (w.heap.size + 1 + 1) 1 [.bool n, .int .i64 d, .int .i64 x, sV t]) (w.heap.size + 1 + 1) (valL k n d x t) := (((C3.put 1 (by simp) (.bool n)).put 2 (by simp) (.int .i64 d)).put 3 (by simp) (.int .i64 x)).put 4 (by simp) (sV t)
 have Y := Ext.setL (b := w.heap.size + 1 + 1) (by omega) [.bool n, .int .i64 d, .int .i64 x, sV t] 1 X1
 rw [hd] at D2 D3 Y
 have hd : (((w1.setCell ⟨w.heap.size + 1 + 1, 1, none⟩ (.bool n)).setCell ⟨w.heap.size + 1 + 1, 2, none⟩ (.int .i64 d)).setCell ⟨w.heap.size + 1 + 1, 3, none⟩ (.int .i64 x)).setCell ⟨w.heap.size + 1 + 1, 4, none⟩ (sV t) = wd := hd
 have G2 := D2.put5 (.int .i64 k) (.bool n) (.int .i64 d) (.int .i64 x) (sV t)
 have Z := Ext.setL (b := w.heap.size + 1) (by omega) [.int .i64 k, .bool n, .int .i64 d, .int .i64 x, sV t] 0 Y
 obtain ⟨wy, hy⟩ : ∃ wy, setL wd (w.heap.size + 1) 0 [.int .i64 k, .bool n, .int .i64 d, .int .i64 x, sV t] = wy := ⟨_, rfl⟩
 rw [hy] at G2 Z
 have hy : ((((wd.setCell ⟨w.heap.size + 1, 0, none⟩ (.int .i64 k)).setCell ⟨w.heap.size + 1, 1, none⟩ (.bool n)).setCell ⟨w.heap.size + 1, 2, none⟩ (.int .i64 d)).setCell ⟨w.heap.size + 1, 3, none⟩ (.int .i64 x)).setCell ⟨w.heap.size + 1, 4, none⟩ (sV t) = wy := hy
 have a4 := (C1 4 _ rfl).1
 have k0 := (C3 0 _ rfl).1
 have k1 := (C3 1 _ rfl).1
 have k2 := (C3 2 _ rfl).1
 have k3 := (C3 3 _ rfl).1
 have k4 := (C3 4 _ rfl).1
 have f1 := (C3 1 _ rfl).2
 have f2 := (C3 2 _ rfl).2
 have f3 := (C3 3 _ rfl).2
 have f4 := (C3 4 _ rfl).2
 have m0 := (D3 0 _ rfl).1
 have m1 := (D3 1 _ rfl).1
 have m2 := (D3 2 _ rfl).1
 have m3 := (D3 3 _ rfl).1
 have m4 := (D3 4 _ rfl).1
 have b0 := (D2 0 _ rfl).1
 have b1 := (D2 1 _ rfl).1
 have b2 := (D2 2 _ rfl).1
 have b3 := (D2 3 _ rfl).1
 have b4 := (D2 4 _ rfl).1
 have g0 := (D2 0 _ rfl).2
 have g1 := (D2 1 _ rfl).2
 have g2 := (D2 2 _ rfl).2
 have g3 := (D2 3 _ rfl).2
 have g4 := (D2 4 _ rfl).2
 have d0 := (G2 0 _ rfl).1
 have d1 := (G2 1 _ rfl).1
 have d2 := (G2 2 _ rfl).1
 have d3 := (G2 3 _ rfl).1
 have d4 := (G2 4 _ rfl).1
 clear C1 C2 C3 D2 D3 G2 X1 Y
 go_wp2_with fail
 exact bodyPost_ret (v := valV k n d x t) (by simp [results, Tryz.results38, go_sem, d0, d1, d2, d3, d4]) rfl ⟨rfl, Z⟩

set_option maxHeartbeats 1000000 in
theorem szValue (k : Int) (n : Bool) (d x : Int) (t : List UInt8) (m : Int) (w : World) (h0 : 0 ≤ m) (h1 : m ≤ 1048576) (hl : (t.length : Int) ≤ 9223372036854775807) :
  Calls Tryz.prog 33 #[valV k n d x t, .int .i64 m] w fun e w' => e = .returned (.int .i64 (if m < t.length then -1 else m - t.length)) ∧ Ext w w' := by
 have X0 := x1 w (.cells #[.int .i64 k, .bool n, .int .i64 d, .int .i64 x, sV t] 67)
 obtain ⟨L, hL⟩ : ∃ L, t.length = L := ⟨_, rfl⟩
 have hs : (⟨t.toArray⟩ : ByteArray).size = L := hL
 rw [hL] at hl ⊢
 clear hL
 by_cases hm : m < L
 ·
  rw [if_pos hm]
  go_enter Tryz.func33, Tryz.ntmps33
  go_wp2_with fail
  go_ret
  exact ⟨rfl, X0⟩
 ·
  rw [if_neg hm]
  go_enter Tryz.func33, Tryz.ntmps33
  go_wp2_with fail
  go_ret
  exact ⟨ret_int (by first | rfl | omega), X0⟩

set_option maxHeartbeats 1000000 in
theorem eqDecV_same (n : Bool) (d x : Int) (w : World) :
  Calls Tryz.prog 76 #[decV n d x, decV n d x] w fun e w' => e = .returned (.bool true) ∧ Ext w w' := by
 go_enter Tryz.func76, Tryz.ntmps76
 go_wp2
 all_goals go_ret
 all_goals first | exact ⟨rfl, xa (x1 _ _) _⟩ | simp_all
set_option maxRecDepth 8000 in
set_option maxHeartbeats 1000000 in
theorem eqValue_same (k : Int) (n : Bool) (d x : Int) (t : List UInt8) (w : World) :
  Calls Tryz.prog 48 #[valV k n d x t, valV k n d x t] w fun e w' => e = .returned (.bool true) ∧ Ext w w' := by
 have B1 := vec_made w (valL k n d x t) 51
 have B2 := vec_made (w.alloc (.cells (valL k n d x t).toArray 51)) (valL k n d x t) 51
 have X := xa (x1 w (.cells #[.int .i64 k, .bool n, .int .i64 d, .int .i64 x, sV t] 51)) (.cells #[.int .i64 k, .bool n, .int .i64 d, .int .i64 x, sV t] 51)
 have B1 := B1.later (x1 _ (.cells #[.int .i64 k, .bool n, .int .i64 d, .int .i64 x, sV t] 51))
 rw [World.size_alloc] at B2
 have hp : (t == t) = true := by simp
 go_enter Tryz.func48, Tryz.ntmps48
 go_wp2_with fail
 refine (eqDecV_same _ _ _ _).mono ?_
 rintro e w1 ⟨rfl, e1⟩
 have a4 := ((B1.later e1) 4 _ rfl).1
 have b4 := ((B2.later e1) 4 _ rfl).1
 go_wp2_with fail
 go_ret
 exact ⟨rfl, xt X e1⟩

structure VT where
 k : Int
 n : Bool
 d : Int
 x : Int
 t : List UInt8
abbrev VT.cells (e : VT) : List Value := valL e.k e.n e.d e.x e.t
abbrev VT.val (e : VT) : Value := valV e.k e.n e.d e.x e.t
/-- A row of values from a place on. -/
def RowV (w : World) (b o : Nat) (l : List VT) : Prop := ∀ (i : Nat) (e : VT), l[i]? = some e → ∀ (c : Nat) (u : Value), e.cells[c]? = some u → w.cell? ⟨b, o + i * 5 + c, none⟩ = some u
theorem RowV.later {w w' : World} {b o : Nat} {l : List VT} (h : RowV w b o l) (x : Ext w w') : RowV w' b o l := fun i e hi c u hc => cell_later x (h i e hi c u hc)
theorem RowV.five {w : World} {b o : Nat} {l : List VT} (h : RowV w b o l) {k : Nat} {e : VT} (he : l[k]? = some e) :
  w.cell? ⟨b, o + k * 5, none⟩ = some (.int .i64 e.k) ∧ w.cell? ⟨b, o + k * 5 + 1, none⟩ = some (.bool e.n) ∧ w.cell? ⟨b, o + k * 5 + 2, none⟩ = some (.int .i64 e.d) ∧ w.cell? ⟨b, o + k * 5 + 3, none⟩ = some (.int .i64 e.x) ∧ w.cell? ⟨b, o + k * 5 + 4, none⟩ = some (sV e.t) :=
 ⟨h k e he 0 _ rfl, h k e he 1 _ rfl, h k e he 2 _ rfl, h k e he 3 _ rfl, h k e he 4 _ rfl⟩
/-- A slice of values that lies somewhere. -/
def ValsIn (w : World) (v : Value) (l : List VT) : Prop :=
 ∃ p cap, v = .slice p l.length cap ∧ l.length ≤ cap ∧ (0 < l.length → ∃ b o, p = some ⟨b, o, none⟩ ∧ RowV w b o l)
theorem ValsIn.later {w w' : World} {v : Value} {l : List VT} (h : ValsIn w v l) (x : Ext w w') : ValsIn w' v l := by
 obtain ⟨p, cap, h1, h2, h3⟩ := h
 refine ⟨p, cap, h1, h2, fun h0 => ?_⟩
 obtain ⟨b, o, h4, h5⟩ := h3 h0
 exact ⟨b, o, h4, h5.later x⟩

set_option maxRecDepth 8000 in
set_option maxHeartbeats 1000000 in
/-- How much room values take, as the law asks. -/
theorem szVals (v : Value) (l : List VT) (m : Int) (w : World) (h : ValsIn w v l) (m0 : 0 ≤ m) (m1 : m ≤ 1048576) (hl : l.length ≤ 9223372036854775807) (ht : ∀ e ∈ l, e.t.length ≤ 9223372036854775807) :
  Calls Tryz.prog 16 #[v, .int .i64 m] w fun e w' => (∃ r : Int, e = .returned (.int .i64 r) ∧ -1 ≤ r ∧ r ≤ m ∧ (0 ≤ r → (l.length : Int) ≤ m ∧ ∀ q ∈ l, (q.t.length : Int) ≤ m)) ∧ Ext w w' := by
 obtain ⟨p, cap, rfl, hcap, hrow⟩ := h
 obtain ⟨n, hn⟩ : ∃ n, l.length = n := ⟨_, rfl⟩
 have HN : Hid (l.length = n) := hn
 rw [hn] at hcap hl hrow ⊢
 clear hn
 by_cases hb : m < n
 ·
  go_enter Tryz.func16, Tryz.ntmps16
  go_wp2_with fail
  go_ret
  exact ⟨⟨-1, rfl, by omega, by omega, fun h => by omega⟩, xr _⟩
 ·
  have HRow : Hid (0 < n → ∃ b o, p = some ⟨b, o, none⟩ ∧ RowV w b o l) := hrow
  have HT : Hid (∀ e ∈ l, e.t.length ≤ 9223372036854775807) := ht
  clear hrow ht
  go_enter Tryz.func16, Tryz.ntmps16
  go_wp2_with fail
  go_loopw [1, 5] (fun r i wr => ∃ (k : Nat) (z : Int), k ≤ n ∧ i = .int .i64 k ∧ r = .int .i64 z ∧ 0 ≤ z ∧ z ≤ m ∧ Hid (∀ q ∈ l.take k, (q.t.length : Int) ≤ m) ∧ Ext w wr) (fun _ i _ => n - (intOf i).toNat)
  case atStart => exact ⟨0, m - n, by omega, rfl, by go_num, by omega, by omega, by intro q hq; simp at hq, xr _⟩
  case round =>
   obtain ⟨k, z, hk, rfl, rfl, z0, z1, HA, X⟩ := hrel
   by_cases hlt : k < n
   ·
    obtain ⟨e, he⟩ : ∃ e, l[k]? = some e := ⟨_, List.getElem?_eq_getElem (by rw [HN.out]; exact hlt)⟩
    obtain ⟨b, o, rfl, hR⟩ := HRow.out (by omega)
    obtain ⟨a0, a1, a2, a3, a4⟩ := (hR.later X).five he
    have hT := HT.out e (List.mem_of_getElem? he)
    have HE : Hid (l.take (k + 1) = l.take k ++ [e]) := by
     show _ = _
     rw [List.take_add_one, he]
     rfl
    obtain ⟨ek, en, ed, ex, et⟩ := e
    have i2 : (k : Int) < (n : Int) := by omega
    clear hR he
    dsimp only at a0 a1 a2 a3 a4 hT
    go_wp2_with fail
    refine (szValue ek en ed ex et z _ z0 (by omega) (by omega)).mono ?_
    rintro r w' ⟨rfl, E⟩
    by_cases hz : z < et.length
    ·
     rw [if_pos hz]
     clear a0 a1 a2 a3 a4
     go_wp2_with fail
     go_ret
     exact ⟨⟨-1, rfl, by omega, by omega, fun h => by omega⟩, xt X E⟩
    ·
     rw [if_neg hz]
     obtain ⟨z', hz'⟩ : ∃ z' : Int, z - et.length = z' := ⟨_, rfl⟩
     have h0' : 0 ≤ z' := by omega
     have h1' : z' ≤ m := by omega
     have HL : Hid ((et.length : Int) ≤ m) := by show _ ≤ _; omega
     rw [hz']
     clear a0 a1 a2 a3 a4 hz' hz hT
     go_wp2_with fail
     go_roundw
     case rel =>
      refine ⟨k + 1, z', by omega, by go_num, rfl, h0', h1', ?_, xt X E⟩
      intro q hq
      rw [HE.out] at hq
      rcases List.mem_append.1 hq with hq | hq
      ·
       exact HA.out q hq
      ·
       obtain rfl := List.mem_singleton.1 hq
       exact HL.out
     case measure => simp [intOf]; omega
   ·
    obtain rfl : k = n := by omega
    have HB : Hid (∀ q ∈ l, (q.t.length : Int) ≤ m) := by
     intro q hq
     refine HA.out q ?_
     rw [List.take_of_length_le (by rw [HN.out]; exact Nat.le_refl _)]
     exact hq
    clear HA
    go_wp2_with fail
    go_ret
    exact ⟨⟨z, rfl, by omega, by omega, fun _ => ⟨by omega, HB.out⟩⟩, X⟩

/-- A row of values of one's own. -/
def OwnV (w : World) (g : Nat) (l : List VT) : Prop := ∀ (i : Nat) (e : VT), l[i]? = some e → ∀ (c : Nat) (u : Value), e.cells[c]? = some u → w.cell? ⟨g, i * 5 + c, none⟩ = some u ∧ w.frozen? ⟨g, i * 5 + c, none⟩ = false
theorem OwnV.later {w w' : World} {g : Nat} {l : List VT} (h : OwnV w g l) (x : Ext w w') : OwnV w' g l := fun i e hi c u hc => ⟨cell_later x (h i e hi c u hc).1, frozen_later x (h i e hi c u hc).1 (h i e hi c u hc).2⟩
theorem OwnV.row {w : World} {g : Nat} {l : List VT} (h : OwnV w g l) : RowV w g 0 l := fun i e hi c u hc => by rw [Nat.zero_add]; exact (h i e hi c u hc).1
def zeroVT : VT := ⟨0, false, 0, 0, []⟩
theorem cells_lt {e : VT} {c : Nat} {u : Value} (h : e.cells[c]? = some u) : c < 5 := (List.getElem?_eq_some_iff.1 h).1
theorem OwnV.made (w : World) (n : Nat) (t : TypeId) : OwnV (w.alloc (.cells (madeCells #[.int .i64 0, .bool false, .int .i64 0, .int .i64 0, sV []] (n * 5)) t)) w.heap.size (List.replicate n zeroVT) := by
 intro i e hi c u hc
 have hb := heap_alloc_new w (.cells (madeCells #[.int .i64 0, .bool false, .int .i64 0, .int .i64 0, sV []] (n * 5)) t)
 obtain ⟨hin, rfl⟩ : i < n ∧ e = zeroVT := by
  rw [List.getElem?_replicate] at hi
  split at hi
  ·
   cases hi; exact ⟨by assumption, rfl⟩
  ·
   cases hi
 have h5 := cells_lt hc
 have hlt : i * 5 + c < n * 5 := by omega
 refine ⟨?_, ?_⟩
 ·
  unfold World.cell?
  simp only [hb]
  have e1 : (madeCells #[.int .i64 0, .bool false, .int .i64 0, .int .i64 0, sV []] (n * 5))[i * 5 + c]? = some u := by
   unfold madeCells
   have hm : (i * 5 + c) % 5 = c := by omega
   rw [Array.getElem?_map, Array.getElem?_eq_getElem (by simpa using hlt)]
   simp only [Array.getElem_range, Option.map_some]
   have hs : (#[.int .i64 0, .bool false, .int .i64 0, .int .i64 0, sV []] : Array Value).size = 5 := rfl
   rw [hs, hm, ← hc]
   match c, h5 with
   | 0, _ => rfl
   | 1, _ => rfl
   | 2, _ => rfl
   | 3, _ => rfl
   | 4, _ => rfl
  simpa using e1
 ·
  unfold World.frozen?
  simp only [hb]
  simp
set_option maxHeartbeats 1000000 in
theorem OwnV.put {w : World} {g k : Nat} {l : List VT} (h : OwnV w g l) (hk : k < l.length) (e : VT) :
  OwnV (((((w.setCell ⟨g, k * 5, none⟩ (.int .i64 e.k)).setCell ⟨g, k * 5 + 1, none⟩ (.bool e.n)).setCell ⟨g, k * 5 + 2, none⟩ (.int .i64 e.d)).setCell ⟨g, k * 5 + 3, none⟩ (.int .i64 e.x)).setCell ⟨g, k * 5 + 4, none⟩ (sV e.t)) g (l.set k e) := by
 intro i q hi c u hc
 have h5 := cells_lt hc
 obtain ⟨q0, hq0⟩ : ∃ q0, l[i]? = some q0 := by
  have : i < l.length := by have := (List.getElem?_eq_some_iff.1 hi).1; simpa using this
  exact ⟨_, List.getElem?_eq_getElem this⟩
 obtain ⟨u0, hu0⟩ : ∃ u0, q0.cells[c]? = some u0 := ⟨_, List.getElem?_eq_getElem (show c < q0.cells.length from h5)⟩
 have old := h i q0 hq0 c u0 hu0
 refine ⟨?_, by simp only [World.frozen?_setCell]; exact old.2⟩
 by_cases hik : i = k
 ·
  subst hik
  rw [List.getElem?_set_self (by simpa using hk)] at hi
  cases hi
  obtain ⟨qk, hqk⟩ : ∃ qk, l[i]? = some qk := ⟨_, List.getElem?_eq_getElem hk⟩
  have S : ∀ (c : Nat), c < 5 → ∀ W : World, (∀ c, c < 5 → (W.cell? ⟨g, i * 5 + c, none⟩).isSome = true) → ∀ v, (W.setCell ⟨g, i * 5 + c, none⟩ v).cell? ⟨g, i * 5 + c, none⟩ = some v := fun c hc W hW v => World.cell?_setCell_same' _ _ _ (by have := hW c hc; exact this)
  have sm : ∀ c, c < 5 → (w.cell? ⟨g, i * 5 + c, none⟩).isSome = true := fun c hc => by
   obtain ⟨v, hv⟩ : ∃ v, q0.cells[c]? = some v := ⟨_, List.getElem?_eq_getElem (show c < q0.cells.length from hc)⟩
   rw [(h i q0 hq0 c v hv).1]; rfl
  have keep : ∀ (c0 : Nat) (v : Value) (W : World), (∀ c, c < 5 → (W.cell? ⟨g, i * 5 + c, none⟩).isSome = true) → ∀ c, c < 5 → ((W.setCell ⟨g, i * 5 + c0, none⟩ v).cell? ⟨g, i * 5 + c, none⟩).isSome = true := fun c0 v W hW c hc => by
   by_cases e : c = c0
   ·
    subst e; rw [S c hc W hW v]; rfl
   ·
    rw [World.cell?_setCell_other _ _ _ _ (fun q => e (by have := congrArg Addr.off q; simp at this; omega))]; exact hW c hc
  have O : ∀ (c0 c : Nat) (v : Value) (W : World), c ≠ c0 → (W.setCell ⟨g, i * 5 + c0, none⟩ v).cell? ⟨g, i * 5 + c, none⟩ = W.cell? ⟨g, i * 5 + c, none⟩ := fun c0 c v W hne => World.cell?_setCell_other _ _ _ _ (fun q => hne (by have := congrArg Addr.off q; simp at this; omega))
  have s0 := sm
  have s1 := keep 0 (.int .i64 e.k) w s0
  have s2 := keep 1 (.bool e.n) _ s1
  have s3 := keep 2 (.int .i64 e.d) _ s2
  have s4 := keep 3 (.int .i64 e.x) _ s3
  match c, h5, hc with
  | 0, _, hc => cases hc; exact (O 4 0 _ _ (by decide)).trans ((O 3 0 _ _ (by decide)).trans ((O 2 0 _ _ (by decide)).trans ((O 1 0 _ _ (by decide)).trans (S 0 (by decide) w s0 _))))
  | 1, _, hc => cases hc; exact (O 4 1 _ _ (by decide)).trans ((O 3 1 _ _ (by decide)).trans ((O 2 1 _ _ (by decide)).trans (S 1 (by decide) _ s1 _)))
  | 2, _, hc => cases hc; exact (O 4 2 _ _ (by decide)).trans ((O 3 2 _ _ (by decide)).trans (S 2 (by decide) _ s2 _))
  | 3, _, hc => cases hc; exact (O 4 3 _ _ (by decide)).trans (S 3 (by decide) _ s3 _)
  | 4, _, hc => cases hc; exact S 4 (by decide) _ s4 _
 ·
  rw [List.getElem?_set_ne (fun q => hik q.symm)] at hi
  have O : ∀ (c0 : Nat) (v : Value) (W : World), c0 < 5 → (W.setCell ⟨g, k * 5 + c0, none⟩ v).cell? ⟨g, i * 5 + c, none⟩ = W.cell? ⟨g, i * 5 + c, none⟩ := fun c0 v W h0 => World.cell?_setCell_other _ _ _ _ (fun q => hik (by have := congrArg Addr.off q; simp at this; omega))
  exact (O 4 _ _ (by decide)).trans ((O 3 _ _ (by decide)).trans ((O 2 _ _ (by decide)).trans ((O 1 _ _ (by decide)).trans ((O 0 _ _ (by decide)).trans (h i q hi c u hc).1))))
theorem OwnV.five {w : World} {g : Nat} {l : List VT} (h : OwnV w g l) {k : Nat} {e : VT} (he : l[k]? = some e) :
  (w.cell? ⟨g, k * 5, none⟩ = some (.int .i64 e.k) ∧ w.cell? ⟨g, k * 5 + 1, none⟩ = some (.bool e.n) ∧ w.cell? ⟨g, k * 5 + 2, none⟩ = some (.int .i64 e.d) ∧ w.cell? ⟨g, k * 5 + 3, none⟩ = some (.int .i64 e.x) ∧ w.cell? ⟨g, k * 5 + 4, none⟩ = some (sV e.t)) ∧
  w.frozen? ⟨g, k * 5, none⟩ = false ∧ w.frozen? ⟨g, k * 5 + 1, none⟩ = false ∧ w.frozen? ⟨g, k * 5 + 2, none⟩ = false ∧ w.frozen? ⟨g, k * 5 + 3, none⟩ = false ∧ w.frozen? ⟨g, k * 5 + 4, none⟩ = false :=
 ⟨⟨(h k e he 0 _ rfl).1, (h k e he 1 _ rfl).1, (h k e he 2 _ rfl).1, (h k e he 3 _ rfl).1, (h k e he 4 _ rfl).1⟩, (h k e he 0 _ rfl).2, (h k e he 1 _ rfl).2, (h k e he 2 _ rfl).2, (h k e he 3 _ rfl).2, (h k e he 4 _ rfl).2⟩

end Go.Proofs.YtgpfddneablcpaaGreatDoor

