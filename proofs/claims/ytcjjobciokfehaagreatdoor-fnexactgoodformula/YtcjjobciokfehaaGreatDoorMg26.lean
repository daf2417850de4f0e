/-
  Several texts in one: Gf2, Gf3.
-/
import Derived.Test.YtcjjobciokfehaaGreatDoorGf1
import Derived.Test.YtcjjobciokfehaaGreatDoorShelb
import Derived.Test.YtcjjobciokfehaaGreatDoorMg25
import Derived.Deep.RegionWith
import Derived.Deep.QuietTactic
import Derived.BigQuiet
import Derived.BigRegion
namespace Go.Proofs.YtcjjobciokfehaaGreatDoor
open Go.RowKit

theorem mNodeL (v : Value) (w : World) : (Go.method 336 122 v "loop.example/g00025/impl.node").run Tryz.prog w = .ok (202, v) w := by kernel_rfl
theorem mNodeS (v : Value) (w : World) : (Go.method 336 110 v "loop.example/g00025/impl.node").run Tryz.prog w = .ok (190, v) w := by kernel_rfl
theorem mNodeP (v : Value) (w : World) : (Go.method 336 115 v "loop.example/g00025/impl.node").run Tryz.prog w = .ok (193, v) w := by kernel_rfl
theorem mNodeC (v : Value) (w : World) : (Go.method 336 117 v "loop.example/g00025/impl.node").run Tryz.prog w = .ok (196, v) w := by kernel_rfl
theorem mNodeA (v : Value) (w : World) : (Go.method 336 120 v "loop.example/g00025/impl.node").run Tryz.prog w = .ok (199, v) w := by kernel_rfl
theorem mKidsS (v : Value) (w : World) : (Go.method 336 110 v "loop.example/g00025/impl.kids").run Tryz.prog w = .ok (188, v) w := by kernel_rfl
/-- What kind the first node of a tree is of, by the tree's value. -/
inductive KindV : Value → Int → Prop
 | leaf (x : NT) : KindV (.iface 122 x.val) x.k
 | signed (k : Int) (kid : Value) : KindV (.iface 110 (.agg #[.int .i64 k, kid])) k
 | pair (t : List UInt8) (lev : Int) (l r : Value) : KindV (.iface 115 (.agg #[sV t, .int .i64 lev, l, r])) 10
 | call (t : List UInt8) (p : Option Addr) (n c : Nat) : KindV (.iface 117 (.agg #[sV t, .slice p n c])) 11
 | array (r : Int) (p : Option Addr) (n c : Nat) (h0 : 0 ≤ r) (h1 : r ≤ 20) : KindV (.iface 120 (.agg #[.int .i64 r, .slice p n c])) 12
theorem field_kind (k : Int) (l : Value) (n : Bool) (d x r c : Int) (f g : Bool) (r2 c2 : Int) (f2 g2 : Bool) (q : Int) (W : World) : (Instr.field 48 (.agg #[.int .i64 k, l, .bool n, .int .i64 d, .int .i64 x, .int .i64 r, .int .i64 c, .bool f, .bool g, .int .i64 r2, .int .i64 c2, .bool f2, .bool g2, .int .i64 q]) 0).run Tryz.prog W = .ok (.int .i64 k) W := by kernel_rfl
theorem fItoaSm : layItoaS_ren.f 171 = 93 := by kernel_rfl
theorem itoaSm (i : Nat) (hi : i < 100) (w : World) :
  Calls Tryz.prog 93 #[.int .i64 (i : Int)] w fun e w' => e = .returned (sV (Lib.decDigits i)) ∧ w' = w := by
 have h := Any.strconv_Itoa_small layItoaS i hi w
 rw [fItoaSm] at h
 exact h
set_option maxRecDepth 8000 in
set_option maxHeartbeats 1000000 in
theorem node_array (r : Int) (p : Option Addr) (n c : Nat) (w : World) (h0 : 0 ≤ r) (h1 : r ≤ 20) : Calls Tryz.prog 199 #[.agg #[.int .i64 r, .slice p n c]] w fun e w' => (∃ t, e = .returned (.agg #[.int .i64 12, sV t, .bool false, .int .i64 0, .int .i64 0, .int .i64 0, .int .i64 0, .bool false, .bool false, .int .i64 0, .int .i64 0, .bool false, .bool false, .int .i64 (n : Int)])) ∧ Ext w w' := by
 obtain ⟨i, rfl⟩ : ∃ i : Nat, r = (i : Int) := ⟨r.toNat, by omega⟩
 obtain ⟨D, hD⟩ : ∃ D, Lib.decDigits i = D := ⟨_, rfl⟩
 have IT : ∀ W, Calls Tryz.prog 93 #[.int .i64 (i : Int)] W fun e w' => e = .returned (sV D) ∧ w' = W := fun W => by rw [← hD]; exact itoaSm i (by omega) W
 have VN := vec_made w [.int .i64 (i : Int), .slice p n c] 120
 have X1 := x1 w (.cells [.int .i64 (i : Int), .slice p n c].toArray 120)
 obtain ⟨wa, ha⟩ : ∃ wa, w.alloc (.cells [.int .i64 (i : Int), .slice p n c].toArray 120) = wa := ⟨_, rfl⟩
 have VZ := vec_made wa [.int .i64 0, .string ⟨#[]⟩, .bool false, .int .i64 0, .int .i64 0, .int .i64 0, .int .i64 0, .bool false, .bool false, .int .i64 0, .int .i64 0, .bool false, .bool false, .int .i64 0] 48
 have X2 := x1 wa (.cells [.int .i64 0, .string ⟨#[]⟩, .bool false, .int .i64 0, .int .i64 0, .int .i64 0, .int .i64 0, .bool false, .bool false, .int .i64 0, .int .i64 0, .bool false, .bool false, .int .i64 0].toArray 48)
 have sa : wa.heap.size = w.heap.size + 1 := by rw [← ha, World.size_alloc]
 obtain ⟨wb, hb⟩ : ∃ wb, wa.alloc (.cells [.int .i64 0, .string ⟨#[]⟩, .bool false, .int .i64 0, .int .i64 0, .int .i64 0, .int .i64 0, .bool false, .bool false, .int .i64 0, .int .i64 0, .bool false, .bool false, .int .i64 0].toArray 48) = wb := ⟨_, rfl⟩
 rw [ha] at VN X1
 rw [hb] at VZ X2
 rw [sa] at VZ
 have VN := VN.later X2
 have X := xt X1 X2
 clear X1 X2 hD h0 h1
 have a0 := (VN 0 _ rfl).1
 have a1 := (VN 1 _ rfl).1
 go_enter Tryz.func199, Tryz.ntmps199
 go_wp2_with fail
 refine wp_region_letters_c (fun lx : Nat → Value => { tmps := #[.agg #[.int .i64 (i : Int), .slice p n c], .pointer (some ⟨w.heap.size, 0, none⟩), .pointer (some ⟨w.heap.size + 1, 0, none⟩), lx 3, lx 4, lx 5, lx 6, lx 7, lx 8, lx 9], defers := [] }) (fun L lx lw => Hid ((L 7 = false → Ext wb lw) ∧ (L 7 = true → lw.rangeAt (w.heap.size + 1) 0 [.int .i64 12, sV D, .bool false, .int .i64 0, .int .i64 0, .int .i64 0, .int .i64 0, .bool false, .bool false, .int .i64 0, .int .i64 0, .bool false, .bool false, .int .i64 (n : Int)] ∧ Ext w lw) ∧ (L 0 = true → lx 3 = .pointer (some ⟨w.heap.size, 0, none⟩)) ∧ (L 1 = true → lx 4 = .int .i64 (i : Int)) ∧ (L 2 = true → lx 5 = sV D) ∧ (L 3 = true → lx 6 = .pointer (some ⟨w.heap.size, 1, none⟩)) ∧ (L 4 = true → lx 7 = .slice p n c) ∧ (L 5 = true → lx 8 = .int .i64 (n : Int)) ∧ (L 6 = true → lx 9 = .agg #[.int .i64 12, sV D, .bool false, .int .i64 0, .int .i64 0, .int .i64 0, .int .i64 0, .bool false, .bool false, .int .i64 0, .int .i64 0, .bool false, .bool false, .int .i64 (n : Int)]))) rfl (by kernel_rfl) (fun _ => undef) rfl ?_ ?_ ?_
 ·
  exact ⟨(fun _ => xd (xr _)), (fun h => by cases h), (fun h => by cases h), (fun h => by cases h), (fun h => by cases h), (fun h => by cases h), (fun h => by cases h), (fun h => by cases h), (fun h => by cases h)⟩
 ·
  intro L lx wl ix o K hK ho hL haf hI hcl
  obtain ⟨E, S, f0, f1, f2, f3, f4, f5, f6⟩ := hI.out
  match ix, ho, hL, haf, hK with
  | 0, ho, hL, haf, hK =>
   cases ho
   (try dsimp only)
   have h7 : L 7 = false := hcl.bars (i := 7) (j := 0) [6, 2, 1, 0] hL (by kernel_rfl) rfl
   refine Eq.mpr (if_pos (by rfl)) ?_
   go_wp2_with fail
   exact hK (fun jj => if jj = 3 then .pointer (some ⟨w.heap.size, 0, none⟩) else lx jj) _ ⟨E, S, (fun _ => rfl), f1, f2, f3, f4, f5, f6⟩
  | 1, ho, hL, haf, hK =>
   cases ho
   (try dsimp only)
   have h7 : L 7 = false := hcl.bars (i := 7) (j := 1) [6, 2, 1] hL (by kernel_rfl) rfl
   rw [f0 (haf ⟨0, .data⟩ (by simp) rfl)]
   refine Eq.mpr (if_pos (by rfl)) ?_
   have c0 := cell_later (E h7) a0
   go_wp2_with fail
   exact hK (fun jj => if jj = 4 then .int .i64 (i : Int) else if jj = 3 then .pointer (some ⟨w.heap.size, 0, none⟩) else lx jj) _ ⟨E, S, (fun _ => rfl), (fun _ => rfl), f2, f3, f4, f5, f6⟩
  | 2, ho, hL, haf, hK =>
   cases ho
   (try dsimp only)
   have h7 : L 7 = false := hcl.bars (i := 7) (j := 2) [6, 2] hL (by kernel_rfl) rfl
   rw [f1 (haf ⟨1, .data⟩ (by simp) rfl)]
   refine Eq.mpr (if_pos (by rfl)) ?_
   go_wp2_with fail
   refine (IT wl).mono ?_
   rintro rr w' ⟨rfl, rfl⟩
   go_wp2_with fail
   exact hK (fun jj => if jj = 5 then sV D else if jj = 4 then .int .i64 (i : Int) else lx jj) _ ⟨E, S, f0, (fun _ => rfl), (fun _ => rfl), f3, f4, f5, f6⟩
  | 3, ho, hL, haf, hK =>
   cases ho
   (try dsimp only)
   have h7 : L 7 = false := hcl.bars (i := 7) (j := 3) [6, 5, 4, 3] hL (by kernel_rfl) rfl
   refine Eq.mpr (if_pos (by rfl)) ?_
   go_wp2_with fail
   exact hK (fun jj => if jj = 6 then .pointer (some ⟨w.heap.size, 1, none⟩) else lx jj) _ ⟨E, S, f0, f1, f2, (fun _ => rfl), f4, f5, f6⟩
  | 4, ho, hL, haf, hK =>
   cases ho
   (try dsimp only)
   have h7 : L 7 = false := hcl.bars (i := 7) (j := 4) [6, 5, 4] hL (by kernel_rfl) rfl
   rw [f3 (haf ⟨3, .data⟩ (by simp) rfl)]
   refine Eq.mpr (if_pos (by rfl)) ?_
   have c1 := cell_later (E h7) a1
   go_wp2_with fail
   exact hK (fun jj => if jj = 7 then .slice p n c else if jj = 6 then .pointer (some ⟨w.heap.size, 1, none⟩) else lx jj) _ ⟨E, S, f0, f1, f2, (fun _ => rfl), (fun _ => rfl), f5, f6⟩
  | 5, ho, hL, haf, hK =>
   cases ho
   (try dsimp only)
   have h7 : L 7 = false := hcl.bars (i := 7) (j := 5) [6, 5] hL (by kernel_rfl) rfl
   rw [f4 (haf ⟨4, .data⟩ (by simp) rfl)]
   refine Eq.mpr (if_pos (by rfl)) ?_
   go_wp2_with fail
   exact hK (fun jj => if jj = 8 then .int .i64 (n : Int) else if jj = 7 then .slice p n c else lx jj) _ ⟨E, S, f0, f1, f2, f3, (fun _ => rfl), (fun _ => rfl), f6⟩
  | 6, ho, hL, haf, hK =>
   cases ho
   (try dsimp only)
   have h7 : L 7 = false := hcl.bars (i := 7) (j := 6) [6] hL (by kernel_rfl) rfl
   rw [f2 (haf ⟨2, .data⟩ (by simp) rfl), f5 (haf ⟨5, .data⟩ (by simp) rfl)]
   refine Eq.mpr (if_pos (by rfl)) ?_
   go_wp2_with fail
   exact hK (fun jj => if jj = 9 then .agg #[.int .i64 12, sV D, .bool false, .int .i64 0, .int .i64 0, .int .i64 0, .int .i64 0, .bool false, .bool false, .int .i64 0, .int .i64 0, .bool false, .bool false, .int .i64 (n : Int)] else if jj = 5 then sV D else if jj = 8 then .int .i64 (n : Int) else lx jj) _ ⟨E, S, f0, f1, (fun _ => rfl), f3, f4, (fun _ => rfl), (fun _ => rfl)⟩
  | 7, ho, hL, haf, hK =>
   cases ho
   (try dsimp only)
   rw [f6 (haf ⟨6, .data⟩ (by simp) rfl)]
   refine Eq.mpr (if_pos (by rfl)) ?_
   have E7 := E hL
   have VT := (VZ.later E7).there
   have VR := World.rangeAt_setCells_same wl (w.heap.size + 1) 0 [.int .i64 12, sV D, .bool false, .int .i64 0, .int .i64 0, .int .i64 0, .int .i64 0, .bool false, .bool false, .int .i64 0, .int .i64 0, .bool false, .bool false, .int .i64 (n : Int)] VT
   have XR := Ext.setCells (b := w.heap.size + 1) (by omega) [.int .i64 12, sV D, .bool false, .int .i64 0, .int .i64 0, .int .i64 0, .int .i64 0, .bool false, .bool false, .int .i64 0, .int .i64 0, .bool false, .bool false, .int .i64 (n : Int)] 0 wl (xt X E7)
   have one : (#[.int .i64 12, sV D, .bool false, .int .i64 0, .int .i64 0, .int .i64 0, .int .i64 0, .bool false, .bool false, .int .i64 0, .int .i64 0, .bool false, .bool false, .int .i64 (n : Int)] : Array Value).all (·.oneCell') = true := by simp [Value.oneCell']
   refine wpList_store_mid rfl _ _ _ rfl (w.heap.size + 1) 0 #[.int .i64 12, sV D, .bool false, .int .i64 0, .int .i64 0, .int .i64 0, .int .i64 0, .bool false, .bool false, .int .i64 0, .int .i64 0, .bool false, .bool false, .int .i64 (n : Int)] rfl rfl VT hi14N one ?_
   go_wp2_with fail
   exact hK (fun jj => if jj = 9 then .agg #[.int .i64 12, sV D, .bool false, .int .i64 0, .int .i64 0, .int .i64 0, .int .i64 0, .bool false, .bool false, .int .i64 0, .int .i64 0, .bool false, .bool false, .int .i64 (n : Int)] else lx jj) _ ⟨(fun h => by cases h), (fun _ => ⟨VR, XR⟩), f0, f1, f2, f3, f4, f5, (fun _ => rfl)⟩
  | k + 8, ho, _, _, _ => simp at ho
 ·
  intro L lx wq hall hI
  obtain ⟨E, S, f0, f1, f2, f3, f4, f5, f6⟩ := hI.out
  obtain ⟨VR, XR⟩ := S (hall 7 (by simp))
  have e0 := rangeAt_cell VR (i := 0) rfl
  have e1 := rangeAt_cell VR (i := 1) rfl
  have e2 := rangeAt_cell VR (i := 2) rfl
  have e3 := rangeAt_cell VR (i := 3) rfl
  have e4 := rangeAt_cell VR (i := 4) rfl
  have e5 := rangeAt_cell VR (i := 5) rfl
  have e6 := rangeAt_cell VR (i := 6) rfl
  have e7 := rangeAt_cell VR (i := 7) rfl
  have e8 := rangeAt_cell VR (i := 8) rfl
  have e9 := rangeAt_cell VR (i := 9) rfl
  have e10 := rangeAt_cell VR (i := 10) rfl
  have e11 := rangeAt_cell VR (i := 11) rfl
  have e12 := rangeAt_cell VR (i := 12) rfl
  have e13 := rangeAt_cell VR (i := 13) rfl
  (try dsimp only)
  go_wp2_with fail
  exact bodyPost_ret (v := .agg #[.int .i64 12, sV D, .bool false, .int .i64 0, .int .i64 0, .int .i64 0, .int .i64 0, .bool false, .bool false, .int .i64 0, .int .i64 0, .bool false, .bool false, .int .i64 (n : Int)]) (by simp [results, Tryz.results199, go_sem, e0, e1, e2, e3, e4, e5, e6, e7, e8, e9, e10, e11, e12, e13]) rfl ⟨⟨D, rfl⟩, XR⟩
set_option maxRecDepth 8000 in
set_option maxHeartbeats 1000000 in
theorem isNothingI (v : Value) (k : Int) (w : World) (h : KindV v k) : Calls Tryz.prog 43 #[v] w fun e w' => e = .returned (.bool (decide (k = 13))) ∧ Ext w w' := by
 have M1 := mNodeL
 have M2 := mNodeS
 have M3 := mNodeP
 have M4 := mNodeC
 have M5 := mNodeA
 have F := field_kind
 cases h with
 | leaf x =>
  go_enter Tryz.func43, Tryz.ntmps43
  go_wp2_with fail
  refine (node_leaf x w).mono ?_
  rintro e w1 ⟨rfl, e1⟩
  go_wp2_with fail
  go_ret
  exact ⟨ret_bool (by first | rfl | simp | (cases hq : _ == _ <;> simp_all)), e1⟩
 | signed k kid =>
  go_enter Tryz.func43, Tryz.ntmps43
  go_wp2_with fail
  refine (node_signed k kid w).mono ?_
  rintro e w1 ⟨rfl, e1⟩
  go_wp2_with fail
  go_ret
  exact ⟨ret_bool (by first | rfl | simp | (cases hq : _ == _ <;> simp_all)), e1⟩
 | pair t lev l r =>
  go_enter Tryz.func43, Tryz.ntmps43
  go_wp2_with fail
  refine (node_pair t lev l r w).mono ?_
  rintro e w1 ⟨rfl, e1⟩
  go_wp2_with fail
  go_ret
  exact ⟨ret_bool (by first | rfl | simp | (cases hq : _ == _ <;> simp_all)), e1⟩
 | call t p n c =>
  go_enter Tryz.func43, Tryz.ntmps43
  go_wp2_with fail
  refine (node_call t p n c w).mono ?_
  rintro e w1 ⟨rfl, e1⟩
  go_wp2_with fail
  go_ret
  exact ⟨ret_bool (by first | rfl | simp | (cases hq : _ == _ <;> simp_all)), e1⟩
 | array r p n c h0 h1 =>
  go_enter Tryz.func43, Tryz.ntmps43
  go_wp2_with fail
  refine (node_array r p n c w h0 h1).mono ?_
  rintro e w1 ⟨⟨t, rfl⟩, e1⟩
  go_wp2_with fail
  go_ret
  exact ⟨ret_bool (by first | rfl | simp | (cases hq : _ == _ <;> simp_all)), e1⟩

/-- A tree as a value: what kind it is of, and what kind stands below a minus. -/
def ShapeV (v : Value) (e : ET) : Prop := KindV v e.n.k ∧ (e.n.k = 8 → ∃ kid x, v = .iface 110 (.agg #[.int .i64 8, kid]) ∧ e.kids = [x] ∧ KindV kid x.n.k)
theorem KindV.iface {v : Value} {k : Int} (h : KindV v k) : ∃ T a, v = .iface T a := by
 cases h <;> exact ⟨_, _, rfl⟩
set_option maxRecDepth 8000 in
set_option maxHeartbeats 1000000 in
theorem kids_signed (k : Int) (T : TypeId) (a : Value) (w : World) : Calls Tryz.prog 188 #[.agg #[.int .i64 k, (.iface T a)]] w fun e w' => ∃ b, e = .returned (.slice (some ⟨b, 0, none⟩) 1 1) ∧ Vec w' b [(.iface T a)] ∧ Ext w w' := by
 have VN := vec_made w [.int .i64 k, (.iface T a)] 110
 have X1 := x1 w (.cells [.int .i64 k, (.iface T a)].toArray 110)
 obtain ⟨wa, ha⟩ : ∃ wa, w.alloc (.cells [.int .i64 k, (.iface T a)].toArray 110) = wa := ⟨_, rfl⟩
 rw [ha] at VN X1
 have a1 := (VN 1 _ rfl).1
 have V2 := vec_made wa [(.iface T a)] 56
 have X2 := x1 wa (.cells [(.iface T a)].toArray 56)
 go_enter Tryz.func188, Tryz.ntmps188
 go_wp2_with fail
 go_ret
 exact ⟨_, rfl, V2, xt X1 X2⟩

set_option maxRecDepth 8000 in
set_option maxHeartbeats 2000000 in
/-- A minus ahead of something. -/
theorem noVal_minus (kid : Value) (j : Int) (w : World) (h : KindV kid j) : Calls Tryz.prog 74 #[.iface 110 (.agg #[.int .i64 8, kid])] w fun e w' => e = .returned (.bool (!decide (j = 1))) ∧ Ext w w' := by
 have M1 := mNodeL
 have M2 := mNodeS
 have M3 := mNodeP
 have M4 := mNodeC
 have M5 := mNodeA
 have M6 := mKidsS
 have F := field_kind
 go_enter Tryz.func74, Tryz.ntmps74
 go_wp2_with fail
 refine (node_signed 8 kid w).mono ?_
 rintro e w1 ⟨rfl, e1⟩
 go_wp2_with fail
 obtain ⟨T, a, rfl⟩ := h.iface
 refine (kids_signed 8 T a w1).mono ?_
 rintro e w2 ⟨b, rfl, V, e2⟩
 have c0 := (V 0 _ rfl).1
 have X2 := xt e1 e2
 clear V e1 e2
 cases h with
 | leaf x =>
  go_wp2_with fail
  refine (node_leaf x w2).mono ?_
  rintro e w3 ⟨rfl, e3⟩
  go_wp2_with fail
  go_ret
  exact ⟨ret_bool (by first | rfl | simp | (cases hq : _ == _ <;> simp_all)), xt X2 e3⟩
 | signed k kid2 =>
  go_wp2_with fail
  refine (node_signed j kid2 w2).mono ?_
  rintro e w3 ⟨rfl, e3⟩
  go_wp2_with fail
  go_ret
  exact ⟨ret_bool (by first | rfl | simp | (cases hq : _ == _ <;> simp_all)), xt X2 e3⟩
 | pair t lev l r =>
  go_wp2_with fail
  refine (node_pair t lev l r w2).mono ?_
  rintro e w3 ⟨rfl, e3⟩
  go_wp2_with fail
  go_ret
  exact ⟨ret_bool (by first | rfl | simp | (cases hq : _ == _ <;> simp_all)), xt X2 e3⟩
 | call t p n c =>
  go_wp2_with fail
  refine (node_call t p n c w2).mono ?_
  rintro e w3 ⟨rfl, e3⟩
  go_wp2_with fail
  go_ret
  exact ⟨ret_bool (by first | rfl | simp | (cases hq : _ == _ <;> simp_all)), xt X2 e3⟩
 | array r p n c h0 h1 =>
  go_wp2_with fail
  refine (node_array r p n c w2 h0 h1).mono ?_
  rintro e w3 ⟨⟨t, rfl⟩, e3⟩
  go_wp2_with fail
  go_ret
  exact ⟨ret_bool (by first | rfl | simp | (cases hq : _ == _ <;> simp_all)), xt X2 e3⟩
set_option maxRecDepth 8000 in
set_option maxHeartbeats 2000000 in
theorem noVal_other (v : Value) (k : Int) (w : World) (h : KindV v k) (h8 : k ≠ 8) : Calls Tryz.prog 74 #[v] w fun e w' => e = .returned (.bool (if k = 1 ∨ k = 2 ∨ k = 3 ∨ k = 4 then false else true)) ∧ Ext w w' := by
 have M1 := mNodeL
 have M2 := mNodeS
 have M3 := mNodeP
 have M4 := mNodeC
 have M5 := mNodeA
 have F := field_kind
 cases h with
 | leaf x =>
  obtain ⟨k, hk⟩ : ∃ k, x.k = k := ⟨_, rfl⟩
  have ND := node_leaf x w
  rw [hk] at ND h8 ⊢
  show Calls Tryz.prog 74 #[.iface 122 (.agg #[.int .i64 x.k, sV x.t, .bool x.n, .int .i64 x.d, .int .i64 x.x, .int .i64 x.r, .int .i64 x.c, .bool x.f, .bool x.g, .int .i64 x.r2, .int .i64 x.c2, .bool x.f2, .bool x.g2, .int .i64 x.q])] w _
  rw [hk]
  clear hk
  by_cases h14 : k = 1 ∨ k = 2 ∨ k = 3 ∨ k = 4
  ·
   rw [if_pos h14]
   rcases h14 with rfl | rfl | rfl | rfl
   all_goals
    go_enter Tryz.func74, Tryz.ntmps74
    go_wp2_with fail
    refine ND.mono ?_
    rintro e w3 ⟨rfl, e3⟩
    go_wp2_with fail
    go_ret
    exact ⟨rfl, e3⟩
  ·
   rw [if_neg h14]
   have q1 : ¬ k = 1 := fun q => h14 (.inl q)
   have q2 : ¬ k = 2 := fun q => h14 (.inr (.inl q))
   have q3 : ¬ k = 3 := fun q => h14 (.inr (.inr (.inl q)))
   have q4 : ¬ k = 4 := fun q => h14 (.inr (.inr (.inr q)))
   clear h14
   go_enter Tryz.func74, Tryz.ntmps74
   go_wp2_with fail
   refine ND.mono ?_
   rintro e w3 ⟨rfl, e3⟩
   go_wp2_with fail
   go_ret
   exact ⟨rfl, e3⟩
 | signed k kid =>
  have ND := node_signed k kid w
  by_cases h14 : k = 1 ∨ k = 2 ∨ k = 3 ∨ k = 4
  ·
   rw [if_pos h14]
   rcases h14 with rfl | rfl | rfl | rfl
   all_goals
    go_enter Tryz.func74, Tryz.ntmps74
    go_wp2_with fail
    refine ND.mono ?_
    rintro e w3 ⟨rfl, e3⟩
    go_wp2_with fail
    go_ret
    exact ⟨rfl, e3⟩
  ·
   rw [if_neg h14]
   have q1 : ¬ k = 1 := fun q => h14 (.inl q)
   have q2 : ¬ k = 2 := fun q => h14 (.inr (.inl q))
   have q3 : ¬ k = 3 := fun q => h14 (.inr (.inr (.inl q)))
   have q4 : ¬ k = 4 := fun q => h14 (.inr (.inr (.inr q)))
   clear h14
   go_enter Tryz.func74, Tryz.ntmps74
   go_wp2_with fail
   refine ND.mono ?_
   rintro e w3 ⟨rfl, e3⟩
   go_wp2_with fail
   go_ret
   exact ⟨rfl, e3⟩
 | pair t lev l r =>
  go_enter Tryz.func74, Tryz.ntmps74
  go_wp2_with fail
  refine (node_pair t lev l r w).mono ?_
  rintro e w3 ⟨rfl, e3⟩
  go_wp2_with fail
  go_ret
  exact ⟨by simp, e3⟩
 | call t p n c =>
  go_enter Tryz.func74, Tryz.ntmps74
  go_wp2_with fail
  refine (node_call t p n c w).mono ?_
  rintro e w3 ⟨rfl, e3⟩
  go_wp2_with fail
  go_ret
  exact ⟨by simp, e3⟩
 | array r p n c h0 h1 =>
  go_enter Tryz.func74, Tryz.ntmps74
  go_wp2_with fail
  refine (node_array r p n c w h0 h1).mono ?_
  rintro e w3 ⟨⟨t, rfl⟩, e3⟩
  go_wp2_with fail
  go_ret
  exact ⟨by simp, e3⟩
theorem noValI (v : Value) (e : ET) (w : World) (h : ShapeV v e) : Calls Tryz.prog 74 #[v] w fun r w' => r = .returned (.bool (noValE e)) ∧ Ext w w' := by
 by_cases h8 : e.n.k = 8
 ·
  obtain ⟨kid, x, rfl, hk, hx⟩ := h.2 h8
  have := noVal_minus kid _ w hx
  have he : noValE e = !decide (x.n.k = 1) := by
   unfold noValE
   rw [if_neg (by omega), if_pos h8, hk]
   simp
  rw [he]
  exact this
 ·
  have := noVal_other v _ w h.1 h8
  have he : noValE e = if e.n.k = 1 ∨ e.n.k = 2 ∨ e.n.k = 3 ∨ e.n.k = 4 then false else true := by
   unfold noValE
   by_cases h14 : e.n.k = 1 ∨ e.n.k = 2 ∨ e.n.k = 3 ∨ e.n.k = 4
   ·
    rw [if_pos h14, if_pos h14]
   ·
    rw [if_neg h14, if_neg h14, if_neg h8]
  rw [he]
  exact this
theorem isNoI (v : Value) (e : ET) (w : World) (h : ShapeV v e) : Calls Tryz.prog 43 #[v] w fun r w' => r = .returned (.bool (isNoE e)) ∧ Ext w w' := isNothingI v _ w h.1

end Go.Proofs.YtcjjobciokfehaaGreatDoor

