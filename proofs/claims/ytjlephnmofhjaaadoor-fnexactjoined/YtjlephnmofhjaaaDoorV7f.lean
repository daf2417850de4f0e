/-
  Chapter 6: grids handed over, compared; the law of GoodGrid.
-/
import Derived.Test.YtjlephnmofhjaaaDoorMg5
import Derived.Deep.RegionHeld3
namespace Go.Proofs.YtjlephnmofhjaaaDoor
open Go.RowKit

theorem OwnV.far {w : World} {g : Nat} {l : List VT} (h : OwnV w g l) {p : Addr} (hp : p.block ≠ g) (u : Value) : OwnV (w.setCell p u) g l := fun i e hi c v hc => by
 refine ⟨?_, by rw [World.frozen?_setCell]; exact (h i e hi c v hc).2⟩
 rw [World.cell?_setCell_other _ _ _ _ (fun e => hp (congrArg Addr.block e))]
 exact (h i e hi c v hc).1
theorem Vec.put3 {w : World} {b : Nat} {v0 v1 v2 : Value} (h : Vec w b [v0, v1, v2]) (u0 u1 u2 : Value) : Vec (((w.setCell ⟨b, 0, none⟩ u0).setCell ⟨b, 1, none⟩ u1).setCell ⟨b, 2, none⟩ u2) b [u0, u1, u2] :=
 ((h.put 0 (by simp) u0).put 1 (by simp) u1).put 2 (by simp) u2
theorem OwnV.vals {w : World} {g : Nat} {l : List VT} (h : OwnV w g l) : ValsIn w (.slice (some ⟨g, 0, none⟩) l.length l.length) l :=
 ⟨_, _, rfl, Nat.le_refl _, fun _ => ⟨g, 0, rfl, h.row⟩⟩

set_option maxRecDepth 8000 in
set_option maxHeartbeats 2000000 in
theorem toGridL (r c : Int) (v : Value) (l : List VT) (w : World) (h : ValsIn w v l) (hl : l.length ≤ 2000000) :
  Calls Tryd.prog 6 #[grV r c v] w fun e w' => (∃ g, e = .returned (grV r c (.slice (some ⟨g, 0, none⟩) l.length l.length)) ∧ w.heap.size ≤ g ∧ OwnV w' g l) ∧ Ext w w' := by
 have X1 := x1 w (.cells #[.int .i64 r, .int .i64 c, v] 24)
 have B1 := vec_made w [.int .i64 r, .int .i64 c, v] 24
 obtain ⟨wa, ha⟩ : ∃ wa, w.alloc (.cells #[.int .i64 r, .int .i64 c, v] 24) = wa := ⟨_, rfl⟩
 have B2 := vec_made wa [.int .i64 0, .int .i64 0, .slice none 0 0] 28
 have X2 := x1 wa (.cells #[.int .i64 0, .int .i64 0, .slice none 0 0] 28)
 obtain ⟨wb, hb⟩ : ∃ wb, wa.alloc (.cells #[.int .i64 0, .int .i64 0, .slice none 0 0] 28) = wb := ⟨_, rfl⟩
 have B3 := vec_made wb [.int .i64 0, .int .i64 0, .slice none 0 0] 28
 have X3 := x1 wb (.cells #[.int .i64 0, .int .i64 0, .slice none 0 0] 28)
 have sa : wa.heap.size = w.heap.size + 1 := by rw [← ha, World.size_alloc]
 have sb : wb.heap.size = w.heap.size + 1 + 1 := by rw [← hb, World.size_alloc, sa]
 change Vec (w.alloc (.cells #[.int .i64 r, .int .i64 c, v] 24)) _ _ at B1
 change Vec (wa.alloc (.cells #[.int .i64 0, .int .i64 0, .slice none 0 0] 28)) _ _ at B2
 change Vec (wb.alloc (.cells #[.int .i64 0, .int .i64 0, .slice none 0 0] 28)) _ _ at B3
 rw [ha] at X1 B1
 rw [hb] at X2 B2
 rw [sa] at B2
 rw [sb] at B3
 have X := xt (xt X1 X2) X3
 have B1 := (B1.later X2).later X3
 have B2 := B2.later X3
 clear X1 X2 X3
 obtain ⟨wc, hc⟩ : ∃ wc, wb.alloc (.cells #[.int .i64 0, .int .i64 0, .slice none 0 0] 28) = wc := ⟨_, rfl⟩
 have sc : wc.heap.size = w.heap.size + 1 + 1 + 1 := by rw [← hc, World.size_alloc, sb]
 rw [hc] at B1 B2 B3 X
 have a0 := (B1 0 _ rfl).1
 have a1 := (B1 1 _ rfl).1
 have a2 := (B1 2 _ rfl).1
 have k0 := (B3 0 _ rfl).1
 have k1 := (B3 1 _ rfl).1
 have f0 := (B3 0 _ rfl).2
 have f1 := (B3 1 _ rfl).2
 obtain ⟨wd, hd⟩ : ∃ wd, (wc.setCell ⟨w.heap.size + 1 + 1, 0, none⟩ (.int .i64 r)).setCell ⟨w.heap.size + 1 + 1, 1, none⟩ (.int .i64 c) = wd := ⟨_, rfl⟩
 have D1 := (B1.far (p := ⟨w.heap.size + 1 + 1, 0, none⟩) (by show w.heap.size + 1 + 1 ≠ _; omega) (.int .i64 r)).far (p := ⟨w.heap.size + 1 + 1, 1, none⟩) (by show w.heap.size + 1 + 1 ≠ _; omega) (.int .i64 c)
 have D2 := (B2.far (p := ⟨w.heap.size + 1 + 1, 0, none⟩) (by show w.heap.size + 1 + 1 ≠ _; omega) (.int .i64 r)).far (p := ⟨w.heap.size + 1 + 1, 1, none⟩) (by show w.heap.size + 1 + 1 ≠ _; omega) (.int .i64 c)
 have D3 : Vec _ (w.heap.size + 1 + 1) [.int .i64 r, .int .i64 c, .slice none 0 0] := (B3.put 0 (by simp) (.int .i64 r)).put 1 (by simp) (.int .i64 c)
 have XD := xset (xset X (p := ⟨w.heap.size + 1 + 1, 0, none⟩) (by show _ ≤ w.heap.size + 1 + 1; omega) (.int .i64 r)) (p := ⟨w.heap.size + 1 + 1, 1, none⟩) (by show _ ≤ w.heap.size + 1 + 1; omega) (.int .i64 c)
 have sd : wd.heap.size = w.heap.size + 1 + 1 + 1 := by rw [← hd, World.size_setCell, World.size_setCell, sc]
 rw [hd] at D1 D2 D3 XD
 have d2 := (D1 2 _ rfl).1
 clear B1 B2 B3 X sc
 go_enter Tryd.func6, Tryd.ntmps6
 go_wp2_with fail
 clear ha hb hc sa sb a0 a1 a2 k0 k1 f0 f1 hd d2
 refine (toVals v l wd (h.later XD) hl).mono ?_
 rintro e w1 ⟨⟨g, rfl, hg, O⟩, e1⟩
 rw [sd] at hg
 obtain ⟨n, hn⟩ : ∃ n, l.length = n := ⟨_, rfl⟩
 have HN : Hid (l.length = n) := hn
 rw [hn]
 clear hn
 have C2 := D2.later e1
 have C3 := D3.later e1
 have Y := xt XD e1
 clear D1 D2 D3 XD e1 sd h hl
 have q2 := (C3 2 _ rfl).1
 have p2 := (C3 2 _ rfl).2
 have E3 : Vec (w1.setCell ⟨w.heap.size + 1 + 1, 2, none⟩ (.slice (some ⟨g, 0, none⟩) n n)) (w.heap.size + 1 + 1) [.int .i64 r, .int .i64 c, .slice (some ⟨g, 0, none⟩) n n] := C3.put 2 (by simp) _
 have E2 := C2.far (p := ⟨w.heap.size + 1 + 1, 2, none⟩) (by show w.heap.size + 1 + 1 ≠ _; omega) (.slice (some ⟨g, 0, none⟩) n n)
 have EO := O.far (p := ⟨w.heap.size + 1 + 1, 2, none⟩) (by show w.heap.size + 1 + 1 ≠ _; omega) (.slice (some ⟨g, 0, none⟩) n n)
 have XE := xset Y (p := ⟨w.heap.size + 1 + 1, 2, none⟩) (by show _ ≤ w.heap.size + 1 + 1; omega) (.slice (some ⟨g, 0, none⟩) n n)
 obtain ⟨we, he⟩ : ∃ we, w1.setCell ⟨w.heap.size + 1 + 1, 2, none⟩ (.slice (some ⟨g, 0, none⟩) n n) = we := ⟨_, rfl⟩
 rw [he] at E3 E2 EO XE
 clear C2 C3 O Y
 have m0 := (E3 0 _ rfl).1
 have m1 := (E3 1 _ rfl).1
 have m2 := (E3 2 _ rfl).1
 have b0 := (E2 0 _ rfl).1
 have b1 := (E2 1 _ rfl).1
 have b2 := (E2 2 _ rfl).1
 have g0 := (E2 0 _ rfl).2
 have g1 := (E2 1 _ rfl).2
 have g2 := (E2 2 _ rfl).2
 have F2 := E2.put3 (.int .i64 r) (.int .i64 c) (.slice (some ⟨g, 0, none⟩) n n)
 have FO := ((EO.far (p := ⟨w.heap.size + 1, 0, none⟩) (by show w.heap.size + 1 ≠ _; omega) (.int .i64 r)).far (p := ⟨w.heap.size + 1, 1, none⟩) (by show w.heap.size + 1 ≠ _; omega) (.int .i64 c)).far (p := ⟨w.heap.size + 1, 2, none⟩) (by show w.heap.size + 1 ≠ _; omega) (.slice (some ⟨g, 0, none⟩) n n)
 have FX := xset (xset (xset XE (p := ⟨w.heap.size + 1, 0, none⟩) (by show _ ≤ w.heap.size + 1; omega) (.int .i64 r)) (p := ⟨w.heap.size + 1, 1, none⟩) (by show _ ≤ w.heap.size + 1; omega) (.int .i64 c)) (p := ⟨w.heap.size + 1, 2, none⟩) (by show _ ≤ w.heap.size + 1; omega) (.slice (some ⟨g, 0, none⟩) n n)
 obtain ⟨wy, hy⟩ : ∃ wy, ((we.setCell ⟨w.heap.size + 1, 0, none⟩ (.int .i64 r)).setCell ⟨w.heap.size + 1, 1, none⟩ (.int .i64 c)).setCell ⟨w.heap.size + 1, 2, none⟩ (.slice (some ⟨g, 0, none⟩) n n) = wy := ⟨_, rfl⟩
 rw [hy] at F2 FO FX
 have fd0 := (F2 0 _ rfl).1
 have fd1 := (F2 1 _ rfl).1
 have fd2 := (F2 2 _ rfl).1
 clear E2 E3 EO XE F2
 go_wp2_with fail
 exact bodyPost_ret (v := grV r c (.slice (some ⟨g, 0, none⟩) n n)) (by simp [results, Tryd.results6, go_sem, fd0, fd1, fd2]) rfl ⟨⟨g, by rw [HN.out], by omega, FO⟩, FX⟩
set_option maxRecDepth 8000 in
set_option maxHeartbeats 2000000 in
theorem eqVals (v v' : Value) (l : List VT) (w : World) (h : ValsIn w v l) (h' : ValsIn w v' l) (hl : l.length ≤ 2000000) :
  Calls Tryd.prog 22 #[v, v'] w fun e w' => e = .returned (.bool true) ∧ Ext w w' := by
 obtain ⟨p, cap, rfl, hcap, hrow⟩ := h
 obtain ⟨p', cap', rfl, hcap', hrow'⟩ := h'
 obtain ⟨n, hn⟩ : ∃ n, l.length = n := ⟨_, rfl⟩
 have HN : Hid (l.length = n) := hn
 rw [hn] at hcap hcap' hl hrow hrow' ⊢
 have HRow : Hid (0 < n → ∃ b o, p = some ⟨b, o, none⟩ ∧ RowV w b o l) := hrow
 have HRow' : Hid (0 < n → ∃ b o, p' = some ⟨b, o, none⟩ ∧ RowV w b o l) := hrow'
 clear hn hrow hrow'
 go_enter Tryd.func22, Tryd.ntmps22
 go_wp2_with fail
 go_loopw [5] (fun i wr => ∃ k : Nat, k ≤ n ∧ i = .int .i64 k ∧ Ext w wr) (fun i _ => n - (intOf i).toNat)
 case atStart => exact ⟨0, by omega, rfl, xr _⟩
 case round =>
  obtain ⟨k, hk, rfl, X⟩ := hrel
  by_cases hlt : k < n
  ·
   obtain ⟨e, he⟩ : ∃ e, l[k]? = some e := ⟨_, List.getElem?_eq_getElem (by rw [HN.out]; exact hlt)⟩
   obtain ⟨b, o, rfl, hR⟩ := HRow.out (by omega)
   obtain ⟨b', o', rfl, hR'⟩ := HRow'.out (by omega)
   obtain ⟨a0, a1, a2, a3, a4⟩ := (hR.later X).five he
   obtain ⟨c0, c1, c2, c3, c4⟩ := (hR'.later X).five he
   obtain ⟨ek, en, ed, ex, et⟩ := e
   have i2 : (k : Int) < (n : Int) := by omega
   clear hR hR' he
   dsimp only at a0 a1 a2 a3 a4 c0 c1 c2 c3 c4
   go_wp2_with fail
   go_region_held3 (fun w' => (w'.cell? ⟨b, o + k * 5, none⟩ = some (.int .i64 ek) ∧ w'.cell? ⟨b, o + k * 5 + 1, none⟩ = some (.bool en) ∧ w'.cell? ⟨b, o + k * 5 + 2, none⟩ = some (.int .i64 ed) ∧ w'.cell? ⟨b, o + k * 5 + 3, none⟩ = some (.int .i64 ex) ∧ w'.cell? ⟨b, o + k * 5 + 4, none⟩ = some (sV et)) ∧ w'.cell? ⟨b', o' + k * 5, none⟩ = some (.int .i64 ek) ∧ w'.cell? ⟨b', o' + k * 5 + 1, none⟩ = some (.bool en) ∧ w'.cell? ⟨b', o' + k * 5 + 2, none⟩ = some (.int .i64 ed) ∧ w'.cell? ⟨b', o' + k * 5 + 3, none⟩ = some (.int .i64 ex) ∧ w'.cell? ⟨b', o' + k * 5 + 4, none⟩ = some (sV et)) (go_keep)
    (first
     | (go_at_call 35; refine (eqValue_same ek en ed ex et _).mono ?_; rintro e w' ⟨rfl, E⟩; have Y := xt (xd (xr _)) E; have r0 := cell_later Y a0; have r1 := cell_later Y a1; have r2 := cell_later Y a2; have r3 := cell_later Y a3; have r4 := cell_later Y a4; have s0 := cell_later Y c0; have s1 := cell_later Y c1; have s2 := cell_later Y c2; have s3 := cell_later Y c3; have s4 := cell_later Y c4))
   go_wp2_with fail
   go_roundw
   case rel => exact ⟨k + 1, by omega, by go_num, xt X Y⟩
   case measure => simp [intOf]; omega
  ·
   obtain rfl : k = n := by omega
   go_wp2_with fail
   go_ret
   exact ⟨rfl, X⟩
set_option maxRecDepth 8000 in
set_option maxHeartbeats 2000000 in
theorem eqGridL (r c : Int) (v v' : Value) (l : List VT) (w : World) (h : ValsIn w v l) (h' : ValsIn w v' l) (hl : l.length ≤ 2000000) :
  Calls Tryd.prog 8 #[grV r c v, grV r c v'] w fun e w' => e = .returned (.bool true) ∧ Ext w w' := by
 have X := xa (x1 w (.cells #[.int .i64 r, .int .i64 c, v] 28)) (.cells #[.int .i64 r, .int .i64 c, v'] 28)
 have C := eqVals v v' l _ (h.later X) (h'.later X) hl
 clear h h' hl
 go_enter Tryd.func8, Tryd.ntmps8
 go_wp2_with fail
 refine C.mono ?_
 rintro e w1 ⟨rfl, e1⟩
 go_wp2_with fail
 go_ret
 exact ⟨rfl, xt X e1⟩
set_option maxRecDepth 8000 in
set_option maxHeartbeats 2000000 in
theorem szGridL (r c : Int) (v : Value) (l : List VT) (m : Int) (w : World) (h : ValsIn w v l) (m0 : 0 ≤ m) (m1 : m ≤ 1048576) (hl : l.length ≤ 9223372036854775807) (ht : ∀ e ∈ l, e.t.length ≤ 9223372036854775807) :
  Calls Tryd.prog 4 #[grV r c v, .int .i64 m] w fun e w' => (∃ r : Int, e = .returned (.int .i64 r) ∧ -1 ≤ r ∧ r ≤ m ∧ (0 ≤ r → (l.length : Int) ≤ m ∧ ∀ q ∈ l, (q.t.length : Int) ≤ m)) ∧ Ext w w' := by
 have X := x1 w (.cells #[.int .i64 r, .int .i64 c, v] 24)
 have C := szVals v l m _ (h.later X) m0 m1 hl ht
 clear h hl ht
 go_enter Tryd.func4, Tryd.ntmps4
 go_wp2_with fail
 refine C.mono ?_
 rintro e w1 ⟨⟨z, rfl, z0, z1, hz⟩, e1⟩
 have HZ : Hid (0 ≤ z → (l.length : Int) ≤ m ∧ ∀ q ∈ l, (q.t.length : Int) ≤ m) := hz
 clear hz
 by_cases hn : z < 0
 ·
  go_wp2_with fail
  go_ret
  exact ⟨⟨-1, rfl, by omega, by omega, fun h => by omega⟩, xt X e1⟩
 ·
  go_wp2_with fail
  go_ret
  exact ⟨⟨z, rfl, by omega, by omega, HZ.out⟩, xt X e1⟩

end Go.Proofs.YtjlephnmofhjaaaDoor

