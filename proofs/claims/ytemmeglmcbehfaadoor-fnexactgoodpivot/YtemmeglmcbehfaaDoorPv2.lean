/-
  Chapter 12: pivots handed over, compared, measured.
-/
import Derived.Test.YtemmeglmcbehfaaDoorIv
import Derived.Test.YtemmeglmcbehfaaDoorY2d
import Derived.Test.YtemmeglmcbehfaaDoorV9e
namespace Go.Proofs.YtemmeglmcbehfaaDoor
open Go.RowKit

abbrev pivV (rv cv mv : Value) (t : Bool) : Value := .agg #[rv, cv, mv, .bool t]
set_option maxHeartbeats 1000000 in
theorem szMeasuresL (v : Value) (l : List MT) (m : Int) (w : World) (h : MeasuresIn w v l) (m0 : 0 ≤ m) (m1 : m ≤ 1048576) (hl : l.length ≤ 9223372036854775807) :
    Calls Tryd.prog 14 #[v, .int .i64 m] w fun e w' => (∃ r : Int, e = .returned (.int .i64 r) ∧ -1 ≤ r ∧ r ≤ m ∧ (0 ≤ r → (l.length : Int) ≤ m)) ∧ Ext w w' := by
  obtain ⟨p, cap, rfl, hcap, -⟩ := h
  obtain ⟨n, hn⟩ : ∃ n, l.length = n := ⟨_, rfl⟩
  rw [hn] at hcap hl ⊢
  clear hn
  by_cases hb : m < n
  · go_enter Tryd.func14, Tryd.ntmps14
    go_wp2_with fail
    go_ret
    exact ⟨⟨-1, rfl, by omega, by omega, fun h => by omega⟩, xr _⟩
  · go_enter Tryd.func14, Tryd.ntmps14
    go_wp2_with fail
    go_ret
    exact ⟨⟨m - n, rfl, by omega, by omega⟩, xr _⟩
set_option maxRecDepth 8000 in
set_option maxHeartbeats 2000000 in
theorem szPivotL (rv cv mv : Value) (t : Bool) (rl cl : List Int) (ml : List MT) (m : Int) (w : World) (hr : IntsIn w rv rl) (hc : IntsIn w cv cl) (hm : MeasuresIn w mv ml) (m0 : 0 ≤ m) (m1 : m ≤ 1048576)
    (lr : rl.length ≤ 9223372036854775807) (lc : cl.length ≤ 9223372036854775807) (lm : ml.length ≤ 9223372036854775807) :
    Calls Tryd.prog 5 #[pivV rv cv mv t, .int .i64 m] w fun e w' => (∃ r : Int, e = .returned (.int .i64 r) ∧ -1 ≤ r ∧ r ≤ m ∧ (0 ≤ r → (rl.length : Int) ≤ 1048576 ∧ (cl.length : Int) ≤ 1048576 ∧ (ml.length : Int) ≤ 1048576)) ∧ Ext w w' := by
  have X0 := x1 w (.cells #[rv, cv, mv, .bool t] 28)
  have B0 := vec_made w [rv, cv, mv, .bool t] 28
  obtain ⟨u0, hu0⟩ : ∃ u, w.alloc (.cells #[rv, cv, mv, .bool t] 28) = u := ⟨_, rfl⟩
  change Vec (w.alloc (.cells #[rv, cv, mv, .bool t] 28)) _ _ at B0
  rw [hu0] at X0 B0
  obtain ⟨a0, a1, a2, a3⟩ := Vec.four B0
  go_enter Tryd.func5, Tryd.ntmps5
  go_wp2_with fail
  clear hu0 a0 a1 a2 a3
  refine (szInts rv rl m u0 (hr.later X0) m0 m1 lr).mono ?_
  rintro e w1 ⟨⟨z1, rfl, y1, q1, k1⟩, e1⟩
  have HK1 : Hid (0 ≤ z1 → (rl.length : Int) ≤ m) := k1
  have X1 := xt X0 e1
  clear k1
  by_cases n1 : z1 < 0
  · go_wp2_with fail
    go_ret
    exact ⟨⟨-1, rfl, by omega, by omega, fun h => by omega⟩, X1⟩
  · obtain ⟨a0, a1, a2, a3⟩ := Vec.four (B0.later e1)
    go_wp2_with fail
    clear a0 a1 a2 a3
    refine (szInts cv cl z1 w1 (hc.later X1) (by omega) (by omega) lc).mono ?_
    rintro e w2 ⟨⟨z2, rfl, y2, q2, k2⟩, e2⟩
    have HK2 : Hid (0 ≤ z2 → (cl.length : Int) ≤ z1) := k2
    have X2 := xt X1 e2
    clear k2
    by_cases n2 : z2 < 0
    · go_wp2_with fail
      go_ret
      exact ⟨⟨-1, rfl, by omega, by omega, fun h => by omega⟩, X2⟩
    · obtain ⟨a0, a1, a2, a3⟩ := Vec.four (B0.later (xt e1 e2))
      go_wp2_with fail
      clear a0 a1 a2 a3
      refine (szMeasuresL mv ml z2 w2 (hm.later X2) (by omega) (by omega) lm).mono ?_
      rintro e w3 ⟨⟨z3, rfl, y3, q3, k3⟩, e3⟩
      have HK3 : Hid (0 ≤ z3 → (ml.length : Int) ≤ z2) := k3
      have X3 := xt X2 e3
      clear k3
      by_cases n3 : z3 < 0
      · go_wp2_with fail
        go_ret
        exact ⟨⟨-1, rfl, by omega, by omega, fun h => by omega⟩, X3⟩
      · go_wp2_with fail
        go_ret
        exact ⟨⟨z3, rfl, by omega, by omega, fun _ => by have := HK1.out (by omega); have := HK2.out (by omega); have := HK3.out (by omega); omega⟩, X3⟩
set_option maxRecDepth 8000 in
set_option maxHeartbeats 2000000 in
theorem eqPivotL (rv cv mv rv' cv' mv' : Value) (t : Bool) (rl cl : List Int) (ml : List MT) (w : World) (hr : IntsIn w rv rl) (hc : IntsIn w cv cl) (hm : MeasuresIn w mv ml) (hr' : IntsIn w rv' rl) (hc' : IntsIn w cv' cl) (hm' : MeasuresIn w mv' ml)
    (lr : rl.length ≤ 1048576) (lc : cl.length ≤ 1048576) (lm : ml.length ≤ 1048576) :
    Calls Tryd.prog 11 #[pivV rv cv mv t, pivV rv' cv' mv' t] w fun e w' => e = .returned (.bool true) ∧ Ext w w' := by
  obtain ⟨u0, u1, h0, h1, s0, s1, B0, B1, X⟩ := mkB2 w [rv, cv, mv, .bool t] [rv', cv', mv', .bool t] 38 38
  obtain ⟨a0, a1, a2, a3⟩ := Vec.four B0
  obtain ⟨b0, b1, b2, b3⟩ := Vec.four B1
  go_enter Tryd.func11, Tryd.ntmps11
  go_wp2_with fail
  clear a0 a1 a2 a3 b0 b1 b2 b3 h0 h1 s0 s1
  refine (eqInts rv rv' rl u1 (hr.later X) (hr'.later X) lr).mono ?_
  rintro e w1 ⟨rfl, e1⟩
  have X1 := xt X e1
  have C0 := B0.later e1
  have C1 := B1.later e1
  obtain ⟨a0, a1, a2, a3⟩ := Vec.four C0
  obtain ⟨b0, b1, b2, b3⟩ := Vec.four C1
  clear B0 B1
  go_wp2_with fail
  clear a0 a1 a2 a3 b0 b1 b2 b3
  refine (eqInts cv cv' cl w1 (hc.later X1) (hc'.later X1) lc).mono ?_
  rintro e w2 ⟨rfl, e2⟩
  have X2 := xt X1 e2
  have D0 := C0.later e2
  have D1 := C1.later e2
  obtain ⟨a0, a1, a2, a3⟩ := Vec.four D0
  obtain ⟨b0, b1, b2, b3⟩ := Vec.four D1
  clear C0 C1
  go_wp2_with fail
  clear a0 a1 a2 a3 b0 b1 b2 b3
  refine (eqMeasures mv mv' ml w2 (hm.later X2) (hm'.later X2) (by omega)).mono ?_
  rintro e w3 ⟨rfl, e3⟩
  have X3 := xt X2 e3
  obtain ⟨a0, a1, a2, a3⟩ := Vec.four (D0.later e3)
  obtain ⟨b0, b1, b2, b3⟩ := Vec.four (D1.later e3)
  clear D0 D1
  go_wp2_with fail
  go_ret
  exact ⟨rfl, X3⟩
theorem Vec.putP {w : World} {b : Nat} {v0 v1 v2 v3 : Value} (h : Vec w b [v0, v1, v2, v3]) (u0 u1 u2 u3 : Value) : Vec ((((w.setCell ⟨b, 0, none⟩ u0).setCell ⟨b, 1, none⟩ u1).setCell ⟨b, 2, none⟩ u2).setCell ⟨b, 3, none⟩ u3) b [u0, u1, u2, u3] :=
  (((h.put 0 (by simp) u0).put 1 (by simp) u1).put 2 (by simp) u2).put 3 (by simp) u3
set_option maxRecDepth 8000 in
set_option maxHeartbeats 4000000 in
theorem toPivotL (rv cv mv : Value) (t : Bool) (rl cl : List Int) (ml : List MT) (w : World) (hr : IntsIn w rv rl) (hc : IntsIn w cv cl) (hm : MeasuresIn w mv ml) (lr : rl.length ≤ 1048576) (lc : cl.length ≤ 1048576) (lm : ml.length ≤ 1048576) :
    Calls Tryd.prog 8 #[pivV rv cv mv t] w fun e w' => ∃ x y z, e = .returned (pivV x y z t) ∧ IntsIn w' x rl ∧ IntsIn w' y cl ∧ MeasuresIn w' z ml ∧ Ext w w' := by
  obtain ⟨u0, u1, u2, h0, h1, h2, s0, s1, s2, B0, B1, B2, X⟩ := mkB3 w [rv, cv, mv, .bool t] [.slice none 0 0, .slice none 0 0, .slice none 0 0, .bool false] [.slice none 0 0, .slice none 0 0, .slice none 0 0, .bool false] 28 38 38
  obtain ⟨a0, a1, a2, a3⟩ := Vec.four B0
  go_enter Tryd.func8, Tryd.ntmps8
  go_wp2_with fail
  clear a0 a1 a2 a3 h0 h1 h2 s0 s1
  refine (toInts rv rl u2 (hr.later X) lr).mono ?_
  rintro e w1 ⟨⟨g1, rfl, hg1, I1⟩, e1⟩
  rw [s2] at hg1
  clear s2
  obtain ⟨n1, hn1⟩ : ∃ n, rl.length = n := ⟨_, rfl⟩
  have HN1 : Hid (rl.length = n1) := hn1
  rw [hn1]
  clear hn1
  have V0 := (B0.later e1).far (p := ⟨w.heap.size + 1 + 1, 0, none⟩) (by show w.heap.size + 1 + 1 ≠ _; omega) (.slice (some ⟨g1, 0, none⟩) n1 n1)
  have V1 := (B1.later e1).far (p := ⟨w.heap.size + 1 + 1, 0, none⟩) (by show w.heap.size + 1 + 1 ≠ _; omega) (.slice (some ⟨g1, 0, none⟩) n1 n1)
  have V2 : Vec (w1.setCell ⟨w.heap.size + 1 + 1, 0, none⟩ (.slice (some ⟨g1, 0, none⟩) n1 n1)) (w.heap.size + 1 + 1) [.slice (some ⟨g1, 0, none⟩) n1 n1, .slice none 0 0, .slice none 0 0, .bool false] := (B2.later e1).put 0 (by simp) _
  have J1 := I1.far (p := ⟨w.heap.size + 1 + 1, 0, none⟩) (by show w.heap.size + 1 + 1 ≠ _; omega) (.slice (some ⟨g1, 0, none⟩) n1 n1)
  have XA := xset (xt X e1) (p := ⟨w.heap.size + 1 + 1, 0, none⟩) (by show _ ≤ w.heap.size + 1 + 1; omega) (.slice (some ⟨g1, 0, none⟩) n1 n1)
  obtain ⟨k0, -, -, -⟩ := Vec.four (B2.later e1)
  obtain ⟨f0, -, -, -⟩ := Vec.fourF (B2.later e1)
  obtain ⟨wa, ha⟩ : ∃ wa, w1.setCell ⟨w.heap.size + 1 + 1, 0, none⟩ (.slice (some ⟨g1, 0, none⟩) n1 n1) = wa := ⟨_, rfl⟩
  rw [ha] at V0 V1 V2 J1 XA
  have sA : w.heap.size + 1 + 1 + 1 ≤ wa.heap.size := by
    rcases Nat.lt_or_ge (w.heap.size + 1 + 1) wa.heap.size with h | h
    · omega
    · exact absurd (World.block_lt_of_cell? _ _ (V2 0 _ rfl).1) (by show ¬ (w.heap.size + 1 + 1 < _); omega)
  obtain ⟨a0, a1, a2, a3⟩ := Vec.four V0
  clear I1 B0 B1 B2 X
  go_wp2_with fail
  clear a0 a1 a2 a3 k0 f0 ha
  refine (toInts cv cl wa (hc.later XA) lc).mono ?_
  rintro e w2 ⟨⟨g2, rfl, hg2, I2⟩, e2⟩
  obtain ⟨n2, hn2⟩ : ∃ n, cl.length = n := ⟨_, rfl⟩
  have HN2 : Hid (cl.length = n2) := hn2
  rw [hn2]
  clear hn2
  have V0' := (V0.later e2).far (p := ⟨w.heap.size + 1 + 1, 1, none⟩) (by show w.heap.size + 1 + 1 ≠ _; omega) (.slice (some ⟨g2, 0, none⟩) n2 n2)
  have V1' := (V1.later e2).far (p := ⟨w.heap.size + 1 + 1, 1, none⟩) (by show w.heap.size + 1 + 1 ≠ _; omega) (.slice (some ⟨g2, 0, none⟩) n2 n2)
  have V2' : Vec (w2.setCell ⟨w.heap.size + 1 + 1, 1, none⟩ (.slice (some ⟨g2, 0, none⟩) n2 n2)) (w.heap.size + 1 + 1) [.slice (some ⟨g1, 0, none⟩) n1 n1, .slice (some ⟨g2, 0, none⟩) n2 n2, .slice none 0 0, .bool false] := (V2.later e2).put 1 (by simp) _
  have J1' := (J1.later e2).far (p := ⟨w.heap.size + 1 + 1, 1, none⟩) (by show w.heap.size + 1 + 1 ≠ _; omega) (.slice (some ⟨g2, 0, none⟩) n2 n2)
  have J2 := I2.far (p := ⟨w.heap.size + 1 + 1, 1, none⟩) (by show w.heap.size + 1 + 1 ≠ _; omega) (.slice (some ⟨g2, 0, none⟩) n2 n2)
  have XB := xset (xt XA e2) (p := ⟨w.heap.size + 1 + 1, 1, none⟩) (by show _ ≤ w.heap.size + 1 + 1; omega) (.slice (some ⟨g2, 0, none⟩) n2 n2)
  obtain ⟨-, k1, -, -⟩ := Vec.four (V2.later e2)
  obtain ⟨-, f1, -, -⟩ := Vec.fourF (V2.later e2)
  obtain ⟨wb, hb⟩ : ∃ wb, w2.setCell ⟨w.heap.size + 1 + 1, 1, none⟩ (.slice (some ⟨g2, 0, none⟩) n2 n2) = wb := ⟨_, rfl⟩
  rw [hb] at V0' V1' V2' J1' J2 XB
  have sB : w.heap.size + 1 + 1 + 1 ≤ wb.heap.size := by
    rcases Nat.lt_or_ge (w.heap.size + 1 + 1) wb.heap.size with h | h
    · omega
    · exact absurd (World.block_lt_of_cell? _ _ (V2' 0 _ rfl).1) (by show ¬ (w.heap.size + 1 + 1 < _); omega)
  obtain ⟨a0, a1, a2, a3⟩ := Vec.four V0'
  clear I2 V0 V1 V2 J1 XA
  go_wp2_with fail
  clear a0 a1 a2 a3 k1 f1 hb
  refine (toMeasures mv ml wb (hm.later XB) (by omega)).mono ?_
  rintro e w3 ⟨⟨g3, rfl, hg3, I3⟩, e3⟩
  obtain ⟨n3, hn3⟩ : ∃ n, ml.length = n := ⟨_, rfl⟩
  have HN3 : Hid (ml.length = n3) := hn3
  rw [hn3]
  clear hn3
  obtain ⟨-, -, k2, k3⟩ := Vec.four (V2'.later e3)
  obtain ⟨-, -, f2, f3⟩ := Vec.fourF (V2'.later e3)
  have hP2 : w.heap.size + 1 + 1 ≠ g3 := by omega
  have V0'' := ((V0'.later e3).far (p := ⟨w.heap.size + 1 + 1, 2, none⟩) (by show w.heap.size + 1 + 1 ≠ _; omega) (.slice (some ⟨g3, 0, none⟩) n3 n3))
  have V1'' := (((V1'.later e3).far (p := ⟨w.heap.size + 1 + 1, 2, none⟩) (by show w.heap.size + 1 + 1 ≠ _; omega) (.slice (some ⟨g3, 0, none⟩) n3 n3)).far (p := ⟨w.heap.size + 1 + 1, 3, none⟩) (by show w.heap.size + 1 + 1 ≠ _; omega) (.bool t))
  have V2'' : Vec ((w3.setCell ⟨w.heap.size + 1 + 1, 2, none⟩ (.slice (some ⟨g3, 0, none⟩) n3 n3)).setCell ⟨w.heap.size + 1 + 1, 3, none⟩ (.bool t)) (w.heap.size + 1 + 1) [.slice (some ⟨g1, 0, none⟩) n1 n1, .slice (some ⟨g2, 0, none⟩) n2 n2, .slice (some ⟨g3, 0, none⟩) n3 n3, .bool t] := ((V2'.later e3).put 2 (by simp) _).put 3 (by simp) _
  have q3 := ((V2'.later e3).put 2 (by simp) (.slice (some ⟨g3, 0, none⟩) n3 n3) 3 _ rfl).1
  have q4 := ((V2'.later e3).put 2 (by simp) (.slice (some ⟨g3, 0, none⟩) n3 n3) 3 _ rfl).2
  have J1'' := ((J1'.later e3).far (p := ⟨w.heap.size + 1 + 1, 2, none⟩) (by show w.heap.size + 1 + 1 ≠ _; omega) (.slice (some ⟨g3, 0, none⟩) n3 n3)).far (p := ⟨w.heap.size + 1 + 1, 3, none⟩) (by show w.heap.size + 1 + 1 ≠ _; omega) (.bool t)
  have J2'' := ((J2.later e3).far (p := ⟨w.heap.size + 1 + 1, 2, none⟩) (by show w.heap.size + 1 + 1 ≠ _; omega) (.slice (some ⟨g3, 0, none⟩) n3 n3)).far (p := ⟨w.heap.size + 1 + 1, 3, none⟩) (by show w.heap.size + 1 + 1 ≠ _; omega) (.bool t)
  have J3 := (I3.far (p := ⟨w.heap.size + 1 + 1, 2, none⟩) hP2 (.slice (some ⟨g3, 0, none⟩) n3 n3)).far (p := ⟨w.heap.size + 1 + 1, 3, none⟩) hP2 (.bool t)
  have XC := xset (xset (xt XB e3) (p := ⟨w.heap.size + 1 + 1, 2, none⟩) (by show _ ≤ w.heap.size + 1 + 1; omega) (.slice (some ⟨g3, 0, none⟩) n3 n3)) (p := ⟨w.heap.size + 1 + 1, 3, none⟩) (by show _ ≤ w.heap.size + 1 + 1; omega) (.bool t)
  obtain ⟨wc0, hc0⟩ : ∃ wc, w3.setCell ⟨w.heap.size + 1 + 1, 2, none⟩ (.slice (some ⟨g3, 0, none⟩) n3 n3) = wc := ⟨_, rfl⟩
  rw [hc0] at V0'' V1'' V2'' J1'' J2'' J3 XC q3 q4
  obtain ⟨wc, hc1⟩ : ∃ wc, wc0.setCell ⟨w.heap.size + 1 + 1, 3, none⟩ (.bool t) = wc := ⟨_, rfl⟩
  rw [hc1] at V1'' V2'' J1'' J2'' J3 XC
  obtain ⟨-, -, -, a3⟩ := Vec.four V0''
  obtain ⟨m0, m1, m2, m3⟩ := Vec.four V2''
  obtain ⟨b0, b1, b2, b3⟩ := Vec.four V1''
  obtain ⟨i0, i1, i2, i3⟩ := Vec.fourF V1''
  have W := V1''.putP (.slice (some ⟨g1, 0, none⟩) n1 n1) (.slice (some ⟨g2, 0, none⟩) n2 n2) (.slice (some ⟨g3, 0, none⟩) n3 n3) (.bool t)
  have hQ : ∀ g, w.heap.size + 1 + 1 ≤ g → w.heap.size + 1 ≠ g := fun g hg => by omega
  have F1 := (((J1''.far (p := ⟨w.heap.size + 1, 0, none⟩) (hQ g1 (by omega)) (.slice (some ⟨g1, 0, none⟩) n1 n1)).far (p := ⟨w.heap.size + 1, 1, none⟩) (hQ g1 (by omega)) (.slice (some ⟨g2, 0, none⟩) n2 n2)).far (p := ⟨w.heap.size + 1, 2, none⟩) (hQ g1 (by omega)) (.slice (some ⟨g3, 0, none⟩) n3 n3)).far (p := ⟨w.heap.size + 1, 3, none⟩) (hQ g1 (by omega)) (.bool t)
  have F2 := (((J2''.far (p := ⟨w.heap.size + 1, 0, none⟩) (hQ g2 (by omega)) (.slice (some ⟨g1, 0, none⟩) n1 n1)).far (p := ⟨w.heap.size + 1, 1, none⟩) (hQ g2 (by omega)) (.slice (some ⟨g2, 0, none⟩) n2 n2)).far (p := ⟨w.heap.size + 1, 2, none⟩) (hQ g2 (by omega)) (.slice (some ⟨g3, 0, none⟩) n3 n3)).far (p := ⟨w.heap.size + 1, 3, none⟩) (hQ g2 (by omega)) (.bool t)
  have F3 := (((J3.far (p := ⟨w.heap.size + 1, 0, none⟩) (hQ g3 (by omega)) (.slice (some ⟨g1, 0, none⟩) n1 n1)).far (p := ⟨w.heap.size + 1, 1, none⟩) (hQ g3 (by omega)) (.slice (some ⟨g2, 0, none⟩) n2 n2)).far (p := ⟨w.heap.size + 1, 2, none⟩) (hQ g3 (by omega)) (.slice (some ⟨g3, 0, none⟩) n3 n3)).far (p := ⟨w.heap.size + 1, 3, none⟩) (hQ g3 (by omega)) (.bool t)
  have FX := xset (xset (xset (xset XC (p := ⟨w.heap.size + 1, 0, none⟩) (by show _ ≤ w.heap.size + 1; omega) (.slice (some ⟨g1, 0, none⟩) n1 n1)) (p := ⟨w.heap.size + 1, 1, none⟩) (by show _ ≤ w.heap.size + 1; omega) (.slice (some ⟨g2, 0, none⟩) n2 n2)) (p := ⟨w.heap.size + 1, 2, none⟩) (by show _ ≤ w.heap.size + 1; omega) (.slice (some ⟨g3, 0, none⟩) n3 n3)) (p := ⟨w.heap.size + 1, 3, none⟩) (by show _ ≤ w.heap.size + 1; omega) (.bool t)
  obtain ⟨wy, hy⟩ : ∃ wy, (((wc.setCell ⟨w.heap.size + 1, 0, none⟩ (.slice (some ⟨g1, 0, none⟩) n1 n1)).setCell ⟨w.heap.size + 1, 1, none⟩ (.slice (some ⟨g2, 0, none⟩) n2 n2)).setCell ⟨w.heap.size + 1, 2, none⟩ (.slice (some ⟨g3, 0, none⟩) n3 n3)).setCell ⟨w.heap.size + 1, 3, none⟩ (.bool t) = wy := ⟨_, rfl⟩
  rw [hy] at W F1 F2 F3 FX
  obtain ⟨fd0, fd1, fd2, fd3⟩ := Vec.four W
  clear V0' V1' V2' J1' J2 J3 XB V0'' V1'' V2'' J1'' J2'' XC W I3
  go_wp2_with fail
  have E1 : IntsIn wy (.slice (some ⟨g1, 0, none⟩) n1 n1) rl := by rw [← HN1.out]; exact F1.ints
  have E2 : IntsIn wy (.slice (some ⟨g2, 0, none⟩) n2 n2) cl := by rw [← HN2.out]; exact F2.ints
  have E3 : MeasuresIn wy (.slice (some ⟨g3, 0, none⟩) n3 n3) ml := by rw [← HN3.out]; exact F3.slice
  exact bodyPost_ret (v := pivV (.slice (some ⟨g1, 0, none⟩) n1 n1) (.slice (some ⟨g2, 0, none⟩) n2 n2) (.slice (some ⟨g3, 0, none⟩) n3 n3) t) (by simp [results, Tryd.results8, go_sem, fd0, fd1, fd2, fd3]) rfl ⟨_, _, _, rfl, E1, E2, E3, FX⟩

end Go.Proofs.YtemmeglmcbehfaaDoor
