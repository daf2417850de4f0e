/-
  Chapter 13: models measured.
-/
import Derived.Test.YtnpcckhalbbbhaaDoorZ5
import Derived.Test.YtnpcckhalbbbhaaDoorBv
import Derived.Test.YtnpcckhalbbbhaaDoorZ6a
namespace Go.Proofs.YtnpcckhalbbbhaaDoor
open Go.RowKit

set_option maxHeartbeats 1000000 in
theorem szDecs (v : Value) (l : List DT) (m : Int) (w : World) (h : DecsIn w v l) (m0 : 0 ≤ m) (m1 : m ≤ 1048576) (hl : l.length ≤ 9223372036854775807) :
    Calls Tryd.prog 9 #[v, .int .i64 m] w fun e w' => (∃ r : Int, e = .returned (.int .i64 r) ∧ -1 ≤ r ∧ r ≤ m ∧ (0 ≤ r → (l.length : Int) ≤ m)) ∧ Ext w w' := by
  obtain ⟨p, cap, rfl, hcap, -⟩ := h
  obtain ⟨n, hn⟩ : ∃ n, l.length = n := ⟨_, rfl⟩
  rw [hn] at hcap hl ⊢
  clear hn
  by_cases hb : m < n
  · go_enter Tryd.func9, Tryd.ntmps9
    go_wp2_with fail
    go_ret
    exact ⟨⟨-1, rfl, by omega, by omega, fun h => by omega⟩, xr _⟩
  · go_enter Tryd.func9, Tryd.ntmps9
    go_wp2_with fail
    go_ret
    exact ⟨⟨m - n, rfl, by omega, by omega⟩, xr _⟩
set_option maxRecDepth 8000 in
set_option maxHeartbeats 2000000 in
theorem szLimit (cv : Value) (e : LT) (m : Int) (w : World) (h : DecsIn w cv e.cf) (m0 : 0 ≤ m) (m1 : m ≤ 1048576) (hl : e.cf.length ≤ 9223372036854775807) (ho : e.op.length ≤ 9223372036854775807) :
    Calls Tryd.prog 23 #[limV cv e.op e.rt, .int .i64 m] w fun z w' => (∃ r : Int, z = .returned (.int .i64 r) ∧ -1 ≤ r ∧ r ≤ m ∧ (0 ≤ r → (e.cf.length : Int) ≤ 1048576 ∧ (e.op.length : Int) ≤ 1048576)) ∧ Ext w w' := by
  obtain ⟨cf, op, ⟨n, d, x⟩⟩ := e
  dsimp only at h hl ho ⊢
  have X0 := x1 w (.cells #[cv, sV op, .bool n, .int .i64 d, .int .i64 x] 57)
  have B0 := vec_made w [cv, sV op, .bool n, .int .i64 d, .int .i64 x] 57
  change Vec (w.alloc (.cells #[cv, sV op, .bool n, .int .i64 d, .int .i64 x] 57)) _ _ at B0
  have C := szDecs cv cf m (w.alloc (.cells #[cv, sV op, .bool n, .int .i64 d, .int .i64 x] 57)) (h.later X0) m0 m1 hl
  obtain ⟨N, hN⟩ : ∃ N, op.length = N := ⟨_, rfl⟩
  have hs : (⟨op.toArray⟩ : ByteArray).size = N := hN
  rw [hN] at ho ⊢
  obtain ⟨a0, a1, a2, a3, a4⟩ := Vec.five B0
  clear h hN
  go_enter Tryd.func23, Tryd.ntmps23
  go_wp2_with fail
  clear a0 a1 a2 a3 a4
  refine C.mono ?_
  rintro z w1 ⟨⟨z1, rfl, y1, q1, k1⟩, e1⟩
  have HK1 : Hid (0 ≤ z1 → (cf.length : Int) ≤ m) := k1
  clear k1
  have X1 := xt X0 e1
  by_cases n1 : z1 < 0
  · go_wp2_with fail
    go_ret
    exact ⟨⟨-1, rfl, by omega, by omega, fun h => by omega⟩, X1⟩
  · obtain ⟨a0, a1, a2, a3, a4⟩ := Vec.five (B0.later e1)
    by_cases n2 : z1 < N
    · go_wp2_with fail
      go_ret
      exact ⟨⟨-1, rfl, by omega, by omega, fun h => by omega⟩, X1⟩
    · go_wp2_with fail
      go_ret
      exact ⟨⟨z1 - N, rfl, by omega, by omega, fun _ => by have := HK1.out (by omega); omega⟩, X1⟩
set_option maxRecDepth 8000 in
set_option maxHeartbeats 2000000 in
theorem szLimits (v : Value) (l : List LT) (m : Int) (w : World) (h : LimitsIn w v l) (m0 : 0 ≤ m) (m1 : m ≤ 1048576) (hl : l.length ≤ 9223372036854775807) (ht : ∀ e ∈ l, e.cf.length ≤ 9223372036854775807 ∧ e.op.length ≤ 9223372036854775807) :
    Calls Tryd.prog 10 #[v, .int .i64 m] w fun e w' => (∃ r : Int, e = .returned (.int .i64 r) ∧ -1 ≤ r ∧ r ≤ m ∧ (0 ≤ r → (l.length : Int) ≤ m ∧ ∀ q ∈ l, (q.cf.length : Int) ≤ 1048576 ∧ (q.op.length : Int) ≤ 1048576)) ∧ Ext w w' := by
  obtain ⟨p, cap, rfl, hcap, hrow⟩ := h
  obtain ⟨n, hn⟩ : ∃ n, l.length = n := ⟨_, rfl⟩
  have HN : Hid (l.length = n) := hn
  rw [hn] at hcap hl hrow ⊢
  clear hn
  by_cases hb : m < n
  · go_enter Tryd.func10, Tryd.ntmps10
    go_wp2_with fail
    go_ret
    exact ⟨⟨-1, rfl, by omega, by omega, fun h => by omega⟩, xr _⟩
  · have HRow : Hid (0 < n → ∃ b o, p = some ⟨b, o, none⟩ ∧ RowL w b o l) := hrow
    have HT : Hid (∀ e ∈ l, e.cf.length ≤ 9223372036854775807 ∧ e.op.length ≤ 9223372036854775807) := ht
    clear hrow ht
    go_enter Tryd.func10, Tryd.ntmps10
    go_wp2_with fail
    go_loopw [1, 5] (fun r i wr => ∃ (k : Nat) (z : Int), k ≤ n ∧ i = .int .i64 k ∧ r = .int .i64 z ∧ 0 ≤ z ∧ z ≤ m ∧ Hid (∀ q ∈ l.take k, (q.cf.length : Int) ≤ 1048576 ∧ (q.op.length : Int) ≤ 1048576) ∧ Ext w wr) (fun _ i _ => n - (intOf i).toNat)
    case atStart => exact ⟨0, m - n, by omega, rfl, by go_num, by omega, by omega, by intro q hq; simp at hq, xr _⟩
    case round =>
      obtain ⟨k, z, hk, rfl, rfl, z0, z1, HA, X⟩ := hrel
      by_cases hlt : k < n
      · obtain ⟨e, he⟩ : ∃ e, l[k]? = some e := ⟨_, List.getElem?_eq_getElem (by rw [HN.out]; exact hlt)⟩
        obtain ⟨b, o, rfl, hR⟩ := HRow.out (by omega)
        obtain ⟨cv, hdc, a0, a1, a2, a3, a4⟩ := (hR.later X) k e he
        have hT := HT.out e (List.mem_of_getElem? he)
        have CZ := szLimit cv e z wr hdc z0 (by omega) hT.1 hT.2
        have HE : Hid (l.take (k + 1) = l.take k ++ [e]) := by
          show _ = _
          rw [List.take_add_one, he]
          rfl
        have HCZ : Hid (Calls Tryd.prog 23 #[.agg #[cv, sV e.op, .bool e.rt.ng, .int .i64 e.rt.dg, .int .i64 e.rt.ex], .int .i64 z] wr fun z' w' => (∃ r : Int, z' = .returned (.int .i64 r) ∧ -1 ≤ r ∧ r ≤ z ∧ (0 ≤ r → (e.cf.length : Int) ≤ 1048576 ∧ (e.op.length : Int) ≤ 1048576)) ∧ Ext wr w') := CZ
        clear CZ hT hdc
        obtain ⟨cf, op, ⟨en, ed, ex⟩⟩ := e
        have i2 : (k : Int) < (n : Int) := by omega
        clear hR he
        dsimp only at a0 a1 a2 a3 a4 HCZ
        go_wp2_with fail
        clear a0 a1 a2 a3 a4
        refine HCZ.out.mono ?_
        rintro r w' ⟨⟨z', rfl, y1, y2, y3⟩, E⟩
        have HL : Hid (0 ≤ z' → (cf.length : Int) ≤ 1048576 ∧ (op.length : Int) ≤ 1048576) := y3
        clear y3 HCZ
        by_cases hz : z' < 0
        · go_wp2_with fail
          go_ret
          exact ⟨⟨-1, rfl, by omega, by omega, fun h => by omega⟩, xt X E⟩
        · go_wp2_with fail
          go_roundw
          case rel =>
            refine ⟨k + 1, z', by omega, by go_num, rfl, by omega, by omega, ?_, xt X E⟩
            intro q hq
            rw [HE.out] at hq
            rcases List.mem_append.1 hq with hq | hq
            · exact HA.out q hq
            · obtain rfl := List.mem_singleton.1 hq
              exact HL.out (by omega)
          case measure => simp [intOf]; omega
      · obtain rfl : k = n := by omega
        have HB : Hid (∀ q ∈ l, (q.cf.length : Int) ≤ 1048576 ∧ (q.op.length : Int) ≤ 1048576) := by
          intro q hq
          refine HA.out q ?_
          rw [List.take_of_length_le (by rw [HN.out]; exact Nat.le_refl _)]
          exact hq
        clear HA
        go_wp2_with fail
        go_ret
        exact ⟨⟨z, rfl, by omega, by omega, fun _ => ⟨by omega, HB.out⟩⟩, X⟩
set_option maxRecDepth 8000 in
set_option maxHeartbeats 2000000 in
theorem szModelL (gv lv wv : Value) (G : List DT) (L : List LT) (W : List Bool) (m : Int) (w : World) (hg : DecsIn w gv G) (hL : LimitsIn w lv L) (hW : BoolsIn w wv W) (m0 : 0 ≤ m) (m1 : m ≤ 1048576)
    (lg : G.length ≤ 9223372036854775807) (ll : L.length ≤ 9223372036854775807) (lt : ∀ e ∈ L, e.cf.length ≤ 9223372036854775807 ∧ e.op.length ≤ 9223372036854775807) (lw : W.length ≤ 9223372036854775807) :
    Calls Tryd.prog 4 #[modelV gv lv wv, .int .i64 m] w fun e w' => (∃ r : Int, e = .returned (.int .i64 r) ∧ -1 ≤ r ∧ r ≤ m ∧ (0 ≤ r → (G.length : Int) ≤ 1048576 ∧ (L.length : Int) ≤ 1048576 ∧ (W.length : Int) ≤ 1048576 ∧ ∀ q ∈ L, (q.cf.length : Int) ≤ 1048576 ∧ (q.op.length : Int) ≤ 1048576)) ∧ Ext w w' := by
  have X0 := x1 w (.cells #[gv, lv, wv] 26)
  have B0 := vec_made w [gv, lv, wv] 26
  obtain ⟨u0, hu0⟩ : ∃ u, w.alloc (.cells #[gv, lv, wv] 26) = u := ⟨_, rfl⟩
  change Vec (w.alloc (.cells #[gv, lv, wv] 26)) _ _ at B0
  rw [hu0] at X0 B0
  obtain ⟨a0, a1, a2⟩ := Vec.three B0
  go_enter Tryd.func4, Tryd.ntmps4
  go_wp2_with fail
  clear hu0 a0 a1 a2
  refine (szDecs gv G m u0 (hg.later X0) m0 m1 lg).mono ?_
  rintro e w1 ⟨⟨z1, rfl, y1, q1, k1⟩, e1⟩
  have HK1 : Hid (0 ≤ z1 → (G.length : Int) ≤ m) := k1
  have X1 := xt X0 e1
  clear k1
  by_cases n1 : z1 < 0
  · go_wp2_with fail
    go_ret
    exact ⟨⟨-1, rfl, by omega, by omega, fun h => by omega⟩, X1⟩
  · obtain ⟨a0, a1, a2⟩ := Vec.three (B0.later e1)
    go_wp2_with fail
    clear a0 a1 a2
    refine (szLimits lv L z1 w1 (hL.later X1) (by omega) (by omega) ll lt).mono ?_
    rintro e w2 ⟨⟨z2, rfl, y2, q2, k2⟩, e2⟩
    have HK2 : Hid (0 ≤ z2 → (L.length : Int) ≤ z1 ∧ ∀ q ∈ L, (q.cf.length : Int) ≤ 1048576 ∧ (q.op.length : Int) ≤ 1048576) := k2
    have X2 := xt X1 e2
    clear k2
    by_cases n2 : z2 < 0
    · go_wp2_with fail
      go_ret
      exact ⟨⟨-1, rfl, by omega, by omega, fun h => by omega⟩, X2⟩
    · obtain ⟨a0, a1, a2⟩ := Vec.three (B0.later (xt e1 e2))
      go_wp2_with fail
      clear a0 a1 a2
      refine (szBools wv W z2 w2 (hW.later X2) (by omega) (by omega) lw).mono ?_
      rintro e w3 ⟨⟨z3, rfl, y3, q3, k3⟩, e3⟩
      have HK3 : Hid (0 ≤ z3 → (W.length : Int) ≤ z2) := k3
      have X3 := xt X2 e3
      clear k3
      by_cases n3 : z3 < 0
      · go_wp2_with fail
        go_ret
        exact ⟨⟨-1, rfl, by omega, by omega, fun h => by omega⟩, X3⟩
      · go_wp2_with fail
        go_ret
        exact ⟨⟨z3, rfl, by omega, by omega, fun _ => ⟨by have := HK1.out (by omega); omega, by have := (HK2.out (by omega)).1; omega, by have := HK3.out (by omega); omega, (HK2.out (by omega)).2⟩⟩, X3⟩

end Go.Proofs.YtnpcckhalbbbhaaDoor
