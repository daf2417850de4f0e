/-
  Chapter 6: rows of values.
-/
import Derived.Test.YtemmeglmcbehfaaDoorV6c
import Derived.Deep.MidRow
namespace Go.Proofs.YtemmeglmcbehfaaDoor
open Go.RowKit

structure VT where
  k : Int
  n : Bool
  d : Int
  x : Int
  t : List UInt8
abbrev VT.cells (e : VT) : List Value := valL e.k e.n e.d e.x e.t
abbrev VT.val (e : VT) : Value := valV e.k e.n e.d e.x e.t
/-- A row of values from a place on. -/
def RowV (w : World) (b o : Nat) (l : List VT) : Prop := ∀ (i : Nat) (e : VT), l[i]? = some e → ∀ (c : Nat) (u : Value), e.cells[c]? = some u → w.cell? ⟨b, o + i * 5 + c, none⟩ = some u
theorem RowV.later {w w' : World} {b o : Nat} {l : List VT} (h : RowV w b o l) (x : Ext w w') : RowV w' b o l := fun i e hi c u hc => cell_later x (h i e hi c u hc)
theorem RowV.five {w : World} {b o : Nat} {l : List VT} (h : RowV w b o l) {k : Nat} {e : VT} (he : l[k]? = some e) :
    w.cell? ⟨b, o + k * 5, none⟩ = some (.int .i64 e.k) ∧ w.cell? ⟨b, o + k * 5 + 1, none⟩ = some (.bool e.n) ∧ w.cell? ⟨b, o + k * 5 + 2, none⟩ = some (.int .i64 e.d) ∧ w.cell? ⟨b, o + k * 5 + 3, none⟩ = some (.int .i64 e.x) ∧ w.cell? ⟨b, o + k * 5 + 4, none⟩ = some (sV e.t) :=
  ⟨h k e he 0 _ rfl, h k e he 1 _ rfl, h k e he 2 _ rfl, h k e he 3 _ rfl, h k e he 4 _ rfl⟩
/-- A slice of values that lies somewhere. -/
def ValsIn (w : World) (v : Value) (l : List VT) : Prop :=
  ∃ p cap, v = .slice p l.length cap ∧ l.length ≤ cap ∧ (0 < l.length → ∃ b o, p = some ⟨b, o, none⟩ ∧ RowV w b o l)
theorem ValsIn.later {w w' : World} {v : Value} {l : List VT} (h : ValsIn w v l) (x : Ext w w') : ValsIn w' v l := by
  obtain ⟨p, cap, h1, h2, h3⟩ := h
  refine ⟨p, cap, h1, h2, fun h0 => ?_⟩
  obtain ⟨b, o, h4, h5⟩ := h3 h0
  exact ⟨b, o, h4, h5.later x⟩

set_option maxRecDepth 8000 in
set_option maxHeartbeats 1000000 in
/-- How much room values take, as the law asks. -/
theorem szVals (v : Value) (l : List VT) (m : Int) (w : World) (h : ValsIn w v l) (m0 : 0 ≤ m) (m1 : m ≤ 1048576) (hl : l.length ≤ 9223372036854775807) (ht : ∀ e ∈ l, e.t.length ≤ 9223372036854775807) :
    Calls Tryd.prog 12 #[v, .int .i64 m] w fun e w' => (∃ r : Int, e = .returned (.int .i64 r) ∧ -1 ≤ r ∧ r ≤ m ∧ (0 ≤ r → (l.length : Int) ≤ m ∧ ∀ q ∈ l, (q.t.length : Int) ≤ m)) ∧ Ext w w' := by
  obtain ⟨p, cap, rfl, hcap, hrow⟩ := h
  obtain ⟨n, hn⟩ : ∃ n, l.length = n := ⟨_, rfl⟩
  have HN : Hid (l.length = n) := hn
  rw [hn] at hcap hl hrow ⊢
  clear hn
  by_cases hb : m < n
  · go_enter Tryd.func12, Tryd.ntmps12
    go_wp2_with fail
    go_ret
    exact ⟨⟨-1, rfl, by omega, by omega, fun h => by omega⟩, xr _⟩
  · have HRow : Hid (0 < n → ∃ b o, p = some ⟨b, o, none⟩ ∧ RowV w b o l) := hrow
    have HT : Hid (∀ e ∈ l, e.t.length ≤ 9223372036854775807) := ht
    clear hrow ht
    go_enter Tryd.func12, Tryd.ntmps12
    go_wp2_with fail
    go_loopw [1, 5] (fun r i wr => ∃ (k : Nat) (z : Int), k ≤ n ∧ i = .int .i64 k ∧ r = .int .i64 z ∧ 0 ≤ z ∧ z ≤ m ∧ Hid (∀ q ∈ l.take k, (q.t.length : Int) ≤ m) ∧ Ext w wr) (fun _ i _ => n - (intOf i).toNat)
    case atStart => exact ⟨0, m - n, by omega, rfl, by go_num, by omega, by omega, by intro q hq; simp at hq, xr _⟩
    case round =>
      obtain ⟨k, z, hk, rfl, rfl, z0, z1, HA, X⟩ := hrel
      by_cases hlt : k < n
      · obtain ⟨e, he⟩ : ∃ e, l[k]? = some e := ⟨_, List.getElem?_eq_getElem (by rw [HN.out]; exact hlt)⟩
        obtain ⟨b, o, rfl, hR⟩ := HRow.out (by omega)
        obtain ⟨a0, a1, a2, a3, a4⟩ := (hR.later X).five he
        have hT := HT.out e (List.mem_of_getElem? he)
        have HE : Hid (l.take (k + 1) = l.take k ++ [e]) := by
          show _ = _
          rw [List.take_add_one, he]
          rfl
        obtain ⟨ek, en, ed, ex, et⟩ := e
        have i2 : (k : Int) < (n : Int) := by omega
        clear hR he
        dsimp only at a0 a1 a2 a3 a4 hT
        go_wp2_with fail
        refine (szValue ek en ed ex et z _ z0 (by omega) (by omega)).mono ?_
        rintro r w' ⟨rfl, E⟩
        by_cases hz : z < et.length
        · rw [if_pos hz]
          clear a0 a1 a2 a3 a4
          go_wp2_with fail
          go_ret
          exact ⟨⟨-1, rfl, by omega, by omega, fun h => by omega⟩, xt X E⟩
        · rw [if_neg hz]
          obtain ⟨z', hz'⟩ : ∃ z' : Int, z - et.length = z' := ⟨_, rfl⟩
          have h0' : 0 ≤ z' := by omega
          have h1' : z' ≤ m := by omega
          have HL : Hid ((et.length : Int) ≤ m) := by show _ ≤ _; omega
          rw [hz']
          clear a0 a1 a2 a3 a4 hz' hz hT
          go_wp2_with fail
          go_roundw
          case rel =>
            refine ⟨k + 1, z', by omega, by go_num, rfl, h0', h1', ?_, xt X E⟩
            intro q hq
            rw [HE.out] at hq
            rcases List.mem_append.1 hq with hq | hq
            · exact HA.out q hq
            · obtain rfl := List.mem_singleton.1 hq
              exact HL.out
          case measure => simp [intOf]; omega
      · obtain rfl : k = n := by omega
        have HB : Hid (∀ q ∈ l, (q.t.length : Int) ≤ m) := by
          intro q hq
          refine HA.out q ?_
          rw [List.take_of_length_le (by rw [HN.out]; exact Nat.le_refl _)]
          exact hq
        clear HA
        go_wp2_with fail
        go_ret
        exact ⟨⟨z, rfl, by omega, by omega, fun _ => ⟨by omega, HB.out⟩⟩, X⟩

end Go.Proofs.YtemmeglmcbehfaaDoor
