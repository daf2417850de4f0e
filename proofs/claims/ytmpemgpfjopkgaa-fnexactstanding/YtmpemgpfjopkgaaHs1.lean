/-
  Chapter 15: rows of steps: told, measured.
-/
import Derived.Test.YtmpemgpfjopkgaaH2a
import Derived.Test.YtmpemgpfjopkgaaBx
namespace Go.Proofs.Ytmpemgpfjopkgaa
open Go.RowKit

/-- A step: what it takes back, and its changes. -/
structure STP where
  u : Int
  ch : List CH
def RowSt (w : World) (b o : Nat) (l : List STP) : Prop := ∀ (i : Nat) (e : STP), l[i]? = some e → ∃ cv, ChangesIn w cv e.ch ∧ w.cell? ⟨b, o + i * 2, none⟩ = some (.int .i64 e.u) ∧ w.cell? ⟨b, o + i * 2 + 1, none⟩ = some cv
theorem RowSt.later {w w' : World} {b o : Nat} {l : List STP} (h : RowSt w b o l) (x : Ext w w') : RowSt w' b o l := fun i e hi => by
  obtain ⟨cv, h1, h2, h3⟩ := h i e hi
  exact ⟨cv, h1.later x, cell_later x h2, cell_later x h3⟩
/-- Steps that lie somewhere. -/
def StpsIn (w : World) (v : Value) (l : List STP) : Prop :=
  ∃ p cap, v = .slice p l.length cap ∧ l.length ≤ cap ∧ (0 < l.length → ∃ b o, p = some ⟨b, o, none⟩ ∧ RowSt w b o l)
theorem StpsIn.later {w w' : World} {v : Value} {l : List STP} (h : StpsIn w v l) (x : Ext w w') : StpsIn w' v l := by
  obtain ⟨p, cap, h1, h2, h3⟩ := h
  refine ⟨p, cap, h1, h2, fun h0 => ?_⟩
  obtain ⟨b, o, h4, h5⟩ := h3 h0
  exact ⟨b, o, h4, h5.later x⟩
/-- Short enough to be told. -/
def STP.fits (e : STP) : Prop := e.ch.length ≤ 9223372036854775807 ∧ ∀ c ∈ e.ch, c.t.length ≤ 9223372036854775807
/-- How many changes there are. -/
def chN (l : List STP) : Nat := (l.map fun e => e.ch.length).sum
theorem chN_snoc (l : List STP) (e : STP) : chN (l ++ [e]) = chN l + e.ch.length := by simp [chN]
theorem chN_mem {l : List STP} {e : STP} (h : e ∈ l) : e.ch.length ≤ chN l := by
  induction l with
  | nil => cases h
  | cons a r ih =>
    rcases List.mem_cons.1 h with rfl | h
    · simp [chN]
    · have := ih h
      simp only [chN, List.map_cons, List.sum_cons] at this ⊢
      omega
theorem chN_take {l : List STP} {k : Nat} {e : STP} (h : l[k]? = some e) : chN (l.take (k + 1)) = chN (l.take k) + e.ch.length := by
  rw [List.take_add_one, h]
  exact chN_snoc _ _
theorem chN_le (l : List STP) (k : Nat) : chN (l.take k) ≤ chN l := by
  have e1 := congrArg chN (List.take_append_drop k l)
  have e2 : ∀ a b : List STP, chN (a ++ b) = chN a + chN b := fun a b => by unfold chN; rw [List.map_append, List.sum_append]
  rw [e2] at e1
  omega
set_option maxRecDepth 8000 in
set_option maxHeartbeats 2000000 in
theorem szStep (u : Int) (cv : Value) (l : List CH) (m : Int) (w : World) (h : ChangesIn w cv l) (m0 : 0 ≤ m) (m1 : m ≤ 1048576) (hl : l.length ≤ 9223372036854775807) (ht : ∀ e ∈ l, e.t.length ≤ 9223372036854775807) :
    Calls Try.prog 19 #[stepV u cv, .int .i64 m] w fun e w' => (∃ r : Int, e = .returned (.int .i64 r) ∧ -1 ≤ r ∧ r ≤ m ∧ (0 ≤ r → (l.length : Int) + r ≤ m)) ∧ Ext w w' := by
  have X0 := x1 w (.cells #[.int .i64 u, cv] 37)
  have B0 := vec_made w [.int .i64 u, cv] 37
  change Vec (w.alloc (.cells #[.int .i64 u, cv] 37)) _ _ at B0
  have C := szChanges cv l m (w.alloc (.cells #[.int .i64 u, cv] 37)) (h.later X0) m0 m1 hl ht
  have a0 := (B0 0 _ rfl).1
  have a1 := (B0 1 _ rfl).1
  clear h
  go_enter Try.func19, Try.ntmps19
  go_wp2_with fail
  clear a0 a1
  refine C.mono ?_
  rintro z w1 ⟨⟨z1, rfl, y1, q1, k1⟩, e1⟩
  have HK1 : Hid (0 ≤ z1 → (l.length : Int) + z1 ≤ m) := fun h => (k1 h).1
  clear k1
  have X1 := xt X0 e1
  by_cases n1 : z1 < 0
  · go_wp2_with fail
    go_ret
    exact ⟨⟨-1, rfl, by omega, by omega, fun h => by omega⟩, X1⟩
  · go_wp2_with fail
    go_ret
    exact ⟨⟨z1, rfl, by omega, by omega, HK1.out⟩, X1⟩
set_option maxRecDepth 8000 in
set_option maxHeartbeats 2000000 in
theorem szSteps (v : Value) (l : List STP) (m : Int) (w : World) (h : StpsIn w v l) (m0 : 0 ≤ m) (m1 : m ≤ 1048576) (hl : l.length ≤ 9223372036854775807) (ht : ∀ e ∈ l, e.fits) :
    Calls Try.prog 6 #[v, .int .i64 m] w fun e w' => (∃ r : Int, e = .returned (.int .i64 r) ∧ -1 ≤ r ∧ r ≤ m ∧ (0 ≤ r → (l.length : Int) + chN l ≤ m)) ∧ Ext w w' := by
  obtain ⟨p, cap, rfl, hcap, hrow⟩ := h
  obtain ⟨n, hn⟩ : ∃ n, l.length = n := ⟨_, rfl⟩
  have HN : Hid (l.length = n) := hn
  rw [hn] at hcap hl hrow ⊢
  clear hn
  by_cases hb : m < n
  · go_enter Try.func6, Try.ntmps6
    go_wp2_with fail
    go_ret
    exact ⟨⟨-1, rfl, by omega, by omega, fun h => by omega⟩, xr _⟩
  · have HRow : Hid (0 < n → ∃ b o, p = some ⟨b, o, none⟩ ∧ RowSt w b o l) := hrow
    have HT : Hid (∀ e ∈ l, e.fits) := ht
    clear hrow ht
    go_enter Try.func6, Try.ntmps6
    go_wp2_with fail
    go_loopw [1, 5] (fun r i wr => ∃ (k : Nat) (z : Int), k ≤ n ∧ i = .int .i64 k ∧ r = .int .i64 z ∧ 0 ≤ z ∧ Hid ((chN (l.take k) : Int) + z + n ≤ m) ∧ Ext w wr) (fun _ i _ => n - (intOf i).toNat)
    case atStart => exact ⟨0, m - n, by omega, rfl, by go_num, by omega, by show _ ≤ _; simp [chN], xr _⟩
    case round =>
      obtain ⟨k, z, hk, rfl, rfl, z0, HA, X⟩ := hrel
      by_cases hlt : k < n
      · obtain ⟨e, he⟩ : ∃ e, l[k]? = some e := ⟨_, List.getElem?_eq_getElem (by rw [HN.out]; exact hlt)⟩
        obtain ⟨b, o, rfl, hR⟩ := HRow.out (by omega)
        obtain ⟨cv, hdc, a0, a1⟩ := (hR.later X) k e he
        have hT := HT.out e (List.mem_of_getElem? he)
        have hz1 : z ≤ 1048576 := by have := HA.out; omega
        have CZ : Hid (Calls Try.prog 19 #[.agg #[.int .i64 e.u, cv], .int .i64 z] wr fun z' w' => (∃ r : Int, z' = .returned (.int .i64 r) ∧ -1 ≤ r ∧ r ≤ z ∧ (0 ≤ r → (e.ch.length : Int) + r ≤ z)) ∧ Ext wr w') := szStep e.u cv e.ch z wr hdc z0 hz1 hT.1 hT.2
        have HE : Hid (chN (l.take (k + 1)) = chN (l.take k) + e.ch.length) := chN_take he
        clear hT hdc
        obtain ⟨eu, ech⟩ := e
        have i2 : (k : Int) < (n : Int) := by omega
        clear hR he
        dsimp only at a0 a1 CZ HE
        go_wp2_with fail
        clear a0 a1
        refine CZ.out.mono ?_
        rintro r w' ⟨⟨z', rfl, y1, y2, y3⟩, E⟩
        have HL : Hid (0 ≤ z' → (ech.length : Int) + z' ≤ z) := y3
        clear y3 CZ
        by_cases hz : z' < 0
        · go_wp2_with fail
          go_ret
          exact ⟨⟨-1, rfl, by omega, by have := HA.out; omega, fun h => by omega⟩, xt X E⟩
        · go_wp2_with fail
          go_roundw
          case rel => exact ⟨k + 1, z', by omega, by go_num, rfl, by omega, by have h1 := HA.out; have h2 := HL.out (by omega); show _ ≤ _; rw [HE.out]; omega, xt X E⟩
          case measure => simp [intOf]; omega
      · obtain rfl : k = n := by omega
        have HB : Hid ((chN l : Int) + z + k ≤ m) := by
          have := HA.out
          rw [List.take_of_length_le (by rw [HN.out]; exact Nat.le_refl _)] at this
          exact this
        clear HA
        go_wp2_with fail
        go_ret
        exact ⟨⟨z, rfl, by omega, by have := HB.out; omega, fun _ => by have := HB.out; omega⟩, X⟩

end Go.Proofs.Ytmpemgpfjopkgaa
