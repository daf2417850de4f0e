/-
  Rows measured: Shown.
-/
import Derived.Test.YtbipmeldmgpknaaS8b
import Derived.Deep.RegionHeld3
namespace Go.Proofs.Ytbipmeldmgpknaa
open Go.RowKit

set_option maxHeartbeats 1000000 in
theorem szShown (r : Int) (c : Int) (k : Int) (n : Bool) (d : Int) (x : Int) (t : List UInt8) (q : Bool) (m : Int) (w : World) (h0 : 0 ≤ m) (h1 : m ≤ 1048576) (hl : (t.length : Int) ≤ 9223372036854775807) :
    Calls Try.prog 11 #[shownV r c k n d x t q, .int .i64 m] w fun e w' => e = .returned (.int .i64 (if m < t.length then -1 else m - t.length)) ∧ Ext w w' := by
  have X0 := x1 w (.cells #[.int .i64 r, .int .i64 c, .int .i64 k, .bool n, .int .i64 d, .int .i64 x, sV t, .bool q] 36)
  have CC := fun W => szValue k n d x t m W h0 h1 hl
  obtain ⟨L, hL⟩ : ∃ L, t.length = L := ⟨_, rfl⟩
  rw [hL] at hl ⊢
  simp only [hL] at CC
  clear hL
  by_cases hm : m < L
  · rw [if_pos hm]
    simp only [if_pos hm] at CC
    go_enter Try.func11, Try.ntmps11
    go_wp2_with fail
    refine (CC _).mono ?_
    rintro e w1 ⟨rfl, e1⟩
    go_wp2_with fail
    go_ret
    exact ⟨rfl, xt X0 e1⟩
  · rw [if_neg hm]
    simp only [if_neg hm] at CC
    obtain ⟨z, hz⟩ : ∃ z : Int, m - L = z := ⟨_, rfl⟩
    have z0 : 0 ≤ z := by omega
    simp only [hz] at CC ⊢
    clear hz hm
    go_enter Try.func11, Try.ntmps11
    go_wp2_with fail
    refine (CC _).mono ?_
    rintro e w1 ⟨rfl, e1⟩
    go_wp2_with fail
    go_ret
    exact ⟨rfl, xt X0 e1⟩
set_option maxRecDepth 8000 in
set_option maxHeartbeats 1000000 in
/-- How much room values take, as the law asks. -/
theorem szShowns (v : Value) (l : List ST) (m : Int) (w : World) (h : ShownsIn w v l) (m0 : 0 ≤ m) (m1 : m ≤ 1048576) (hl : l.length ≤ 9223372036854775807) (ht : ∀ e ∈ l, e.t.length ≤ 9223372036854775807) :
    Calls Try.prog 4 #[v, .int .i64 m] w fun e w' => (∃ r : Int, e = .returned (.int .i64 r) ∧ -1 ≤ r ∧ r ≤ m ∧ (0 ≤ r → (l.length : Int) ≤ m ∧ ∀ q ∈ l, (q.t.length : Int) ≤ m)) ∧ Ext w w' := by
  obtain ⟨p, cap, rfl, hcap, hrow⟩ := h
  obtain ⟨n, hn⟩ : ∃ n, l.length = n := ⟨_, rfl⟩
  have HN : Hid (l.length = n) := hn
  rw [hn] at hcap hl hrow ⊢
  clear hn
  by_cases hb : m < n
  · go_enter Try.func4, Try.ntmps4
    go_wp2_with fail
    go_ret
    exact ⟨⟨-1, rfl, by omega, by omega, fun h => by omega⟩, xr _⟩
  · have HRow : Hid (0 < n → ∃ b o, p = some ⟨b, o, none⟩ ∧ RowS w b o l) := hrow
    have HT : Hid (∀ e ∈ l, e.t.length ≤ 9223372036854775807) := ht
    clear hrow ht
    go_enter Try.func4, Try.ntmps4
    go_wp2_with fail
    go_loopw [1, 5] (fun r i wr => ∃ (k : Nat) (z : Int), k ≤ n ∧ i = .int .i64 k ∧ r = .int .i64 z ∧ 0 ≤ z ∧ z ≤ m ∧ Hid (∀ q ∈ l.take k, (q.t.length : Int) ≤ m) ∧ Ext w wr) (fun _ i _ => n - (intOf i).toNat)
    case atStart => exact ⟨0, m - n, by omega, rfl, by go_num, by omega, by omega, by intro q hq; simp at hq, xr _⟩
    case round =>
      obtain ⟨k, z, hk, rfl, rfl, z0, z1, HA, X⟩ := hrel
      by_cases hlt : k < n
      · obtain ⟨e, he⟩ : ∃ e, l[k]? = some e := ⟨_, List.getElem?_eq_getElem (by rw [HN.out]; exact hlt)⟩
        obtain ⟨b, o, rfl, hR⟩ := HRow.out (by omega)
        obtain ⟨a0, a1, a2, a3, a4, a5, a6, a7⟩ := (hR.later X).all he
        have hT := HT.out e (List.mem_of_getElem? he)
        have HE : Hid (l.take (k + 1) = l.take k ++ [e]) := by
          show _ = _
          rw [List.take_add_one, he]
          rfl
        obtain ⟨er, ec, ek, en, ed, ex, et, eq⟩ := e
        have i2 : (k : Int) < (n : Int) := by omega
        clear hR he
        dsimp only at a0 a1 a2 a3 a4 a5 a6 a7 hT
        go_wp2_with fail
        refine (szShown er ec ek en ed ex et eq z _ z0 (by omega) (by omega)).mono ?_
        rintro r w' ⟨rfl, E⟩
        by_cases hz : z < et.length
        · rw [if_pos hz]
          clear a0 a1 a2 a3 a4 a5 a6 a7
          go_wp2_with fail
          go_ret
          exact ⟨⟨-1, rfl, by omega, by omega, fun h => by omega⟩, xt X E⟩
        · rw [if_neg hz]
          obtain ⟨z', hz'⟩ : ∃ z' : Int, z - et.length = z' := ⟨_, rfl⟩
          have h0' : 0 ≤ z' := by omega
          have h1' : z' ≤ m := by omega
          have HL : Hid ((et.length : Int) ≤ m) := by show _ ≤ _; omega
          rw [hz']
          clear a0 a1 a2 a3 a4 a5 a6 a7 hz' hz hT
          go_wp2_with fail
          go_roundw
          case rel =>
            refine ⟨k + 1, z', by omega, by go_num, rfl, h0', h1', ?_, xt X E⟩
            intro q hq
            rw [HE.out] at hq
            rcases List.mem_append.1 hq with hq | hq
            · exact HA.out q hq
            · obtain rfl := List.mem_singleton.1 hq
              exact HL.out
          case measure => simp [intOf]; omega
      · obtain rfl : k = n := by omega
        have HB : Hid (∀ q ∈ l, (q.t.length : Int) ≤ m) := by
          intro q hq
          refine HA.out q ?_
          rw [List.take_of_length_le (by rw [HN.out]; exact Nat.le_refl _)]
          exact hq
        clear HA
        go_wp2_with fail
        go_ret
        exact ⟨⟨z, rfl, by omega, by omega, fun _ => ⟨by omega, HB.out⟩⟩, X⟩


end Go.Proofs.Ytbipmeldmgpknaa
