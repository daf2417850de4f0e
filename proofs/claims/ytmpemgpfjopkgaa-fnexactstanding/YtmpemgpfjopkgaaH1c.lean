/-
  Rows measured: Change.
-/
import Derived.Test.YtmpemgpfjopkgaaH1b
import Derived.Deep.RegionHeld3
namespace Go.Proofs.Ytmpemgpfjopkgaa
open Go.RowKit

set_option maxHeartbeats 1000000 in
theorem szChange (r : Int) (c : Int) (t : List UInt8) (m : Int) (w : World) (h0 : 0 ≤ m) (h1 : m ≤ 1048576) (hl : (t.length : Int) ≤ 9223372036854775807) :
    Calls Try.prog 35 #[changeV r c t, .int .i64 m] w fun e w' => e = .returned (.int .i64 (if m < t.length then -1 else m - t.length)) ∧ Ext w w' := by
  have X0 := x1 w (.cells #[.int .i64 r, .int .i64 c, sV t] 66)
  obtain ⟨L, hL⟩ : ∃ L, t.length = L := ⟨_, rfl⟩
  have hs : (⟨t.toArray⟩ : ByteArray).size = L := hL
  rw [hL] at hl ⊢
  clear hL
  by_cases hm : m < L
  · rw [if_pos hm]
    go_enter Try.func35, Try.ntmps35
    go_wp2_with fail
    go_ret
    exact ⟨rfl, X0⟩
  · rw [if_neg hm]
    go_enter Try.func35, Try.ntmps35
    go_wp2_with fail
    go_ret
    exact ⟨ret_int (by first | rfl | omega), X0⟩
set_option maxRecDepth 8000 in
set_option maxHeartbeats 1000000 in
/-- How much room values take, as the law asks. -/
theorem szChanges (v : Value) (l : List CH) (m : Int) (w : World) (h : ChangesIn w v l) (m0 : 0 ≤ m) (m1 : m ≤ 1048576) (hl : l.length ≤ 9223372036854775807) (ht : ∀ e ∈ l, e.t.length ≤ 9223372036854775807) :
    Calls Try.prog 27 #[v, .int .i64 m] w fun e w' => (∃ r : Int, e = .returned (.int .i64 r) ∧ -1 ≤ r ∧ r ≤ m ∧ (0 ≤ r → (l.length : Int) + r ≤ m ∧ ∀ q ∈ l, (q.t.length : Int) ≤ m)) ∧ Ext w w' := by
  obtain ⟨p, cap, rfl, hcap, hrow⟩ := h
  obtain ⟨n, hn⟩ : ∃ n, l.length = n := ⟨_, rfl⟩
  have HN : Hid (l.length = n) := hn
  rw [hn] at hcap hl hrow ⊢
  clear hn
  by_cases hb : m < n
  · go_enter Try.func27, Try.ntmps27
    go_wp2_with fail
    go_ret
    exact ⟨⟨-1, rfl, by omega, by omega, fun h => by omega⟩, xr _⟩
  · have HRow : Hid (0 < n → ∃ b o, p = some ⟨b, o, none⟩ ∧ RowCh w b o l) := hrow
    have HT : Hid (∀ e ∈ l, e.t.length ≤ 9223372036854775807) := ht
    clear hrow ht
    go_enter Try.func27, Try.ntmps27
    go_wp2_with fail
    go_loopw [1, 5] (fun r i wr => ∃ (k : Nat) (z : Int), k ≤ n ∧ i = .int .i64 k ∧ r = .int .i64 z ∧ 0 ≤ z ∧ z + n ≤ m ∧ Hid (∀ q ∈ l.take k, (q.t.length : Int) ≤ m) ∧ Ext w wr) (fun _ i _ => n - (intOf i).toNat)
    case atStart => exact ⟨0, m - n, by omega, rfl, by go_num, by omega, by omega, by intro q hq; simp at hq, xr _⟩
    case round =>
      obtain ⟨k, z, hk, rfl, rfl, z0, z1, HA, X⟩ := hrel
      by_cases hlt : k < n
      · obtain ⟨e, he⟩ : ∃ e, l[k]? = some e := ⟨_, List.getElem?_eq_getElem (by rw [HN.out]; exact hlt)⟩
        obtain ⟨b, o, rfl, hR⟩ := HRow.out (by omega)
        obtain ⟨a0, a1, a2⟩ := (hR.later X).all he
        have hT := HT.out e (List.mem_of_getElem? he)
        have HE : Hid (l.take (k + 1) = l.take k ++ [e]) := by
          show _ = _
          rw [List.take_add_one, he]
          rfl
        obtain ⟨er, ec, et⟩ := e
        have i2 : (k : Int) < (n : Int) := by omega
        clear hR he
        dsimp only at a0 a1 a2 hT
        go_wp2_with fail
        refine (szChange er ec et z _ z0 (by omega) (by omega)).mono ?_
        rintro r w' ⟨rfl, E⟩
        by_cases hz : z < et.length
        · rw [if_pos hz]
          clear a0 a1 a2
          go_wp2_with fail
          go_ret
          exact ⟨⟨-1, rfl, by omega, by omega, fun h => by omega⟩, xt X E⟩
        · rw [if_neg hz]
          obtain ⟨z', hz'⟩ : ∃ z' : Int, z - et.length = z' := ⟨_, rfl⟩
          have h0' : 0 ≤ z' := by omega
          have h1' : z' + n ≤ m := by omega
          have HL : Hid ((et.length : Int) ≤ m) := by show _ ≤ _; omega
          rw [hz']
          clear a0 a1 a2 hz' hz hT
          go_wp2_with fail
          go_roundw
          case rel =>
            refine ⟨k + 1, z', by omega, by go_num, rfl, h0', h1', ?_, xt X E⟩
            intro q hq
            rw [HE.out] at hq
            rcases List.mem_append.1 hq with hq | hq
            · exact HA.out q hq
            · obtain rfl := List.mem_singleton.1 hq
              exact HL.out
          case measure => simp [intOf]; omega
      · obtain rfl : k = n := by omega
        have HB : Hid (∀ q ∈ l, (q.t.length : Int) ≤ m) := by
          intro q hq
          refine HA.out q ?_
          rw [List.take_of_length_le (by rw [HN.out]; exact Nat.le_refl _)]
          exact hq
        clear HA
        go_wp2_with fail
        go_ret
        exact ⟨⟨z, rfl, by omega, by omega, fun _ => ⟨by omega, HB.out⟩⟩, X⟩


end Go.Proofs.Ytmpemgpfjopkgaa
