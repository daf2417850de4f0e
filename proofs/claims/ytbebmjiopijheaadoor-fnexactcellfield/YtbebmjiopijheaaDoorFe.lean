/-
  Chapter 4: texts that may be shown; the two bools.
-/
import Derived.Test.YtbebmjiopijheaaDoorFa
namespace Go.Proofs.YtbebmjiopijheaaDoor
open Go.RowKit

def shownC (c : UInt8) : Bool := decide (32 ≤ c.toNat ∧ c.toNat ≤ 126)
def plainB (l : List UInt8) : Bool := l.all shownC
def printN (m : Nat) (l : List UInt8) : Bool := l.all shownC && decide (l.length ≤ m)
def printB (l : List UInt8) : Bool := printN 200 l

set_option maxHeartbeats 1000000 in
theorem plainByteI (N : Int) (q : Bool) (w : World) (h : (decide (32 ≤ N) && decide (N ≤ 126)) = q) : Calls Tryd.prog 36 #[.int .u8 N] w fun e w' => e = .returned (.bool q) ∧ w' = w := by
  subst h
  by_cases h1 : 32 ≤ N
  · by_cases h2 : N ≤ 126
    · go_enter Tryd.func36, Tryd.ntmps36
      go_wp2_with fail
      go_ret
      exact ⟨ret_bool (by simp [h1, h2]), rfl⟩
    · go_enter Tryd.func36, Tryd.ntmps36
      go_wp2_with fail
      go_ret
      exact ⟨ret_bool (by simp; omega), rfl⟩
  · go_enter Tryd.func36, Tryd.ntmps36
    go_wp2_with fail
    go_ret
    exact ⟨ret_bool (by simp; omega), rfl⟩
set_option maxRecDepth 8000 in
set_option maxHeartbeats 1000000 in
theorem plainI (l : List UInt8) (w : World) (hl : l.length ≤ 2000000) : Calls Tryd.prog 24 #[sV l] w fun e w' => e = .returned (.bool (plainB l)) ∧ w' = w := by
  obtain ⟨s, hs⟩ : ∃ s : ByteArray, (⟨l.toArray⟩ : ByteArray) = s := ⟨_, rfl⟩
  have hsl : s.data.toList = l := by rw [← hs]
  have hsz := size_ofL' hsl
  show Calls Tryd.prog 24 #[.string ⟨l.toArray⟩] w _
  rw [hs]
  clear hs
  obtain ⟨n, hn⟩ : ∃ n, l.length = n := ⟨_, rfl⟩
  have HN : Hid (l.length = n) := hn
  have HS : Hid (s.data.toList = l) := hsl
  rw [hn] at hl hsz
  clear hn hsl
  go_enter Tryd.func24, Tryd.ntmps24
  go_wp2_with fail
  go_loop [6] (fun i => ∃ k : Nat, k ≤ n ∧ i = .int .i64 k ∧ Hid ((l.take k).all shownC = true)) (fun i => n - (intOf i).toNat)
  case atStart => exact ⟨0, by omega, rfl, by show _ = _; simp⟩
  case round =>
    obtain ⟨k, hk, rfl, HA⟩ := hrel
    by_cases hlt : k < n
    · have hks : k < s.size := by omega
      have hb0 := byte_atA HS.out hks
      have htk := take_at (l := l) (i := k) (by rw [HN.out]; exact hlt)
      obtain ⟨c, hcc⟩ : ∃ c, l.getD k 0 = c := ⟨_, rfl⟩
      rw [hcc] at hb0 htk
      have hb : ((s[k]'hks).toNat : Int) = (c.toNat : Int) := by rw [hb0]
      have i2 : (k : Int) < (n : Int) := by omega
      by_cases hc : shownC c = true
      · have hc' : 32 ≤ c.toNat ∧ c.toNat ≤ 126 := by simpa [shownC] using hc
        have HA2 : Hid ((l.take (k + 1)).all shownC = true) := by
          show _ = _
          rw [htk, List.all_append, HA.out, List.all_cons, hc]
          rfl
        obtain ⟨N, hN⟩ : ∃ N : Int, (c.toNat : Int) = N := ⟨_, rfl⟩
        rw [hN] at hb
        have n1 : 32 ≤ N := by omega
        have n2 : N ≤ 126 := by omega
        have PB : (decide (32 ≤ N) && decide (N ≤ 126)) = true := by simp; omega
        clear hN hc hc' hb0 htk hcc HA
        go_wp2_with (go_at_call 36; refine (plainByteI N _ _ PB).mono ?_; rintro e w' ⟨rfl, rfl⟩)
        go_round
        case rel => exact ⟨k + 1, by omega, by go_num, HA2⟩
        case measure => simp [intOf]; omega
      · have HF : Hid (plainB l = false) := by
          show _ = _
          have hm : c ∈ l := by
            have : c ∈ l.take (k + 1) := by rw [htk]; simp
            exact List.mem_of_mem_take this
          have hf : l.all shownC = false := by
            cases hq : l.all shownC with
            | false => rfl
            | true => exact absurd ((List.all_eq_true.1 hq) c hm) hc
          unfold plainB
          rw [hf]
        have hc' : c.toNat < 32 ∨ 126 < c.toNat := by
          have : ¬ (32 ≤ c.toNat ∧ c.toNat ≤ 126) := by simpa [shownC] using hc
          omega
        obtain ⟨N, hN⟩ : ∃ N : Int, (c.toNat : Int) = N := ⟨_, rfl⟩
        rw [hN] at hb
        have n1 : N < 32 ∨ 126 < N := by omega
        have PB : (decide (32 ≤ N) && decide (N ≤ 126)) = false := by simp; omega
        clear hN hc hc' hb0 htk hcc HA
        go_wp2_with (go_at_call 36; refine (plainByteI N _ _ PB).mono ?_; rintro e w' ⟨rfl, rfl⟩)
        go_ret
        exact ⟨ret_bool (by rw [HF.out]), rfl⟩
    · obtain rfl : k = n := by omega
      have HT : Hid (plainB l = true) := by
        show _ = _
        have h1 := HA.out
        rw [List.take_of_length_le (by rw [HN.out]; omega)] at h1
        exact h1
      clear HA
      go_wp2_with fail
      go_ret
      exact ⟨ret_bool (by rw [HT.out]), rfl⟩

set_option maxRecDepth 8000 in
set_option maxHeartbeats 1000000 in
theorem printS (m : Nat) (l : List UInt8) (w : World) (hl : l.length ≤ 2000000) : Calls Tryd.prog 17 #[sV l, .int .i64 (m : Int)] w fun e w' => e = .returned (.bool (printN m l)) ∧ w' = w := by
  obtain ⟨s, hs⟩ : ∃ s : ByteArray, (⟨l.toArray⟩ : ByteArray) = s := ⟨_, rfl⟩
  have hsl : s.data.toList = l := by rw [← hs]
  have hsz := size_ofL' hsl
  show Calls Tryd.prog 17 #[.string ⟨l.toArray⟩, .int .i64 (m : Int)] w _
  rw [hs]
  clear hs
  obtain ⟨n, hn⟩ : ∃ n, l.length = n := ⟨_, rfl⟩
  have HN : Hid (l.length = n) := hn
  have HS : Hid (s.data.toList = l) := hsl
  rw [hn] at hl hsz
  clear hn hsl
  go_enter Tryd.func17, Tryd.ntmps17
  go_wp2_with fail
  go_loop [5] (fun i => ∃ k : Nat, k ≤ n ∧ i = .int .i64 k ∧ Hid ((l.take k).all shownC = true)) (fun i => n - (intOf i).toNat)
  case atStart => exact ⟨0, by omega, rfl, by show _ = _; simp⟩
  case round =>
    obtain ⟨k, hk, rfl, HA⟩ := hrel
    by_cases hlt : k < n
    · have hks : k < s.size := by omega
      have hb0 := byte_atA HS.out hks
      have htk := take_at (l := l) (i := k) (by rw [HN.out]; exact hlt)
      obtain ⟨c, hcc⟩ : ∃ c, l.getD k 0 = c := ⟨_, rfl⟩
      rw [hcc] at hb0 htk
      have hb : ((s[k]'hks).toNat : Int) = (c.toNat : Int) := by rw [hb0]
      have i2 : (k : Int) < (n : Int) := by omega
      by_cases hc : shownC c = true
      · have hc' : 32 ≤ c.toNat ∧ c.toNat ≤ 126 := by simpa [shownC] using hc
        have HA2 : Hid ((l.take (k + 1)).all shownC = true) := by
          show _ = _
          rw [htk, List.all_append, HA.out, List.all_cons, hc]
          rfl
        obtain ⟨N, hN⟩ : ∃ N : Int, (c.toNat : Int) = N := ⟨_, rfl⟩
        rw [hN] at hb
        have n1 : 32 ≤ N := by omega
        have n2 : N ≤ 126 := by omega
        clear hN hc hc' hb0 htk hcc HA
        go_wp2_with fail
        go_round
        case rel => exact ⟨k + 1, by omega, by go_num, HA2⟩
        case measure => simp [intOf]; omega
      · have HF : Hid (printN m l = false) := by
          show _ = _
          have hm : c ∈ l := by
            have : c ∈ l.take (k + 1) := by rw [htk]; simp
            exact List.mem_of_mem_take this
          have hf : l.all shownC = false := by
            cases hq : l.all shownC with
            | false => rfl
            | true => exact absurd ((List.all_eq_true.1 hq) c hm) hc
          unfold printN
          rw [hf]
          rfl
        have hc' : c.toNat < 32 ∨ 126 < c.toNat := by
          have : ¬ (32 ≤ c.toNat ∧ c.toNat ≤ 126) := by simpa [shownC] using hc
          omega
        obtain ⟨N, hN⟩ : ∃ N : Int, (c.toNat : Int) = N := ⟨_, rfl⟩
        rw [hN] at hb
        have n1 : N < 32 ∨ 126 < N := by omega
        clear hN hc hc' hb0 htk hcc HA
        rcases n1 with n1 | n1
        · go_wp2_with fail
          go_ret
          exact ⟨ret_bool (by rw [HF.out]), rfl⟩
        · have n2 : 32 ≤ N := by omega
          go_wp2_with fail
          go_ret
          exact ⟨ret_bool (by rw [HF.out]), rfl⟩
    · obtain rfl : k = n := by omega
      have HT : Hid (printN m l = decide ((k : Int) ≤ (m : Int))) := by
        show _ = _
        have h1 := HA.out
        rw [List.take_of_length_le (by rw [HN.out]; omega)] at h1
        unfold printN
        rw [h1, HN.out]
        simp
      clear HA
      go_wp2_with fail
      go_ret
      exact ⟨ret_bool (by rw [HT.out]; simp), rfl⟩


/-- TRUE or FALSE. -/
def boolB (l : List UInt8) : Bool := (l == [84, 82, 85, 69]) || (l == [70, 65, 76, 83, 69])
set_option maxHeartbeats 1000000 in
theorem boolI (l : List UInt8) (w : World) : Calls Tryd.prog 25 #[sV l] w fun e w' => e = .returned (.bool (boolB l)) ∧ w' = w := by
  obtain ⟨p, hp⟩ : ∃ p, (l == [84, 82, 85, 69]) = p := ⟨_, rfl⟩
  obtain ⟨q, hq⟩ : ∃ q, (l == [70, 65, 76, 83, 69]) = q := ⟨_, rfl⟩
  have e : boolB l = (p || q) := by unfold boolB; rw [hp, hq]
  rw [e]
  clear e
  cases p <;> cases q
  all_goals
    go_enter Tryd.func25, Tryd.ntmps25
    go_wp2_with fail
    go_ret
    exact ⟨rfl, rfl⟩

end Go.Proofs.YtbebmjiopijheaaDoor

