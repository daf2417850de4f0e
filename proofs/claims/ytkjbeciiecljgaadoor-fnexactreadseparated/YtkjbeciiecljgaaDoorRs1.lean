/-
  Chapter 14: an end of a row, and where a field may end, by the specification.
-/
import Derived.Test.YtkjbeciiecljgaaDoorSt2
import Derived.Test.YtkjbeciiecljgaaDoorRd6
namespace Go.Proofs.YtkjbeciiecljgaaDoor
open Go.RowKit

theorem dropC {t : List UInt8} {i : Nat} {b : UInt8} (h : t[i]? = some b) : t.drop i = b :: t.drop (i + 1) := by
  obtain ⟨hk, rfl⟩ := List.getElem?_eq_some_iff.1 h
  exact List.drop_eq_getElem_cons hk
theorem endU_none {s : List UInt8} (h : s = []) : endU s = 0 := by subst h; rfl
theorem endU_ten (r : List UInt8) : endU (10 :: r) = 1 := rfl
theorem endU_two (r : List UInt8) : endU (13 :: 10 :: r) = 2 := rfl
theorem endU_one {b : UInt8} (h : b ≠ 10) : endU [b] = 0 := by
  unfold endU
  split
  · next e => simp at e; exact absurd e.1 h
  · next e => simp at e
  · rfl
theorem endU_other {b c : UInt8} (r : List UInt8) (h : b ≠ 10) (h2 : b ≠ 13 ∨ c ≠ 10) : endU (b :: c :: r) = 0 := by
  unfold endU
  split
  · next e => simp at e; exact absurd e.1 h
  · next e => simp at e; rcases h2 with h2 | h2; · exact absurd e.1 h2
              · exact absurd e.2.1 h2
  · rfl
theorem byteN {b : UInt8} {k : Nat} (h : b ≠ UInt8.ofNat k) (hk : k < 256) : b.toNat ≠ k := fun e => h (by rw [← UInt8.toNat_inj, e]; simp; omega)
set_option maxRecDepth 8000 in
set_option maxHeartbeats 2000000 in
theorem endS (s : ByteArray) (t : List UInt8) (i : Nat) (w : World) (hs : s.data.toList = t) (hi : i ≤ t.length) (ht : t.length ≤ 1048576) :
    Calls Tryd.prog 10 #[.string s, .int .i64 i] w fun e w' => e = .returned (.int .i64 (endU (t.drop i) : Nat)) ∧ w' = w := by
  have hsz := size_ofL' hs
  obtain ⟨n, hn⟩ : ∃ n, t.length = n := ⟨_, rfl⟩
  have HN : Hid (t.length = n) := hn
  have HS : Hid (s.data.toList = t) := hs
  rw [hn] at hi ht hsz
  obtain ⟨R, hR⟩ : ∃ R, endU (t.drop i) = R := ⟨_, rfl⟩
  have HR : Hid (endU (t.drop i) = R) := hR
  rw [hR]
  clear hs hn hR
  by_cases h1 : i < n
  · have hks : i < s.size := by omega
    have hb0 := byte_atA HS.out hks
    obtain ⟨b, hb⟩ : ∃ b, t[i]? = some b := ⟨_, List.getElem?_eq_getElem (by rw [HN.out]; exact h1)⟩
    have hgd : t.getD i 0 = b := by rw [List.getD, hb]; rfl
    rw [hgd] at hb0
    have hbn : ((s[i]'hks).toNat : Int) = (b.toNat : Int) := by rw [hb0]
    have HD : Hid (t.drop i = b :: t.drop (i + 1)) := dropC hb
    have i2 : (i : Int) < (n : Int) := by omega
    clear hb0 hgd hb
    by_cases b10 : b = 10
    · subst b10
      obtain rfl : R = 1 := by rw [← HR.out, HD.out]; rfl
      have n1 : (((10 : UInt8).toNat : Int)) = 10 := rfl
      rw [n1] at hbn
      go_enter Tryd.func10, Tryd.ntmps10
      go_wp2_with fail
      go_ret
      exact ⟨rfl, rfl⟩
    · obtain ⟨B, hB⟩ : ∃ B : Int, (b.toNat : Int) = B := ⟨_, rfl⟩
      have g10 : (B == 10) = false := by have := byteN (k := 10) b10 (by omega); simp; omega
      by_cases h2 : i + 1 < n
      · have hks2 : i + 1 < s.size := by omega
        have hc0 := byte_atA HS.out hks2
        obtain ⟨c, hc⟩ : ∃ c, t[i + 1]? = some c := ⟨_, List.getElem?_eq_getElem (by rw [HN.out]; exact h2)⟩
        have hgc : t.getD (i + 1) 0 = c := by rw [List.getD, hc]; rfl
        rw [hgc] at hc0
        have hcn : ((s[i + 1]'hks2).toNat : Int) = (c.toNat : Int) := by rw [hc0]
        have HD2 : Hid (t.drop i = b :: c :: t.drop (i + 1 + 1)) := by show _ = _; rw [HD.out, dropC hc]
        have i3 : (i : Int) + 1 < (n : Int) := by omega
        clear hc0 hgc hc
        by_cases b13 : b = 13
        · subst b13
          have n2 : (((13 : UInt8).toNat : Int)) = 13 := rfl
          rw [n2] at hB hbn
          subst hB
          by_cases c10 : c = 10
          · subst c10
            obtain rfl : R = 2 := by rw [← HR.out, HD2.out]; rfl
            have n1 : (((10 : UInt8).toNat : Int)) = 10 := rfl
            rw [n1] at hcn
            go_enter Tryd.func10, Tryd.ntmps10
            go_wp2_with fail
            go_ret
            exact ⟨rfl, rfl⟩
          · obtain rfl : R = 0 := by rw [← HR.out, HD2.out]; exact endU_other _ b10 (.inr c10)
            obtain ⟨C, hC⟩ : ∃ C : Int, (c.toNat : Int) = C := ⟨_, rfl⟩
            have gc : (C == 10) = false := by have := byteN (k := 10) c10 (by omega); simp; omega
            rw [hC] at hcn
            clear hC
            go_enter Tryd.func10, Tryd.ntmps10
            go_wp2_with fail
            go_ret
            exact ⟨rfl, rfl⟩
        · obtain rfl : R = 0 := by rw [← HR.out, HD2.out]; exact endU_other _ b10 (.inl b13)
          have g13 : (B == 13) = false := by have := byteN (k := 13) b13 (by omega); simp; omega
          rw [hB] at hbn
          clear hB
          go_enter Tryd.func10, Tryd.ntmps10
          go_wp2_with fail
          go_ret
          exact ⟨rfl, rfl⟩
      · obtain rfl : R = 0 := by
          rw [← HR.out, HD.out, List.drop_eq_nil_of_le (by rw [HN.out]; omega)]
          exact endU_one b10
        rw [hB] at hbn
        clear hB
        go_enter Tryd.func10, Tryd.ntmps10
        go_wp2_with fail
        go_ret
        exact ⟨rfl, rfl⟩
  · obtain rfl : R = 0 := by rw [← HR.out, List.drop_eq_nil_of_le (by rw [HN.out]; omega)]; rfl
    obtain rfl : i = n := by omega
    go_enter Tryd.func10, Tryd.ntmps10
    go_wp2_with fail
    go_ret
    exact ⟨rfl, rfl⟩

end Go.Proofs.YtkjbeciiecljgaaDoor
