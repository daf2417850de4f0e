/-
  What the program takes a date's text apart into.
-/
import Derived.Test.YtmcmohooodpfeaaGreatDoorRdS
import Derived.Test.YtmcmohooodpfeaaGreatDoorLibA
namespace Go.Proofs.YtmcmohooodpfeaaGreatDoor
open Go.RowKit

theorem parse_dig {a acc : Nat} (h : a < 10) (ha : acc < 1000000) (r : List UInt8) : Lib.parseUint10 acc (dig a :: r) = Lib.parseUint10 (acc * 10 + a) r := by
  rw [Lib.parseUint10, dig_toNat h, if_pos (by omega), if_neg (by omega), if_neg (by omega)]
  congr 1
  omega
theorem atoi_dig {a : Nat} (h : a < 10) (r : List UInt8) (u : Nat) (hu : u < 1000000) (hr : Lib.parseUint10 a r = .ok u) : Lib.atoiAll (dig a :: r) = .ok (u : Int) := by
  have hp : Lib.parseMag (dig a :: r) = .ok u := by
    unfold Lib.parseMag
    rw [if_neg (by simp), parse_dig h (by omega)]
    simpa using hr
  unfold Lib.atoiAll
  have hc := dig_toNat h
  simp only [hc]
  rw [if_neg (by omega), hp]
  simp only
  rw [if_neg (by omega), if_neg (by omega), if_neg (by omega)]
theorem atoi4 {u : Nat} (h : u ≤ 9999) : Lib.atoiAll [dig (u / 1000), dig (u / 100 % 10), dig (u / 10 % 10), dig (u % 10)] = .ok (u : Int) := by
  refine atoi_dig (by omega) _ u (by omega) ?_
  rw [parse_dig (by omega) (by omega), parse_dig (by omega) (by omega), parse_dig (by omega) (by omega), Lib.parseUint10]
  congr 1
  omega
theorem atoi2 {u : Nat} (h : u ≤ 99) : Lib.atoiAll [dig (u / 10), dig (u % 10)] = .ok (u : Int) := by
  refine atoi_dig (by omega) _ u (by omega) ?_
  rw [parse_dig (by omega) (by omega), Lib.parseUint10]
  congr 1
  omega
theorem dig_ne {a : Nat} (h : a < 10) : dig a ≠ 45 := fun e => by
  have := congrArg UInt8.toNat e
  rw [dig_toNat h] at this
  simp at this
  omega
theorem impl_parse {t : ByteArray} {l : List UInt8} (hl : t.data.toList = l) {y m d : Int} (h : HasText t y m d) :
    ∃ p0 p1 p2, Lib.splitN (Lib.trimPrefix l [45]) [45] 4 = [p0, p1, p2] ∧ Lib.atoiAll p0 = .ok (y.natAbs : Int) ∧ Lib.atoiAll p1 = .ok m ∧ Lib.atoiAll p2 = .ok d ∧ Lib.hasPrefix l [45] = decide (y < 0) := by
  obtain ⟨hy, hm, hd⟩ := h.1
  have e : l = dateL (decide (y < 0)) y.natAbs m.toNat d.toNat := by rw [← hl, ← h.2, dateB_list h.1]
  have n4 := atoi4 (u := y.natAbs) (by omega)
  have nm := atoi2 (u := m.toNat) (by omega)
  have nd := atoi2 (u := d.toNat) (by omega)
  have em : ((m.toNat : Nat) : Int) = m := by omega
  have ed : ((d.toNat : Nat) : Int) = d := by omega
  rw [em] at nm
  rw [ed] at nd
  have d0 := dig_ne (a := y.natAbs / 1000) (by omega)
  have d1 := dig_ne (a := y.natAbs / 100 % 10) (by omega)
  have d2 := dig_ne (a := y.natAbs / 10 % 10) (by omega)
  have d3 := dig_ne (a := y.natAbs % 10) (by omega)
  have d4 := dig_ne (a := m.toNat / 10) (by omega)
  have d5 := dig_ne (a := m.toNat % 10) (by omega)
  have d6 := dig_ne (a := d.toNat / 10) (by omega)
  have d7 := dig_ne (a := d.toNat % 10) (by omega)
  obtain ⟨a0, h0⟩ : ∃ a, dig (y.natAbs / 1000) = a := ⟨_, rfl⟩
  obtain ⟨a1, h1⟩ : ∃ a, dig (y.natAbs / 100 % 10) = a := ⟨_, rfl⟩
  obtain ⟨a2, h2⟩ : ∃ a, dig (y.natAbs / 10 % 10) = a := ⟨_, rfl⟩
  obtain ⟨a3, h3⟩ : ∃ a, dig (y.natAbs % 10) = a := ⟨_, rfl⟩
  obtain ⟨a4, h4⟩ : ∃ a, dig (m.toNat / 10) = a := ⟨_, rfl⟩
  obtain ⟨a5, h5⟩ : ∃ a, dig (m.toNat % 10) = a := ⟨_, rfl⟩
  obtain ⟨a6, h6⟩ : ∃ a, dig (d.toNat / 10) = a := ⟨_, rfl⟩
  obtain ⟨a7, h7⟩ : ∃ a, dig (d.toNat % 10) = a := ⟨_, rfl⟩
  rw [h0] at d0 n4
  rw [h1] at d1 n4
  rw [h2] at d2 n4
  rw [h3] at d3 n4
  rw [h4] at d4 nm
  rw [h5] at d5 nm
  rw [h6] at d6 nd
  rw [h7] at d7 nd
  have el : l = (if y < 0 then [45] else []) ++ [a0, a1, a2, a3, 45, a4, a5, 45, a6, a7] := by
    rw [e]
    unfold dateL
    rw [h0, h1, h2, h3, h4, h5, h6, h7]
    simp
  have core : Lib.splitN [a0, a1, a2, a3, 45, a4, a5, 45, a6, a7] [45] 4 = [[a0, a1, a2, a3], [a4, a5], [a6, a7]] := by
    simp [Lib.splitN, Lib.splitK, Lib.index, Ne.symm d0, Ne.symm d1, Ne.symm d2, Ne.symm d3, Ne.symm d4, Ne.symm d5, Ne.symm d6, Ne.symm d7]
  by_cases hn : y < 0
  · refine ⟨_, _, _, ?_, n4, nm, nd, ?_⟩
    · rw [el, if_pos hn]
      simp only [Lib.trimPrefix, Lib.hasPrefix, List.singleton_append, List.isPrefixOf_cons_cons_self, List.isPrefixOf, if_true, List.length_cons, List.length_nil, List.drop_succ_cons, List.drop_zero]
      exact core
    · rw [el, if_pos hn]
      simp [Lib.hasPrefix, hn]
  · refine ⟨_, _, _, ?_, n4, nm, nd, ?_⟩
    · rw [el, if_neg hn]
      simp only [List.nil_append]
      have : Lib.trimPrefix [a0, a1, a2, a3, 45, a4, a5, 45, a6, a7] [45] = [a0, a1, a2, a3, 45, a4, a5, 45, a6, a7] := by
        simp [Lib.trimPrefix, Lib.hasPrefix, Ne.symm d0]
      rw [this]
      exact core
    · rw [el, if_neg hn]
      simp [Lib.hasPrefix, List.isPrefixOf, Ne.symm d0, hn]

theorem splitK_len (sep : List UInt8) : ∀ (k : Nat) (s : List UInt8), ∀ p ∈ Lib.splitK sep 0 k s, p.length ≤ s.length
  | 0, s, p, h => by simp [Lib.splitK] at h; rw [h]; exact Nat.le_refl _
  | k + 1, s, p, h => by
    unfold Lib.splitK at h
    split at h
    · simp at h; rw [h]; exact Nat.le_refl _
    · rcases List.mem_cons.1 h with rfl | h
      · simp; omega
      · have := splitK_len sep k _ p h
        simp at this
        omega
theorem trim_len (l : List UInt8) : (Lib.trimPrefix l [45]).length ≤ l.length := by
  unfold Lib.trimPrefix
  split <;> simp

end Go.Proofs.YtmcmohooodpfeaaGreatDoor
