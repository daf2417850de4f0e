/-
  Chapter 14: what the library gives to the fields of a row: runes of any bytes, whether one of some bytes stands in a text.
-/
import Derived.Test.YtpdfalpoidlegaaDoorSt0
import Derived.Test.YtpdfalpoidlegaaDoorFa
import Derived.Test.YtpdfalpoidlegaaDoorShelf
import Derived.Laws.RangeAny
import Derived.Laws.Runes
import Derived.Shelf.Strings.Runes
import Derived.Deep.LoopGhost
import Derived.BigQuiet
import Derived.Deep.QuietTactic
import Derived.Shelf.Abstract
import Derived.Deep.RegionWith
namespace Go.Proofs.YtpdfalpoidlegaaDoor
open Go.RowKit

theorem get_in (s : ByteArray) (i : Nat) (h : i < s.size) : s.get! i = s[i]'h := by
  simp [ByteArray.get!, getElem!_pos, h]
  rfl
/-- What is passed by with a rune of a byte from 128 on is such bytes alone. -/
theorem decode_pass (s : ByteArray) (i : Nat) (h : i < s.size) (ha : 128 ≤ (s[i]'h).toNat) :
    i + (Utf8.decode s i).2 ≤ s.size ∧ ∀ j (hj : j < s.size), i ≤ j → j < i + (Utf8.decode s i).2 → 128 ≤ (s[j]'hj).toNat := by
  have hb0 : s.get! (i + 0) = s[i]'h := get_in s i h
  have one : i + 1 ≤ s.size ∧ ∀ j (hj : j < s.size), i ≤ j → j < i + 1 → 128 ≤ (s[j]'hj).toNat := ⟨by omega, fun j hj h1 h2 => (by omega : j = i) ▸ ha⟩
  have cont : ∀ k, (decide (i + k < s.size) && (s.get! (i + k)).toNat / 64 == 2) = true → ∃ hk : i + k < s.size, 128 ≤ (s[i + k]'hk).toNat := fun k hk => by
    rw [Bool.and_eq_true, decide_eq_true_eq, beq_iff_eq] at hk
    refine ⟨hk.1, ?_⟩
    rw [← get_in s (i + k) hk.1]
    omega
  unfold Utf8.decode
  simp only
  rw [if_neg (by rw [hb0]; omega)]
  split
  · next h1 =>
    rw [Bool.and_eq_true] at h1
    obtain ⟨k1, b1⟩ := cont 1 h1.2
    split
    · refine ⟨by simp; omega, fun j hj h2 h3 => ?_⟩
      simp at h3
      by_cases e : j = i
      · subst e; exact ha
      · obtain rfl : j = i + 1 := by omega
        exact b1
    · exact one
  · split
    · next h1 =>
      rw [Bool.and_eq_true, Bool.and_eq_true] at h1
      obtain ⟨k1, b1⟩ := cont 1 h1.1.2
      obtain ⟨k2, b2⟩ := cont 2 h1.2
      split
      · refine ⟨by simp; omega, fun j hj h2 h3 => ?_⟩
        simp at h3
        by_cases e : j = i
        · subst e; exact ha
        · by_cases e : j = i + 1
          · subst e; exact b1
          · obtain rfl : j = i + 2 := by omega
            exact b2
      · exact one
    · split
      · next h1 =>
        rw [Bool.and_eq_true, Bool.and_eq_true, Bool.and_eq_true] at h1
        obtain ⟨k1, b1⟩ := cont 1 h1.1.1.2
        obtain ⟨k2, b2⟩ := cont 2 h1.1.2
        obtain ⟨k3, b3⟩ := cont 3 h1.2
        split
        · refine ⟨by simp; omega, fun j hj h2 h3 => ?_⟩
          simp at h3
          by_cases e : j = i
          · subst e; exact ha
          · by_cases e : j = i + 1
            · subst e; exact b1
            · by_cases e : j = i + 2
              · subst e; exact b2
              · obtain rfl : j = i + 3 := by omega
                exact b3
        · exact one
      · exact one

theorem fIndexByte14 : layIndexByte_ren.f 137 = 33 := by kernel_rfl
set_option maxHeartbeats 1000000 in
theorem validI (r : Int) (w : World) (h1 : 128 ≤ r) : ∃ q : Bool, (q = true → Utf8.valid r = true) ∧ Calls Tryd.prog 34 #[.int .i32 r] w fun e w' => e = .returned (.bool q) ∧ w' = w := by
  have g0 : 0 ≤ r := by omega
  by_cases h2 : r < 55296
  · refine ⟨true, fun _ => by unfold Utf8.valid; simp; omega, ?_⟩
    go_enter Tryd.func34, Tryd.ntmps34
    go_wp2_with fail
    go_ret
    exact ⟨rfl, rfl⟩
  · by_cases h3 : 57343 < r
    · by_cases h4 : r ≤ 1114111
      · refine ⟨true, fun _ => by unfold Utf8.valid; simp; omega, ?_⟩
        go_enter Tryd.func34, Tryd.ntmps34
        go_wp2_with fail
        go_ret
        exact ⟨rfl, rfl⟩
      · refine ⟨false, (fun h => by cases h), ?_⟩
        go_enter Tryd.func34, Tryd.ntmps34
        go_wp2_with fail
        go_ret
        exact ⟨rfl, rfl⟩
    · refine ⟨false, (fun h => by cases h), ?_⟩
      go_enter Tryd.func34, Tryd.ntmps34
      go_wp2_with fail
      go_ret
      exact ⟨rfl, rfl⟩
theorem indexByte_no {l : List UInt8} {c : UInt8} (h : ∀ x ∈ l, x ≠ c) : Lib.indexByte l c = -1 := by
  induction l with
  | nil => rfl
  | cons b l ih =>
    unfold Lib.indexByte
    rw [if_neg (by simp; exact h b (by simp)), ih (fun x hx => h x (by simp [hx]))]
    rfl
theorem xdN3 {a b : World} (h : Ext a b) (n : Nat) : Ext a (b.drewN n) := ⟨h.os, h.tape, h.output, h.size, h.block⟩
theorem iter_ext (w : World) (s : ByteArray) (i : Nat) : Ext w (w.iter s i) := x1 w _
set_option maxRecDepth 8000 in
set_option maxHeartbeats 2000000 in
/-- A rune from 128 on stands in no text of small bytes. -/
theorem runeHigh (ch : ByteArray) (r : Int) (w : World) (hs : ch.size = 4) (ha : ∀ j (h : j < ch.size), (ch[j]'h).toNat < 128) (h1 : 128 ≤ r) :
    Calls Tryd.prog 25 #[.string ch, .int .i32 r] w fun e w' => e = .returned (.int .i64 (-1)) ∧ Ext w w' := by
  have g0 : 0 ≤ r := by omega
  have g1 : decide (r < 128) = false := by simp; omega
  have HA : Hid (∀ j (h : j < ch.size), (ch[j]'h).toNat < 128) := ha
  clear ha
  by_cases h3 : r = 65533
  · subst h3
    clear g0 g1 h1
    go_enter Tryd.func25, Tryd.ntmps25
    go_wp2_with fail
    go_loopg [5, 6] 4 (fun g _ _ wx => ∃ i : Nat, i + g = 4 ∧ wx = w.iter ch i)
    case atStart => exact ⟨0, by omega, rfl⟩
    case round =>
      obtain ⟨i, hig, rfl⟩ := hrel
      cases gk with
      | zero =>
        obtain rfl : i = 4 := by omega
        have hnx := run_next_end (P := Tryd.prog) w ch 4
        have hx : ¬ 4 < ch.size := by omega
        go_wp2_with fail
        go_ret
        exact ⟨rfl, iter_ext _ _ _⟩
      | succ g =>
        have hi : i < ch.size := by omega
        have hb := HA.out i hi
        have hnx := fun ty => run_next_ascii (P := Tryd.prog) w ch i ty hi hb
        obtain ⟨N, hN⟩ : ∃ N : Nat, (ch[i]'hi).toNat = N := ⟨_, rfl⟩
        rw [hN] at hnx hb
        have g2 : ((N : Int) == 65533) = false := by simp; omega
        go_wp2_with fail
        go_roundg g
        case measure => omega
        case rel => exact ⟨i + 1, by omega, rfl⟩
  · have g2 : (r == 65533) = false := by simp [h3]
    obtain ⟨q, hq, CV⟩ := validI r w h1
    cases q
    · clear hq
      go_enter Tryd.func25, Tryd.ntmps25
      go_wp2_with fail
      refine CV.mono ?_
      rintro _ w1 ⟨rfl, rfl⟩
      go_wp2_with fail
      go_ret
      exact ⟨rfl, xr _⟩
    · obtain ⟨e1, e2, e3⟩ := encode_facts r (hq rfl) h1
      obtain ⟨rs, hrs⟩ : ∃ rs, Utf8.encode r = rs := ⟨_, rfl⟩
      rw [hrs] at e1 e2 e3
      obtain ⟨z, hz⟩ : ∃ z, rs.size = z + 1 := ⟨rs.size - 1, by omega⟩
      have hz1 : z < rs.size := by omega
      have hl : 128 ≤ (rs[z]'hz1).toNat := by
        have := e3 (by omega)
        simp only [hz, Nat.add_sub_cancel] at this
        exact this
      obtain ⟨N, hN⟩ : ∃ N : Nat, (rs[z]'hz1).toNat = N := ⟨_, rfl⟩
      rw [hN] at hl
      have hNi : ((rs[z]'hz1).toNat : Int) = (N : Int) := by rw [hN]
      have hzc : z < ch.size := by omega
      have hc := HA.out z hzc
      obtain ⟨M, hM⟩ : ∃ M : Nat, (ch[z]'hzc).toNat = M := ⟨_, rfl⟩
      rw [hM] at hc
      have hMi : ((ch[z]'hzc).toNat : Int) = (M : Int) := by rw [hM]
      have CB : Hid (∀ (a b : Nat) (W : World), Calls Tryd.prog 33 #[.string (ch.extract a b), .int .u8 (N : Int)] W fun e w' => e = .returned (.int .i64 (-1)) ∧ w' = W) := fun a b W => by
        have h := Any.strings_IndexByte layIndexByte (ch.extract a b) (N : Int) W
        rw [fIndexByte14, indexByte_no] at h
        · exact h
        · intro x hx e
          have hN2 : N < 256 := by rw [← hN]; exact (rs[z]'hz1).toNat_lt
          have hxn : x.toNat = N := by rw [e]; simp; omega
          have hmem : x ∈ ch.data.toList := by
            rw [ByteArray.data_extract] at hx
            simp at hx
            exact List.mem_of_mem_drop (List.mem_of_mem_take hx)
          obtain ⟨j, hj⟩ := List.mem_iff_getElem?.1 hmem
          have hjl : j < ch.size := (List.getElem?_eq_some_iff.1 hj).1
          have := HA.out j hjl
          have hxj : ch[j]'hjl = x := by
            have := (List.getElem?_eq_some_iff.1 hj).2
            show ch.data[j] = x
            simpa using this
          rw [hxj] at this
          omega
      have n1 : ((M : Int) == (N : Int)) = false := by simp; omega
      have n2 : ((M : Int) != (N : Int)) = true := by simp; omega
      have z3 : z ≤ 3 := by omega
      have z4 : (z : Int) < 4 := by omega
      obtain ⟨y, hy⟩ : ∃ y, z + 1 = y := ⟨_, rfl⟩
      have wz : IntKind.i64.wrap ((z : Int) + 1) = (y : Int) := by rw [IntKind.wrap_i64]; omega
      have y4 : (y : Int) ≤ 4 := by omega
      have y0 : (0 : Int) ≤ (y : Int) := by omega
      have y5 : y ≤ 4 := by omega
      clear hy
      clear e1 e2 e3 hN hM hq HA
      go_enter Tryd.func25, Tryd.ntmps25
      go_wp2_with fail
      refine CV.mono ?_
      rintro _ w1 ⟨rfl, rfl⟩
      clear CV
      go_wp2_with fail
      go_step3
      go_wp2_with fail
      go_loopw [9, 10] (fun i f wr => i = .int .i64 z ∧ f = .int .i64 0 ∧ wr = w1) (fun _ _ _ => 0)
      case atStart => exact ⟨by first | rfl | (congr 1; omega), rfl, rfl⟩
      case round =>
        obtain ⟨rfl, rfl, rfl⟩ := hrel
        go_wp2_with fail
        go_step3
        go_wp2_with fail
        go_quiet (fail)
        go_wp2_with fail
        have CC := fun W => CB.out y 4 W
        clear n1 n2 hMi hc hl z4 hzc
        go_region_with (first | (go_at_call 33; refine (CC _).mono ?_; rintro e w' ⟨rfl, hw⟩; rw [hw]))
        all_goals
          go_wp2_with fail
          show bodyPost Tryd.prog Tryd.f25 (fun e w' => e = .returned (.int .i64 (-1)) ∧ Ext wr w') Exit.ret _ _
          go_ret
          exact ⟨rfl, xdN3 (xr _) _⟩

end Go.Proofs.YtpdfalpoidlegaaDoor
