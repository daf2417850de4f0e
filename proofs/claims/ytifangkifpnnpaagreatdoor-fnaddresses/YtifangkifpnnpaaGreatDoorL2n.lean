/-
  The specification reads a number.
-/
import Derived.Test.YtifangkifpnnpaaGreatDoorBase
import Derived.Lib.ItoaNum
namespace Go.Proofs.YtifangkifpnnpaaGreatDoor
open Go.RowKit

theorem size_ofL {s : ByteArray} {l : List UInt8} (h : s.data.toList = l) : s.size = l.length := by
  rw [← h, Array.length_toList]
  rfl

/-- A digit's letter. -/
def dig (a : Nat) : UInt8 := UInt8.ofNat (48 + a)
theorem dig_toNat {a : Nat} (h : a < 10) : (dig a).toNat = 48 + a := by
  unfold dig
  rw [UInt8.toNat_ofNat']
  omega
theorem dec1 {u : Nat} (h : u < 10) : Lib.decDigits u = [dig u] := by rw [Lib.decDigits, dif_pos h]; rfl
theorem dec_step {u : Nat} (h : ¬ u < 10) : Lib.decDigits u = Lib.decDigits (u / 10) ++ [dig (u % 10)] := by rw [Lib.decDigits, dif_neg h]; rfl
/-- What the specification reads as a number. -/
def isDig (c : UInt8) : Bool := decide (48 ≤ c.toNat ∧ c.toNat ≤ 57)
def numF (acc : Int) : List UInt8 → Int
  | [] => acc
  | c :: r => if isDig c then numF (acc * 10 + ((c.toNat : Int) - 48)) r else -1
def numL (l : List UInt8) : Int := if 1 ≤ l.length ∧ l.length ≤ 6 then numF 0 l else -1
theorem isDig_dig {a : Nat} (h : a < 10) : isDig (dig a) = true := by simp [isDig, dig_toNat h]; omega
theorem numF_dig {a : Nat} (h : a < 10) (acc : Int) (r : List UInt8) : numF acc (dig a :: r) = numF (acc * 10 + a) r := by
  rw [numF, isDig_dig h, if_pos rfl, dig_toNat h]
  congr 1
  omega
theorem numF_fits : ∀ (l : List UInt8) (acc : Int) (k : Nat), 0 ≤ acc → acc < 10 ^ k → l.length + k ≤ 6 → -1 ≤ numF acc l ∧ numF acc l < 1000000
  | [], acc, k, h0, h1, hk => by
    have : (10 : Int) ^ k ≤ 10 ^ 6 := by
      have := Nat.pow_le_pow_right (n := 10) (by decide) (show k ≤ 6 by simpa using hk)
      exact_mod_cast this
    simp only [numF]
    omega
  | c :: r, acc, k, h0, h1, hk => by
    rw [numF]
    by_cases hc : isDig c = true
    · rw [if_pos hc]
      simp only [isDig, decide_eq_true_eq] at hc
      refine numF_fits r _ (k + 1) (by omega) ?_ (by simp only [List.length_cons] at hk; omega)
      rw [Int.pow_succ]
      omega
    · rw [if_neg hc]
      omega
theorem numL_fits (l : List UInt8) : -1 ≤ numL l ∧ numL l < 1000000 := by
  unfold numL
  split
  · exact numF_fits l 0 0 (by omega) (by simp) (by omega)
  · omega
theorem numF_bad (acc : Int) (c : UInt8) (r : List UInt8) (h : isDig c = false) : numF acc (c :: r) = -1 := by rw [numF, h]; rfl
theorem numF_good (acc : Int) (c : UInt8) (r : List UInt8) (h : isDig c = true) : numF acc (c :: r) = numF (acc * 10 + ((c.toNat : Int) - 48)) r := by rw [numF, h]; rfl
theorem drop_at {l : List UInt8} {i : Nat} (h : i < l.length) : l.drop i = l.getD i 0 :: l.drop (i + 1) := by
  rw [List.drop_eq_getElem_cons h]
  simp [h]

theorem byte_at {s : ByteArray} {l : List UInt8} (h : s.data.toList = l) {p : Nat} (hp : p < s.size) : (s[p]'hp) = l.getD p 0 := by
  subst h
  simp only [ByteArray.getElem_eq_getElem_data]
  have hp' : p < s.data.size := hp
  simp only [List.getD, Array.getElem?_toList]
  rw [Array.getElem?_eq_getElem hp']
  rfl

set_option maxHeartbeats 400000 in
theorem digitS (n : Int) (w : World) :
    Calls Tryz.prog 59 #[.int .u8 n] w fun e w' => e = .returned (.bool (decide (48 ≤ n ∧ n ≤ 57))) ∧ w' = w := by
  go_enter Tryz.func59, Tryz.ntmps59
  go_wp2
  all_goals go_ret
  all_goals refine ⟨ret_bool ?_, rfl⟩
  all_goals simp_all
  all_goals (intros; omega)

set_option maxRecDepth 4000 in
set_option maxHeartbeats 1000000 in
theorem numS (s : ByteArray) (l : List UInt8) (w : World) (hs : s.data.toList = l) :
    Calls Tryz.prog 39 #[.string s] w fun e w' => e = .returned (.int .i64 (numL l)) ∧ w' = w := by
  have hsz := size_ofL hs
  by_cases hl : 1 ≤ l.length ∧ l.length ≤ 6
  · have HR : Hid (numL l = numF 0 l) := by show _ = _; unfold numL; rw [if_pos hl]
    obtain ⟨L, hL⟩ : ∃ L, l.length = L := ⟨_, rfl⟩
    have HL : Hid (l.length = L) := hL
    rw [hL] at hsz hl
    rw [HR.out]
    have f1 : decide ((L : Int) < 1) = false := by simp; omega
    have f2 : decide ((L : Int) > 6) = false := by simp; omega
    have HS : Hid (s.data.toList = l) := hs
    clear hL hs HR
    go_enter Tryz.func39, Tryz.ntmps39
    go_wp2_with fail
    go_loop [3, 4] (fun a i => ∃ (k : Nat) (acc : Int), k ≤ L ∧ i = .int .i64 k ∧ a = .int .i64 acc ∧ 0 ≤ acc ∧ Hid (acc < 10 ^ k) ∧ Hid (numF acc (l.drop k) = numF 0 l)) (fun _ i => L - (intOf i).toNat)
    case atStart => exact ⟨0, 0, by omega, rfl, rfl, by omega, by simp [Hid], by simp [Hid]⟩
    case round =>
      obtain ⟨k, acc, hk, rfl, rfl, a0, HA, HN⟩ := hrel
      by_cases hlt : k < L
      · have hlt' : (k : Int) < (L : Int) := by omega
        have hdr := drop_at (l := l) (i := k) (by rw [HL.out]; exact hlt)
        have hks : k < s.size := by omega
        have hb0 := byte_at HS.out hks
        obtain ⟨c, hcc⟩ : ∃ c, l.getD k 0 = c := ⟨_, rfl⟩
        rw [hcc] at hdr hb0
        have hb : ((s[k]'hks).toNat : Int) = (c.toNat : Int) := by rw [hb0]
        have c255 := c.toNat_lt
        have HN1 := HN.out
        rw [hdr] at HN1
        have ka : acc < 1000000 := by
          have h1 := HA.out
          have h2 : (10 : Int) ^ k ≤ 10 ^ 5 := by
            have := Nat.pow_le_pow_right (n := 10) (by decide) (show k ≤ 5 by omega)
            exact_mod_cast this
          have h3 : (10 : Int) ^ 5 = 100000 := by decide
          omega
        obtain ⟨N, hN⟩ : ∃ N : Int, (c.toNat : Int) = N := ⟨_, rfl⟩
        rw [hN] at hb
        have n255 : 0 ≤ N ∧ N ≤ 255 := by omega
        have DG := fun w => digitS N w
        by_cases hd : 48 ≤ N ∧ N ≤ 57
        · have HN2 : Hid (numF (acc * 10 + (N - 48)) (l.drop (k + 1)) = numF 0 l) := by
            rw [numF_good _ _ _ (by simp [isDig]; omega), hN] at HN1
            exact HN1
          have HA2 : Hid (acc * 10 + (N - 48) < 10 ^ (k + 1)) := by
            have h1 := HA.out
            show _ < _
            rw [Int.pow_succ]
            omega
          simp only [hd, and_self, decide_true] at DG
          have hw8 : IntKind.u8.wrap (N - 48) = N - 48 := by rw [IntKind.wrap_u8]; omega
          clear HN1 hdr hb0 HN HA hN c255 hcc f1 f2
          go_wp2_with (go_at_call 59; refine (DG _).mono ?_; rintro e w' ⟨rfl, rfl⟩)
          go_round
          case rel => exact ⟨k + 1, acc * 10 + (N - 48), by omega, by go_num, by go_num, by omega, HA2, HN2⟩
          case measure => simp [intOf]; omega
        · have HN2 : Hid (numF 0 l = -1) := by
            rw [numF_bad _ _ _ (by simp [isDig]; omega)] at HN1
            exact HN1.symm
          simp only [hd, decide_false] at DG
          clear HN1 hdr hb0 HN HA hN c255 hcc f1 f2
          go_wp2_with (go_at_call 59; refine (DG _).mono ?_; rintro e w' ⟨rfl, rfl⟩)
          go_ret
          exact ⟨ret_int HN2.out.symm, rfl⟩
      · obtain rfl : k = L := by omega
        have HN2 : Hid (acc = numF 0 l) := by
          have h := HN.out
          rw [List.drop_of_length_le (by rw [HL.out]; omega), numF] at h
          exact h
        clear HN HA f1 f2
        go_wp2_with fail
        go_ret
        exact ⟨ret_int HN2.out, rfl⟩
  · have HR : Hid (numL l = -1) := by show _ = _; unfold numL; rw [if_neg hl]
    obtain ⟨L, hL⟩ : ∃ L, l.length = L := ⟨_, rfl⟩
    rw [hL] at hsz hl
    rw [HR.out]
    clear hL hs HR
    by_cases h1 : L < 1
    · have f1 : decide ((L : Int) < 1) = true := by simp; omega
      go_enter Tryz.func39, Tryz.ntmps39
      go_wp2_with fail
      go_ret
      exact ⟨rfl, rfl⟩
    · have f1 : decide ((L : Int) < 1) = false := by simp; omega
      have f2 : decide ((L : Int) > 6) = true := by simp; omega
      go_enter Tryz.func39, Tryz.ntmps39
      go_wp2_with fail
      go_ret
      exact ⟨rfl, rfl⟩

end Go.Proofs.YtifangkifpnnpaaGreatDoor
