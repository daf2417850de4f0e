/-
  Chapter 6: texts in order, the first that is not nought.
-/
import Derived.Test.YtchpieciifhplaaGreatDoorV6p
import Derived.Test.YtchpieciifhplaaGreatDoorV6n
import Derived.Test.YtchpieciifhplaaGreatDoorCmpLaw
import Derived.Test.YtchpieciifhplaaGreatDoorShelf
namespace Go.Proofs.YtchpieciifhplaaGreatDoor
open Go.RowKit

theorem fCompare : layCompare_ren.f 106 = 17 := by kernel_rfl
theorem strCmpI (a b : List UInt8) (w : World) :
    Calls Tryz.prog 17 #[sV a, sV b] w fun e w' => e = .returned (.int .i64 (Lib.compareBytes a b)) ∧ w' = w := by
  have h := Any.strings_Compare layCompare ⟨a.toArray⟩ ⟨b.toArray⟩ w
  rw [fCompare] at h
  exact h
set_option maxHeartbeats 1000000 in
theorem orderS (a b : List UInt8) (w : World) :
    Calls Tryz.prog 25 #[sV a, sV b] w fun e w' => e = .returned (.int .i64 (Lib.compareBytes a b)) ∧ w' = w := by
  have h1 := cmp_less a b
  have h2 := cmp_same a b
  rcases cmp_three a b with h | h | h
  all_goals
    rw [h] at h1 h2 ⊢
    simp only [Int.reduceNeg, decide_true, decide_false, Int.reduceEq] at h1 h2
    go_enter Tryz.func25, Tryz.ntmps25
    go_wp2_with fail
    go_ret
    exact ⟨rfl, rfl⟩
/-- The first that is not nought. -/
def orR : List Int → Int
  | [] => 0
  | a :: l => if a = 0 then orR l else a
theorem orR_skip : ∀ (l : List Int) (k : Nat), (∀ (j : Nat) (z : Int), j < k → l[j]? = some z → z = 0) → orR l = orR (l.drop k)
  | _, 0, _ => rfl
  | [], k + 1, _ => by simp
  | a :: l, k + 1, h => by
    have ha : a = 0 := h 0 a (by omega) rfl
    rw [orR, if_pos ha, List.drop_succ_cons]
    exact orR_skip l k fun j z hj hz => h (j + 1) z (by omega) (by simpa using hz)
set_option maxRecDepth 8000 in
set_option maxHeartbeats 1000000 in
theorem orI (l : List Int) (g cap : Nat) (w : World) (hl : l.length ≤ 100) (V : Vec w g (l.map (Value.int .i64 ·))) :
    Calls Tryz.prog 14 #[.slice (some ⟨g, 0, none⟩) l.length cap] w fun e w' => e = .returned (.int .i64 (orR l)) ∧ w' = w := by
  obtain ⟨n, hn⟩ : ∃ n, l.length = n := ⟨_, rfl⟩
  have HN : Hid (l.length = n) := hn
  have HV : Hid (Vec w g (l.map (Value.int .i64 ·))) := V
  obtain ⟨R, hR⟩ : ∃ R, orR l = R := ⟨_, rfl⟩
  have HR : Hid (orR l = R) := hR
  rw [hR]
  rw [hn] at hl ⊢
  clear hn V hR
  go_enter Tryz.func14, Tryz.ntmps14
  go_wp2_with fail
  go_loop [8] (fun i => ∃ k : Nat, k ≤ n ∧ i = .int .i64 k ∧ Hid (∀ (j : Nat) (z : Int), j < k → l[j]? = some z → z = 0)) (fun i => n - (intOf i).toNat)
  case atStart => exact ⟨0, by omega, rfl, fun j t hj => by omega⟩
  case round =>
    obtain ⟨k, hk, rfl, HA⟩ := hrel
    by_cases hlt : k < n
    · obtain ⟨z, hz⟩ : ∃ z, l[k]? = some z := ⟨_, List.getElem?_eq_getElem (by rw [HN.out]; exact hlt)⟩
      have a0 := (HV.out k (.int .i64 z) (by rw [List.getElem?_map, hz]; rfl)).1
      have i2 : (k : Int) < (n : Int) := by omega
      by_cases hp : z = 0
      · subst hp
        have HA2 : Hid (∀ (j : Nat) (z : Int), j < k + 1 → l[j]? = some z → z = 0) := fun j t' hj h => by
          rcases Nat.lt_or_ge j k with hjk | hjk
          · exact HA.out j t' hjk h
          · obtain rfl : j = k := by omega
            rw [hz] at h
            cases h
            rfl
        clear HA hz
        go_wp2_with fail
        go_round
        case rel => exact ⟨k + 1, by omega, by go_num, HA2⟩
        case measure => simp [intOf]; omega
      · have HT : Hid (z = R) := by
          show _ = _
          rw [← HR.out, orR_skip l k HA.out]
          have : l.drop k = z :: l.drop (k + 1) := by
            have hkl : k < l.length := (List.getElem?_eq_some_iff.1 hz).1
            rw [List.drop_eq_getElem_cons hkl]
            rw [List.getElem?_eq_getElem hkl] at hz
            cases hz
            rfl
          rw [this, orR, if_neg hp]
        clear HA hz
        have hpb : (z != 0) = true := by simpa using hp
        go_wp2_with fail
        go_ret
        exact ⟨congrArg (fun z => Ending.returned (.int .i64 z)) HT.out, rfl⟩
    · obtain rfl : k = n := by omega
      have HT : Hid (0 = R) := by
        show _ = _
        rw [← HR.out, orR_skip l k HA.out, List.drop_eq_nil_of_le (by rw [HN.out]; omega)]
        rfl
      clear HA
      go_wp2_with fail
      go_ret
      exact ⟨congrArg (fun z => Ending.returned (.int .i64 z)) HT.out, rfl⟩

end Go.Proofs.YtchpieciifhplaaGreatDoor

