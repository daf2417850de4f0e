/-
  Whether a text begins with another one.
-/
import Derived.Test.YtkjbeciiecljgaaDoorSv1
import Derived.Laws.IdiomStrings
namespace Go.Proofs.YtkjbeciiecljgaaDoor
open Go.RowKit

def pfxB (l p : List UInt8) : Bool := decide (p.length ≤ l.length) && (l.take p.length == p)
theorem pfxB_one (l : List UInt8) (c : UInt8) : pfxB l [c] = (l.head? == some c) := by
  unfold pfxB
  cases l with
  | nil => rfl
  | cons b l => simp
theorem ext_subH (l : List UInt8) (a b : Nat) : (⟨l.toArray⟩ : ByteArray).extract a b = ⟨((l.drop a).take (b - a)).toArray⟩ := by
  apply ByteArray.ext
  apply Array.ext'
  simp [ByteArray.data_extract, List.extract_eq_take_drop]

set_option maxRecDepth 8000 in
set_option maxHeartbeats 1000000 in
theorem prefI (l p : List UInt8) (w : World) : Calls Tryd.prog 39 #[sV l, sV p] w fun e w' => e = .returned (.bool (pfxB l p)) ∧ w' = w := by
  unfold pfxB
  have EX := ext_subH l 0 p.length
  rw [Nat.sub_zero, List.drop_zero] at EX
  have z1 : (⟨l.toArray⟩ : ByteArray).size = l.length := rfl
  have z2 : (⟨p.toArray⟩ : ByteArray).size = p.length := rfl
  obtain ⟨b, hb⟩ : ∃ b, (l.take p.length == p) = b := ⟨_, rfl⟩
  have HB : ((⟨(l.take p.length).toArray⟩ : ByteArray).toList == (⟨p.toArray⟩ : ByteArray).toList) = b := by rw [ByteArray.toList_eq, ByteArray.toList_eq]; exact hb
  rw [hb]
  show Calls Tryd.prog 39 #[.string ⟨l.toArray⟩, .string ⟨p.toArray⟩] w _
  obtain ⟨s, hs⟩ : ∃ s, (⟨l.toArray⟩ : ByteArray) = s := ⟨_, rfl⟩
  obtain ⟨t, ht⟩ : ∃ s, (⟨p.toArray⟩ : ByteArray) = s := ⟨_, rfl⟩
  obtain ⟨x, hx⟩ : ∃ x, (⟨(l.take p.length).toArray⟩ : ByteArray) = x := ⟨_, rfl⟩
  obtain ⟨n, hn⟩ : ∃ n, l.length = n := ⟨_, rfl⟩
  obtain ⟨k, hk⟩ : ∃ n, p.length = n := ⟨_, rfl⟩
  rw [hs] at EX z1 ⊢
  rw [ht] at z2 HB ⊢
  rw [hx] at EX HB
  rw [hn] at z1 ⊢
  rw [hk] at z2 EX ⊢
  clear hb hs ht hx hn hk
  by_cases h : k ≤ n
  · have i1 : (k : Int) ≤ (n : Int) := by omega
    have i2 : (0 : Int) ≤ (k : Int) := by omega
    rw [decide_eq_true h]
    cases b
    all_goals
      go_enter Tryd.func39, Tryd.ntmps39
      go_wp2_with fail
      go_ret
      first | exact ⟨rfl, rfl⟩ | exact ⟨by simp [EX], rfl⟩ | exact ⟨by simp [EX, HB], rfl⟩
  · have i1 : (n : Int) < (k : Int) := by omega
    rw [decide_eq_false h]
    go_enter Tryd.func39, Tryd.ntmps39
    go_wp2_with fail
    go_ret
    exact ⟨rfl, rfl⟩
theorem hasPrefI (l p : List UInt8) (w : World) : Calls Tryd.prog 34 #[sV l, sV p] w fun e w' => e = .returned (.bool (pfxB l p)) ∧ w' = w := by
  have H := prefI l p w
  go_enter Tryd.func34, Tryd.ntmps34
  go_wp2_with fail
  refine H.mono ?_
  rintro e w1 ⟨rfl, rfl⟩
  go_wp2_with fail
  go_ret
  exact ⟨rfl, rfl⟩


end Go.Proofs.YtkjbeciiecljgaaDoor
