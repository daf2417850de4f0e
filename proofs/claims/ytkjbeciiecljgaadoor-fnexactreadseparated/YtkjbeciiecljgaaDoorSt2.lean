/-
  Chapter 14: SeparatedText, of the specification.
-/
import Derived.Test.YtkjbeciiecljgaaDoorSt1
import Derived.Deep.DeepCutAuto
import Derived.BigQuiet
namespace Go.Proofs.YtkjbeciiecljgaaDoor
open Go.RowKit

set_option maxHeartbeats 1000000 in
theorem markS14 (l : List UInt8) (w : World) : Calls Tryd.prog 9 #[sV l] w fun e w' => e = .returned (.bool (isMk l)) ∧ w' = w := by
  have HK : Hid (isMk l = (l == [44] || l == [59] || l == [9])) := rfl
  obtain ⟨K, hK⟩ : ∃ K, isMk l = K := ⟨_, rfl⟩
  rw [hK] at HK ⊢
  clear hK
  cases h1 : (l == [44])
  · cases h2 : (l == [59])
    · rw [h1, h2] at HK
      go_enter Tryd.func9, Tryd.ntmps9
      go_wp2_with fail
      go_ret
      exact ⟨ret_bool (by rw [HK.out]; simp), rfl⟩
    · rw [h1, h2] at HK
      go_enter Tryd.func9, Tryd.ntmps9
      go_wp2_with fail
      go_ret
      exact ⟨ret_bool (by rw [HK.out]; simp), rfl⟩
  · rw [h1] at HK
    go_enter Tryd.func9, Tryd.ntmps9
    go_wp2_with fail
    go_ret
    exact ⟨ret_bool (by rw [HK.out]; simp), rfl⟩
theorem xdNs {a b : World} (h : Ext a b) (n : Nat) : Ext a (b.drewN n) := ⟨h.os, h.tape, h.output, h.size, h.block⟩
/-- What SeparatedText tells by a mark. -/
def sepA (mk : List UInt8) (L : List (List (List UInt8))) : List UInt8 := if isMk mk = true then sepR (mk.headD 0) L else []



end Go.Proofs.YtkjbeciiecljgaaDoor
