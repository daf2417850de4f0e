/-
  Chapter 14: whether a text is a mark, by the program.
-/
import Derived.Test.YtkjbeciiecljgaaDoorSt0
import Derived.Test.YtkjbeciiecljgaaDoorFa
namespace Go.Proofs.YtkjbeciiecljgaaDoor
open Go.RowKit

set_option maxHeartbeats 1000000 in
theorem markI14 (l : List UInt8) (w : World) : Calls Tryd.prog 17 #[sV l] w fun e w' => e = .returned (.bool (isMk l)) ∧ w' = w := by
  have HK : Hid (isMk l = (l == [44] || l == [59] || l == [9])) := rfl
  obtain ⟨K, hK⟩ : ∃ K, isMk l = K := ⟨_, rfl⟩
  rw [hK] at HK ⊢
  clear hK
  cases h1 : (l == [44])
  · cases h2 : (l == [59])
    · rw [h1, h2] at HK
      go_enter Tryd.func17, Tryd.ntmps17
      go_wp2_with fail
      go_ret
      exact ⟨ret_bool (by rw [HK.out]; simp), rfl⟩
    · rw [h1, h2] at HK
      go_enter Tryd.func17, Tryd.ntmps17
      go_wp2_with fail
      go_ret
      exact ⟨ret_bool (by rw [HK.out]; simp), rfl⟩
  · rw [h1] at HK
    go_enter Tryd.func17, Tryd.ntmps17
    go_wp2_with fail
    go_ret
    exact ⟨ret_bool (by rw [HK.out]; simp), rfl⟩

end Go.Proofs.YtkjbeciiecljgaaDoor
