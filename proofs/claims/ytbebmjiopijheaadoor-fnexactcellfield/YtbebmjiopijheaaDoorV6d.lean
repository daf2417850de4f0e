/-
  Chapter 6: values made of what they hold.
-/
import Derived.Test.YtbebmjiopijheaaDoorV6c
namespace Go.Proofs.YtbebmjiopijheaaDoor
open Go.RowKit

abbrev errT : List UInt8 := [35, 86, 65, 76, 85, 69, 33]
abbrev trueT : List UInt8 := [84, 82, 85, 69]
abbrev falseT : List UInt8 := [70, 65, 76, 83, 69]
abbrev boolW (b : Bool) : Value := valV 3 false 0 0 (if b then trueT else falseT)
abbrev errW : Value := valV 4 false 0 0 errT
set_option maxHeartbeats 1000000 in
theorem textVI (l : List UInt8) (w : World) : Calls Tryd.prog 38 #[sV l] w fun e w' => e = .returned (valV 2 false 0 0 l) ∧ Ext w w' := by
  go_enter Tryd.func38, Tryd.ntmps38
  go_wp2
  exact bodyPost_ret (v := valV 2 false 0 0 l) (by simp [results, Tryd.results38, go_sem]) rfl ⟨rfl, by first | exact x1 _ _ | exact xa (x1 _ _) _⟩
set_option maxHeartbeats 1000000 in
theorem textVS (l : List UInt8) (w : World) : Calls Tryd.prog 45 #[sV l] w fun e w' => e = .returned (valV 2 false 0 0 l) ∧ Ext w w' := by
  go_enter Tryd.func45, Tryd.ntmps45
  go_wp2
  exact bodyPost_ret (v := valV 2 false 0 0 l) (by simp [results, Tryd.results45, go_sem]) rfl ⟨rfl, by first | exact x1 _ _ | exact xa (x1 _ _) _⟩
set_option maxHeartbeats 1000000 in
theorem errVI (l : List UInt8) (w : World) : Calls Tryd.prog 37 #[sV l] w fun e w' => e = .returned (valV 4 false 0 0 l) ∧ Ext w w' := by
  go_enter Tryd.func37, Tryd.ntmps37
  go_wp2
  exact bodyPost_ret (v := valV 4 false 0 0 l) (by simp [results, Tryd.results37, go_sem]) rfl ⟨rfl, by first | exact x1 _ _ | exact xa (x1 _ _) _⟩
theorem goodV_num {n : Bool} {d x : Int} {t : List UInt8} (h : goodV 1 n d x t = true) : goodB n d x = true ∧ t = [] := by simpa [goodV] using h
theorem goodV_zero {k : Int} {n : Bool} {d x : Int} {t : List UInt8} (h : goodV k n d x t = true) (h1 : k ≠ 1) : n = false ∧ d = 0 ∧ x = 0 := by
  simp only [goodV, h1, if_false, Bool.and_eq_true] at h
  have := h.1
  simpa [zeroD, and_assoc] using this
theorem goodV_empty {n : Bool} {d x : Int} {t : List UInt8} (h : goodV 0 n d x t = true) : t = [] := by simpa [goodV] using (show _ ∧ _ by simpa [goodV] using h).2
theorem goodB_zero {n : Bool} {d x : Int} (h : goodB n d x = true) : zeroD n d x = decide (d = 0) := by
  by_cases hd : d = 0
  · have : n = false ∧ x = 0 := by simpa [goodB, hd] using h
    simp [zeroD, hd, this.1, this.2]
  · simp [zeroD, hd]
theorem ofV_val {f : Value} (g : Bool) (h : ∃ k2 n2 d2 x2 t2, f = valV k2 n2 d2 x2 t2) : ∃ k2 n2 d2 x2 t2, (if g then f else errW) = valV k2 n2 d2 x2 t2 := by
  cases g
  · exact ⟨_, _, _, _, _, rfl⟩
  · exact h

end Go.Proofs.YtbebmjiopijheaaDoor

