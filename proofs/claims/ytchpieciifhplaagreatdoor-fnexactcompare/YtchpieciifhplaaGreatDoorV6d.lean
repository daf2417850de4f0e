/-
  Chapter 6: values made of what they hold.
-/
import Derived.Test.YtchpieciifhplaaGreatDoorV6c
namespace Go.Proofs.YtchpieciifhplaaGreatDoor
open Go.RowKit

abbrev errT : List UInt8 := [35, 86, 65, 76, 85, 69, 33]
abbrev trueT : List UInt8 := [84, 82, 85, 69]
abbrev falseT : List UInt8 := [70, 65, 76, 83, 69]
abbrev boolW (b : Bool) : Value := valV 3 false 0 0 (if b then trueT else falseT)
abbrev errW : Value := valV 4 false 0 0 errT
set_option maxHeartbeats 1000000 in
theorem textVI (l : List UInt8) (w : World) : Calls Tryz.prog 49 #[sV l] w fun e w' => e = .returned (valV 2 false 0 0 l) ∧ Ext w w' := by
  go_enter Tryz.func49, Tryz.ntmps49
  go_wp2
  exact bodyPost_ret (v := valV 2 false 0 0 l) (by simp [results, Tryz.results49, go_sem]) rfl ⟨rfl, by first | exact x1 _ _ | exact xa (x1 _ _) _⟩
set_option maxHeartbeats 1000000 in
theorem textVS (l : List UInt8) (w : World) : Calls Tryz.prog 38 #[sV l] w fun e w' => e = .returned (valV 2 false 0 0 l) ∧ Ext w w' := by
  go_enter Tryz.func38, Tryz.ntmps38
  go_wp2
  exact bodyPost_ret (v := valV 2 false 0 0 l) (by simp [results, Tryz.results38, go_sem]) rfl ⟨rfl, by first | exact x1 _ _ | exact xa (x1 _ _) _⟩
set_option maxHeartbeats 1000000 in
theorem errVI (l : List UInt8) (w : World) : Calls Tryz.prog 45 #[sV l] w fun e w' => e = .returned (valV 4 false 0 0 l) ∧ Ext w w' := by
  go_enter Tryz.func45, Tryz.ntmps45
  go_wp2
  exact bodyPost_ret (v := valV 4 false 0 0 l) (by simp [results, Tryz.results45, go_sem]) rfl ⟨rfl, by first | exact x1 _ _ | exact xa (x1 _ _) _⟩
set_option maxHeartbeats 1000000 in
theorem numVI (n : Bool) (d x : Int) (w : World) : Calls Tryz.prog 46 #[decV n d x] w fun e w' => e = .returned (valV 1 n d x []) ∧ Ext w w' := by
  go_enter Tryz.func46, Tryz.ntmps46
  go_wp2
  exact bodyPost_ret (v := valV 1 n d x []) (by simp [results, Tryz.results46, go_sem]) rfl ⟨rfl, by first | exact x1 _ _ | exact xa (x1 _ _) _⟩
set_option maxHeartbeats 1000000 in
theorem numVS (n : Bool) (d x : Int) (w : World) : Calls Tryz.prog 37 #[decV n d x] w fun e w' => e = .returned (valV 1 n d x []) ∧ Ext w w' := by
  go_enter Tryz.func37, Tryz.ntmps37
  go_wp2
  exact bodyPost_ret (v := valV 1 n d x []) (by simp [results, Tryz.results37, go_sem]) rfl ⟨rfl, by first | exact x1 _ _ | exact xa (x1 _ _) _⟩
set_option maxHeartbeats 1000000 in
theorem boolVI (b : Bool) (w : World) : Calls Tryz.prog 48 #[.bool b] w fun e w' => e = .returned (boolW b) ∧ Ext w w' := by
  cases b
  · go_enter Tryz.func48, Tryz.ntmps48
    go_wp2
    exact bodyPost_ret (v := valV 3 false 0 0 falseT) (by simp [results, Tryz.results48, go_sem, falseT]) rfl ⟨rfl, x1 _ _⟩
  · go_enter Tryz.func48, Tryz.ntmps48
    go_wp2
    exact bodyPost_ret (v := valV 3 false 0 0 trueT) (by simp [results, Tryz.results48, go_sem, trueT]) rfl ⟨rfl, x1 _ _⟩
set_option maxHeartbeats 1000000 in
theorem boolVS (b : Bool) (w : World) : Calls Tryz.prog 39 #[.bool b] w fun e w' => e = .returned (boolW b) ∧ Ext w w' := by
  cases b
  · go_enter Tryz.func39, Tryz.ntmps39
    go_wp2
    exact bodyPost_ret (v := valV 3 false 0 0 falseT) (by simp [results, Tryz.results39, go_sem, falseT]) rfl ⟨rfl, x1 _ _⟩
  · go_enter Tryz.func39, Tryz.ntmps39
    go_wp2
    exact bodyPost_ret (v := valV 3 false 0 0 trueT) (by simp [results, Tryz.results39, go_sem, trueT]) rfl ⟨rfl, x1 _ _⟩
theorem goodV_num {n : Bool} {d x : Int} {t : List UInt8} (h : goodV 1 n d x t = true) : goodB n d x = true ∧ t = [] := by simpa [goodV] using h
theorem goodV_zero {k : Int} {n : Bool} {d x : Int} {t : List UInt8} (h : goodV k n d x t = true) (h1 : k ≠ 1) : n = false ∧ d = 0 ∧ x = 0 := by
  simp only [goodV, h1, if_false, Bool.and_eq_true] at h
  have := h.1
  simpa [zeroD, and_assoc] using this
theorem goodV_empty {n : Bool} {d x : Int} {t : List UInt8} (h : goodV 0 n d x t = true) : t = [] := by simpa [goodV] using (show _ ∧ _ by simpa [goodV] using h).2
theorem goodB_zero {n : Bool} {d x : Int} (h : goodB n d x = true) : zeroD n d x = decide (d = 0) := by
  by_cases hd : d = 0
  · have : n = false ∧ x = 0 := by simpa [goodB, hd] using h
    simp [zeroD, hd, this.1, this.2]
  · simp [zeroD, hd]
theorem ofV_val {f : Value} (g : Bool) (h : ∃ k2 n2 d2 x2 t2, f = valV k2 n2 d2 x2 t2) : ∃ k2 n2 d2 x2 t2, (if g then f else errW) = valV k2 n2 d2 x2 t2 := by
  cases g
  · exact ⟨_, _, _, _, _, rfl⟩
  · exact h

end Go.Proofs.YtchpieciifhplaaGreatDoor

