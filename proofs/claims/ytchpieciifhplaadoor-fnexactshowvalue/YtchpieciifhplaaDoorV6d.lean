/-
  Chapter 6: values made of what they hold.
-/
import Derived.Test.YtchpieciifhplaaDoorV6c
namespace Go.Proofs.YtchpieciifhplaaDoor
open Go.RowKit

abbrev errT : List UInt8 := [35, 86, 65, 76, 85, 69, 33]
abbrev trueT : List UInt8 := [84, 82, 85, 69]
abbrev falseT : List UInt8 := [70, 65, 76, 83, 69]
abbrev boolW (b : Bool) : Value := valV 3 false 0 0 (if b then trueT else falseT)
abbrev errW : Value := valV 4 false 0 0 errT
set_option maxHeartbeats 1000000 in
theorem textVI (l : List UInt8) (w : World) : Calls Tryd.prog 39 #[sV l] w fun e w' => e = .returned (valV 2 false 0 0 l) ∧ Ext w w' := by
  go_enter Tryd.func39, Tryd.ntmps39
  go_wp2
  exact bodyPost_ret (v := valV 2 false 0 0 l) (by simp [results, Tryd.results39, go_sem]) rfl ⟨rfl, x1 _ _⟩
set_option maxHeartbeats 1000000 in
theorem textVS (l : List UInt8) (w : World) : Calls Tryd.prog 46 #[sV l] w fun e w' => e = .returned (valV 2 false 0 0 l) ∧ Ext w w' := by
  go_enter Tryd.func46, Tryd.ntmps46
  go_wp2
  exact bodyPost_ret (v := valV 2 false 0 0 l) (by simp [results, Tryd.results46, go_sem]) rfl ⟨rfl, x1 _ _⟩
set_option maxHeartbeats 1000000 in
theorem errVI (l : List UInt8) (w : World) : Calls Tryd.prog 38 #[sV l] w fun e w' => e = .returned (valV 4 false 0 0 l) ∧ Ext w w' := by
  go_enter Tryd.func38, Tryd.ntmps38
  go_wp2
  exact bodyPost_ret (v := valV 4 false 0 0 l) (by simp [results, Tryd.results38, go_sem]) rfl ⟨rfl, x1 _ _⟩
set_option maxHeartbeats 1000000 in
theorem errVS (l : List UInt8) (w : World) : Calls Tryd.prog 36 #[sV l] w fun e w' => e = .returned (valV 4 false 0 0 l) ∧ Ext w w' := by
  go_enter Tryd.func36, Tryd.ntmps36
  go_wp2
  exact bodyPost_ret (v := valV 4 false 0 0 l) (by simp [results, Tryd.results36, go_sem]) rfl ⟨rfl, x1 _ _⟩
set_option maxHeartbeats 1000000 in
theorem boolVI (b : Bool) (w : World) : Calls Tryd.prog 43 #[.bool b] w fun e w' => e = .returned (boolW b) ∧ Ext w w' := by
  cases b
  · go_enter Tryd.func43, Tryd.ntmps43
    go_wp2
    exact bodyPost_ret (v := valV 3 false 0 0 falseT) (by simp [results, Tryd.results43, go_sem, falseT]) rfl ⟨rfl, x1 _ _⟩
  · go_enter Tryd.func43, Tryd.ntmps43
    go_wp2
    exact bodyPost_ret (v := valV 3 false 0 0 trueT) (by simp [results, Tryd.results43, go_sem, trueT]) rfl ⟨rfl, x1 _ _⟩
set_option maxHeartbeats 1000000 in
theorem boolVS (b : Bool) (w : World) : Calls Tryd.prog 50 #[.bool b] w fun e w' => e = .returned (boolW b) ∧ Ext w w' := by
  cases b
  · go_enter Tryd.func50, Tryd.ntmps50
    go_wp2
    exact bodyPost_ret (v := valV 3 false 0 0 falseT) (by simp [results, Tryd.results50, go_sem, falseT]) rfl ⟨rfl, x1 _ _⟩
  · go_enter Tryd.func50, Tryd.ntmps50
    go_wp2
    exact bodyPost_ret (v := valV 3 false 0 0 trueT) (by simp [results, Tryd.results50, go_sem, trueT]) rfl ⟨rfl, x1 _ _⟩

end Go.Proofs.YtchpieciifhplaaDoor
