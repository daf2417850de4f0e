/-
  Chapter 6: values compared; the law of GoodValue.
-/
import Derived.Test.YtemmeglmcbehfaaDoorV6b
namespace Go.Proofs.YtemmeglmcbehfaaDoor
open Go.RowKit

set_option maxHeartbeats 1000000 in
theorem eqDecV_same (n : Bool) (d x : Int) (w : World) :
    Calls Tryd.prog 50 #[decV n d x, decV n d x] w fun e w' => e = .returned (.bool true) ∧ Ext w w' := by
  go_enter Tryd.func50, Tryd.ntmps50
  go_wp2
  all_goals go_ret
  all_goals first | exact ⟨rfl, xa (x1 _ _) _⟩ | simp_all
set_option maxRecDepth 8000 in
set_option maxHeartbeats 1000000 in
theorem eqValue_same (k : Int) (n : Bool) (d x : Int) (t : List UInt8) (w : World) :
    Calls Tryd.prog 38 #[valV k n d x t, valV k n d x t] w fun e w' => e = .returned (.bool true) ∧ Ext w w' := by
  have B1 := vec_made w (valL k n d x t) 68
  have B2 := vec_made (w.alloc (.cells (valL k n d x t).toArray 68)) (valL k n d x t) 68
  have X := xa (x1 w (.cells #[.int .i64 k, .bool n, .int .i64 d, .int .i64 x, sV t] 68)) (.cells #[.int .i64 k, .bool n, .int .i64 d, .int .i64 x, sV t] 68)
  have B1 := B1.later (x1 _ (.cells #[.int .i64 k, .bool n, .int .i64 d, .int .i64 x, sV t] 68))
  rw [World.size_alloc] at B2
  have hp : (t == t) = true := by simp
  go_enter Tryd.func38, Tryd.ntmps38
  go_wp2_with fail
  refine (eqDecV_same _ _ _ _).mono ?_
  rintro e w1 ⟨rfl, e1⟩
  have a4 := ((B1.later e1) 4 _ rfl).1
  have b4 := ((B2.later e1) 4 _ rfl).1
  go_wp2_with fail
  go_ret
  exact ⟨rfl, xt X e1⟩


end Go.Proofs.YtemmeglmcbehfaaDoor
