/-
  GoodDec on both sides, and the law over it: the walks.
-/
import Derived.Test.YtbebmjiopijheaaDoorBaseT
namespace Go.Proofs.YtbebmjiopijheaaDoor
open Go.RowKit

/-- What a good decimal is. -/
def goodB (neg : Bool) (d x : Int) : Bool :=
  if d = 0 then (!neg && decide (x = 0)) else decide (0 < d ∧ d < 1000000000000000 ∧ d % 10 ≠ 0 ∧ -300 ≤ x ∧ x ≤ 300)

set_option maxHeartbeats 400000 in
theorem goodI (neg : Bool) (d x : Int) (w : World) (h1 : -9223372036854775808 ≤ d) (h2 : d ≤ 9223372036854775807) (hT : Tens w) :
    Calls Tryd.prog 23 #[.agg #[.bool neg, .int .i64 d, .int .i64 x]] w fun e w' => e = .returned (.bool (goodB neg d x)) ∧ Ext w w' := by
  have hT' := fun o => Lib.cell?_alloc_some o hT.at15
  clear hT
  go_enter Tryd.func23, Tryd.ntmps23
  go_wp2
  all_goals go_ret
  all_goals refine ⟨ret_bool ?_, ?_⟩
  all_goals first | exact x1 _ _ | skip
  all_goals clear hT'
  all_goals simp_all [goodB]
  all_goals (intros; omega)

set_option maxHeartbeats 400000 in
theorem goodS (neg : Bool) (d x : Int) (w : World) :
    Calls Tryd.prog 16 #[.agg #[.bool neg, .int .i64 d, .int .i64 x]] w fun e w' => e = .returned (.bool (goodB neg d x)) ∧ Ext w w' := by
  go_enter Tryd.func16, Tryd.ntmps16
  go_wp2
  all_goals go_ret
  all_goals refine ⟨ret_bool ?_, ?_⟩
  all_goals first | exact x1 _ _ | skip
  all_goals simp_all [goodB]
  all_goals (intros; omega)

set_option maxHeartbeats 400000 in
theorem toDec (neg : Bool) (d x : Int) (w : World) :
    Calls Tryd.prog 10 #[.agg #[.bool neg, .int .i64 d, .int .i64 x]] w fun e w' => e = .returned (.agg #[.bool neg, .int .i64 d, .int .i64 x]) ∧ Ext w w' := by
  go_enter Tryd.func10, Tryd.ntmps10
  go_wp2
  exact bodyPost_ret (v := .agg #[.bool neg, .int .i64 d, .int .i64 x]) (by simp [results, Tryd.results10, go_sem]) rfl ⟨rfl, xa (xa (x1 _ _) _) _⟩


end Go.Proofs.YtbebmjiopijheaaDoor

