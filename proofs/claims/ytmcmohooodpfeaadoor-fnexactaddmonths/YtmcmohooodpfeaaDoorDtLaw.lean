/-
  The laws of DateOf and WeekOf: the walks.
-/
import Derived.Test.YtmcmohooodpfeaaDoorDtFn
namespace Go.Proofs.YtmcmohooodpfeaaDoor
open Go.RowKit

set_option maxHeartbeats 400000 in
theorem eqD (y m d : Int) (w : World) :
    Calls Tryd.prog 16 #[.agg #[.int .i64 y, .int .i64 m, .int .i64 d], .agg #[.int .i64 y, .int .i64 m, .int .i64 d]] w fun e w' => e = .returned (.bool true) ∧ Ext w w' := by
  go_enter Tryd.func16, Tryd.ntmps16
  go_wp2
  all_goals go_ret
  all_goals exact ⟨rfl, xa (x1 _ _) _⟩

set_option maxHeartbeats 1000000 in
theorem lawDate (cal day : Int) (w : World) (hM : Months w) (hC : Cals w) :
    Calls Tryd.prog 5 #[.int .i64 cal, .int .i64 day] w fun e w' => e = .returned (.bool true) ∧ Ext w w' := by
  go_enter Tryd.func5, Tryd.ntmps5
  go_wp2_with fail
  refine (DateOfS cal day w).mono ?_
  rintro e w1 ⟨y, m, d, rfl, h1, e1⟩
  go_wp2_with fail
  refine (DateOfI cal day _ ((hM.later e1).later (x1 _ _)) ((hC.later e1).later (x1 _ _))).mono ?_
  rintro e w2 ⟨y', m', d', rfl, h2, e2⟩
  obtain ⟨rfl, rfl, rfl⟩ := h1.one h2
  have B := (Box3.made w1 (.int .i64 y) (.int .i64 m) (.int .i64 d) 28).later e2
  obtain ⟨⟨q0, q1, q2⟩, _⟩ := B.later (x1 w2 (.cells #[.int .i64 y, .int .i64 m, .int .i64 d] 28))
  have X : Ext w w2 := xt (xa e1 _) e2
  clear h1 h2 hM hC e1 e2 B
  go_wp2_with fail
  refine (eqD y m d _).mono ?_
  rintro e w3 ⟨rfl, e3⟩
  go_wp2_with fail
  go_ret
  exact ⟨rfl, xt (xa X _) e3⟩

set_option maxHeartbeats 1000000 in
theorem lawWeek (day : Int) (w : World) (hM : Months w) (hC : Cals w) :
    Calls Tryd.prog 6 #[.int .i64 day] w fun e w' => e = .returned (.bool true) ∧ Ext w w' := by
  go_enter Tryd.func6, Tryd.ntmps6
  go_wp2_with fail
  refine (WeekOfS day w).mono ?_
  rintro e w1 ⟨y, k, rfl, h1, e1⟩
  go_wp2_with fail
  refine (WeekOfI day _ (hM.later e1) (hC.later e1)).mono ?_
  rintro e w2 ⟨y', k', rfl, h2, e2⟩
  obtain ⟨rfl, rfl⟩ := h1.one h2
  clear h1 h2
  go_wp2_with fail
  go_ret
  exact ⟨rfl, xt e1 e2⟩

end Go.Proofs.YtmcmohooodpfeaaDoor
