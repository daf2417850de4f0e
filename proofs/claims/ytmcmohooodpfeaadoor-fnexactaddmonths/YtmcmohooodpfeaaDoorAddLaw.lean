/-
  The law of AddMonths: the walk.
-/
import Derived.Test.YtmcmohooodpfeaaDoorAddFn
import Derived.Test.YtmcmohooodpfeaaDoorDLaw
import Derived.Test.YtmcmohooodpfeaaDoorDtLaw
namespace Go.Proofs.YtmcmohooodpfeaaDoor
open Go.RowKit

set_option maxHeartbeats 1000000 in
theorem lawAdd (cal y m d n : Int) (w : World) (hM : Months w) :
    Calls Tryd.prog 7 #[.int .i64 cal, .agg #[.int .i64 y, .int .i64 m, .int .i64 d], .int .i64 n] w fun e w' => e = .returned (.bool true) ∧ Ext w w' := by
  have B := Box3.made w (.int .i64 y) (.int .i64 m) (.int .i64 d) 25
  go_enter Tryd.func7, Tryd.ntmps7
  go_wp2_with fail
  refine (toDate _ _ _ _).mono ?_
  rintro e w1 ⟨rfl, b1⟩
  go_wp2_with fail
  refine (AddS cal y m d n _).mono ?_
  rintro e w2 ⟨Y, M, D, rfl, h1, b2⟩
  obtain ⟨⟨q0, q1, q2⟩, _⟩ := ((B.later b1).later b2).later (x1 w2 (.cells #[.int .i64 Y, .int .i64 M, .int .i64 D] 28))
  have X : Ext w w2 := xt (xt (x1 _ _) b1) b2
  have M2 := (hM.later X).later (x1 w2 (.cells #[.int .i64 Y, .int .i64 M, .int .i64 D] 28))
  have B2 := Box3.made w2 (.int .i64 Y) (.int .i64 M) (.int .i64 D) 28
  clear hM B
  go_wp2_with fail
  refine (toDate _ _ _ _).mono ?_
  rintro e w3 ⟨rfl, b3⟩
  go_wp2_with fail
  refine (AddI cal y m d n _ (M2.later b3)).mono ?_
  rintro e w4 ⟨Y', M', D', rfl, h2, b4⟩
  obtain ⟨rfl, rfl, rfl⟩ := h1.one h2
  obtain ⟨⟨p0, p1, p2⟩, _⟩ := ((B2.later b3).later b4).later (x1 w4 (.cells #[.int .i64 Y, .int .i64 M, .int .i64 D] 28))
  have X4 : Ext w w4 := xt (xt (xa X _) b3) b4
  clear h1 h2 b1 b2 b3 b4 B2 M2 X
  go_wp2_with fail
  refine (eqD Y M D _).mono ?_
  rintro e w5 ⟨rfl, e5⟩
  go_wp2_with fail
  go_ret
  exact ⟨rfl, xt (xa X4 _) e5⟩

end Go.Proofs.YtmcmohooodpfeaaDoor
