/-
  GoodDec on both sides, and the law over it: the walks.
-/
import Derived.Test.YtpoihneecafijaaDoorBaseT
namespace Go.Proofs.YtpoihneecafijaaDoor
open Go.RowKit

/-- What a good decimal is. -/
def goodB (neg : Bool) (d x : Int) : Bool :=
  if d = 0 then (!neg && decide (x = 0)) else decide (0 < d ∧ d < 1000000000000000 ∧ d % 10 ≠ 0 ∧ -300 ≤ x ∧ x ≤ 300)

set_option maxHeartbeats 400000 in
theorem goodI (neg : Bool) (d x : Int) (w : World) (h1 : -9223372036854775808 ≤ d) (h2 : d ≤ 9223372036854775807) (hT : Tens w) :
    Calls Tryd.prog 18 #[.agg #[.bool neg, .int .i64 d, .int .i64 x]] w fun e w' => e = .returned (.bool (goodB neg d x)) ∧ Ext w w' := by
  have hT' := fun o => Lib.cell?_alloc_some o hT.at15
  clear hT
  go_enter Tryd.func18, Tryd.ntmps18
  go_wp2
  all_goals go_ret
  all_goals refine ⟨ret_bool ?_, ?_⟩
  all_goals first | exact x1 _ _ | skip
  all_goals clear hT'
  all_goals simp_all [goodB]
  all_goals (intros; omega)

set_option maxHeartbeats 400000 in
theorem goodS (neg : Bool) (d x : Int) (w : World) :
    Calls Tryd.prog 16 #[.agg #[.bool neg, .int .i64 d, .int .i64 x]] w fun e w' => e = .returned (.bool (goodB neg d x)) ∧ Ext w w' := by
  go_enter Tryd.func16, Tryd.ntmps16
  go_wp2
  all_goals go_ret
  all_goals refine ⟨ret_bool ?_, ?_⟩
  all_goals first | exact x1 _ _ | skip
  all_goals simp_all [goodB]
  all_goals (intros; omega)

set_option maxHeartbeats 400000 in
theorem toDec (neg : Bool) (d x : Int) (w : World) :
    Calls Tryd.prog 17 #[.agg #[.bool neg, .int .i64 d, .int .i64 x]] w fun e w' => e = .returned (.agg #[.bool neg, .int .i64 d, .int .i64 x]) ∧ Ext w w' := by
  go_enter Tryd.func17, Tryd.ntmps17
  go_wp2
  exact bodyPost_ret (v := .agg #[.bool neg, .int .i64 d, .int .i64 x]) (by simp [results, Tryd.results17, go_sem]) rfl ⟨rfl, xa (xa (x1 _ _) _) _⟩

set_option maxHeartbeats 400000 in
theorem lawGood (neg : Bool) (d x : Int) (w : World) (h1 : -9223372036854775808 ≤ d) (h2 : d ≤ 9223372036854775807) (hT : Tens w) :
    Calls Tryd.prog 3 #[.agg #[.bool neg, .int .i64 d, .int .i64 x]] w fun e w' => e = .returned (.bool true) ∧ Ext w w' := by
  go_enter Tryd.func3, Tryd.ntmps3
  go_wp2_with fail
  refine (toDec _ _ _ _).mono ?_
  rintro e w1 ⟨rfl, b1⟩
  go_wp2_with fail
  refine (goodS _ _ _ _).mono ?_
  rintro e w2 ⟨rfl, b2⟩
  obtain ⟨⟨q0, q1, q2⟩, _⟩ := ((Box3.made w (.bool neg) (.int .i64 d) (.int .i64 x) 23).later b1).later b2
  go_wp2_with fail
  refine (toDec _ _ _ _).mono ?_
  rintro e w3 ⟨rfl, b3⟩
  go_wp2_with fail
  refine (goodI _ _ _ _ h1 h2 ((((hT.later (x1 _ _)).later b1).later b2).later b3)).mono ?_
  rintro e w4 ⟨rfl, b4⟩
  go_wp2
  go_ret
  exact ⟨rfl, xt (xt (xt (xt (x1 _ _) b1) b2) b3) b4⟩

end Go.Proofs.YtpoihneecafijaaDoor
