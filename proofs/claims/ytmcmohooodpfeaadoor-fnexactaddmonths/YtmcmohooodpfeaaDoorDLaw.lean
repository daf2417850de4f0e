/-
  MonthDays of the specification; the laws of MonthDays and DayOf: the walks.
-/
import Derived.Test.YtmcmohooodpfeaaDoorDatX
namespace Go.Proofs.YtmcmohooodpfeaaDoor
open Go.RowKit

set_option maxHeartbeats 400000 in
theorem toDate (y m d : Int) (w : World) :
    Calls Tryd.prog 12 #[.agg #[.int .i64 y, .int .i64 m, .int .i64 d]] w fun e w' => e = .returned (.agg #[.int .i64 y, .int .i64 m, .int .i64 d]) ∧ Ext w w' := by
  go_enter Tryd.func12, Tryd.ntmps12
  go_wp2
  exact bodyPost_ret (v := .agg #[.int .i64 y, .int .i64 m, .int .i64 d]) (by simp [results, Tryd.results12, go_sem]) rfl ⟨rfl, xa (xa (x1 _ _) _) _⟩

set_option maxHeartbeats 400000 in
theorem lawDay (cal y m d : Int) (w : World) (hM : Months w) (hC : Cals w) :
    Calls Tryd.prog 4 #[.int .i64 cal, .agg #[.int .i64 y, .int .i64 m, .int .i64 d]] w fun e w' => e = .returned (.bool true) ∧ Ext w w' := by
  have B := Box3.made w (.int .i64 y) (.int .i64 m) (.int .i64 d) 25
  go_enter Tryd.func4, Tryd.ntmps4
  go_wp2_with fail
  refine (toDate _ _ _ _).mono ?_
  rintro e w1 ⟨rfl, b1⟩
  go_wp2_with fail
  refine (dayS_any _ _ _ _ _).mono ?_
  rintro e w2 ⟨rfl, b2⟩
  obtain ⟨⟨q0, q1, q2⟩, _⟩ := (B.later b1).later b2
  have X : Ext w w2 := xt (xt (x1 _ _) b1) b2
  have M := hM.later X
  have K := hC.later X
  clear hM hC B
  cases hp : dayP cal y m d with
  | none =>
    simp only [optV]
    go_wp2_with fail
    refine (toDate _ _ _ _).mono ?_
    rintro e w3 ⟨rfl, b3⟩
    go_wp2_with fail
    refine (dayI_any _ _ _ _ _ (M.later b3) (K.later b3)).mono ?_
    rintro e w4 ⟨rfl, b4⟩
    rw [hp]
    simp only [optV]
    go_wp2_with fail
    go_ret
    exact ⟨rfl, xt (xt X b3) b4⟩
  | some n =>
    simp only [optV]
    go_wp2_with fail
    refine (toDate _ _ _ _).mono ?_
    rintro e w3 ⟨rfl, b3⟩
    go_wp2_with fail
    refine (dayI_any _ _ _ _ _ (M.later b3) (K.later b3)).mono ?_
    rintro e w4 ⟨rfl, b4⟩
    rw [hp]
    simp only [optV]
    go_wp2_with fail
    go_ret
    exact ⟨rfl, xt (xt X b3) b4⟩

end Go.Proofs.YtmcmohooodpfeaaDoor
