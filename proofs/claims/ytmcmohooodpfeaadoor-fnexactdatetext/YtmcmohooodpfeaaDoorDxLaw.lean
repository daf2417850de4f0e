/-
  The law of DateText: the walk.
-/
import Derived.Test.YtmcmohooodpfeaaDoorDgJ
import Derived.Test.YtmcmohooodpfeaaDoorLibC
namespace Go.Proofs.YtmcmohooodpfeaaDoor
open Go.RowKit

theorem ItoaC.laterD {w0 w : World} (h : ItoaC w0) (x : Ext w0 w) : ItoaC w := fun n w1 a b c => h n w1 a b (xt x c)

set_option maxHeartbeats 400000 in
theorem toDateX (y m d : Int) (w : World) :
    Calls Tryd.prog 12 #[.agg #[.int .i64 y, .int .i64 m, .int .i64 d]] w fun e w' => e = .returned (.agg #[.int .i64 y, .int .i64 m, .int .i64 d]) ∧ Ext w w' := by
  go_enter Tryd.func12, Tryd.ntmps12
  go_wp2
  exact bodyPost_ret (v := .agg #[.int .i64 y, .int .i64 m, .int .i64 d]) (by simp [results, Tryd.results12, go_sem]) rfl ⟨rfl, xa (xa (x1 _ _) _) _⟩

/-- What DateText answers. -/
theorem dtext_both (y m d : Int) : ∃ s : ByteArray, (∀ w : World, Calls Tryd.prog 21 #[.agg #[.int .i64 y, .int .i64 m, .int .i64 d]] w fun e w' => e = .returned (.string s) ∧ Ext w w') ∧
    (∀ w : World, ItoaC w → Calls Tryd.prog 22 #[.agg #[.int .i64 y, .int .i64 m, .int .i64 d]] w fun e w' => e = .returned (.string s) ∧ Ext w w') := by
  by_cases h : DText y m d
  · refine ⟨dateB y m d, fun w => dtextS_ok y m d w h, fun w IT => ?_⟩
    by_cases hn : y < 0
    · exact dtextI_neg repC y m d w w IT (xr _) h hn
    · exact dtextI_pos repC y m d w w IT (xr _) h (by omega)
  · exact ⟨⟨#[]⟩, fun w => dtextS_no y m d w h, fun w _ => dtextI_no y m d w h⟩

set_option maxHeartbeats 1000000 in
theorem lawDText (y m d : Int) (w : World) (hI : ItoaC w) :
    Calls Tryd.prog 8 #[.agg #[.int .i64 y, .int .i64 m, .int .i64 d]] w fun r w' => r = .returned (.bool true) ∧ Ext w w' := by
  have B := Box3.made w (.int .i64 y) (.int .i64 m) (.int .i64 d) 25
  have X0 := x1 w (.cells #[.int .i64 y, .int .i64 m, .int .i64 d] 25)
  obtain ⟨s, CS, CI⟩ := dtext_both y m d
  go_enter Tryd.func8, Tryd.ntmps8
  go_wp2_with fail
  refine (toDateX _ _ _ _).mono ?_
  rintro r w1 ⟨rfl, e1⟩
  go_wp2_with fail
  refine (CS _).mono ?_
  rintro r w2 ⟨rfl, e2⟩
  have X2 := xt X0 (xt e1 e2)
  obtain ⟨⟨p0, p1, p2⟩, _⟩ := B.later (xt e1 e2)
  clear B
  go_wp2_with fail
  refine (toDateX _ _ _ _).mono ?_
  rintro r w3 ⟨rfl, e3⟩
  go_wp2_with fail
  refine (CI w3 (hI.laterD (xt X2 e3))).mono ?_
  rintro r w4 ⟨rfl, e4⟩
  have X4 := xt (xt X2 e3) e4
  clear p0 p1 p2 hI CS CI
  go_wp2
  go_ret
  exact ⟨rfl, X4⟩

end Go.Proofs.YtmcmohooodpfeaaDoor
