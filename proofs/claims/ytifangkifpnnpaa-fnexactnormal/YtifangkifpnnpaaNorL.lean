/-
  FnExactNormal, walked.
-/
import Derived.Test.YtifangkifpnnpaaNor
namespace Go.Proofs.Ytifangkifpnnpaa
open Go.RowKit

set_option maxRecDepth 8000 in
set_option maxHeartbeats 1000000 in
theorem lawNormal (r c : Int) (rf cf : Bool) (r' c' : Int) (rf' cf' : Bool) (w : World) :
    Calls Try.prog 7 #[arV r c rf cf r' c' rf' cf'] w fun e w' => e = .returned (.bool true) ∧ Ext w w' := by
  have B1 := Vec.made8 w (.int .i64 r) (.int .i64 c) (.bool rf) (.bool cf) (.int .i64 r') (.int .i64 c') (.bool rf') (.bool cf') 33
  have X := x1 w (.cells #[.int .i64 r, .int .i64 c, .bool rf, .bool cf, .int .i64 r', .int .i64 c', .bool rf', .bool cf'] 33)
  obtain ⟨n1, n2, n3, n4, n5, n6, n7, n8, hn⟩ := norB_shape r c rf cf r' c' rf' cf'
  have NS := fun w => normalS r c rf cf r' c' rf' cf' w
  have NI := fun w => normalI r c rf cf r' c' rf' cf' w
  rw [hn] at NS NI
  clear hn
  go_enter Try.func7, Try.ntmps7
  go_wp2_with fail
  refine (toArea _ _ _ _ _ _ _ _ _).mono ?_
  rintro e w1 ⟨rfl, b1⟩
  go_wp2_with fail
  refine (NS _).mono ?_
  rintro e w2 ⟨rfl, b2⟩
  obtain ⟨w3, h3⟩ : ∃ w3, w2.alloc (.cells #[.int .i64 n1, .int .i64 n2, .bool n3, .bool n4, .int .i64 n5, .int .i64 n6, .bool n7, .bool n8] 36) = w3 := ⟨_, rfl⟩
  have P := Vec.made8 w2 (.int .i64 n1) (.int .i64 n2) (.bool n3) (.bool n4) (.int .i64 n5) (.int .i64 n6) (.bool n7) (.bool n8) 36
  have x3 := x1 w2 (.cells #[.int .i64 n1, .int .i64 n2, .bool n3, .bool n4, .int .i64 n5, .int .i64 n6, .bool n7, .bool n8] 36)
  rw [h3] at P x3
  have B3 := ((B1.later b1).later b2).later x3
  have X3 := xt (xt (xt X b1) b2) x3
  clear B1 b1 b2 X x3 NS
  obtain ⟨⟨⟨a0, a1, a2, a3⟩, a4, a5, a6, a7⟩, _⟩ := B3.box8
  go_wp2_with fail
  clear h3 a0 a1 a2 a3 a4 a5 a6 a7
  refine (toArea _ _ _ _ _ _ _ _ _).mono ?_
  rintro e w4 ⟨rfl, b4⟩
  go_wp2_with fail
  refine (NI _).mono ?_
  rintro e w5 ⟨rfl, b5⟩
  obtain ⟨w6, h6⟩ : ∃ w6, w5.alloc (.cells #[.int .i64 n1, .int .i64 n2, .bool n3, .bool n4, .int .i64 n5, .int .i64 n6, .bool n7, .bool n8] 36) = w6 := ⟨_, rfl⟩
  have Q := Vec.made8 w5 (.int .i64 n1) (.int .i64 n2) (.bool n3) (.bool n4) (.int .i64 n5) (.int .i64 n6) (.bool n7) (.bool n8) 36
  have x6 := x1 w5 (.cells #[.int .i64 n1, .int .i64 n2, .bool n3, .bool n4, .int .i64 n5, .int .i64 n6, .bool n7, .bool n8] 36)
  rw [h6] at Q x6
  have P6 := ((P.later b4).later b5).later x6
  have X6 := xt (xt (xt X3 b4) b5) x6
  obtain ⟨⟨⟨a0, a1, a2, a3⟩, a4, a5, a6, a7⟩, _⟩ := P6.box8
  obtain ⟨⟨⟨k0, k1, k2, k3⟩, k4, k5, k6, k7⟩, _⟩ := Q.box8
  clear P B3 X3 b4 b5 x6 NI
  go_wp2_with fail
  refine (eqArea_same _ _ _ _ _ _ _ _ _).mono ?_
  rintro e w7 ⟨rfl, b7⟩
  go_wp2_with fail
  go_ret
  exact ⟨rfl, xt X6 b7⟩

end Go.Proofs.Ytifangkifpnnpaa
