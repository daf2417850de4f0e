/-
  FnExactDecOf, walked.
-/
import Derived.Test.YtpoihneecafijaaDoorOfS
namespace Go.Proofs.YtpoihneecafijaaDoor
open Go.RowKit

set_option maxRecDepth 4000 in
set_option maxHeartbeats 2000000 in
theorem lawDecOf (d e : Int) (w : World) (a1 : -9223372036854775808 ≤ d) (a2 : d ≤ 9223372036854775807) (hT : Tens w) :
    Calls Tryd.prog 4 #[.int .i64 d, .int .i64 e] w fun r w' => r = .returned (.bool true) ∧ Ext w w' := by
  obtain ⟨R, hR⟩ : ∃ R, ofR d e = R := ⟨_, rfl⟩
  have CS : Hid (∀ w2, Calls Tryd.prog 19 #[.int .i64 d, .int .i64 e] w2 fun r w' => r = .returned (.agg #[.bool R.ok, .bool R.neg, .int .i64 R.d, .int .i64 R.e]) ∧ Ext w2 w') := fun w2 => by rw [← hR]; exact ofS d e w2 a1 a2
  have CI : Hid (∀ w2, Tens w2 → Calls Tryd.prog 20 #[.int .i64 d, .int .i64 e] w2 fun r w' => r = .returned (.agg #[.bool R.ok, .bool R.neg, .int .i64 R.d, .int .i64 R.e]) ∧ Ext w2 w') := fun w2 hT => by rw [← hR]; exact ofI d e w2 a1 a2 hT
  obtain ⟨Ro, Rn, Rd, Re⟩ := R
  simp only at CS CI
  clear hR a1 a2
  go_enter Tryd.func4, Tryd.ntmps4
  go_wp2_with fail
  refine (CS.out _).mono ?_
  rintro r w1 ⟨rfl, e1⟩
  have B1 := Box4.made w1 (.bool Ro) (.bool Rn) (.int .i64 Rd) (.int .i64 Re) 29
  have X1 := xa e1 (.cells #[.bool Ro, .bool Rn, .int .i64 Rd, .int .i64 Re] 29)
  obtain ⟨u1, hu1⟩ : ∃ u, w1.alloc (.cells #[.bool Ro, .bool Rn, .int .i64 Rd, .int .i64 Re] 29) = u := ⟨_, rfl⟩
  rw [hu1] at B1 X1
  go_wp2_with fail
  clear hu1
  refine (CI.out _ (hT.later X1)).mono ?_
  rintro r w2 ⟨rfl, e2⟩
  have B2 := B1.later (xa e2 (.cells #[.bool Ro, .bool Rn, .int .i64 Rd, .int .i64 Re] 29))
  have B3 := Box4.made w2 (.bool Ro) (.bool Rn) (.int .i64 Rd) (.int .i64 Re) 29
  have X2 := xa (xt X1 e2) (.cells #[.bool Ro, .bool Rn, .int .i64 Rd, .int .i64 Re] 29)
  obtain ⟨u2, hu2⟩ : ∃ u, w2.alloc (.cells #[.bool Ro, .bool Rn, .int .i64 Rd, .int .i64 Re] 29) = u := ⟨_, rfl⟩
  rw [hu2] at B2 B3 X2
  obtain ⟨⟨g0, g1, g2, g3⟩, _⟩ := B2
  obtain ⟨⟨h0, h1, h2, h3⟩, _⟩ := B3
  go_wp2_with fail
  refine (eqRes_same Ro Rn Rd Re _).mono ?_
  rintro r w3 ⟨rfl, e3⟩
  go_wp2_with fail
  go_ret
  exact ⟨rfl, xt X2 e3⟩

end Go.Proofs.YtpoihneecafijaaDoor
