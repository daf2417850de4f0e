/-
  FnExactDecInt, walked.
-/
import Derived.Test.YtpoihneecafijaaDoorIntS
namespace Go.Proofs.YtpoihneecafijaaDoor
open Go.RowKit

set_option maxHeartbeats 1000000 in
theorem lawInt (n : Bool) (d e : Int) (w : World) (d1 : -9223372036854775808 ≤ d) (d2 : d ≤ 9223372036854775807) (hT : Tens w) :
    Calls Tryd.prog 13 #[.agg #[.bool n, .int .i64 d, .int .i64 e]] w fun r w' => r = .returned (.bool true) ∧ Ext w w' := by
  have B := Box3.made w (.bool n) (.int .i64 d) (.int .i64 e) 23
  have T := hT.later (x1 w (.cells #[.bool n, .int .i64 d, .int .i64 e] 23))
  clear hT
  go_enter Tryd.func13, Tryd.ntmps13
  go_wp2_with fail
  refine (toDec _ _ _ _).mono ?_
  rintro r w1 ⟨rfl, e1⟩
  go_wp2_with fail
  refine (intS _ _ _ _).mono ?_
  rintro r w2 ⟨rfl, e2⟩
  have X2 := xt e1 e2
  obtain ⟨⟨p0, p1, p2⟩, _⟩ := B.later X2
  obtain ⟨R, eR⟩ : ∃ R, intR n d e = R := ⟨_, rfl⟩
  obtain ⟨O, eO⟩ : ∃ O, intOk n d e = O := ⟨_, rfl⟩
  rw [eR, eO]
  go_wp2_with fail
  refine (toDec _ _ _ _).mono ?_
  rintro r w3 ⟨rfl, e3⟩
  go_wp2_with fail
  refine (intI _ _ _ _ d1 d2 (T.later (xt X2 e3))).mono ?_
  rintro r w4 ⟨rfl, e4⟩
  rw [eR, eO]
  have X4 := xt (xt X2 e3) e4
  clear eR eO d1 d2 p0 p1 p2
  go_wp2
  go_ret
  exact ⟨rfl, xt (x1 _ _) X4⟩

end Go.Proofs.YtpoihneecafijaaDoor
